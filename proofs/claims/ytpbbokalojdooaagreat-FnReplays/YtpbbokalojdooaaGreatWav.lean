import Derived.Test.YtpbbokalojdooaaGreatWar
import Derived.Test.YtpbbokalojdooaaGreatWas
namespace Go.Proofs.YtpbbokalojdooaaGreat
open Go.RowKit Ch Go.Proofs.Tryz
set_option linter.unusedSimpArgs false
set_option linter.unusedVariables false
set_option maxRecDepth 20000
set_option maxHeartbeats 8000000
open Value renaming int->I,slice->Z,bool->X,agg->U
open IntKind renaming i64->J
open Option renaming none->O,some->Y
open Obj renaming cells->M
open Ending renaming returned->R'
open Bool renaming true->A',false->F'
variable {vs:List (Value×Value)} {hs:List Hold} {an b:List Int} {ls:List Lock} {xs:List Value} {B cq d2 g m n:Nat} {a a' a2 aq:Option Addr} {row:Option Nat} {S:Sl} {e t:TypeId} {v x:Value} {W w w':World}
theorem sI(w:World)(B:Nat)(e:TypeId)(size:Nat)(hB:B<=w.heap.size):(w.alloc (M #[] e)).ownsRow B e size (Z (Y ⟨w.heap.size,0,O⟩) 0 0) 0 []:=
 Cr w #[] 0 hB (by unfold maxLen;omega) (by simp)
theorem lU(a:Option Addr)(n cap:Nat)(t:Int)(hs:List Hold)(w:World)(h:CellsAt w a (n*2) (hcells hs))(hn:n<=1048576):
  Calls prog 222 #[Z a n cap,I J t] w fun e w'=>∃a' c',e=R' (Z a' (aJ hs t).length c')/\w'.ownsRow w.heap.size 232 2 (Z a' (aJ hs t).length c') (aJ hs t).length (hcells (aJ hs t))/\V' w w':=by
 have HL:=h.hlen;obtain⟨i0,hi0,hz0,hz1,hz2⟩:=Bz Tryz.info232;have oE:=sI w w.heap.size 232 2 z';go_enter func222,ntmps222
 go_wp2;go_loopw [5,6] (fun q i wr=>∃(k m:Nat) (a':Option Addr) (c':Nat),k<=n/\m<=k/\i=I J k/\q=Z a' m c'/\wr.ownsRow w.heap.size 232 2 (Z a' m c') m (hcells (aJ (hs.take k) t))/\V' w wr) (fun _ i _=>n-(intOf i).toNat)
 case atStart=>exact⟨0,0,_,0,Ad _,z',rfl,rfl,oE,(Aa _ _).alloc z' _⟩
 case round=>
  clear oE;obtain⟨k,m,a',c',hk,hmk,rfl,rfl,own,hB⟩:=hrel;by_cases hlt:k<n
  .have hkl:k<hs.length:=by have:=HL.out;omega
   have HY:=hid (fun he=>bA2 (t:=t) hkl he);have HN:=hid (fun he=>bK8 (t:=t) hkl he);obtain⟨b,off,rfl,q0,q1⟩:=(h.below hB).hold hlt;have hbl:=aD q0;generalize hs.getD k Hold.zero=r at*;obtain⟨rt,rm⟩:=r;simp only at q0 q1 HY HN;generalize aJ (hs.take k) t=zs at*;have hsum:m+1<=4194304:=by omega
   by_cases he:rt=t
   .subst he;have hne:(rt !=rt)=F':=by simp
    go_wp2;go_roundw;case rel=>exact⟨k+1,m,a',c',by omega,by omega,by go_num,rfl,by rw[HN.out (by simp)];exact own,hB⟩
    case measure=>simp[intOf];omega
   .have hne:(rt !=t)=A':=by simpa using he
    have k2:V' wr (wr.alloc (M #[I J rt,I J rm] 232)):=(Aa _ _).alloc z' _;have own2:=aG own k2;have hb2:w.heap.size<=(wr.alloc (M #[I J rt,I J rm] 232)).heap.size:=Ak hB.size k2.size;have hC:=gA wr rt rm 232;go_wp2_with(at_builtin;go_must (refine bM underlying225 underlying225 hi0 hz0 hz1 hz2 rfl (by omega) (by omega) (.tmp 21) (.tmp 26) ?_ ?_ w.heap.size (Z a' m c') m (hcells zs) _ 1 1 (hcells [⟨rt,rm⟩]) ?_ ?_ own2 hC (cF _) hsum hb2 ?_;exact rfl;exact rfl;exact rfl;exact rfl;intro a5 c5 w5 own5 gr5 at5))
    go_roundw;case rel=>rw[<-cD,<-HY.out he]at own5;have b2:=hB.trans (k2.mono hB.size);exact⟨k+1,m+1,a5,c5,by omega,by omega,by go_num,rfl,own5,b2.grown gr5 b2.size (fun g hg=>(aH own2 g hg).1)⟩
    case measure=>simp[intOf];omega
  .obtain rfl:k=n:=by omega
   have HWF:Hid (hs.take k=hs):=by have:=HL.out;show _=_;rw[this];exact Be
   rw[HWF.out]at own;have hm:=(cY0 own).out;subst hm;go_wp2;go_ret;exact⟨a',c',rfl,own,hB⟩
def aBlk:Value->List Nat
 |Z (Y ⟨b,_,O⟩) _ _=>[b]
 |_=>[]
theorem pZ{c:Nat}(h:g∈aBlk (Z a m c)):∃o,a=Y ⟨g,o,O⟩:=by
 match a with
 |none=>simp[aBlk]at h
 |some ⟨b,o,Y s⟩=>simp[aBlk]at h
 |some ⟨b,o,O⟩=>simp only[aBlk,Cp]at h;subst h;exact⟨o,rfl⟩
def rblk(p:Value×Value):List Nat:=aBlk p.1++aBlk p.2
def bL0(w:World)(x:Value):Prop:=(∃n,x=Z O n 0)\/∃g o n c,x=Z (Y ⟨g,o,O⟩) n c/\∀j,j<c*2->(w.cell? ⟨g,o+j,O⟩).isSome=A'/\w.frozen? ⟨g,o+j,O⟩=F'
def aC3(w:World)(B:Nat)(x:Value)(hs:List Hold):Prop:=∃a n c,x=Z a n c/\CellsAt w a (n*2) (hcells hs)/\n<=c/\n<=1048579/\(∀g∈aBlk x,B<=g/\g<w.heap.size)/\bL0 w x
theorem bT8(h:bL0 w x)(gr:w.grownBy w' row)(hl:∀g∈aBlk x,g<w.heap.size)(hr:∀g,row=Y g->g∉aBlk x):bL0 w' x:=by
 rcases h with h|⟨g,o,n,c,rfl,hc⟩
 .exact .inl h
 .refine .inr ⟨g,o,n,c,rfl,fun j hj=>?_⟩;have hb:=gr.block g (hl g (by simp[aBlk])) (fun e=>hr g e.symm (by simp[aBlk]));have hcj:=hc j hj;simp only[World.cell?,World.frozen?]at hcj⊢;rw[hb];exact hcj
theorem pX(h:aC3 w B x hs)(gr:w.grownBy w' row)(hr:∀g,row=Y g->g∉aBlk x):aC3 w' B x hs:=by
 obtain⟨a,n,c,rfl,hc,h1,h2,h3,h4⟩:=h;refine⟨a,n,c,rfl,?_,h1,h2,fun g hg=>⟨(h3 g hg).1,At (h3 g hg).2 gr.size⟩,bT8 h4 gr (fun g hg=>(h3 g hg).2) hr⟩;rcases Ei n with h0|h0
 .subst h0;exact⟨hc.1,fun h=>absurd h (by simp)⟩
 .exact kG hc gr fun b off ha e=>hr b e (by subst ha;simp[aBlk])
theorem cY4(h:w.ownsRow B 232 2 x n xs):bL0 w x:=by
 rcases h.2 with⟨rfl,_⟩|⟨g,cap,cur,rfl,_,hg,_,_,hs,_⟩
 .exact .inl ⟨_,rfl⟩
 .refine .inr ⟨g,0,n,cap,rfl,fun j hj=>?_⟩;rw[Al];refine⟨?_,qD hg⟩;rw[C' hg];simp[show j<cur.size by omega]
theorem dM4(h:w.ownsRow B 232 2 x hs.length (hcells hs))(hn:hs.length<=1048579):aC3 w B x hs/\∀g∈aBlk x,x.ownBlock=Y g:=by
 have hrm:=cY4 h;obtain⟨a,c,rfl⟩:=dT h;have hb:∀g∈aBlk (Z a hs.length c),(Z a hs.length c).ownBlock=Y g:=by intro g hg;obtain⟨o,rfl⟩:=pZ hg;rfl
 exact⟨⟨a,_,c,rfl,aO h,gI h,hn,fun g hg=>aH h g (hb g hg),hrm⟩,hb⟩
def QF(aq:Option Addr)(cq:Nat)(a2:Option Addr)(d2:Nat):Prop:=(aq=O/\cq=0)\/∃g o,aq=Y ⟨g,o,O⟩/\a2=Y ⟨g,0,O⟩/\o+cq*2<=d2*2
theorem QF.blk{o:Nat}(h:QF aq cq a2 d2)(e:aq=Y ⟨g,o,O⟩):(Z a2 m d2).ownBlock=Y g:=by
 rcases h with⟨h,_⟩|⟨g',o',h1,h2,_⟩
 .rw[h]at e;cases e
 .rw[h1]at e;simp only[Af,Ap,Cn]at e;rw[h2,<-e.1];rfl
theorem QF.tail{qb qo:Nat}(h:QF (Y ⟨qb,qo,O⟩) cq a2 d2)(h1:1<=cq):QF (Y ⟨qb,qo+2,O⟩) (cq-1) a2 d2:=by
 rcases h with⟨h,_⟩|⟨g',o',h2,h3,h4⟩
 .cases h
 .simp only[Af,Ap,Cn]at h2;exact .inr ⟨qb,qo+2,rfl,by rw[h3,h2.1],by rw[h2.2];omega⟩
theorem QF.last{qb qo:Nat}(h:QF (Y ⟨qb,qo,O⟩) cq a2 d2):QF (Y ⟨qb,qo,O⟩) 0 a2 d2:=by
 rcases h with⟨h,_⟩|⟨g',o',h2,h3,h4⟩
 .cases h
 .simp only[Af,Ap,Cn]at h2;exact .inr ⟨qb,qo,rfl,by rw[h3,h2.1],by rw[h2.2];omega⟩
theorem QF.own{a2d:Nat}{size:Nat}(h:w.ownsRow B e size (Z a2 n a2d) n xs):QF a2 a2d a2 a2d:=by
 rcases h.2 with⟨hv,_⟩|⟨g,cap,cur,hv,_⟩
 .simp only[Bg]at hv;exact .inl ⟨hv.1,hv.2.2⟩
 .simp only[Bg]at hv;exact .inr ⟨g,0,hv.1,hv.1,by omega⟩
theorem QF.roomy(h:QF aq cq a2 d2)(ho:w.ownsRow B 232 2 (Z a2 n d2) n xs):bL0 w (Z aq m cq):=by
 rcases h with⟨rfl,rfl⟩|⟨g,o,rfl,rfl,hle⟩
 .exact .inl ⟨_,rfl⟩
 .refine .inr ⟨g,o,m,cq,rfl,fun j hj=>?_⟩;rcases ho.2 with⟨hv,_⟩|⟨g',cap,cur,hv,_,hg,_,_,hs,_⟩
  .simp at hv
  .simp only[Bg,Af,Ap,Cn,Es]at hv;obtain⟨rfl,rfl⟩:=hv;refine⟨?_,qD hg⟩;rw[C' hg];simp[show o+j<cur.size by omega]
structure ReadK(w:World)(B:Nat)(v:Value)(n:Nat)(ls:List Lock)(vs:List (Value×Value)):Prop where
 len:ls.length=n
 vlen:vs.length=n
 row:w.ownsRow B 227 3 v n (lcells ls vs)
 hs:∀i p,vs[i]? =Y p->aC3 w B p.1 (aI ls i).hs
 qs:∀i p,vs[i]? =Y p->aC3 w B p.2 (aI ls i).qs
 apart:(v.ownBlock.toList++vs.flatMap rblk).Nodup
theorem aZ9(h:g∈vs.flatMap rblk):∃(i:Nat) (p:Value×Value),vs[i]? =Y p/\g∈rblk p:=by rw[Cf]at h;obtain⟨p,hp,hg⟩:=h;obtain⟨i,hi,rfl⟩:=Co hp;exact⟨i,_,by simp[hi],hg⟩
theorem ReadK.bd(h:ReadK w B v n ls vs)(hg:g∈v.ownBlock.toList++vs.flatMap rblk):B<=g/\g<w.heap.size:=by
 rw[Aj]at hg;rcases hg with hg|hg
 .exact aH h.row g (by simpa using hg)
 .obtain⟨i,p,hp,hgp⟩:=aZ9 hg;unfold rblk at hgp;rw[Aj]at hgp;rcases hgp with h1|h1
  .obtain⟨_,_,_,_,_,_,_,hh,_⟩:=h.hs i p hp;exact hh g h1
  .obtain⟨_,_,_,_,_,_,_,hh,_⟩:=h.qs i p hp;exact hh g h1
theorem ReadK.other(h:ReadK w B v n ls vs)(gr:w.grownBy w' row)(hr:∀g,row=Y g->g∉v.ownBlock.toList++vs.flatMap rblk):ReadK w' B v n ls vs:=by have hin:∀(i:Nat) (p:Value×Value),vs[i]? =Y p->∀g∈rblk p,g∈v.ownBlock.toList++vs.flatMap rblk:=fun i p hp g hg=>Aj.2 (.inr (Cf.2 ⟨p,Dv hp,hg⟩));refine⟨h.len,h.vlen,aN h.row gr fun g hg e=>hr g e (Aj.2 (.inl (by simp[hg]))),fun i p hp=>pX (h.hs i p hp) gr fun g e hg=>hr g e (hin i p hp g (by simp[rblk,hg])),fun i p hp=>pX (h.qs i p hp) gr fun g e hg=>hr g e (hin i p hp g (by simp[rblk,hg])),h.apart⟩
theorem ReadK.below(h:ReadK w B v n ls vs)(hb:V' w w'):ReadK w' B v n ls vs:=h.other (mI hb O) (fun g hg=>by cases hg)
theorem ReadK.snoc(h:ReadK w B v n ls vs){l:Lock}{y:Value}{c':Nat}
  (own:w'.ownsRow B 227 3 (Z a' (n+1) c') (n+1) (lcells ls vs++[I J l.r,x,y])) (gr:w.grownBy w' v.ownBlock) (hat:∀g,(Z a' (n+1) c').ownBlock=Y g->v.ownBlock=Y g\/w.heap.size<=g)
  (hx:aC3 w B x l.hs) (hy:aC3 w B y l.qs) (hn:∀g∈rblk (x,y),g∉v.ownBlock.toList++vs.flatMap rblk) (hnd:(rblk (x,y)).Nodup):ReadK w' B (Z a' (n+1) c') (n+1) (ls++[l]) (vs++[(x,y)]):=by
 have hl:ls.length=vs.length:=by rw[h.len,h.vlen]
 have hget:∀(i:Nat) (q:Value×Value),(vs++[(x,y)])[i]? =Y q->(i=n/\q=(x,y))\/(i<n/\vs[i]? =Y q):=by
  intro i q hq;rcases En i n with hi|hi|hi
  .rw[Av (by rw[h.vlen];exact hi)]at hq;exact .inr ⟨hi,hq⟩
  .subst hi;rw[Ay (by rw[h.vlen];omega)]at hq;simp[h.vlen]at hq;exact .inl ⟨rfl,hq.symm⟩
  .rw[Bk (by simp[h.vlen];omega)]at hq;cases hq
 have hlk:∀i,i<n->aI (ls++[l]) i=aI ls i:=by intro i hi;unfold aI;simp[List.getD,Av (show i<ls.length by rw[h.len];exact hi)]
 have hln:aI (ls++[l]) n=l:=by unfold aI;simp[List.getD,h.len]
 have hsub:∀(i:Nat) (q:Value×Value),(vs++[(x,y)])[i]? =Y q->∀g∈rblk q,g<w.heap.size/\v.ownBlock≠Y g:=by
  intro i q hq g hg;rcases hget i q hq with⟨_,rfl⟩|⟨_,hq⟩
  .refine⟨?_,fun e=>hn g hg (Aj.2 (.inl (by simp[e])))⟩;simp only[rblk,Aj]at hg;rcases hg with hg|hg
   .obtain⟨_,_,_,_,_,_,_,hh,_⟩:=hx;exact(hh g hg).2
   .obtain⟨_,_,_,_,_,_,_,hh,_⟩:=hy;exact(hh g hg).2
  .have hm:g∈vs.flatMap rblk:=Cf.2 ⟨q,Dv hq,hg⟩;exact⟨(h.bd (Aj.2 (.inr hm))).2,fun e=>(Cx.1 h.apart).2.2 g (by simp[e]) g hm rfl⟩
 refine⟨by simp[h.len],by simp[h.vlen],?_,fun i q hq=>?_,fun i q hq=>?_,?_⟩
 .rw[lV hl];exact own
 .have hs:=hsub i q hq;rcases hget i q hq with⟨rfl,rfl⟩|⟨hi,hq'⟩
  .rw[hln];exact pX hx gr fun g e hg=>(hs g (by simp[rblk,hg])).2 e
  .rw[hlk i hi];exact pX (h.hs i q hq') gr fun g e hg=>(hs g (by simp[rblk,hg])).2 e
 .have hs:=hsub i q hq;rcases hget i q hq with⟨rfl,rfl⟩|⟨hi,hq'⟩
  .rw[hln];exact pX hy gr fun g e hg=>(hs g (by simp[rblk,hg])).2 e
  .rw[hlk i hi];exact pX (h.qs i q hq') gr fun g e hg=>(hs g (by simp[rblk,hg])).2 e
 .rw[Dc];have h2:=Cx.1 h.apart;have e1:[(x,y)].flatMap rblk=rblk (x,y):=by simp
  rw[e1,Cx];refine⟨by cases(Z a' (n+1) c').ownBlock<;>simp,?_,?_⟩
  .rw[Cx];refine⟨h2.2.1,hnd,fun a ha b hb e=>?_⟩;subst e;exact hn a hb (Aj.2 (.inr ha))
  .intro a ha b hb e;subst e;have ha':(Z a' (n+1) c').ownBlock=Y a:=by simpa using ha
   have hm:a∈(vs++[(x,y)]).flatMap rblk:=by rw[Dc,e1];exact hb
   obtain⟨i,q,hq,hgq⟩:=aZ9 hm;have hs:=hsub i q hq a hgq;rcases hat a ha' with h1|h1
   .exact hs.2 h1
   .omega
theorem ReadK.lkIn{cap:Nat}(h:ReadK w B (Z a n cap) n ls vs):LkIn B w.heap.size w a n ls:=by
 refine⟨h.len,fun h0=>?_⟩;have hc:=aO h.row;obtain⟨b,off,ha,hcc⟩:=hc.2 (by omega);subst ha;have hob:B<=b/\b<w.heap.size/\off=0:=by
  rcases h.row.2 with⟨hv,h0'⟩|⟨g,cp,cur,hv,_⟩
  .omega
  .have:=aH h.row g (by rw[hv];rfl);simp only[Bg,Af,Ap]at hv;obtain⟨⟨rfl,rfl,_⟩,_⟩:=hv;exact⟨this.1,this.2,rfl⟩
 refine⟨b,off,rfl,hob.1,hob.2.1,fun i hi=>?_⟩;obtain⟨p,hp⟩:∃p,vs[i]? =Y p:=⟨vs[i]'(by rw[h.vlen];exact hi),by simp⟩
 have hl:=wB (by rw[h.len,h.vlen]) hp (ls:=ls);obtain⟨ah,nh,ch,e1,k1,k2,k3,k4,_⟩:=h.hs i p hp;obtain⟨aq,nq,cq,e2,j1,j2,j3,j4,_⟩:=h.qs i p hp;rw[e1]at hl k4;rw[e2]at hl j4;refine⟨ah,nh,ch,aq,nq,cq,⟨(hcc _ (by omega)).trans hl.1,?_,?_,k1,j1,by omega,by omega,k2,j2⟩,fun g o _ e=>k4 g (by subst e;simp[aBlk]),fun g o _ e=>j4 g (by subst e;simp[aBlk])⟩
 .rw[Dm];exact(hcc _ (by omega)).trans hl.2.1
 .rw[Dm];exact(hcc _ (by omega)).trans hl.2.2
theorem ReadK.empty(w:World)(B:Nat)(hB:B<=w.heap.size):ReadK (w.alloc (M #[] 227)) B (Z (Y ⟨w.heap.size,0,O⟩) 0 0) 0 [] []:=
 ⟨rfl,rfl,sI w B _ 3 hB,fun i p hp=>by simp at hp,fun i p hp=>by simp at hp,by simp[Value.ownBlock]⟩
theorem tW{u0 u1 u2:Value}(h:W.heap[g]? =Y (M #[u0,u1,u2] t (0,0))):
  (W.cell? ⟨g,0,O⟩=Y u0/\W.cell? ⟨g,1,O⟩=Y u1/\W.cell? ⟨g,2,O⟩=Y u2)/\(W.frozen? ⟨g,0,O⟩=F'/\W.frozen? ⟨g,1,O⟩=F'/\W.frozen? ⟨g,2,O⟩=F'):=
 ⟨⟨C' h,C' h,C' h⟩,qD h,qD h,qD h⟩
theorem CellsAt.hdrop{b off:Nat}(h:CellsAt w (Y ⟨b,off,O⟩) (n*2) (hcells hs))(j:Nat)(hj:j<=n):CellsAt w (Y ⟨b,off+j*2,O⟩) ((n-j)*2) (hcells (hs.drop j)):=by
 have hl:=h.hlen.out;have e:hcells (hs.drop j)=(hcells hs).drop (j*2):=by
  have h1:hcells hs=hcells (hs.take j)++hcells (hs.drop j):=by rw[<-cD,Ci]
  have h2:(hcells (hs.take j)).length=j*2:=by rw[iJ];simp;omega
  rw[h1,<-h2,List.drop_left]
 refine⟨by rw[iJ];simp;omega,fun hm=>?_⟩;obtain⟨b',off',ha,hc⟩:=h.2 (by omega);simp only[Af,Ap,Cn]at ha;obtain⟨rfl,rfl⟩:=ha;refine⟨b,off+j*2,rfl,fun i hi=>?_⟩;rw[e,Df,Dm,hc _ (by omega)]
theorem lC(a:Option Addr)(n cap:Nat)(rs:List Ac)(w:World)(h:AcAt w a n rs)(hn:n<=1048576):
  Calls prog 54 #[Z a n cap] w fun e w'=>e=R' (I J (cQ rs))/\V' w w':=by
 have HL:=h.len;by_cases h8:220<n
 .have HF:Hid (cQ rs=2):=sZ (by have:=HL.out;omega);rw[HF.out];go_enter func54,ntmps54
  go_wp2;go_ret;exact⟨rfl,Aa _ _⟩
 .have HF:Hid (cQ rs=fV rs rs.length):=uM (by have:=HL.out;omega);have h8':n<=220:=by omega
  rw[HF.out];clear h8;obtain⟨c,HC⟩:∃c,Hid (fV rs rs.length=c):=⟨_,rfl⟩
  rw[HC.out];go_enter func54,ntmps54
  go_wp2;go_loopw [11] (fun i wr=>∃k:Nat,k<=n/\i=I J k/\Hid (fV rs k=0)/\V' w wr) (fun i _=>n-(intOf i).toNat)
  case atStart=>exact⟨0,Ad _,rfl,rfl,Aa _ _⟩
  case round=>
   obtain⟨k,hk,rfl,H0,hB⟩:=hrel;by_cases hlt:k<n
   .have HS:=hid (rS (by have:=HL.out;omega:k<rs.length) H0.out);obtain⟨b,off,ai,ni,ci,rfl,hc0,hc1,hc2,hc3,hc4,hc5,_,_⟩:=(h.below hB).act hlt;generalize aM rs k=r at*;obtain⟨tx,kd,p,q,v,an⟩:=r;simp only at hc0 hc1 hc2 hc3 hc4;have IR:=fun W=>aM5 kd p q v W;have HV:Hid ((Ac.mk tx kd p q v an).fault=if inB tx 1 999=F' then 3 else aF kd p q v):=rfl;by_cases ht:inB tx 1 999=A'
    .have HV':Hid ((Ac.mk tx kd p q v an).fault=aF kd p q v):=by show _=_;rw[HV.out,ht];rfl
     generalize aF kd p q v=z at*;go_wp2_with(go_at_call 55;refine E' (vZ _ _) ?_)
     refine(IR _).mono ?_;rintro e w1⟨rfl,b1⟩;have b1':V' w w1:=hB.trans ((aZ b1).mono hB.size);clear IR;by_cases h0:z=0
     .subst h0;go_wp2;go_roundw;case rel=>exact⟨k+1,by omega,by go_num,HS.out.trans HV'.out,b1'⟩
      case measure=>simp[intOf];omega
     .have hq:(z !=0)=A':=by simpa using h0
      have HQ:=hid ((kD (HS.out.trans HV'.out) hq).symm.trans HC.out);clear h0;go_wp2;go_ret;exact⟨cH HQ.out,b1'⟩
    .have ht':inB tx 1 999=F':=by simpa using ht
     have HV':Hid ((Ac.mk tx kd p q v an).fault=3):=by show _=_;rw[HV.out,ht'];rfl
     have HQ:=hid ((kD (HS.out.trans HV'.out) (by decide)).symm.trans HC.out);clear ht;go_wp2_with(go_at_call 55;refine E' (vZ _ _) ?_)
     go_ret;exact⟨cH HQ.out,hB.alloc hB.size _⟩
   .obtain rfl:k=n:=by omega
    have HQ:Hid (0=c):=by have h1:=H0.out;rw[HL.out]at h1;exact h1.symm.trans HC.out
    go_wp2;go_ret;exact⟨cH HQ.out,hB⟩
theorem nI(a:Option Addr)(n cap:Nat)(rs:List Ac)(w:World)(h:AcAt w a n rs)(hn:n<=1048576):
  Calls prog 51 #[Z a n cap] w fun e w'=>e=R' (I J (cQ rs))/\V' w w':=by
 have HL:=h.len;by_cases h8:220<n
 .have HF:Hid (cQ rs=2):=sZ (by have:=HL.out;omega);rw[HF.out];go_enter func51,ntmps51
  go_wp2;go_ret;exact⟨rfl,Aa _ _⟩
 .have HF:Hid (cQ rs=fV rs rs.length):=uM (by have:=HL.out;omega);have h8':n<=220:=by omega
  rw[HF.out];clear h8;obtain⟨c,HC⟩:∃c,Hid (fV rs rs.length=c):=⟨_,rfl⟩
  rw[HC.out];go_enter func51,ntmps51
  go_wp2;go_loopw [3] (fun i wr=>∃k:Nat,k<=n/\i=I J k/\Hid (fV rs k=0)/\V' w wr) (fun i _=>n-(intOf i).toNat)
  case atStart=>exact⟨0,Ad _,rfl,rfl,Aa _ _⟩
  case round=>
   obtain⟨k,hk,rfl,H0,hB⟩:=hrel;by_cases hlt:k<n
   .have HS:=hid (rS (by have:=HL.out;omega:k<rs.length) H0.out);obtain⟨b,off,ai,ni,ci,rfl,hc0,hc1,hc2,hc3,hc4,hc5,_,_⟩:=(h.below hB).act hlt;generalize aM rs k=r at*;obtain⟨tx,kd,p,q,v,an⟩:=r;simp only at hc0 hc1 hc2 hc3 hc4;have IR:=fun W=>oH kd p q v W;have HV:Hid ((Ac.mk tx kd p q v an).fault=if inB tx 1 999=F' then 3 else aF kd p q v):=rfl;by_cases ht:inB tx 1 999=A'
    .have HV':Hid ((Ac.mk tx kd p q v an).fault=aF kd p q v):=by show _=_;rw[HV.out,ht];rfl
     generalize aF kd p q v=z at*;go_wp2_with(go_at_call 64;refine E' (pS _ _) ?_)
     refine(IR _).mono ?_;rintro e w1⟨rfl,b1⟩;have b1':V' w w1:=hB.trans (b1.mono hB.size);clear IR;by_cases h0:z=0
     .subst h0;go_wp2;go_roundw;case rel=>exact⟨k+1,by omega,by go_num,HS.out.trans HV'.out,b1'⟩
      case measure=>simp[intOf];omega
     .have hq:(z !=0)=A':=by simpa using h0
      have HQ:=hid ((kD (HS.out.trans HV'.out) hq).symm.trans HC.out);clear h0;go_wp2;go_ret;exact⟨cH HQ.out,b1'⟩
    .have ht':inB tx 1 999=F':=by simpa using ht
     have HV':Hid ((Ac.mk tx kd p q v an).fault=3):=by show _=_;rw[HV.out,ht'];rfl
     have HQ:=hid ((kD (HS.out.trans HV'.out) (by decide)).symm.trans HC.out);clear ht;go_wp2_with(go_at_call 64;refine E' (pS _ _) ?_)
     go_ret;exact⟨cH HQ.out,hB⟩
   .obtain rfl:k=n:=by omega
    have HQ:Hid (0=c):=by have h1:=H0.out;rw[HL.out]at h1;exact h1.symm.trans HC.out
    go_wp2;go_ret;exact⟨cH HQ.out,hB⟩
theorem aN0(k a b v key:Int)(w:World):
  Calls prog 100 #[U #[I J k,I J a,I J b,I J v],I J key] w fun e w'=>e=R' (X (iW k a b key))/\V' w w':=by
 rcases rI k with h1|h1|h1|h1|h1|h1|h1|h1|h1|h1|h1;rotate_left 10
 .have z1:(k==1)=F':=by unfold inB at h1;simp only[Ca,Bp]at h1;simp;omega
  have z2:(k==2)=F':=by unfold inB at h1;simp only[Ca,Bp]at h1;simp;omega
  have z3:(k==3)=F':=by unfold inB at h1;simp only[Ca,Bp]at h1;simp;omega
  have z4:(k==4)=F':=by unfold inB at h1;simp only[Ca,Bp]at h1;simp;omega
  have z5:(k==5)=F':=by unfold inB at h1;simp only[Ca,Bp]at h1;simp;omega
  have HE:Hid (iW k a b key=F'):=by show _=_;simp only[Cq,ne_eq]at z1 z2 z3 z4 z5;unfold iW;simp[z1,z2,z3,z4,z5]
  rw[HE.out];clear h1;go_enter func100,ntmps100
  go_wp2;go_ret;exact⟨rfl,(Aa _ _).alloc z' _⟩
 all_goals
  subst h1;simp only[iW];go_enter func100,ntmps100
  go_wp2_with(go_at_call 101;refine E' (cU _ _ _ _) ?_)
  go_ret;exact⟨by simp,(Aa _ _).alloc z' _⟩
theorem tT(k a b v key:Int)(w:World):
  Calls prog 22 #[U #[I J k,I J a,I J b,I J v],I J key] w fun e w'=>e=R' (X (fL k a b v key))/\V' w w':=by
 have hs:=fun W=>aM5 k a b v W;by_cases hF:aF k a b v=0
 .rw[hF]at hs;by_cases hK:inB key 0 99=A'
  .rw[sC hF hK];rcases bR3 hF with h1|h1|h1|h1|h1|h1|h1|h1|h1|h1;all_goals
    subst h1;simp only[iW];clear hF;by_cases hL:a<=key;all_goals
     go_enter func22,ntmps22
     go_wp2_with fail
     refine(hs _).mono ?_;rintro e w1⟨rfl,b1⟩;obtain⟨c2,f2⟩:=dH b1;have x0:=c2 w.heap.size 0 (by simp);have x1:=c2 w.heap.size 1 (by simp);have x2:=c2 w.heap.size 2 (by simp);have x3:=c2 w.heap.size 3 (by simp);clear c2 f2;simp[go_sem]at x0 x1 x2 x3;go_wp2_with(go_at_call 60;refine E' (jN _ _) ?_)
     go_ret;exact⟨by first|(simp[inB,hL];done)|(simp[inB,hL];omega),aZ b1⟩
  .have hK':inB key 0 99=F':=by simpa using hK
   rw[aQ6 hK'];clear hF hK;go_enter func22,ntmps22
   go_wp2_with fail
   refine(hs _).mono ?_;rintro e w1⟨rfl,b1⟩;go_wp2_with(go_at_call 60;refine E' (jN _ _) ?_)
   go_ret;exact⟨rfl,aZ b1⟩
 .rw[aQ5 hF];have hF':(aF k a b v !=0)=A':=by simpa using hF
  clear hF;generalize aF k a b v=F at*;go_enter func22,ntmps22
  go_wp2_with fail
  refine(hs _).mono ?_;rintro e w1⟨rfl,b1⟩;go_wp2;go_ret;exact⟨rfl,aZ b1⟩
def AcBox(w:World)(B:Nat)(t:Ac):Prop:=
 w.cell? ⟨B,0,O⟩=Y (I J t.tx)/\w.cell? ⟨B,1,O⟩=Y (I J t.k)/\w.cell? ⟨B,2,O⟩=Y (I J t.a)
theorem AcBox.below{t:Ac}(h:AcBox w B t)(hb:V' w w'):AcBox w' B t:=⟨keep_cell hb h.1,keep_cell hb h.2.1,keep_cell hb h.2.2⟩
theorem cV1(f:Ac)(B:Nat)(tx k a b v:Int)(an:Value)(w:World)(h:AcBox w B f)(zs:List Int)(hw:isW f.k=A'):
  Calls prog 96 #[U #[I J tx,I J k,I J a,I J b,I J v,an],.pointer (Y ⟨B,0,O⟩)] w fun e w'=>e=R' (X (eY f ⟨tx,k,a,b,v,zs⟩))/\V' w w':=by
 rw[uV hw];obtain⟨c0,c1,c2⟩:=h;obtain⟨ftx,fk,fa,fb,fv,fan⟩:=f;simp only at c0 c1 c2 hw⊢;have ht:=fun W=>tT k a b v fa W;generalize fL k a b v fa=T at*;have hbl:=aD c0;have hbl2:=aD c2;clear hw c1;by_cases h0:(tx !=ftx)=A'
 .go_enter func96,ntmps96
  go_wp2_with(go_at_call 22;refine(ht _).mono ?_;rintro e w1⟨rfl,b1⟩)
  go_ret;exact⟨by simp[h0],aZ b1⟩
 .have h0':(tx !=ftx)=F':=by simpa using h0
  clear h0;go_enter func96,ntmps96
  go_wp2;go_ret;exact⟨by simp[h0'],(Aa _ _).alloc z' _⟩
theorem cV2(f:Ac)(B:Nat)(tx k a b v:Int)(an:Value)(w:World)(h:AcBox w B f)(zs:List Int)(hw:isW f.k=F')(he:isE f.k=A'):
  Calls prog 97 #[U #[I J tx,I J k,I J a,I J b,I J v,an],.pointer (Y ⟨B,0,O⟩)] w fun e w'=>e=R' (X (eY f ⟨tx,k,a,b,v,zs⟩))/\V' w w':=by
 rw[uT hw he];obtain⟨c0,c1,c2⟩:=h;obtain⟨ftx,fk,fa,fb,fv,fan⟩:=f;simp only at c0 c1 c2 hw he⊢;have hbl:=aD c0;clear hw he c1 c2;go_enter func97,ntmps97
 go_wp2;go_ret;exact⟨rfl,(Aa _ _).alloc z' _⟩
theorem cV3(f:Ac)(tx k a b v:Int)(an:Value)(w:World)(zs:List Int)(hw:isW f.k=F')(he:isE f.k=F'):
  Calls prog 98 #[U #[I J tx,I J k,I J a,I J b,I J v,an]] w fun e w'=>e=R' (X (eY f ⟨tx,k,a,b,v,zs⟩))/\V' w w':=by
 rw[uU hw he];go_enter func98,ntmps98
 go_wp2;go_ret;exact⟨rfl,(Aa _ _).alloc z' _⟩
def ForbF(w:World)(f:Ac)(fv:Value):Prop:=
 (∃B,fv= .func (.func 96) #[] #[.pointer (Y ⟨B,0,O⟩)]/\AcBox w B f/\isW f.k=A')\/
 (∃B,fv= .func (.func 97) #[] #[.pointer (Y ⟨B,0,O⟩)]/\AcBox w B f/\isW f.k=F'/\isE f.k=A')\/
 (fv= .func (.func 98) #[] #[]/\isW f.k=F'/\isE f.k=F')
theorem aS9(tx k a b v:Int)(an:Value)(zs:List Int)(w:World):
  Calls prog 61 #[U #[I J tx,I J k,I J a,I J b,I J v,an]] w fun e w'=>∃fv,e=R' fv/\ForbF w' ⟨tx,k,a,b,v,zs⟩ fv/\V' w w':=by
 have hmf:∀(fn:Fn) (first cap:Array Value) (w:World),(Instr.makeFunc fn first cap).run prog w= .ok (.func fn first cap) w:=fun _ _ _ _=>rfl;have hb:V' w (w.alloc (M #[I J tx,I J k,I J a,I J b,I J v,an] 56)):=(Aa _ _).alloc z' _;have hx:AcBox (w.alloc (M #[I J tx,I J k,I J a,I J b,I J v,an] 56)) w.heap.size ⟨tx,k,a,b,v,zs⟩:=by refine⟨?_,?_,?_⟩<;>simp[go_sem]
 cases hw:isW k with
 |true=>
  go_enter func61,ntmps61
  go_wp2_with(go_at_call 56;refine(mL _ _).mono ?_;rintro e w1⟨rfl,rfl⟩;rw[hw])
  go_ret;exact⟨_,rfl,.inl ⟨_,rfl,hx,hw⟩,hb⟩
 |false=>
  cases he:isE k with
  |true=>
   go_enter func61,ntmps61
   go_wp2_with(first|(go_at_call 56;refine(mL _ _).mono ?_;rintro e w1⟨rfl,rfl⟩;rw[hw])|(go_at_call 62;refine(mK _ _).mono ?_;rintro e w1⟨rfl,rfl⟩;rw[he]))
   go_ret;exact⟨_,rfl,.inr (.inl ⟨_,rfl,hx,hw,he⟩),hb⟩
  |false=>
   go_enter func61,ntmps61
   go_wp2_with(first|(go_at_call 56;refine(mL _ _).mono ?_;rintro e w1⟨rfl,rfl⟩;rw[hw])|(go_at_call 62;refine E' (mK _ _) ?_;rw[he]))
   go_ret;exact⟨_,rfl,.inr (.inr ⟨rfl,hw,he⟩),hb⟩
theorem pW{a b:Bool}(h:a=b):R' (X a)=R' (X b):=by rw[h]
theorem aW8{a:List Int}(h:a.length≠b.length):(a==b)=F':=by rw[Cq];intro e;exact h (by rw[e])
theorem aK9{a:List Int}(hl:a.length=b.length)(h:∀k,k<a.length->a.getD k 0=b.getD k 0):(a==b)=A':=by rw[Dx];apply List.ext_getElem hl;intro i h1 h2;have:=h i h1;simpa[List.getD,h1,h2]using this
theorem bM8{a:List Int}{k:Nat}(h:(a.getD k 0 !=b.getD k 0)=A'):(a==b)=F':=by rw[Cq];intro e;subst e;simp at h
theorem cA6(a a':Option Addr)(n cap n' cap':Nat)(rs qs:List Int)(w:World)(h:CellsAt w a (n*1) (icells rs))(h':CellsAt w a' (n'*1) (icells qs))(hn:n<=9223372036854775807)(hn':n'<=9223372036854775807):
  Calls prog 48 #[Z a n cap,Z a' n' cap'] w fun e w'=>e=R' (X (rs==qs))/\V' w w':=by
 have HL:=h.ilen;have HL':=h'.ilen;obtain⟨Z,HZ⟩:∃Z,Hid ((rs==qs)=Z):=⟨_,rfl⟩
 rw[HZ.out];by_cases hne:n=n'
 .subst hne;have hnn:((n:Int) !=n)=F':=by simp
  go_enter func48,ntmps48
  go_wp2;go_loopw [13] (fun i wr=>∃k:Nat,k<=n/\i=I J k/\Hid (∀j,j<k->rs.getD j 0=qs.getD j 0)/\V' w wr) (fun i _=>n-(intOf i).toNat)
  case atStart=>exact⟨0,Ad _,rfl,fun j hj=>absurd hj (by omega),Aa _ _⟩
  case round=>
   obtain⟨k,hk,rfl,HE,hB⟩:=hrel;by_cases hlt:k<n
   .obtain⟨b,off,rfl,hc0⟩:=(h.below hB).int hlt;obtain⟨b',off',rfl,hd0⟩:=(h'.below hB).int hlt;have HN:Hid ((rs.getD k 0 !=qs.getD k 0)=A'->F'=Z):=fun hx=>(bM8 hx).symm.trans HZ.out;have HY:Hid ((rs.getD k 0 !=qs.getD k 0)=F'->∀j,j<k+1->rs.getD j 0=qs.getD j 0):=fun hx j hj=>by
     rcases Cd j k with h1|h1
     .exact HE.out j h1
     .obtain rfl:j=k:=by omega
      simpa using hx
    generalize rs.getD k 0=r at*;generalize qs.getD k 0=q at*;have hbl:=aD hc0;have hbl':=aD hd0;cases hrq:(r !=q)with
    |true=>
     have HQ:=hid (HN.out hrq);clear HN HY;go_wp2;go_quiet (fail)
     go_wp2;go_ret;exact⟨pW HQ.out,hB.trans ⟨rfl,rfl,rfl,z',fun _ _=>rfl⟩⟩
    |false=>
     have HQ:=hid (HY.out hrq);clear HN HY;go_wp2;go_quiet (fail)
     go_wp2;go_roundw;case rel=>exact⟨k+1,by omega,by go_num,HQ,hB.trans ⟨rfl,rfl,rfl,z',fun _ _=>rfl⟩⟩
     case measure=>simp[intOf];omega
   .obtain rfl:k=n:=by omega
    have HQ:Hid (A'=Z):=(aK9 (by have:=HL.out;have:=HL'.out;omega) (fun j hj=>HE.out j (by have:=HL.out;omega))).symm.trans HZ.out;go_wp2;go_ret;exact⟨pW HQ.out,hB⟩
 .have hne':((n:Int) !=n')=A':=by simp;omega
  have HQ:Hid (F'=Z):=(aW8 (by have:=HL.out;have:=HL'.out;omega)).symm.trans HZ.out;clear hne;go_enter func48,ntmps48
  go_wp2;go_ret;exact⟨pW HQ.out,Aa _ _⟩
theorem bP4(a a':Option Addr)(n cap n' cap':Nat)(rs qs:List Int)(w:World)(h:CellsAt w a (n*1) (icells rs))(h':CellsAt w a' (n'*1) (icells qs))(hn:n<=9223372036854775807)(hn':n'<=9223372036854775807):
  Calls prog 89 #[Z a n cap,Z a' n' cap'] w fun e w'=>e=R' (X (rs==qs))/\V' w w':=by
 have HL:=h.ilen;have HL':=h'.ilen;obtain⟨Z,HZ⟩:∃Z,Hid ((rs==qs)=Z):=⟨_,rfl⟩
 rw[HZ.out];by_cases hne:n=n'
 .subst hne;have hnn:((n:Int) !=n)=F':=by simp
  go_enter func89,ntmps89
  go_wp2;go_loopw [5] (fun i wr=>∃k:Nat,k<=n/\i=I J k/\Hid (∀j,j<k->rs.getD j 0=qs.getD j 0)/\V' w wr) (fun i _=>n-(intOf i).toNat)
  case atStart=>exact⟨0,Ad _,rfl,fun j hj=>absurd hj (by omega),Aa _ _⟩
  case round=>
   obtain⟨k,hk,rfl,HE,hB⟩:=hrel;by_cases hlt:k<n
   .obtain⟨b,off,rfl,hc0⟩:=(h.below hB).int hlt;obtain⟨b',off',rfl,hd0⟩:=(h'.below hB).int hlt;have HN:Hid ((rs.getD k 0 !=qs.getD k 0)=A'->F'=Z):=fun hx=>(bM8 hx).symm.trans HZ.out;have HY:Hid ((rs.getD k 0 !=qs.getD k 0)=F'->∀j,j<k+1->rs.getD j 0=qs.getD j 0):=fun hx j hj=>by
     rcases Cd j k with h1|h1
     .exact HE.out j h1
     .obtain rfl:j=k:=by omega
      simpa using hx
    generalize rs.getD k 0=r at*;generalize qs.getD k 0=q at*;have hbl:=aD hc0;have hbl':=aD hd0;cases hrq:(r !=q)with
    |true=>
     have HQ:=hid (HN.out hrq);clear HN HY;go_wp2;go_quiet (fail)
     go_wp2;go_ret;exact⟨pW HQ.out,hB.trans ⟨rfl,rfl,rfl,z',fun _ _=>rfl⟩⟩
    |false=>
     have HQ:=hid (HY.out hrq);clear HN HY;go_wp2;go_quiet (fail)
     go_wp2;go_roundw;case rel=>exact⟨k+1,by omega,by go_num,HQ,hB.trans ⟨rfl,rfl,rfl,z',fun _ _=>rfl⟩⟩
     case measure=>simp[intOf];omega
   .obtain rfl:k=n:=by omega
    have HQ:Hid (A'=Z):=(aK9 (by have:=HL.out;have:=HL'.out;omega) (fun j hj=>HE.out j (by have:=HL.out;omega))).symm.trans HZ.out;go_wp2;go_ret;exact⟨pW HQ.out,hB⟩
 .have hne':((n:Int) !=n')=A':=by simp;omega
  have HQ:Hid (F'=Z):=(aW8 (by have:=HL.out;have:=HL'.out;omega)).symm.trans HZ.out;clear hne;go_enter func89,ntmps89
  go_wp2;go_ret;exact⟨pW HQ.out,Aa _ _⟩
theorem qA{tx k a b v:Int}(h:isW k=A'):doS S ⟨tx,k,a,b,v,an⟩=S.set a (uH (k==2) v):=by unfold doS;rw[if_pos h]
theorem aB2{tx k a b v:Int}(h:isW k=F'):doS S ⟨tx,k,a,b,v,an⟩=S:=by unfold doS;rw[if_neg (by simp[h])]
theorem cP8(p:Nat)(S:Sl)(tx k a b v:Int)(an:List Int)(w:World)(h:Slt w p S)(hk:isW k=A'->0<=a/\a<=99):
  Calls prog 50 #[.pointer (Y ⟨p,0,O⟩),U #[I J k,I J a,I J b,I J v]] w fun e w'=>e=R' (.tuple #[])/\Slt w' p (doS S ⟨tx,k,a,b,v,an⟩)/\w.grownBy w' (Y p):=by
 have b0:V' w (w.alloc (M #[I J k,I J a,I J b,I J v] 54)):=(Aa _ _).alloc z' _;have g0:w.grownBy (w.alloc (M #[I J k,I J a,I J b,I J v] 54)) (Y p):=⟨rfl,rfl,rfl,b0.size,fun j hj _=>b0.block j hj⟩
 have IW:=fun W=>mL k W;cases hw:isW k with
 |true=>
  rw[qA hw];rw[hw]at IW;have IS:=fun W hW=>cS2 p a (k==2) v S W hW (hk hw);clear hk;go_enter func50,ntmps50
  go_wp2_with(go_at_call 56;refine(IW _).mono ?_;rintro e w'⟨rfl,hww⟩;rw[hww];clear hww w')
  refine(IS _ (h.below b0)).mono ?_;rintro e w2⟨rfl,s2,g2⟩;go_wp2;refine Er (Ek rfl _ _ _) rfl ⟨rfl,s2,bC9 g0 g2⟩
 |false=>
  rw[aB2 hw];rw[hw]at IW;clear hk;go_enter func50,ntmps50
  go_wp2_with(go_at_call 56;refine(IW _).mono ?_;rintro e w'⟨rfl,hww⟩;rw[hww];clear hww w')
  refine Er (Ek rfl _ _ _) rfl ⟨rfl,h.below b0,g0⟩
theorem aF1(a:Option Addr)(n cap:Nat)(base:List Row)(a1:Option Addr)(n1 cap1:Nat)(ts:List Ac)(a2:Option Addr)(n2 cap2:Nat)(cs:List Int)(w:World)(h:CellsAt w a (n*3) (rcells base))(h1:AcAt w a1 n1 ts)(h2:CellsAt w a2 (n2*1) (icells cs))(hn:n<=1048576)(hn1:n1<=1048576)(hn2:n2<=1048576):
  Calls prog 46 #[Z a n cap,Z a1 n1 cap1,Z a2 n2 cap2] w fun e w'=>e=R' (I J (fJ base ts cs))/\V' w w':=by
 have HL:=h2.ilen;have HF:Hid (fJ base ts cs=if cQ ts !=0 then cQ ts else if cW base !=0 then cW base else if 40<n2 then 2 else 0):=by show _=_;rw[HL.out];rfl
 rw[HF.out];have IA:=fun W hW=>lC a1 n1 cap1 ts W hW hn1;have IB:=fun W hW=>bD2 a n cap base W hW hn;generalize cQ ts=c at*;generalize cW base=d at*;cases hc:(c !=0)with
 |true=>
  rw[if_pos rfl];go_enter func46,ntmps46
  go_wp2_with fail
  refine(IA _ h1).mono ?_;rintro e w1⟨rfl,b1⟩;go_wp2;go_ret;exact⟨rfl,b1⟩
 |false=>
  rw[if_neg (by decide)];cases hd:(d !=0)with
  |true=>
   rw[if_pos rfl];go_enter func46,ntmps46
   go_wp2_with fail
   refine(IA _ h1).mono ?_;rintro e w1⟨rfl,b1⟩;go_wp2_with fail
   refine(IB _ (h.below b1)).mono ?_;rintro e w2⟨rfl,b2⟩;go_wp2;go_ret;exact⟨rfl,b1.trans (b2.mono b1.size)⟩
  |false=>
   rw[if_neg (by decide)];by_cases h4:40<n2
   .rw[if_pos h4];go_enter func46,ntmps46
    go_wp2_with fail
    refine(IA _ h1).mono ?_;rintro e w1⟨rfl,b1⟩;go_wp2_with fail
    refine(IB _ (h.below b1)).mono ?_;rintro e w2⟨rfl,b2⟩;go_wp2;go_ret;exact⟨rfl,b1.trans (b2.mono b1.size)⟩
   .rw[if_neg h4];have h4':n2<=40:=by omega
    clear h4;go_enter func46,ntmps46
    go_wp2_with fail
    refine(IA _ h1).mono ?_;rintro e w1⟨rfl,b1⟩;go_wp2_with fail
    refine(IB _ (h.below b1)).mono ?_;rintro e w2⟨rfl,b2⟩;go_wp2;go_ret;exact⟨rfl,b1.trans (b2.mono b1.size)⟩
end Go.Proofs.YtpbbokalojdooaaGreat
