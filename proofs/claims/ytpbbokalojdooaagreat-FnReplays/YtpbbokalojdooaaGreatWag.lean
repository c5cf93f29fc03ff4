import Derived.Test.YtpbbokalojdooaaGreatWaf
namespace Go.Proofs.YtpbbokalojdooaaGreat
open Go.RowKit Ch Go.Proofs.Tryz
set_option linter.unusedSimpArgs false
set_option linter.unusedVariables false
set_option maxRecDepth 20000
set_option maxHeartbeats 8000000
open Value renaming int->I,slice->Z,bool->X,agg->U
open IntKind renaming i64->J
open Option renaming none->O,some->Y
open Obj renaming cells->M
open Ending renaming returned->R'
open Bool renaming true->A',false->F'
variable {h:Hold} {ts:List Ac} {es hs q:List Hold} {ls:List Lock} {l:List Row} {i k n:Nat} {sv:Nat->Value} {a ah aq:Option Addr} {row:Option Nat} {r:Row} {S:Sl} {v:Value} {A B W w w':World}
section
open Go.Shelf
attribute [local go_sem] Oper.semAt_some
def AcV(w:World)(a:Option Addr)(n:Nat)(sv:Nat->Value)(ts:List Ac):Prop:=
 ts.length=n/\(∀i,i<n->∃b off,a=Y ⟨b,off,O⟩/\w.cell? ⟨b,off+i*6,O⟩=Y (I J (aM ts i).tx)/\w.cell? ⟨b,off+i*6+1,O⟩=Y (I J (aM ts i).k)/\w.cell? ⟨b,off+i*6+2,O⟩=Y (I J (aM ts i).a)/\w.cell? ⟨b,off+i*6+3,O⟩=Y (I J (aM ts i).b)/\w.cell? ⟨b,off+i*6+4,O⟩=Y (I J (aM ts i).v)/\w.cell? ⟨b,off+i*6+5,O⟩=Y (sv i))/\
  ∀i,∃an nn cn,sv i=Z an nn cn/\CellsAt w an (nn*1) (icells (aM ts i).an)/\nn<=9223372036854775807
theorem AcV.below(h:AcV w a n sv ts)(hb:Below w.heap.size w w'):AcV w' a n sv ts:=by
 obtain⟨h1,h2,h3⟩:=h;refine⟨h1,fun i hi=>?_,fun i=>?_⟩
 .obtain⟨b,off,ha,c0,c1,c2,c3,c4,c5⟩:=h2 i hi;exact⟨b,off,ha,keep_cell hb c0,keep_cell hb c1,keep_cell hb c2,keep_cell hb c3,keep_cell hb c4,keep_cell hb c5⟩
 .obtain⟨an,nn,cn,e,c,m⟩:=h3 i;exact⟨an,nn,cn,e,c.below hb,m⟩
theorem AcAt.named(h:AcAt w a n ts):∃sv,AcV w a n sv ts:=by
 have key:∀i,∃x:Value,(i<n->∃b off,a=Y ⟨b,off,O⟩/\w.cell? ⟨b,off+i*6,O⟩=Y (I J (aM ts i).tx)/\w.cell? ⟨b,off+i*6+1,O⟩=Y (I J (aM ts i).k)/\w.cell? ⟨b,off+i*6+2,O⟩=Y (I J (aM ts i).a)/\w.cell? ⟨b,off+i*6+3,O⟩=Y (I J (aM ts i).b)/\w.cell? ⟨b,off+i*6+4,O⟩=Y (I J (aM ts i).v)/\w.cell? ⟨b,off+i*6+5,O⟩=Y x)/\
   ∃an nn cn,x=Z an nn cn/\CellsAt w an (nn*1) (icells (aM ts i).an)/\nn<=9223372036854775807:=by
  intro i;by_cases hi:i<n
  .obtain⟨b,off,an,nn,cn,ha,c0,c1,c2,c3,c4,c5,c6,c7⟩:=h.act hi;exact⟨Z an nn cn,fun _=>⟨b,off,ha,c0,c1,c2,c3,c4,c5⟩,an,nn,cn,rfl,c6,c7⟩
  .have e:aM ts i=Ac.zero:=by have:=h.1;simp[aM,List.getD,Bk (show ts.length<=i by omega)]
   rw[e];exact⟨Z O 0 0,fun h=>absurd h hi,O,0,0,rfl,⟨rfl,fun h=>absurd h (by simp)⟩,by decide⟩
 exact⟨fun i=>(key i).choose,h.1,fun i hi=>(key i).choose_spec.1 hi,fun i=>(key i).choose_spec.2⟩
abbrev dC8(ts:List Ac)(sv:Nat->Value)(i:Nat):Array Value:=#[U #[I J (aM ts i).tx,I J (aM ts i).k,I J (aM ts i).a,I J (aM ts i).b,I J (aM ts i).v,sv i]]
def KpA(n₀ Bn Bm:Nat)(W W':World):Prop:=Below n₀ W W'/\(∀v,W.cell? ⟨Bn,0,O⟩=Y v->W'.cell? ⟨Bn,0,O⟩=Y v)/\(∀v,W.cell? ⟨Bm,0,O⟩=Y v->W'.cell? ⟨Bm,0,O⟩=Y v)
theorem KpA.t{n₀ Bn Bm:Nat}{C:World}(h:KpA n₀ Bn Bm A B)(k:KpA n₀ Bn Bm B C):KpA n₀ Bn Bm A C:=⟨h.1.trans k.1,fun v hv=>k.2.1 v (h.2.1 v hv),fun v hv=>k.2.2 v (h.2.2 v hv)⟩
theorem yY{l b:Nat}{o o':Obj}(ho:W.heap[l]? =Y o)(hc:o.isCells=F')(hv:W.cell? ⟨b,0,O⟩=Y v):(W.putObj l o').cell? ⟨b,0,O⟩=Y v:=by
 by_cases e:b=l
 .subst e;exfalso;unfold World.cell? at hv;simp only[ho]at hv;cases o<;>simp[Obj.isCells]at hc hv
 .have:(W.putObj l o').heap[b]? =W.heap[b]? :=Fi e;unfold World.cell? at hv⊢;simp only[this];exact hv
theorem KpA.b{n₀ Bn Bm:Nat}(hm:n₀<=w.heap.size)(W:World)(l:Nat)(o o':Obj)(hl:w.heap.size<=l)(ho:W.heap[l]? =Y o)(hc:o.isCells=F')(hw:o.isWalk=F'):KpA n₀ Bn Bm W (W.putObj l o'):=
 ⟨belowK_b (w:=w) hm W l o o' hl ho hc hw,fun _ hv=>yY ho hc hv,fun _ hv=>yY ho hc hv⟩
theorem aG9(h:Below A.heap.size A B):A.grownBy B O:=⟨h.os,h.tape,h.output,h.size,fun k hk _=>h.block k hk⟩
theorem aI1(a:Option Addr)(n cap:Nat)(txn:Int)(w:World):
  Calls prog 47 #[Z a n cap,I J txn] w fun e w'=>e=R' (.func (.func 86) #[] #[.pointer (Y ⟨w.heap.size,0,O⟩),.pointer (Y ⟨w.heap.size+1,0,O⟩)])/\w'=(w.alloc (M #[Z a n cap] 45)).alloc (M #[I J txn] 2):=by
 have hmf:∀(fn:Fn) (first cap:Array Value) (w:World),(Instr.makeFunc fn first cap).run prog w= .ok (.func fn first cap) w:=fun _ _ _ _=>rfl;go_enter func47,ntmps47
 go_wp2;go_ret;exact⟨rfl,rfl⟩
set_option maxRecDepth 100000 in
set_option maxHeartbeats 2000000 in
theorem dB2(m l Bn Bm:Nat)(hm:1<=m)(a:Option Addr)(n cap:Nat)(txn:Int)(sv:Nat->Value)(ts:List Ac)(w0:World)(h:AcV w0 a n sv ts)(hn:n<=1048576)(J' Jx:List Nat->World->Prop)(B0:Nat)(hJ:AbidesFrom B0 J')
  (hY:∀pre x W,J' pre W->pre.length<(cJ ts txn n).length->YieldAt Fence.wide (m-1) prog l (dC8 ts sv x) W fun e W'=>
   (e=R' (X A')/\J' (pre++[x]) W'/\KpA w0.heap.size Bn Bm W W')\/(e=R' (X F')/\Jx (pre++[x]) W'))
  (W:World) (hBn:W.cell? ⟨Bn,0,O⟩=Y (Z a n cap)) (hBm:W.cell? ⟨Bm,0,O⟩=Y (I J txn)) (hW:Below w0.heap.size w0 W) (h0:J' [] W):
  CallsIn Fence.wide m prog 86 #[.func (.yield l) #[] #[],.pointer (Y ⟨Bn,0,O⟩),.pointer (Y ⟨Bm,0,O⟩)] W fun e W'=>(∃v,e=R' v)/\
   ((∃ys,ys=cJ ts txn n/\J' ys W')\/(∃pre,True/\Jx pre W')):=by
 refine callsIn_of_wp func86 rfl Cm ?_ rfl;simp only[ntmps86,List.size_toArray,List.length_cons,List.length_nil,Nat.reduceAdd,Nat.reduceSub,Array.replicate_succ,Array.replicate_zero,List.push_toArray,List.append_toArray,List.nil_append,List.cons_append];have hbn:=aD hBn;have hbm:=aD hBm;gi_wp2
 gi_loopw [8] (fun i wr=>∃k:Nat,k<=n/\i=I J (k:Int)/\J' (cJ ts txn k) wr/\Below w0.heap.size w0 wr/\wr.cell? ⟨Bn,0,O⟩=Y (Z a n cap)/\wr.cell? ⟨Bm,0,O⟩=Y (I J txn))
  (fun i _=>n-(intOf i).toNat)
 case atStart=>exact⟨0,Ad _,rfl,h0,hW,hBn,hBm⟩
 case round=>
  clear hbn hbm hBn hBm;obtain⟨k,hk,rfl,hJs,hB,hcn,hcm⟩:=hrel;by_cases hlt:k<n
  .obtain⟨b,off,rfl,c0,c1,c2,c3,c4,c5⟩:=(h.below hB).2.1 k hlt;have HN:=hid (kF ts txn k);have HLn:Hid (((aM ts k).tx==txn)=A'->(cJ ts txn k).length<(cJ ts txn n).length):=by
    intro he;have e1:=kF ts txn k;rw[if_pos he]at e1;have mono:∀p q,p<=q->(cJ ts txn p).length<=(cJ ts txn q).length:=by
     intro p q hpq;induction hpq with
     |refl=>exact z'
     |step _ ih=>rw[kF,Bv];omega
    have:=mono (k+1) n hlt;rw[e1,Bv]at this;simp at this;omega
   have hbl:=aD c0;have hbm:=aD hcm;have hYk:=fun W hW hl=>hY (cJ ts txn k) k W hW hl;dsimp only[dC8]at hYk;have HJ2:=fun(o:Obj)=>hJ _ _ _ O hJs (aG9 ((Aa wr.heap.size wr).alloc z' o)) (fun r e=>by cases e);have hcm':=fun(o:Obj)=>keep_cell ((Aa wr.heap.size wr).alloc z' o) hcm;have hcn':=fun(o:Obj)=>keep_cell ((Aa wr.heap.size wr).alloc z' o) hcn;have hB':=fun(o:Obj)=>hB.alloc hB.size o;clear hY;obtain⟨ai,ni,ci,hsv,_,_⟩:=h.2.2 k;rw[hsv]at c5 hYk;generalize aM ts k=t at*;obtain⟨tx,kd,p,q,v,an⟩:=t;simp only at c0 c1 c2 c3 c4 HN HLn hYk;by_cases he:(tx==txn)=A'
   .have hlen:=HLn.out he;rw[he]at HN;have hY2:=hYk _ (HJ2 (M #[I J tx,I J kd,I J p,I J q,I J v,Z ai ni ci] 56)) hlen;obtain⟨fn,tmps,assign,body,hy,hR⟩:=hY2;clear hYk;gi_wp2
    refine hR.mono ?_;rintro e W3 (⟨rfl,hJ3,hk3⟩|⟨rfl,hJx3⟩)
    .have hB3:=(hB' (M #[I J tx,I J kd,I J p,I J q,I J v,Z ai ni ci] 56)).trans hk3.1;have hcn3:=hk3.2.1 _ (hcn' _);have hcm3:=hk3.2.2 _ (hcm' _);clear hR hy;gi_wp2
     go_roundw;case rel=>exact⟨k+1,by omega,by go_num,by rw[HN.out];exact hJ3,hB3,hcn3,hcm3⟩
     case measure=>simp[intOf];omega
    .clear hR hy;gi_wp2
     refine Ae (Ek rfl _ _ _) rfl ?_;exact⟨⟨_,rfl⟩,.inr ⟨_,Cm,hJx3⟩⟩
   .have he':(tx==txn)=F':=by simpa using he
    rw[he']at HN;have hJ3:=HJ2 (M #[I J tx,I J kd,I J p,I J q,I J v,Z ai ni ci] 56);have hB3:=hB' (M #[I J tx,I J kd,I J p,I J q,I J v,Z ai ni ci] 56);have hcn3:=hcn' (M #[I J tx,I J kd,I J p,I J q,I J v,Z ai ni ci] 56);have hcm3:=hcm' (M #[I J tx,I J kd,I J p,I J q,I J v,Z ai ni ci] 56);clear hYk HJ2 hcn' hcm' hB' HLn he;gi_wp2
    refine⟨fun _ h=>(by cases h),?_⟩;gi_wp2
    go_roundw;case rel=>exact⟨k+1,by omega,by go_num,by rw[HN.out];simpa using hJ3,hB3,hcn3,hcm3⟩
    case measure=>simp[intOf];omega
  .obtain rfl:k=n:=by omega
   gi_wp2
   refine Er (Ek rfl _ _ _) rfl ?_;exact⟨⟨_,rfl⟩,.inl ⟨_,rfl,hJs⟩⟩
theorem aI2(m Bn Bm:Nat)(hm:1<=m)(a:Option Addr)(n cap:Nat)(txn:Int)(sv:Nat->Value)(ts:List Ac)(w0 w:World)(h:AcV w0 a n sv ts)(hn:n<=1048576)
  (hW0:Below w0.heap.size w0 w) (hc:w.cell? ⟨Bn,0,O⟩=Y (Z a n cap)) (hd:w.cell? ⟨Bm,0,O⟩=Y (I J txn)):
  SeqStopsK Fence.wide m prog 86 #[.pointer (Y ⟨Bn,0,O⟩),.pointer (Y ⟨Bm,0,O⟩)] (dC8 ts sv) (KpA w0.heap.size Bn Bm) (fun ys=>ys=cJ ts txn n) (fun _=>True) (cJ ts txn n).length w:=fun l J' Jx W hW hJ _ hY h0=>
 dB2 m l Bn Bm hm a n cap txn sv ts w0 h hn J' Jx _ hJ hY W (keep_cell hW hc) (keep_cell hW hd) (hW0.trans (hW.mono hW0.size)) h0
end
namespace Ch
def aJ(hs:List Hold)(t:Int):List Hold:=hs.filter fun h=>!(h.t==t)
theorem bA2{t:Int}(hk:k<hs.length)(h:(hs.getD k Hold.zero).t≠t):aJ (hs.take (k+1)) t=aJ (hs.take k) t++[hs.getD k Hold.zero]:=by unfold aJ;rw[bZ hs Hold.zero k hk,Bl];generalize hs.getD k Hold.zero=r at*;simp[h]
theorem bK8{t:Int}(hk:k<hs.length)(h:(hs.getD k Hold.zero).t=t):aJ (hs.take (k+1)) t=aJ (hs.take k) t:=by unfold aJ;rw[bZ hs Hold.zero k hk,Bl];generalize hs.getD k Hold.zero=r at*;simp[h]
theorem jV(hs:List Hold)(t:Int):(aJ hs t).length<=hs.length:=Dt _ _
theorem mU(h:bO hs=A')(t:Int):bO (aJ hs t)=A':=by unfold bO aJ at*;rw[Az]at*;intro x hx;exact h x (By.1 hx).1
theorem jG(h:cS hs=F')(t:Int):cS (aJ hs t)=F':=by rw[gH]at*;exact h.sublist List.filter_sublist
theorem cO3(ht:cS (h::q)=F'):cS q=F':=by rw[gH,Cw]at ht;rw[gH];exact ht.2
def iZ(hs:List Hold)(h:Hold):List Hold:=if aV hs h.t then hs.set (atH hs h.t).toNat h else hs++[h]
theorem rJ(h1:aV hs h.t=A')(h2:atH hs h.t=(k:Int)):iZ hs h=hs.set k h:=by unfold iZ;rw[h1,h2];simp
theorem pU(h1:aV hs h.t=F'):iZ hs h=hs++[h]:=by unfold iZ;rw[h1];rfl
theorem nQ(hs:List Hold)(h:Hold):(iZ hs h).length<=hs.length+1:=by unfold iZ;split<;>simp
theorem lN(hn:bO hs=A')(hh:mN h=A'):bO (iZ hs h)=A':=by
 unfold bO at*;rw[Az]at*;intro x hx;unfold iZ at hx;split at hx
 .rcases List.mem_or_eq_of_mem_set hx with h1|h1
  .exact hn x h1
  .rw[h1];exact hh
 .rw[Aj]at hx;rcases hx with h1|h1
  .exact hn x h1
  .simp at h1;rw[h1];exact hh
def dI(hs:List Hold):List Hold->List Hold×List Hold×List Int
 |[]=>(hs,[],[])
 |h::q=>if eL hs (h::q)then((dI (iZ hs h) q).1,(dI (iZ hs h) q).2.1,h.t::(dI (iZ hs h) q).2.2)else(hs,h::q,[])
theorem wU{qs:List Hold}(h:eL hs qs=F'):dI hs qs=(hs,qs,[]):=by
 cases qs with
 |nil=>rfl
 |cons q qs=>unfold dI;rw[h];rfl
theorem tY(hf:eL hs (h::q)=A'):dI hs (h::q)=((dI (iZ hs h) q).1,(dI (iZ hs h) q).2.1,h.t::(dI (iZ hs h) q).2.2):=by
 conv=>lhs;unfold dI
 rw[hf];rfl
theorem bV9(hs qs:List Hold):(dI hs qs).1.length+(dI hs qs).2.1.length<=hs.length+qs.length/\(dI hs qs).2.2.length<=qs.length:=by
 induction qs generalizing hs with
 |nil=>simp[dI]
 |cons q qs ih=>
  unfold dI;split
  .have:=ih (iZ hs q);have:=nQ hs q;simp only[List.length_cons];omega
  .simp
def fX(l:Lock)(t:Int):Lock:=⟨l.r,(dI (aJ l.hs t) (aJ l.qs t)).1,(dI (aJ l.hs t) (aJ l.qs t)).2.1⟩
def sV(l:Lock)(t:Int):List Int:=(dI (aJ l.hs t) (aJ l.qs t)).2.2
def dN(ls:List Lock)(t:Int):List Lock:=ls.map fun l=>fX l t
def nA(ls:List Lock)(t:Int):List Int:=ls.flatMap fun l=>sV l t
theorem aH6(ls:List Lock)(t:Int)(k:Nat)(h:k<ls.length):nA (ls.take (k+1)) t=nA (ls.take k) t++sV (aI ls k) t:=by unfold nA aI;rw[bZ ls Lock.zero k h];simp
theorem nC(h:aT ls=0):ls.length<=101:=by
 have hi:∀i,i<ls.length->(i:Int)<=(aI ls i).r:=by
  intro i;induction i with
  |zero=>intro hl;exact(iM ((eT h).1 0 hl)).1
  |succ i ih=>intro hl;have h1:=ih (by omega);have h2:=bT5 h (show i<i+1 by omega) hl;omega
 rcases Ei ls.length with h0|h0
 .omega
 .have h1:=hi (ls.length-1) (by omega);have h2:=(iM ((eT h).1 (ls.length-1) (by omega))).2.1;omega
end Ch
namespace Ch
theorem bO6{x:Row}:x∈eO r l↔x=r\/(x∈l/\x.k≠r.k):=by
 induction l with
 |nil=>simp[eO]
 |cons y l ih=>
  simp only[eO];split
  .rename_i hy
   rw[Am,ih,Am];constructor
   .rintro(rfl|rfl|⟨h1,h2⟩)
    .exact .inr ⟨.inl rfl,by omega⟩
    .exact .inl rfl
    .exact .inr ⟨.inr h1,h2⟩
   .rintro(rfl|⟨rfl|h1,h2⟩)
    .exact .inr (.inl rfl)
    .exact .inl rfl
    .exact .inr (.inr ⟨h1,h2⟩)
  .rw[Am,By];simp[dX]
theorem dK7(h:l.Pairwise (fun a b=>a.k<b.k)):(eO r l).Pairwise (fun a b=>a.k<b.k):=by
 induction l with
 |nil=>simp[eO]
 |cons y l ih=>
  obtain⟨h1,h2⟩:=Cw.1 h;simp only[eO];split
  .rename_i hy
   refine List.Pairwise.cons (fun x hx=>?_) (ih h2);rcases bO6.1 hx with rfl|⟨hx,_⟩
   .exact hy
   .exact h1 x hx
  .rename_i hy
   refine List.Pairwise.cons (fun x hx=>?_) (h.filter _);obtain⟨hx,hk⟩:=By.1 hx;simp[dX]at hk;rcases Am.1 hx with rfl|hx
   .omega
   .have:=h1 x hx;omega
theorem cW0{c:List Row}(h:∀x∈c,r.k<x.k):eO r (l++c)=eO r l++c:=by
 induction l with
 |nil=>
  cases c with
  |nil=>simp[eO]
  |cons x c=>
   have h1:=h x Bj;have h2:(x::c).filter (dX r.k)=x::c:=aL2 fun y hy=>by have:=h y hy;simp[dX];omega
   simp only[List.nil_append,eO,if_neg (show ¬x.k<r.k by omega),h2];rfl
 |cons y l ih=>
  simp only[List.cons_append,eO];split
  .rw[ih];rfl
  .have h2:c.filter (dX r.k)=c:=aL2 fun y hy=>by have:=h y hy;simp[dX];omega
   rw[<-List.cons_append,Bl,h2];rfl
theorem cB0(ls:List (List Row))(key:Int)(n:Nat):(fW ls key n=0\/gL (ls.getD (fW ls key n) [])<=key)/\∀k,fW ls key n<k->k<n->key<gL (ls.getD k []):=by
 induction n with
 |zero=>exact⟨.inl rfl,fun k _ h=>by omega⟩
 |succ n ih=>
  by_cases h:gL (ls.getD n [])<=key
  .rw[aL7 h];exact⟨.inr h,fun k h1 h2=>by omega⟩
  .rw[aX0 h];refine⟨ih.1,fun k h1 h2=>?_⟩;by_cases e:k=n
   .subst e;omega
   .exact ih.2 k h1 (by omega)
theorem zK(l:List Row):(gZ l).flatten=l:=by unfold gZ;split<;>simp
theorem aE8{ls:List (List Row)}(hg:aL ls=0):(put ls r).flatten=eO r ls.flatten:=by
 unfold put;by_cases h0:ls.length=0
 .rw[if_pos h0];obtain rfl:=Dd.1 h0;simp[eO]
 .rw[if_neg h0];have hp:=oQ (ls:=ls) (key:=r.k) (k:=ls.length) (by omega);obtain⟨s1,s2⟩:=cB0 ls r.k ls.length;generalize fW ls r.k ls.length=p at*;have hup:=dR0 hg;have hs:=dI2 ls [] p hp;have hA:∀x∈(ls.take p).flatten,x.k<r.k:=by
   intro x hx;obtain⟨l,hl,hxl⟩:=List.mem_flatten.1 hx;obtain⟨i,hi,rfl⟩:=Co hl;have hip:i<p:=by simp at hi;omega
   rcases s1 with s1|s1
   .omega
   .obtain⟨y,hy,ey⟩:=aW9 (fY hg p hp).1;have:=Cl.1 hup.2 i p (by omega) hp hip x (by simpa using hxl) y (by rw[<-lT ls [] p hp];exact hy);omega
  have hC:∀x∈(ls.drop (p+1)).flatten,r.k<x.k:=by
   intro x hx;obtain⟨l,hl,hxl⟩:=List.mem_flatten.1 hx;obtain⟨i,hi,rfl⟩:=Co hl;have hin:p+1+i<ls.length:=by simp at hi;omega
   have h1:=s2 (p+1+i) (by omega) hin;have hxl':x∈ls[p+1+i]:=by simpa using hxl
   have h2:=yJ (hup.1 _ (Ce hin)) x hxl';rw[lT ls [] _ hin]at h1;omega
  conv=>rhs;rw[hs]
  rw[List.flatten_append,List.flatten_append,zK,List.flatten_append,List.flatten_cons,zM hA,cW0 hC,Bw]
theorem bN7{x:List Row}(h:x∈gZ l)(h5:l.length<=5):x.length<=4:=by
 unfold gZ at h;split at h
 .simp only[Cp]at h;subst h;omega
 .simp only[Am,Cu,Eh]at h;rcases h with rfl|rfl<;>simp<;>omega
theorem xK{ls:List (List Row)}(hg:aL ls=0)(hr:r.fault=0)(hl:(put ls r).length<=60):aL (put ls r)=0:=by
 have hgi:=(kI ls).1 hg;refine(kI _).2 ⟨hl,fun x hx=>⟨by have:=(bG4 hg hx).1;omega,?_⟩,fun x hx=>?_,?_⟩
 .unfold put at hx;split at hx
  .simp only[Cp]at hx;subst hx;simp
  .have hp:=oQ (ls:=ls) (key:=r.k) (k:=ls.length) (by omega);rcases Aj.1 hx with hx|hx
   .rcases Aj.1 hx with hx|hx
    .exact(hgi.2.1 x (Cg hx)).2
    .refine bN7 hx ?_;have h1:=aD6 r (ls.getD (fW ls r.k ls.length) []);have h2:=(hgi.2.1 (ls.getD (fW ls r.k ls.length) []) (by rw[lT ls [] _ hp];exact Ce hp)).2;omega
   .exact(hgi.2.1 x (Cz hx)).2
 .rw[aE8 hg]at hx;rcases bO6.1 hx with rfl|⟨h,_⟩
  .exact hr
  .exact hgi.2.2.1 x h
 .rw[aE8 hg];exact dK7 hgi.2.2.2
end Ch
def wH(S:Sl):List Value:=(List.range 100).flatMap (fun i:Nat=>[X (S i).isSome,I J ((S i).getD 0)])
def slA(S:Sl):Array Value:=(wH S).toArray
theorem aZ3(f:Nat->List Value)(hf:∀i,(f i).length=2):∀m,((List.range m).flatMap f).length=2*m:=by
 intro m;induction m with
 |zero=>rfl
 |succ m ih=>rw[Fg,Dc,Bv,ih];simp[hf];omega
theorem dG2(f:Nat->List Value)(hf:∀i,(f i).length=2):∀m i j,i<m->j<2->((List.range m).flatMap f)[2*i+j]? =(f i)[j]? :=by
 intro m;induction m with
 |zero=>intro i j h;omega
 |succ m ih=>
  intro i j hi hj;rw[Fg,Dc];have hl:=aZ3 f hf m;by_cases e:i<m
  .rw[Av (by rw[hl];omega),ih i j e hj]
  .obtain rfl:i=m:=by omega
   rw[Ay (by rw[hl];omega),hl];simp[show 2*i+j-2*i=j by omega]
theorem vM(S:Sl):(wH S).length=200:=aZ3 _ (fun _=>rfl) 100
theorem tJ(S:Sl){j:Nat}(hi:i<100)(hj:j<2):(wH S)[2*i+j]? =[X (S i).isSome,I J ((S i).getD 0)][j]? :=dG2 _ (fun _=>rfl) 100 i j hi hj
theorem bU5(S:Sl)(hk:k<100)(o:Option Int):((wH S).set (2*k) (X o.isSome)).set (2*k+1) (I J (o.getD 0))=wH (S.set k o):=by
 apply Ga;intro q;by_cases hq:q<200
 .have hi:q / 2<100:=by omega
  have hj:q%2<2:=by omega
  have e:q=2*(q / 2)+q%2:=by omega
  have h1:=tJ S hi hj;have h2:=tJ (S.set k o) hi hj;rw[<-e]at h1 h2;rw[h2,Gb,Gb,List.length_set,vM];have hm:q%2=0\/q%2=1:=by omega
  by_cases hqk:q / 2=k
  .rcases hm with hm|hm
   .rw[if_neg (by omega),if_pos (by omega),if_pos (by omega),hm,hqk];simp[Sl.set]
   .rw[if_pos (by omega),if_pos (by omega),hm,hqk];simp[Sl.set]
  .rw[if_neg (by omega),if_neg (by omega),h1];have:(S.set k o) ((q / 2:Nat):Int)=S ((q / 2:Nat):Int):=by simp only[Sl.set];rw[if_neg (by omega)]
   rw[this]
 .rw[Bk (by simp[vM];omega),Bk (by rw[vM];omega)]
def Slt(w:World)(b:Nat)(S:Sl):Prop:=w.heap[b]? =Y (M (slA S) 131 (0,0))
theorem Slt.lt{b:Nat}(h:Slt w b S):b<w.heap.size:=(Ab.1 h).1
theorem Slt.cell{b:Nat}(h:Slt w b S)(hi:i<100):w.cell? ⟨b,2*i,O⟩=Y (X (S i).isSome)/\w.cell? ⟨b,2*i+1,O⟩=Y (I J ((S i).getD 0)):=by
 have h0:=tJ S hi (by omega:0<2);have h1:=tJ S hi (by omega:1<2);have key:∀j,w.cell? ⟨b,j,O⟩=(wH S)[j]? :=fun j=>by unfold World.cell?;unfold Slt at h;simp only[h];simp[slA]
 rw[key,key];exact⟨h0,h1⟩
theorem Slt.frozen{b:Nat}(h:Slt w b S)(i:Nat):w.frozen? ⟨b,i,O⟩=F':=by unfold Slt at h;simp[World.frozen?,h]
theorem Slt.put{b:Nat}(h:Slt w b S)(hk:k<100)(o:Option Int):Slt ((w.setCell ⟨b,2*k,O⟩ (X o.isSome)).setCell ⟨b,2*k+1,O⟩ (I J (o.getD 0))) b (S.set k o):=by have h1:=Ah (i:=2*k) h (X o.isSome);have h2:=Ah (i:=2*k+1) h1 (I J (o.getD 0));unfold Slt;rw[h2];congr 2;rw[slA,slA,<-bU5 S hk o];simp
theorem Slt.keep{b:Nat}(h:Slt w b S)(hg:w.grownBy w' row)(hne:row≠Y b):Slt w' b S:=cV hg h hne
theorem Slt.below{b:Nat}(h:Slt w b S)(hb:V' w w'):Slt w' b S:=fF hb h
theorem Slt.alloc{b:Nat}(h:Slt w b S)(o:Obj):Slt (w.alloc o) b S:=h.below ((Aa _ _).alloc z' _)
def LkOne(w:World)(b off:Nat)(ah:Option Addr)(nh ch:Nat)(aq:Option Addr)(nq cq:Nat)(l:Lock):Prop:=
 w.cell? ⟨b,off,O⟩=Y (I J l.r)/\w.cell? ⟨b,off+1,O⟩=Y (Z ah nh ch)/\w.cell? ⟨b,off+2,O⟩=Y (Z aq nq cq)/\
  CellsAt w ah (nh*2) (hcells l.hs)/\CellsAt w aq (nq*2) (hcells l.qs)/\nh<=9223372036854775807/\nq<=9223372036854775807/\nh<=ch/\nq<=cq
theorem LkOne.below{b off:Nat}{nh ch:Nat}{nq cq:Nat}{l:Lock}(h:LkOne w b off ah nh ch aq nq cq l)(hb:V' w w'):LkOne w' b off ah nh ch aq nq cq l:=by obtain⟨h0,h1,h2,h3,h4,h5⟩:=h;exact⟨keep_cell hb h0,keep_cell hb h1,keep_cell hb h2,h3.below hb,h4.below hb,h5⟩
def LkAt(w:World)(a:Option Addr)(n:Nat)(ls:List Lock):Prop:=
 ls.length=n/\(0<n->∃b off,a=Y ⟨b,off,O⟩/\∀i,i<n->∃ah nh ch aq nq cq,LkOne w b (off+i*3) ah nh ch aq nq cq (aI ls i))
theorem LkAt.below(h:LkAt w a n ls)(hb:V' w w'):LkAt w' a n ls:=by refine⟨h.1,fun h0=>?_⟩;obtain⟨b,off,ha,hi⟩:=h.2 h0;refine⟨b,off,ha,fun i hlt=>?_⟩;obtain⟨ah,nh,ch,aq,nq,cq,h1⟩:=hi i hlt;exact⟨ah,nh,ch,aq,nq,cq,h1.below hb⟩
theorem LkAt.len(h:LkAt w a n ls):Hid (n=ls.length):=h.1.symm
theorem LkAt.lock(h:LkAt w a n ls)(hk:k<n):
  ∃b off ah nh ch aq nq cq,a=Y ⟨b,off,O⟩/\LkOne w b (off+k*3) ah nh ch aq nq cq (aI ls k):=by
 obtain⟨b,off,ha,hi⟩:=h.2 (by omega);obtain⟨ah,nh,ch,aq,nq,cq,h1⟩:=hi k hk;exact⟨b,off,ah,nh,ch,aq,nq,cq,ha,h1⟩
def nE(ls:List Lock):Nat:=(ls.map fun l=>l.hs.length+l.qs.length).sum
def dS(ls:List Lock):Nat:=ls.length+nE ls
theorem cH5(ls:List Lock)(k:Nat)(h:k<ls.length):nE (ls.take (k+1))=nE (ls.take k)+((aI ls k).hs.length+(aI ls k).qs.length):=by unfold nE aI;rw[bZ ls Lock.zero k h];simp
theorem dF4(ls:List Lock)(k:Nat):nE (ls.take k)<=nE ls:=by
 unfold nE;induction ls generalizing k with
 |nil=>simp
 |cons l ls ih=>
  cases k with
  |zero=>simp
  |succ k=>have:=ih k;simp only[List.take_succ_cons,Ef,List.sum_cons];omega
theorem lF{N:Nat}(h:dS ls<=N)(i:Nat):(aI ls i).hs.length<=N/\(aI ls i).qs.length<=N:=by
 by_cases hi:i<ls.length
 .have h1:=cH5 ls i hi;have h2:=dF4 ls (i+1);unfold dS at h;omega
 .simp[aI,List.getD,Bk (show ls.length<=i by omega),Lock.zero]
section
open Go.Maps
theorem cY0{B:Nat}(h:w.ownsRow B 232 2 v n (hcells hs)):Hid (n=hs.length):=by have:=h.1;rw[iJ]at this;exact(by omega:n=hs.length)
end
def Ch.prE(es:List Hold):List (Int×Int):=es.map (fun e=>(e.t,e.m))
def Ch.lst(f:Int->Int):List Int:=(List.range 1000).map (fun x=>f (x:Nat))
theorem tE(f:Int->Int)(h:k<1000):(lst f).getD k 0=f k:=by simp[lst,List.getD,h]
theorem aN7(f:Int->Int)(v:Int):(lst f).set k v=lst (fun y=>if y=(k:Int)then v else f y):=by
 apply Ga;intro i;by_cases hi:i<1000
 .by_cases hk:k=i
  .subst hk;simp[lst,hi]
  .have:¬(i:Int)=(k:Int):=by omega
   rw[Ea hk];simp[lst,hi,this]
 .rw[Bk (by simp[lst];omega),Bk (by simp[lst];omega)]
theorem cH8(t:Int)(hk:t=(k:Int)):(List.replicate 1000 (-1:Int)).set k 0=lst (fun x=>if x=t then 0 else -1):=by
 have:List.replicate 1000 (-1:Int)=lst (fun _=> -1):=by
  unfold lst;have hm:∀(m:Nat),List.replicate m (-1:Int)=(List.range m).map (fun _=>(-1:Int)):=by intro m;rw[List.map_const',List.length_range]
  exact hm 1000
 rw[this,aN7,hk]
theorem cI8(h:k<es.length)(r:Nat)(f:Int->Int):((prE es).take (k+1)).foldl (fM r) f=fM r (((prE es).take k).foldl (fM r) f) ((es.getD k Hold.zero).t,(es.getD k Hold.zero).m):=by
 have hl:k<(prE es).length:=by simp[prE];exact h
 rw[bZ (prE es) (0,0) k hl,Em];have:(prE es).getD k (0,0)=((es.getD k Hold.zero).t,(es.getD k Hold.zero).m):=by simp[prE,List.getD,h]
 rw[this];rfl
theorem cR3(w:World)(r:Int)(t:TypeId):CellsAt (w.alloc (M #[I J r] t)) (Y ⟨w.heap.size,0,O⟩) (1*1) (icells [r]):=by refine⟨rfl,fun _=>⟨_,_,rfl,fun i hi=>?_⟩⟩;rw[Al];have:=Ai (w.alloc (M #[I J r] t)) _ i _ _ _ (Ar w _);rw[this];simp[icells]
theorem cW9(a:Option Addr)(n cap:Nat)(es:List Hold)(t:Int)(w:World)(h:CellsAt w a (n*2) (hcells es))(hn:n<=400)(hin:∀k,k<n->1<=(es.getD k Hold.zero).t/\(es.getD k Hold.zero).t<=999/\1<=(es.getD k Hold.zero).m/\(es.getD k Hold.zero).m<=999)(ht:1<=t/\t<=999):
  Calls prog 203 #[Z a n cap,I J t] w fun e w'=>∃g c',e=R' (Z (Y ⟨g,0,O⟩) 1000 c')/\w'.ownsRow w.heap.size 2 1 (Z (Y ⟨g,0,O⟩) 1000 c') 1000 (icells (lst (dD (prE es) t n)))/\V' w w':=by
 have HL:=h.hlen;obtain⟨tn,rfl⟩:∃k:Nat,t=(k:Int):=⟨t.toNat,by omega⟩
 obtain⟨i0,hi0,hz0,hz1,hz2⟩:=Bz Tryz.info2;have o0:(w.alloc (M #[] 2)).ownsRow w.heap.size 2 1 (Z (Y ⟨w.heap.size,0,O⟩) 0 0) 0 (icells []):=Cr w #[] 0 z' (by unfold maxLen;omega) rfl;have b0:V' w (w.alloc (M #[] 2)):=(Aa _ _).alloc z' _;go_enter func203,ntmps203
 go_wp2;go_loopw [5,6] (fun q i wr=>∃(k:Nat) (a':Option Addr) (c':Nat),k<=1000/\i=I J k/\q=Z a' k c'/\wr.ownsRow w.heap.size 2 1 (Z a' k c') k (icells (List.replicate k (-1)))/\V' w wr) (fun _ i _=>1000-(intOf i).toNat)
 case atStart=>exact⟨0,_,_,by omega,rfl,rfl,by simpa using o0,b0⟩
 case round=>
  clear o0 b0;obtain⟨k,a',c',hk,rfl,rfl,own,hB⟩:=hrel;by_cases hlt:k<1000
  .have HR:Hid (List.replicate (k+1) (-1:Int)=List.replicate k (-1)++[-1]):=by show _=_;rw[List.replicate_succ']
   generalize List.replicate k (-1:Int)=zs at*;have kN:V' wr (wr.alloc (M #[I J (-1)] 2)):=(Aa _ _).alloc z' _;have oN:=aG own kN;have hb3:w.heap.size<=(wr.alloc (M #[I J (-1)] 2)).heap.size:=by have:=hB.size;simp;omega
   have hsum:k+1<=4194304:=by omega
   have hlt':k<=999:=by omega
   go_wp2_with(at_builtin;go_must (refine bM underlying27 underlying27 hi0 hz0 hz1 hz2 rfl (by omega) (by omega) (.tmp 14) (.tmp 15) ?_ ?_ w.heap.size (Z a' k c') k (icells zs) _ 1 1 (icells [-1]) ?_ ?_ oN (cR3 wr (-1) 2) (dC [-1]) hsum hb3 ?_;exact rfl;exact rfl;exact rfl;exact rfl;intro a5 c5 w5 own5 gr5 at5))
   go_roundw;case rel=>rw[<-dW,<-HR.out]at own5;have bN:=hB.trans (kN.mono hB.size);exact⟨k+1,a5,c5,by omega,by go_num,rfl,own5,bN.grown gr5 bN.size (fun g hg=>(aH own g hg).1)⟩
   case measure=>simp[intOf];omega
  .obtain rfl:k=1000:=by omega
   have hk9:¬((1000:Nat):Int)<=999:=by omega
   rcases own.2 with⟨hv,h0⟩|⟨g,cp,cur,hv,_⟩
   .omega
   simp only[Bg,Es]at hv;obtain⟨rfl,rfl⟩:=hv;have hf0:=own.frozenAt tn;obtain⟨u0,hd0⟩:=wE own (j:=tn) (by omega);have htn:tn<1000:=by omega
   have hgw:=(iY own).1;have own1:=(own.stored tn (I J 0)).1;have hB1:=hB.grown (own.stored tn (I J 0)).2 hB.size (fun k hk=>by simp at hk;omega);rw[aM4,cH8 (tn:Int) rfl]at own1;clear hB;go_wp2;go_loopw [7] (fun rr wx=>∃r:Nat,r<=n/\rr=I J r/\wx.ownsRow w.heap.size 2 1 (Z (Y ⟨g,0,O⟩) 1000 c') 1000 (icells (lst (dD (prE es) tn r)))/\V' w wx) (fun rr _=>n-(intOf rr).toNat)
   case atStart=>exact⟨0,Ad _,rfl,own1,hB1⟩
   case round=>
    clear own1 hB1 own hf0 hd0;rename_i wx
    obtain⟨r,hr,rfl,own2,hB2⟩:=hrel;by_cases hrn:r<n
    .go_wp2;go_loopw [8] (fun i wy=>∃k:Nat,k<=n/\i=I J k/\wy.ownsRow w.heap.size 2 1 (Z (Y ⟨g,0,O⟩) 1000 c') 1000 (icells (lst (((prE es).take k).foldl (fM r) (dD (prE es) tn r))))/\V' w wy) (fun i _=>n-(intOf i).toNat)
     case atStart=>exact⟨0,Ad _,rfl,by simpa using own2,hB2⟩
     case round=>
      clear own2 hB2;rename_i wy
      obtain⟨k,hk,rfl,own3,hB3⟩:=hrel;by_cases hlt:k<n
      .have hkl:k<es.length:=by have:=HL.out;omega
       have HT:=hid (cI8 hkl r (dD (prE es) tn r));have hb4:=hin k hlt;obtain⟨b,off,rfl,q0,q1⟩:=(h.below hB3).hold hlt;have hbl:=aD q0;generalize es.getD k Hold.zero=ed at*;obtain⟨rt,rm⟩:=ed;simp only at q0 q1 HT hb4;obtain⟨xt,rfl⟩:∃x:Nat,rt=(x:Int):=⟨rt.toNat,by omega⟩
       obtain⟨xm,rfl⟩:∃x:Nat,rm=(x:Int):=⟨rm.toNat,by omega⟩
       have hxt:xt<1000:=by omega
       have hxm:xm<1000:=by omega
       clear hb4;generalize((prE es).take k).foldl (fM r) (dD (prE es) tn r)=G at*;obtain⟨b1,o1,e1,m0⟩:=(aO own3).int (k:=xm) (by omega);cases e1;obtain⟨b2,o2,e2,t0⟩:=(aO own3).int (k:=xt) (by omega);cases e2;rw[Al,tE G hxm]at m0;rw[Al,tE G hxt]at t0;have hfz:=own3.frozenAt xt;have own4:=fun v=>(own3.stored xt (I J v)).1;have gr4:=fun v=>(own3.stored xt (I J v)).2;have hgz:=aD m0;by_cases hm:G xm=r
       .have em:(G xm==(r:Int))=A':=by simpa using hm
        by_cases hneg:G xt<0
        .have HG:Hid (fM r G ((xt:Int),(xm:Int))=fun y=>if y=(xt:Int)then(r:Int)+1 else G y):=by show _=_;unfold fM;rw[if_pos ⟨hm,hneg⟩]
         have Hst:=hid (own4 ((r:Int)+1));rw[aM4,aN7]at Hst;have HB4:=hid (hB3.grown (gr4 ((r:Int)+1)) hB3.size (fun k hk=>by simp at hk;omega));clear own4 gr4;generalize G xm=gm at*;generalize G xt=gt at*;go_wp2;go_roundw;case rel=>exact⟨k+1,by omega,by go_num,by rw[HT.out,HG.out];exact Hst.out,HB4.out⟩
         case measure=>simp[intOf];omega
        .have HG:Hid (fM r G ((xt:Int),(xm:Int))=G):=by show _=_;unfold fM;rw[if_neg (fun hh=>hneg hh.2)]
         clear own4 gr4;generalize G xm=gm at*;generalize G xt=gt at*;go_wp2;go_roundw;case rel=>exact⟨k+1,by omega,by go_num,by rw[HT.out,HG.out];exact own3,hB3⟩
         case measure=>simp[intOf];omega
       .have em:(G xm==(r:Int))=F':=by simpa using hm
        have HG:Hid (fM r G ((xt:Int),(xm:Int))=G):=by show _=_;unfold fM;rw[if_neg (fun hh=>hm hh.1)]
        clear own4 gr4;generalize G xm=gm at*;generalize G xt=gt at*;go_wp2;go_roundw;case rel=>exact⟨k+1,by omega,by go_num,by rw[HT.out,HG.out];exact own3,hB3⟩
        case measure=>simp[intOf];omega
      .obtain rfl:k=n:=by omega
       have HE:Hid (((prE es).take k).foldl (fM r) (dD (prE es) tn r)=dD (prE es) tn (r+1)):=by show _=_;rw[Bb (by simp[prE];have:=HL.out;omega)];rfl
       rw[HE.out]at own3;go_wp2;go_roundw;case rel=>exact⟨r+1,by omega,by go_num,own3,hB3⟩
       case measure=>simp[intOf];omega
    .obtain rfl:r=n:=by omega
     go_wp2;go_ret;exact⟨g,c',rfl,own2,hB2⟩
def rQ(k a:Int)(w:World)(e:Ending)(w':World):Prop:=
 ∃g m,e=R' (Z g m m)/\m<=2/\CellsAt w' g (m*2) (hcells (eQ k a))/\(∀b o,g=Y ⟨b,o,O⟩->w.heap.size<=b)/\V' w w'
theorem cF5(a b v:Int)(ha:0<=a/\a<=99)(w:World):
  Calls prog 180 #[U #[I J 1,I J a,I J b,I J v]] w fun e w'=>rQ 1 a w e w':=by
 unfold rQ;rw[show eQ 1 a=[⟨0,1⟩,⟨a+1,3⟩]from rfl];obtain⟨h1,h2⟩:=ha;go_enter func180,ntmps180
 go_wp2;go_ret;have o:=Cr (base:=w.heap.size) (e:=232) (size:=2) (w.alloc (M #[I J 1,I J a,I J b,I J v] 54)) #[I J 0,I J 1,I J (a+1),I J 3] 2 (by simp) (by unfold maxLen;omega) (by simp);rw[show(w.alloc (M #[I J 1,I J a,I J b,I J v] 54)).heap.size=w.heap.size+1 by simp]at o;exact⟨_,_,rfl,by omega,aO o,fun b' o' h=>(by simp only[Af,Ap]at h;omega),((Aa _ _).alloc z' _).alloc (by simp) _⟩
theorem cF6(a b v:Int)(ha:0<=a/\a<=99)(w:World):
  Calls prog 180 #[U #[I J 2,I J a,I J b,I J v]] w fun e w'=>rQ 2 a w e w':=by
 unfold rQ;rw[show eQ 2 a=[⟨0,2⟩,⟨a+1,5⟩]from rfl];obtain⟨h1,h2⟩:=ha;go_enter func180,ntmps180
 go_wp2;go_ret;have o:=Cr (base:=w.heap.size) (e:=232) (size:=2) (w.alloc (M #[I J 2,I J a,I J b,I J v] 54)) #[I J 0,I J 2,I J (a+1),I J 5] 2 (by simp) (by unfold maxLen;omega) (by simp);rw[show(w.alloc (M #[I J 2,I J a,I J b,I J v] 54)).heap.size=w.heap.size+1 by simp]at o;exact⟨_,_,rfl,by omega,aO o,fun b' o' h=>(by simp only[Af,Ap]at h;omega),((Aa _ _).alloc z' _).alloc (by simp) _⟩
theorem cF7(a b v:Int)(ha:0<=a/\a<=99)(w:World):
  Calls prog 180 #[U #[I J 3,I J a,I J b,I J v]] w fun e w'=>rQ 3 a w e w':=by
 unfold rQ;rw[show eQ 3 a=[⟨0,2⟩,⟨a+1,5⟩]from rfl];obtain⟨h1,h2⟩:=ha;go_enter func180,ntmps180
 go_wp2;go_ret;have o:=Cr (base:=w.heap.size) (e:=232) (size:=2) (w.alloc (M #[I J 3,I J a,I J b,I J v] 54)) #[I J 0,I J 2,I J (a+1),I J 5] 2 (by simp) (by unfold maxLen;omega) (by simp);rw[show(w.alloc (M #[I J 3,I J a,I J b,I J v] 54)).heap.size=w.heap.size+1 by simp]at o;exact⟨_,_,rfl,by omega,aO o,fun b' o' h=>(by simp only[Af,Ap]at h;omega),((Aa _ _).alloc z' _).alloc (by simp) _⟩
theorem cF8(a b v:Int)(ha:0<=a/\a<=99)(w:World):
  Calls prog 180 #[U #[I J 4,I J a,I J b,I J v]] w fun e w'=>rQ 4 a w e w':=by
 unfold rQ;rw[show eQ 4 a=[⟨0,3⟩]from rfl];obtain⟨h1,h2⟩:=ha;go_enter func180,ntmps180
 go_wp2;go_ret;have o:=Cr (base:=w.heap.size) (e:=232) (size:=2) (w.alloc (M #[I J 4,I J a,I J b,I J v] 54)) #[I J 0,I J 3] 1 (by simp) (by unfold maxLen;omega) (by simp);rw[show(w.alloc (M #[I J 4,I J a,I J b,I J v] 54)).heap.size=w.heap.size+1 by simp]at o;exact⟨_,_,rfl,by omega,aO o,fun b' o' h=>(by simp only[Af,Ap]at h;omega),((Aa _ _).alloc z' _).alloc (by simp) _⟩
theorem cF9(a b v:Int)(ha:0<=a/\a<=99)(w:World):
  Calls prog 180 #[U #[I J 5,I J a,I J b,I J v]] w fun e w'=>rQ 5 a w e w':=by
 unfold rQ;rw[show eQ 5 a=[⟨0,3⟩]from rfl];obtain⟨h1,h2⟩:=ha;go_enter func180,ntmps180
 go_wp2;go_ret;have o:=Cr (base:=w.heap.size) (e:=232) (size:=2) (w.alloc (M #[I J 5,I J a,I J b,I J v] 54)) #[I J 0,I J 3] 1 (by simp) (by unfold maxLen;omega) (by simp);rw[show(w.alloc (M #[I J 5,I J a,I J b,I J v] 54)).heap.size=w.heap.size+1 by simp]at o;exact⟨_,_,rfl,by omega,aO o,fun b' o' h=>(by simp only[Af,Ap]at h;omega),((Aa _ _).alloc z' _).alloc (by simp) _⟩
theorem cG0(a b v:Int)(ha:0<=a/\a<=99)(w:World):
  Calls prog 180 #[U #[I J 6,I J a,I J b,I J v]] w fun e w'=>rQ 6 a w e w':=by
 unfold rQ;rw[show eQ 6 a=[]from rfl];obtain⟨h1,h2⟩:=ha;go_enter func180,ntmps180
 go_wp2;go_ret;exact⟨O,0,rfl,by omega,⟨rfl,fun h=>by omega⟩,fun _ _ h=>(by cases h),(Aa _ _).alloc z' _⟩
theorem cG1(a b v:Int)(ha:0<=a/\a<=99)(w:World):
  Calls prog 180 #[U #[I J 7,I J a,I J b,I J v]] w fun e w'=>rQ 7 a w e w':=by
 unfold rQ;rw[show eQ 7 a=[]from rfl];obtain⟨h1,h2⟩:=ha;go_enter func180,ntmps180
 go_wp2;go_ret;exact⟨O,0,rfl,by omega,⟨rfl,fun h=>by omega⟩,fun _ _ h=>(by cases h),(Aa _ _).alloc z' _⟩
theorem cG2(a b v:Int)(ha:0<=a/\a<=99)(w:World):
  Calls prog 180 #[U #[I J 8,I J a,I J b,I J v]] w fun e w'=>rQ 8 a w e w':=by
 unfold rQ;rw[show eQ 8 a=[⟨0,2⟩,⟨a+1,5⟩]from rfl];obtain⟨h1,h2⟩:=ha;go_enter func180,ntmps180
 go_wp2;go_ret;have o:=Cr (base:=w.heap.size) (e:=232) (size:=2) (w.alloc (M #[I J 8,I J a,I J b,I J v] 54)) #[I J 0,I J 2,I J (a+1),I J 5] 2 (by simp) (by unfold maxLen;omega) (by simp);rw[show(w.alloc (M #[I J 8,I J a,I J b,I J v] 54)).heap.size=w.heap.size+1 by simp]at o;exact⟨_,_,rfl,by omega,aO o,fun b' o' h=>(by simp only[Af,Ap]at h;omega),((Aa _ _).alloc z' _).alloc (by simp) _⟩
theorem cG3(a b v:Int)(ha:0<=a/\a<=99)(w:World):
  Calls prog 180 #[U #[I J 9,I J a,I J b,I J v]] w fun e w'=>rQ 9 a w e w':=by
 unfold rQ;rw[show eQ 9 a=[⟨0,1⟩]from rfl];obtain⟨h1,h2⟩:=ha;go_enter func180,ntmps180
 go_wp2;go_ret;have o:=Cr (base:=w.heap.size) (e:=232) (size:=2) (w.alloc (M #[I J 9,I J a,I J b,I J v] 54)) #[I J 0,I J 1] 1 (by simp) (by unfold maxLen;omega) (by simp);rw[show(w.alloc (M #[I J 9,I J a,I J b,I J v] 54)).heap.size=w.heap.size+1 by simp]at o;exact⟨_,_,rfl,by omega,aO o,fun b' o' h=>(by simp only[Af,Ap]at h;omega),((Aa _ _).alloc z' _).alloc (by simp) _⟩
theorem bP2(a b v:Int)(ha:0<=a/\a<=99)(w:World):
  Calls prog 180 #[U #[I J 10,I J a,I J b,I J v]] w fun e w'=>rQ 10 a w e w':=by
 unfold rQ;rw[show eQ 10 a=[⟨0,3⟩]from rfl];obtain⟨h1,h2⟩:=ha;go_enter func180,ntmps180
 go_wp2;go_ret;have o:=Cr (base:=w.heap.size) (e:=232) (size:=2) (w.alloc (M #[I J 10,I J a,I J b,I J v] 54)) #[I J 0,I J 3] 1 (by simp) (by unfold maxLen;omega) (by simp);rw[show(w.alloc (M #[I J 10,I J a,I J b,I J v] 54)).heap.size=w.heap.size+1 by simp]at o;exact⟨_,_,rfl,by omega,aO o,fun b' o' h=>(by simp only[Af,Ap]at h;omega),((Aa _ _).alloc z' _).alloc (by simp) _⟩
theorem bD8(k a b v:Int)(ha:0<=a/\a<=99)(hk:k=1\/k=2\/k=3\/k=4\/k=5\/k=6\/k=7\/k=8\/k=9\/k=10)(w:World):
  Calls prog 180 #[U #[I J k,I J a,I J b,I J v]] w fun e w'=>rQ k a w e w':=by
 rcases hk with rfl|rfl|rfl|rfl|rfl|rfl|rfl|rfl|rfl|rfl
 .exact cF5 a b v ha w
 .exact cF6 a b v ha w
 .exact cF7 a b v ha w
 .exact cF8 a b v ha w
 .exact cF9 a b v ha w
 .exact cG0 a b v ha w
 .exact cG1 a b v ha w
 .exact cG2 a b v ha w
 .exact cG3 a b v ha w
 .exact bP2 a b v ha w
theorem cK2(a:Option Addr)(n cap:Nat)(ls:List (List Row))(w:World)(h:LvAt w a n ls)(hs:aW ls<=1048576):
  Calls prog 142 #[Z a n cap] w fun e w'=>e=R' (I J (aL ls))/\V' w w':=by
 have HL:=h.len;have hn:n<=1048576:=by unfold aW at hs;have:=HL.out;omega
 by_cases h6:60<n
 .go_enter func142,ntmps142
  go_wp2;go_ret;exact⟨cH (by rw[aL,if_pos (by have:=HL.out;omega)]),Aa _ _⟩
 have HP:Hid (aL ls=tU ls 0):=by show _=_;rw[aL,if_neg (by have:=HL.out;omega)];rfl
 have hd6:decide ((60:Int)<(n:Int))=F':=by simp;omega
 go_enter func142,ntmps142
 go_wp2;go_loopw [3,4] (fun q i wr=>∃k:Nat,k<=n/\i=I J k/\q=I J (nM ls k)/\Hid (aL ls=tU ls k)/\V' w wr) (fun _ i _=>n-(intOf i).toNat)
 case atStart=>exact⟨0,Ad _,rfl,rfl,HP.out,Aa _ _⟩
 case round=>
  clear HP;obtain⟨k,hk,rfl,rfl,HR,hB⟩:=hrel;by_cases hlt:k<n
  .have hkl:k<ls.length:=by have:=HL.out;omega
   have HS:=hid (fI hs k);have H0:Hid ((ls.getD k []).length=0->aL ls=1):=fun h0=>HR.out.trans (bJ7 ls k hkl h0);have HF:Hid ((ls.getD k []).length≠0->(cL (ls.getD k []) !=0)=A'->aL ls=cL (ls.getD k [])):=fun h0 hf=>HR.out.trans (bX0 ls k hkl h0 hf);have HM:Hid ((ls.getD k []).length≠0->(cL (ls.getD k []) !=0)=F'->gL (ls.getD k [])<=nM ls k->aL ls=1):=fun h0 hf hl=>HR.out.trans (cR2 ls k hkl h0 hf hl);have HN:Hid ((ls.getD k []).length≠0->(cL (ls.getD k []) !=0)=F'->¬gL (ls.getD k [])<=nM ls k->aL ls=tU ls (k+1)):=fun h0 hf hl=>HR.out.trans (dA6 ls k hkl h0 hf hl);have HA:Hid (nM ls (k+1)=nO (ls.getD k [])):=rfl;obtain⟨b,off,ai,ni,ci,rfl,hc,hr,hni⟩:=(h.below hB).leaf hlt;have hbl:=aD hc;have HRl:=hr.rlen;have hni':ni<=1048576:=by have:=HS.out;have:=HRl.out;omega
   generalize ls.getD k []=l at*;generalize nM ls k=q at*;cases ni with
   |zero=>go_wp2;go_ret;exact⟨cH (H0.out HRl.out.symm).symm,hB⟩
   |succ m=>
    have hl0:l.length≠0:=by have:=HRl.out;omega
    have HFK:Hid (gL l=(l.getD 0 Row.zero).k):=rfl;have HLK:Hid (nO l=(l.getD m Row.zero).k):=by show _=_;have:=HRl.out;rw[nO,<-this];rfl
    obtain⟨b1,o1,rfl,q0,_,_⟩:=hr.row (k:=0) (by omega);obtain⟨b1',o1',hbo,p0,_,_⟩:=hr.row (k:=m) (by omega);simp only[Af,Ap,Cn]at hbo;obtain⟨rfl,rfl⟩:=hbo;generalize(l.getD 0 Row.zero).k=fk at*;generalize(l.getD m Row.zero).k=lk at*;rw[Ep,Nat.add_zero]at q0;cases hf:(cL l !=0)
    .by_cases hle:fk<=q
     .go_wp2_with fail
      refine(tM _ _ _ l _ hr (by omega)).mono ?_;rintro e w1⟨rfl,b1⟩;have hB1:=hB.trans (b1.mono hB.size);have hc:=keep_cell b1 hc;have q0:=keep_cell b1 q0;generalize cL l=pf at*;go_wp2;go_ret;exact⟨cH (HM.out hl0 hf (by rw[HFK.out];exact hle)).symm,hB1⟩
     .go_wp2_with fail
      refine(tM _ _ _ l _ hr (by omega)).mono ?_;rintro e w1⟨rfl,b1⟩;have hB1:=hB.trans (b1.mono hB.size);have hc:=keep_cell b1 hc;have q0:=keep_cell b1 q0;have p0:=keep_cell b1 p0;generalize cL l=pf at*;go_wp2;go_quiet (fail)
      go_wp2;go_roundw;case rel=>exact⟨k+1,by omega,by go_num,by rw[HA.out,HLK.out],HN.out hl0 hf (by rw[HFK.out];exact hle),Cj hB1 _⟩
      case measure=>simp[intOf];omega
    .go_wp2_with fail
     refine(tM _ _ _ l _ hr (by omega)).mono ?_;rintro e w1⟨rfl,b1⟩;have hB1:=hB.trans (b1.mono hB.size);generalize cL l=pf at*;go_wp2;go_ret;exact⟨cH (HF.out hl0 hf).symm,hB1⟩
  .obtain rfl:k=n:=by omega
   go_wp2;go_ret;exact⟨cH (by rw[HR.out,cR1 _ _ (by have:=HL.out;omega)]),hB⟩
end Go.Proofs.YtpbbokalojdooaaGreat
