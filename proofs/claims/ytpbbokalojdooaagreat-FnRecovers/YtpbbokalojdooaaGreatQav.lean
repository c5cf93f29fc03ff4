import Derived.Test.YtpbbokalojdooaaGreatQat
namespace Go.Proofs.YtpbbokalojdooaaGreat
open Go.RowKit Ch Go.Proofs.Tryz
set_option linter.unusedSimpArgs false
set_option linter.unusedVariables false
set_option maxRecDepth 20000
set_option maxHeartbeats 8000000
open Value renaming int->I,slice->Z,bool->X,agg->U
open IntKind renaming i64->J
open Option renaming none->O,some->Y
open Obj renaming cells->M
open Ending renaming returned->R'
open Bool renaming true->A',false->F'
variable {ops:Array Oper} {cs:Array Value} {st st0:Ch.Bs} {D2:DataW Unit} {Q:Exit->Act->World->Prop} {L:Int->Bool} {F:Int->Ft} {rest:List Oper} {rs:List Rec} {xs:List Value} {B N g mb p q:Nat} {a:Option Addr} {row:Option Nat} {r:Rec} {t:TypeId} {A W W' u w:World}
section
open Go.Shelf Go.Maps
attribute [local go_sem] Oper.semAt_some
theorem mT{F:Fence}{nF:Nat}{o:Oper}{a:Act}(m x:Operand)(B N:Nat)(D:DataW Unit)(t:Int)(fb fe:Bool)(fn:Int)
  (hop:o.op=Op.lookup 82 m x F') (hg:o.guard=O) (hm:a.eval m= .map (Y B)) (hx:a.eval x=I J t) (hown:w.ownsMap prog 2 gR B N D) (ht:1<=t/\t<=999)
  (hat:D.atKey (kF t) (ftD Ft.zero)=ftD ⟨fb,fe,fn⟩) (hK:wpListIn F nF prog ops Q rest (a.put o.dst (U #[X fb,X fe,I J fn])) w):wpListIn F nF prog ops Q (o::rest) a w:=by
 refine wpListIn_plain hg fun K' hK'=>?_;obtain⟨v,ps,hrun,hv⟩:=hown.lookup Tryz.keyedF underlying82 (Tryz.zeroFate w) (lS F' F' 0) (bA9 ht);rw[show(ftD ⟨F',F',0⟩:DataW Unit)=ftD Ft.zero from rfl,hat]at hv;rw[xN hv]at hrun;unfold Oper.wpIn;refine⟨by simp[Oper.about,hop],?_⟩;rw[Oper.semAt_plain F _ _ (by rw[hop];intro c hc';cases hc')];simp[execOp,hop,hm,hx,hrun,Result.andThen];exact hK' _ _ hK
structure Two(w w':World)(p q:Nat):Prop where
 os:w'.os=w.os
 tape:w'.tape=w.tape
 output:w'.output=w.output
 size:w.heap.size<=w'.heap.size
 block:∀k,k<w.heap.size->k≠p->k≠q->w'.heap[k]? =w.heap[k]?
theorem Two.refl(w:World)(p q:Nat):Two w w p q:=⟨rfl,rfl,rfl,z',fun _ _ _ _=>rfl⟩
theorem Two.gr(h:Two w W p q)(hg:W.grownBy W' row)(hr:∀r,row=Y r->r=p\/r=q\/w.heap.size<=r):Two w W' p q:=
 ⟨hg.os.trans h.os,hg.tape.trans h.tape,hg.output.trans h.output,Nat.le_trans h.size hg.size,fun k hk h1 h2=>(hg.block k (Nat.lt_of_lt_of_le hk h.size) (fun e=>by rcases hr k e.symm with e1|e1|e1<;>omega)).trans (h.block k hk h1 h2)⟩
theorem Two.below(h:Two w W p q)(hB:Below B u w)(hp:B<=p)(hq:B<=q)(hs:B<=w.heap.size):Below B u W:=
 hB.trans ⟨h.os,h.tape,h.output,h.size,fun k hk=>h.block k (by omega) (by omega) (by omega)⟩
theorem dG3{m:Nat}(h:CellsAt W a m xs)(hg:W.grownBy W' row)(hr:0<m->∀b off,a=Y ⟨b,off,O⟩->row≠Y b):CellsAt W' a m xs:=by
 refine⟨h.1,fun hp=>?_⟩;obtain⟨b,off,ha,hc⟩:=h.2 hp;refine⟨b,off,ha,fun i hi=>?_⟩;have:=hc i hi;have hl:i<xs.length:=by rw[h.1];exact hi
 rw[List.getElem?_eq_getElem hl]at this⊢;exact aM hg this (hr hp b off ha)
theorem KpC.gr{n:Nat}{Bn:Nat}(hg:W.grownBy W' row)(h1:row≠Y Bn)(h2:0<n->∀b off,a=Y ⟨b,off,O⟩->row≠Y b):KpC a n rs Bn W W':=
 ⟨fun h=>dG3 h hg (fun h0=>h2 (by omega)),fun _ hv=>aM hg hv h1⟩
def Ch.fOf(F:Int->Ft)(st:Ch.Bs)(t:Int):Ft:=⟨(F t).bg,(F t).en,st.b t⟩
def cM(F:Int->Ft)(t:Int):Bool:=(F t).lost
structure TbI(w:World)(p mb N:Nat)(F:Int->Ft)(st0:Ch.Bs)(pre:List xG)(W:World):Prop where
 sl:Slt W p (cG (cM F) st0 (gJ pre)).s
 mp:∃N' D',N'<=N+pre.length/\W.ownsMap prog 2 gR mb N' D'/\Fm (fOf F (cG (cM F) st0 (gJ pre))) D'
 c3:W.cell? ⟨w.heap.size,0,O⟩=Y (.pointer (Y ⟨p,0,O⟩))
 c4:W.cell? ⟨w.heap.size+1,0,O⟩=Y (.map (Y mb))
 two:Two w W p mb
 sz:w.heap.size+3<=W.heap.size
theorem TbI.far{pre:List xG}{B:World}(h:TbI w p mb N F st0 pre A)(hg:A.grownBy B row)(hmb:mb<w.heap.size)(hp:p<w.heap.size)(hr:∀r,row=Y r->w.heap.size+3<=r):TbI w p mb N F st0 pre B:=by obtain⟨N',D',h1,h2,h3⟩:=h.mp;exact⟨h.sl.keep hg (fun e=>by have:=hr p e;omega),⟨N',D',h1,h2.kept hg (fun e=>by have:=hr mb e.symm;omega),h3⟩,aM hg h.c3 (fun e=>by have:=hr _ e;omega),aM hg h.c4 (fun e=>by have:=hr _ e;omega),h.two.gr hg (fun r e=>.inr (.inr (by have:=hr r e;omega))),Nat.le_trans h.sz hg.size⟩
theorem TbI.same{pre:List xG}(h:TbI w p mb N F st0 pre W)(x:xG)(hst:jA (cM F) (cG (cM F) st0 (gJ pre)) x.1.2=cG (cM F) st0 (gJ pre)):TbI w p mb N F st0 (pre++[x]) W:=by
 have e:cG (cM F) st0 (gJ (pre++[x]))=cG (cM F) st0 (gJ pre):=by rw[sX,mY,hst]
 obtain⟨N',D',h1,h2,h3⟩:=h.mp;exact⟨by rw[e];exact h.sl,⟨N',D',by simp;omega,h2,by rw[e];exact h3⟩,h.c3,h.c4,h.two,h.sz⟩
theorem TbI.map{pre:List xG}(h:TbI w p mb N F st0 pre W)(x:xG)(hg:W.grownBy W' (Y mb))(hmb:mb<w.heap.size)(hpm:p≠mb)(hst:jA (cM F) (cG (cM F) st0 (gJ pre)) x.1.2=st)(hs:st.s=(cG (cM F) st0 (gJ pre)).s)
  {N2:Nat} (h1:N2<=N+pre.length+1) (h2:W'.ownsMap prog 2 gR mb N2 D2) (h3:Fm (fOf F st) D2):TbI w p mb N F st0 (pre++[x]) W':=by
 have e:cG (cM F) st0 (gJ (pre++[x]))=st:=by rw[sX,mY,hst]
 refine⟨by rw[e,hs];exact h.sl.keep hg (by simpa using fun e=>hpm e.symm),⟨N2,D2,by simp;omega,h2,by rw[e];exact h3⟩,aM hg h.c3 (by simp;omega),aM hg h.c4 (by simp;omega),h.two.gr hg (fun r e=>by cases e;exact .inr (.inl rfl)),Nat.le_trans h.sz hg.size⟩
theorem TbI.slot{pre:List xG}(h:TbI w p mb N F st0 pre W)(x:xG)(hg:W.grownBy W' (Y p))(hp:p<w.heap.size)(hpm:p≠mb)(hst:jA (cM F) (cG (cM F) st0 (gJ pre)) x.1.2=st)(hs:st.b=(cG (cM F) st0 (gJ pre)).b)
  (hS:Slt W' p st.s):TbI w p mb N F st0 (pre++[x]) W':=by
 have e:cG (cM F) st0 (gJ (pre++[x]))=st:=by rw[sX,mY,hst]
 obtain⟨N',D',h1,h2,h3⟩:=h.mp;refine⟨by rw[e];exact hS,⟨N',D',by simp;omega,h2.kept hg (by simpa using fun e=>hpm e.symm),?_⟩,aM hg h.c3 (by simp;omega),aM hg h.c4 (by simp;omega),h.two.gr hg (fun r e=>by cases e;exact .inl rfl),Nat.le_trans h.sz hg.size⟩;rw[e];unfold fOf at h3⊢;rw[hs];exact h3
theorem rB(w:World){o:Obj}(h:g=w.heap.size):(w.alloc o).heap[g]? =Y o:=by subst h;exact heap_alloc_new w o
theorem yJ(h:(r.kd !=2||!L r.tx)=A'):jA L st r=st:=if_pos h
theorem yF(h:(r.kd !=2||!L r.tx)=F')(h0:0<st.b r.tx):jA L st r=⟨st.s,fun t=>if t=r.tx then st.b t-1 else st.b t⟩:=by unfold jA;rw[h,if_neg (by simp),if_pos h0]
theorem yI(h:(r.kd !=2||!L r.tx)=F')(h0:¬0<st.b r.tx):jA L st r=⟨st.s.set r.ky (rT r.hd r.ol),st.b⟩:=by unfold jA;rw[h,if_neg (by simp),if_neg h0]
theorem cQ4(h:W.heap[g]? =Y (M (c7 r).toArray t (0,0))):At7 W g 0 r:=
 ⟨cell_of_row _ _ _ _ _ _ h,cell_of_row _ _ _ _ _ _ h,cell_of_row _ _ _ _ _ _ h,cell_of_row _ _ _ _ _ _ h,cell_of_row _ _ _ _ _ _ h,cell_of_row _ _ _ _ _ _ h,cell_of_row _ _ _ _ _ _ h⟩
theorem aK4{x y z:Value}(h:W.heap[g]? =Y (M #[x,y,z] t (0,0))):W.cell? ⟨g,0,O⟩=Y x/\W.cell? ⟨g,1,O⟩=Y y/\W.cell? ⟨g,2,O⟩=Y z/\W.frozen? ⟨g,2,O⟩=F':=
 ⟨cell_of_row _ _ _ _ _ _ h,cell_of_row _ _ _ _ _ _ h,cell_of_row _ _ _ _ _ _ h,by simp[World.frozen?,h]⟩
theorem bI1(h:W.heap[g]? =Y (M cs t (0,0)))(hg:W.grownBy W' row)(hr:∀r,row=Y r->∃o:Obj,W.heap[r]? =Y o/\o.isCells=F'):W'.heap[g]? =Y (M cs t (0,0)):=by
 have hlt:g<W.heap.size:=(Array.getElem?_eq_some_iff.1 h).1;rw[hg.block g hlt (fun e=>?_)]
 .exact h
 .obtain⟨o,ho,hc⟩:=hr g e.symm;rw[h]at ho;cases ho;cases hc
set_option maxRecDepth 100000 in
set_option maxHeartbeats 4000000 in
theorem bE0(p mb N:Nat)(a:Option Addr)(n cap:Nat)(rs:List Rec)(S:Sl)(F:Int->Ft)(D:DataW Unit)(w:World)(h:CellsAt w a (n*7) (rc7 rs))(hn:n<=800)(hN:N<=800)(hf:∀k,k<rs.length->(rs.getD k Rec.zero).fault=0)
  (hS:Slt w p S) (hM:w.ownsMap prog 2 gR mb N D) (hF:Fm F D) (hb:∀t,0<=(F t).bk/\(F t).bk<=800) (hne:0<n->∀b off,a=Y ⟨b,off,O⟩->b≠p/\b≠mb):
  Calls prog 42 #[.pointer (Y ⟨p,0,O⟩),.map (Y mb),Z a n cap] w fun e w'=>e=R' (.tuple #[])/\Slt w' p (cG (cM F) ⟨S,fun t=>(F t).bk⟩ rs.reverse).s/\
   (∃N' D',N'<=1600/\w'.ownsMap prog 2 gR mb N' D'/\Fm (fOf F (cG (cM F) ⟨S,fun t=>(F t).bk⟩ rs.reverse)) D')/\Two w w' p mb:=by
 have HL:=h.len7;refine(callsIn_wide (n:=6)).1 ?_;refine callsIn_of_wp_marks func42 rfl trivial ?_ rfl;simp only[ntmps42,List.size_toArray,List.length_cons,List.length_nil,Nat.reduceAdd,Nat.reduceSub,Array.replicate_succ,Array.replicate_zero,List.push_toArray,List.append_toArray,List.nil_append,List.cons_append];gi_wp2_with fail
 refine⟨trivial,(callsIn_wide.2 (aY6 a n cap _)).mono ?_⟩;rintro e w'⟨rfl,rfl⟩;gi_wp2_with fail
 have hmb:=hM.lt;have hpl:=hS.lt;have hpm:p≠mb:=fun e=>by obtain⟨es,ck,hh,_⟩:=hM;unfold Slt at hS;rw[e,hh]at hS;cases hS
 have hB0:Below w.heap.size w (((w.alloc (M #[.pointer (Y ⟨p,0,O⟩)] 87)).alloc (M #[.map (Y mb)] 82)).alloc (M #[Z a n cap] 31)):=by
  refine Below.alloc (Below.alloc (Below.alloc (Below.refl _ w) z' _) ?_ _) ?_ _
  .simp
  .simp;omega
 have hcB:(((w.alloc (M #[.pointer (Y ⟨p,0,O⟩)] 87)).alloc (M #[.map (Y mb)] 82)).alloc (M #[Z a n cap] 31)).cell? ⟨w.heap.size+1+1,0,O⟩=Y (Z a n cap):=by have:=cell_of_row _ (w.heap.size+1+1) 0 #[Z a n cap] 31 (0,0) (rB ((w.alloc (M #[.pointer (Y ⟨p,0,O⟩)] 87)).alloc (M #[.map (Y mb)] 82)) (by simp));exact this
 have hc3:(((w.alloc (M #[.pointer (Y ⟨p,0,O⟩)] 87)).alloc (M #[.map (Y mb)] 82)).alloc (M #[Z a n cap] 31)).cell? ⟨w.heap.size,0,O⟩=Y (.pointer (Y ⟨p,0,O⟩)):=by have:=cell_of_row _ w.heap.size 0 #[.pointer (Y ⟨p,0,O⟩)] 87 (0,0) (rB w rfl);exact aC ((q').alloc (by simp) _) this
 have hc4:(((w.alloc (M #[.pointer (Y ⟨p,0,O⟩)] 87)).alloc (M #[.map (Y mb)] 82)).alloc (M #[Z a n cap] 31)).cell? ⟨w.heap.size+1,0,O⟩=Y (.map (Y mb)):=by have:=cell_of_row _ (w.heap.size+1) 0 #[.map (Y mb)] 82 (0,0) (rB (w.alloc (M #[.pointer (Y ⟨p,0,O⟩)] 87)) (by simp));exact aC (q') this
 have hs0:(((w.alloc (M #[.pointer (Y ⟨p,0,O⟩)] 87)).alloc (M #[.map (Y mb)] 82)).alloc (M #[Z a n cap] 31)).heap.size=w.heap.size+3:=by simp
 have hC0:=h.below hB0;have hI0:TbI w p mb N F ⟨S,fun t=>(F t).bk⟩ [] (((w.alloc (M #[.pointer (Y ⟨p,0,O⟩)] 87)).alloc (M #[.map (Y mb)] 82)).alloc (M #[Z a n cap] 31)):=⟨hS.below hB0,⟨N,D,by simp,((hM.alloc _).alloc _).alloc _,hF⟩,hc3,hc4,⟨hB0.os,hB0.tape,hB0.output,hB0.size,fun k hk _ _=>hB0.block k hk⟩,by omega⟩
 have HBK:=hid (fun rs=>aH8 (L:=cM F) (m:=800) rs (st:=⟨S,fun t=>(F t).bk⟩) hb);generalize hst0:(⟨S,fun t=>(F t).bk⟩:Ch.Bs)=st0 at*;generalize hW0:(((w.alloc (M #[.pointer (Y ⟨p,0,O⟩)] 87)).alloc (M #[.map (Y mb)] 82)).alloc (M #[Z a n cap] 31))=W0 at*;have HA:0<n->∀b off,a=Y ⟨b,off,O⟩->b<w.heap.size:=fun h0 b off ha=>by obtain⟨b',off',ha',hc'⟩:=h.2 (by omega);rw[ha]at ha';simp only[Option.some.injEq,Addr.mk.injEq,and_true]at ha';obtain⟨rfl,rfl⟩:=ha';obtain⟨b1,o1,e1,q1,_⟩:=h.rec h0;rw[ha]at e1;simp only[Option.some.injEq,Addr.mk.injEq,and_true]at e1;obtain⟨rfl,rfl⟩:=e1;exact aD q1
 have HN:=hid hne;clear hne;have hrl:rs.length<=800:=by have:=HL.out;omega
 clear hB0 hc3 hc4 hW0;refine wpIn_rangeFunc_ownH rfl (by decide) (gf:=123) (lb:=#[.pointer (Y ⟨w.heap.size+1+1,0,O⟩)]) rfl trivial (enters_of func123 (by kernel_rfl) rfl)
  (bU5 5 (w.heap.size+1+1) (by decide) a n cap rs W0 hn hf hC0 hcB) KpC.t (fun W l o o' _ ho hc _=>KpC.b W l o o' ho hc) u' (fun _=>rfl)
  (TbI w p mb N F st0) (fun _ _ _=>False)
  ?hI (fun _ _ _ _ _ hs _ _=>hs)
  hI0
  (fun x a' W=>∃Bx,w.heap.size+3<=Bx/\W.heap[Bx]? =Y (M (c7 x.1.2).toArray 79 (0,0))/\a'={tmps:=#[.pointer (Y ⟨p,0,O⟩),.map (Y mb),Z a n cap,.pointer (Y ⟨w.heap.size,0,O⟩),.pointer (Y ⟨w.heap.size+1,0,O⟩),undef,undef,.pointer (Y ⟨Bx,0,O⟩),undef,Z a n cap,.func (.func 123) #[] #[.pointer (Y ⟨w.heap.size+1+1,0,O⟩)],I J x.1.1,U #[I J x.1.2.kd,I J x.1.2.tx,I J x.1.2.ky,X x.1.2.hd,I J x.1.2.ol,X x.1.2.hs,I J x.1.2.nw],undef,undef,undef,undef,undef,undef,undef,undef,undef,undef,undef,undef,undef,undef,undef,undef,undef,undef,undef,undef,undef,undef,undef,undef,undef,undef,undef,undef,undef,undef,undef,undef,undef],defers:=[]})
  ?hAx ?assign ?body ?done ?stop
 case hI=>rintro s A B row hI hg hr;exact hI.far hg hmb hpl (fun r e=>by have:=(hr r e).1;omega)
 case hAx=>rintro x a' s A B row⟨Bx,hle,hh,he⟩ hg hr;exact⟨Bx,hle,bI1 hh hg (fun r e=>(hr r e).2),he⟩
 case assign=>
  rintro l pre x W K hI hK;simp only[dB7];have hz:=hI.sz;gi_wp2
  exact hK _ _ ((KeepsOthers.alloc _ _).from _) (KpC.gr (World.grownBy_alloc W _ O) (by simp) (by simp)) (hI.far (World.grownBy_alloc W _ O) hmb hpl (fun r e=>by cases e)) ⟨W.heap.size,hz,heap_alloc_new W _,rfl⟩
 case body=>
  rintro l pre x a' W hl⟨r,hr⟩ hI ⟨Bx,hBx,hX,rfl⟩ hlt;clear hl hr r;have hI':=hid hI;obtain⟨N',D',hN',own,fm⟩:=hI.mp;have c3:=hI.c3;have c4:=hI.c4;have sl:=hI.sl;have hz:=hI.sz;have HB2:=hid (HBK.out (gJ pre));clear hI HBK;obtain⟨⟨xi,⟨kd,tx,ky,hd,ol,hs,nw⟩⟩,fit⟩:=x;have htx:1<=tx/\tx<=999:=fit.tx;have hky:0<=ky/\ky<=99:=fit.ky;obtain⟨y0,y1,y2,y3,y4,y5,y6⟩:=cQ4 hX;simp only[Nat.zero_add]at y0 y1 y2 y3 y4 y5 y6;have hBl:=aD y0;have HSK:=hid (fun hh=>hI'.out.same ⟨(xi,⟨kd,tx,ky,hd,ol,hs,nw⟩),fit⟩ (yJ hh));have HSL:=hid (fun hh h0=>yF (L:=cM F) (st:=cG (cM F) st0 (gJ pre)) (r:=⟨kd,tx,ky,hd,ol,hs,nw⟩) hh h0);have HSS:=hid (fun hh h0=>yI (L:=cM F) (st:=cG (cM F) st0 (gJ pre)) (r:=⟨kd,tx,ky,hd,ol,hs,nw⟩) hh h0);have HLO:Hid (cM F tx=Ft.lost ⟨(F tx).bg,(F tx).en,(cG (cM F) st0 (gJ pre)).b tx⟩):=rfl;have hat:D'.atKey (kF tx) (ftD Ft.zero)=ftD ⟨(F tx).bg,(F tx).en,(cG (cM F) st0 (gJ pre)).b tx⟩:=fm.at' tx;have HBX:=hid (HB2.out tx);have IS:=fun W hW=>bD5 p ky hd ol (cG (cM F) st0 (gJ pre)).s W hW hky;have HFM:=hid (fun G f hG1 hG2=>fm.put (t:=tx) own.isMap htx (f:=f) (G:=G) hG1 hG2);simp only at HSL HSS;generalize hfb:(F tx).bg=fb at*;generalize hfe:(F tx).en=fe at*;generalize hfn:(cG (cM F) st0 (gJ pre)).b tx=fn at*;have hfn0:0<=fn/\fn<=800:=HBX.out;have hkey:=bA9 htx;have hN2:N'<maxLen:=by unfold maxLen;omega
  have IL:=fun W=>bM0 fb fe fn W;have own1:=own.alloc (M #[X fb,X fe,I J fn] 124);have gA:=World.grownBy_alloc W (M #[X fb,X fe,I J fn] 124) O;have bA:=f' W (M #[X fb,X fe,I J fn] 124);have lw:w.heap.size<W.heap.size:=by omega
  have lw1:w.heap.size+1<W.heap.size:=by omega
  have hsW:p<W.heap.size:=sl.lt;have hmW:mb≠W.heap.size:=by omega
  have ne1:¬Bx=W.heap.size:=by omega
  have ne2:¬W.heap.size=Bx:=by omega
  have ne3:¬w.heap.size+1=W.heap.size:=by omega
  have ne4:¬W.heap.size=w.heap.size+1:=by omega
  clear HBX HB2 fm;cases hk2:(kd !=2);rotate_left
  .have HZ:=hid (HSK.out (by simp[hk2]));clear HSK HSL HSS IS IL HFM;gi_wp2_with (gi_at_lookup;go_must (refine mT _ _ mb N' D' tx fb fe fn rfl rfl rfl rfl own htx hat ?_))
   refine⟨trivial,?_⟩;gi_wp2
   exact⟨KeepsFrom.of_grownBy gA (by simp),KpC.gr gA (by simp) (by simp),HZ.out.far gA hmb hpl (fun r e=>by cases e)⟩
  .generalize hlb:Ft.lost ⟨fb,fe,fn⟩=lb at*;cases lb
   .have HZ:=hid (HSK.out (by simp[hk2,HLO.out]));clear HSK HSL HSS IS HFM;gi_wp2_with (first|(gi_at_lookup;go_must (refine mT _ _ mb N' D' tx fb fe fn rfl rfl rfl rfl own htx hat ?_))|(refine⟨trivial,?_⟩;gi_at_call 78;refine(CallsIn.inRound l (callsIn_wide.2 (IL _))).mono ?_;rintro e w4⟨rfl,b4⟩))
    have gB:=pA b4 O;exact⟨(KeepsFrom.of_grownBy gA (by simp)).trans (KeepsFrom.of_grownBy gB (by simp)),(KpC.gr gA (by simp) (by simp)).t (KpC.gr gB (by simp) (by simp)),(HZ.out.far gA hmb hpl (fun r e=>by cases e)).far gB hmb hpl (fun r e=>by cases e)⟩
   .have hh:(kd !=2||!cM F tx)=F':=by rw[hk2,HLO.out];rfl
    have hIA:=hid (fun w4 (gB:(W.alloc (M #[X fb,X fe,I J fn] 124)).grownBy w4 O)=>(hI'.out.far gA hmb hpl (fun r e=>by cases e)).far gB hmb hpl (fun r e=>by cases e));by_cases h0:0<fn
    .have HST:=hid (HSL.out hh h0);have HFP:=hid (HFM.out (fOf F ⟨(cG (cM F) st0 (gJ pre)).s,fun t=>if t=tx then(cG (cM F) st0 (gJ pre)).b t-1 else(cG (cM F) st0 (gJ pre)).b t⟩) ⟨fb,fe,fn-1⟩ (by simp only[fOf,hfb,hfe,hfn,if_true]) (fun q hq=>by simp only[fOf];rw[if_neg hq]));clear HSK HSL HSS IS HFM hh hI' HLO;gi_wp2_with (first|(gi_at_lookup;go_must (refine mT _ _ mb N' D' tx fb fe fn rfl rfl rfl rfl own htx hat ?_))|(refine⟨trivial,?_⟩;gi_at_call 78;refine(CallsIn.inRound l (callsIn_wide.2 (IL _))).mono ?_;rintro e w4⟨rfl,b4⟩;have d4:=aC b4 (aC bA c4);have t4:=aC b4 (aC bA y1);have own4:=own1.kept (pA b4 O) (by simp);have own5:=own4.setCell (a:=⟨W.heap.size,2,O⟩) hmW (I J (fn-1));obtain⟨z0,z1,z2,zf⟩:=aK4 (aT b4 (heap_alloc_new W (M #[X fb,X fe,I J fn] 124)));have l4:=aD d4;have l5:=aD t4;have l6:=aD z0)|(gi_at_mapUpdate;go_must (refine wpListIn_mapUpdate_own _ rfl _ _ _ 82 rfl 2 124 Tryz.keyedF underlying82 gR mb N' D' rfl own5 hN2 _ _ _ rfl rfl hkey _ [] (lS fb fe (fn-1)) ?_;intro w6 own6 gr6)))
     have gB:=pA b4 O;have gC:=sN (w:=w4) (s:=W.heap.size) (o:=2) (v:=I J (fn-1));refine⟨(((KeepsFrom.of_grownBy gA (by simp)).trans (KeepsFrom.of_grownBy gB (by simp))).trans ((KeepsOthers.setCell _ _ _).from _)).trans (KeepsFrom.of_grownBy gr6 (fun j e=>by cases e;omega)),(((KpC.gr gA (by simp) (by simp)).t (KpC.gr gB (by simp) (by simp))).t (KpC.gr gC (by simp;omega) (fun h0 b off ha=>by have:=HA h0 b off ha;simp;omega))).t (KpC.gr gr6 (by simp;omega) (fun h0 b off ha=>by have:=(HN.out h0 b off ha).2;simp;omega)),?_⟩;exact((hIA.out w4 gB).far gC hmb hpl (fun r e=>by cases e;exact hz)).map ⟨(xi,⟨kd,tx,ky,hd,ol,hs,nw⟩),fit⟩ gr6 hmb hpm HST.out rfl (by omega) own6 HFP.out
    .have HST:=hid (HSS.out hh h0);clear HSK HSL HSS HFM hh hI' HLO;have h0':¬fn>0:=h0;have f0:decide (0<fn)=F':=by simpa using h0
     gi_wp2_with (first|(gi_at_lookup;go_must (refine mT _ _ mb N' D' tx fb fe fn rfl rfl rfl rfl own htx hat ?_))|(refine⟨trivial,?_⟩;gi_at_call 78;refine(CallsIn.inRound l (callsIn_wide.2 (IL _))).mono ?_;rintro e w4⟨rfl,b4⟩;have d3:=aC b4 (aC bA c3);have t2:=aC b4 (aC bA y2);have t3:=aC b4 (aC bA y3);have t4:=aC b4 (aC bA y4);have sl4:=(sl.below bA).below b4;obtain⟨z0,z1,z2,zf⟩:=aK4 (aT b4 (heap_alloc_new W (M #[X fb,X fe,I J fn] 124)));have l4:=aD d3;have l5:=aD t4;have l6:=aD z0)|(refine⟨trivial,?_⟩;gi_at_call 81;refine(CallsIn.inRound l (callsIn_wide.2 (IS _ sl4))).mono ?_;rintro e w6⟨rfl,sl6,gr6⟩))
     have gB:=pA b4 O;refine⟨((KeepsFrom.of_grownBy gA (by simp)).trans (KeepsFrom.of_grownBy gB (by simp))).trans (KeepsFrom.of_grownBy gr6 (fun j e=>by cases e;omega)),((KpC.gr gA (by simp) (by simp)).t (KpC.gr gB (by simp) (by simp))).t (KpC.gr gr6 (by simp;omega) (fun h0 b off ha=>by have:=(HN.out h0 b off ha).1;simp;omega)),?_⟩;exact(hIA.out w4 gB).slot ⟨(xi,⟨kd,tx,ky,hd,ol,hs,nw⟩),fit⟩ gr6 hpl hpm HST.out rfl sl6
 case done=>
  rintro D2 ys W hD hys hI hK;have hJ:=hI.far (grownBy_putObj' W D2 (.deferred O)) hmb hpl (fun r e=>by cases e;omega);obtain⟨N',D',h1,h2,h3⟩:=hJ.mp;have h4:=hJ.sl;have h5:=hJ.two;rw[hys,<-hst0]at h3 h4;have hyl:ys.length=rs.length:=by rw[<-aX4,hys,List.length_reverse]
  refine⟨by simp,.inl ⟨_,_,rfl,run_takeDeferred hK,?_⟩⟩;exact⟨_,results_none rfl _ _ _,rfl,h4,⟨N',D',by omega,h2,h3⟩,h5⟩
 case stop=>rintro D c pre W _ _ h _;exact h.elim
end
theorem aB0{u0 u1 u2 u3 u4 u5 u6:Value}(h:W.heap[g]? =Y (M #[u0,u1,u2,u3,u4,u5,u6] t (0,0))):
  W.cell? ⟨g,0,O⟩=Y u0/\W.cell? ⟨g,1,O⟩=Y u1/\W.cell? ⟨g,2,O⟩=Y u2/\W.cell? ⟨g,3,O⟩=Y u3/\W.cell? ⟨g,4,O⟩=Y u4/\W.cell? ⟨g,5,O⟩=Y u5/\W.cell? ⟨g,6,O⟩=Y u6:=
 ⟨cell_of_row _ _ _ _ _ _ h,cell_of_row _ _ _ _ _ _ h,cell_of_row _ _ _ _ _ _ h,cell_of_row _ _ _ _ _ _ h,cell_of_row _ _ _ _ _ _ h,cell_of_row _ _ _ _ _ _ h,cell_of_row _ _ _ _ _ _ h⟩
theorem bJ5(h:W.heap[g]? =Y (M cs t (0,0))):
  W.frozen? ⟨g,0,O⟩=F'/\W.frozen? ⟨g,1,O⟩=F'/\W.frozen? ⟨g,2,O⟩=F'/\W.frozen? ⟨g,3,O⟩=F'/\W.frozen? ⟨g,4,O⟩=F'/\W.frozen? ⟨g,5,O⟩=F'/\W.frozen? ⟨g,6,O⟩=F':=
 ⟨Joins.unfrozen_of_block h _,Joins.unfrozen_of_block h _,Joins.unfrozen_of_block h _,Joins.unfrozen_of_block h _,Joins.unfrozen_of_block h _,Joins.unfrozen_of_block h _,Joins.unfrozen_of_block h _⟩
theorem aO6{u0 u1 u2 u3 u4 u5 u6:Value}(h:W.heap[g]? =Y (M #[u0,u1,u2,u3,u4,u5,u6] t (0,0)))(v0 v1 v2 v3 v4 v5 v6:Value):
  (((((((W.setCell ⟨g,0,O⟩ v0).setCell ⟨g,1,O⟩ v1).setCell ⟨g,2,O⟩ v2).setCell ⟨g,3,O⟩ v3).setCell ⟨g,4,O⟩ v4).setCell ⟨g,5,O⟩ v5).setCell ⟨g,6,O⟩ v6).heap[g]? =Y (M #[v0,v1,v2,v3,v4,v5,v6] t (0,0)):=by
 have h0:=Joins.block_setCell (i:=0) h v0;simp only[List.setIfInBounds_toArray,List.set_cons_zero]at h0;have h1:=Joins.block_setCell (i:=1) h0 v1;simp only[List.setIfInBounds_toArray,List.set_cons_zero,List.set_cons_succ]at h1;have h2:=Joins.block_setCell (i:=2) h1 v2;simp only[List.setIfInBounds_toArray,List.set_cons_zero,List.set_cons_succ]at h2;have h3:=Joins.block_setCell (i:=3) h2 v3;simp only[List.setIfInBounds_toArray,List.set_cons_zero,List.set_cons_succ]at h3;have h4:=Joins.block_setCell (i:=4) h3 v4;simp only[List.setIfInBounds_toArray,List.set_cons_zero,List.set_cons_succ]at h4;have h5:=Joins.block_setCell (i:=5) h4 v5;simp only[List.setIfInBounds_toArray,List.set_cons_zero,List.set_cons_succ]at h5;have h6:=Joins.block_setCell (i:=6) h5 v6;simp only[List.setIfInBounds_toArray,List.set_cons_zero,List.set_cons_succ]at h6;exact h6
theorem nH(h:Below B A W)(hg:B<=g)(v0 v1 v2 v3 v4 v5 v6:Value):
  Below B A (((((((W.setCell ⟨g,0,O⟩ v0).setCell ⟨g,1,O⟩ v1).setCell ⟨g,2,O⟩ v2).setCell ⟨g,3,O⟩ v3).setCell ⟨g,4,O⟩ v4).setCell ⟨g,5,O⟩ v5).setCell ⟨g,6,O⟩ v6):=
 ((((((h.setCell (p:=⟨g,0,O⟩) hg v0).setCell (p:=⟨g,1,O⟩) hg v1).setCell (p:=⟨g,2,O⟩) hg v2).setCell (p:=⟨g,3,O⟩) hg v3).setCell (p:=⟨g,4,O⟩) hg v4).setCell (p:=⟨g,5,O⟩) hg v5).setCell (p:=⟨g,6,O⟩) hg v6
theorem vL(a:Option Addr)(n cap k:Nat)(zs:List Int)(w:World)(h:CellsAt w a n (bts zs))(hb:IsB zs)(hn:n<=1099511627776)(hk:k+1<n):
  Calls prog 111 #[Z a n cap,I J k] w fun e w'=>e=R' (I J (zs.getD k 0*256+zs.getD (k+1) 0))/\w'.heap=w.heap/\Below w.heap.size w w':=by
 refine(dA5 a n cap k zs w h hb hn hk).mono ?_;rintro e w'⟨he,q,rfl⟩;exact⟨he,by simp,Go.below_drewN u' q⟩
theorem bL1(a:Option Addr)(n cap:Nat)(zs:List Int)(w:World)(h:CellsAt w a n (bts zs))(h5:n<5):
  Calls prog 72 #[Z a n cap] w fun e w'=>e=R' (.tuple #[recV (cS zs).1,I J (cS zs).2])/\Below w.heap.size w w':=by
 have HL:=h.len;have HV:Hid (cS zs=(Rec.zero,0)):=fO (fun hh=>by have e1:=hh.2.length_le;have e2:=Rec.bytes_len (Ch.unp zs);have e3:=(Rec.len_bd (Ch.unp zs)).1;have e4:=HL.out;omega)
 have i5:(n:Int)<5:=by omega
 go_enter func72,ntmps72
 go_wp2_with fail
 rw[HV.out];refine bodyPost_ret (v:=.tuple #[U #[I J 0,I J 0,I J 0,X F',I J 0,X F',I J 0],I J 0]) (by simp[results,Tryz.results72,go_sem]) rfl ⟨rfl,?_⟩;exact u'.alloc z' _
theorem bL0(b off n cap:Nat)(zs:List Int)(w:World)(h:CellsAt w (Y ⟨b,off,O⟩) n (bts zs))(hb:IsB zs)(hn:n<=1048576)(hcap:n<=cap)(h5:5<=n)(hset:eU (zs.getD 0 0)=F'):
  Calls prog 72 #[Z (Y ⟨b,off,O⟩) n cap] w fun e w'=>e=R' (.tuple #[recV (cS zs).1,I J (cS zs).2])/\Below w.heap.size w w':=by
 have HL:=h.len;have h5':¬(n:Int)<5:=by omega
 have i0:(0:Int)<(n:Int):=by omega
 have i0n:0<n:=by omega
 obtain⟨b',off',hbo,hc0⟩:=h.at (show 0<n by omega);simp only[Option.some.injEq,Addr.mk.injEq,and_true]at hbo;obtain⟨rfl,rfl⟩:=hbo;rw[Nat.add_zero]at hc0;obtain⟨p0,q0⟩:=hb 0;obtain⟨p1,q1⟩:=hb 1;obtain⟨p2,q2⟩:=hb 2;have tk1:=fun(W:World) (hW:Below (w.heap.size+1) (w.alloc (M #[I J 0,I J 0,I J 0,X F',I J 0,X F',I J 0] 79)) W)=>vL (Y ⟨b,off,O⟩) n cap 1 zs W (h.below (cD hW)) hb (by omega) (by omega);simp only[Nat.reduceAdd,Int.reduceNeg,Int.cast_ofNat_Int]at tk1;have HU:Hid (Ch.unp zs=⟨zs.getD 0 0,zs.getD 1 0*256+zs.getD 2 0,0,F',0,F',0⟩):=by show _=_;unfold Ch.unp;rw[hset];rfl
 generalize zs.getD 0 0=d0 at*;generalize zs.getD 1 0=d1 at*;generalize zs.getD 2 0=d2 at*;have hw0:IntKind.i64.wrap d0=d0:=IntWalk.i64_in d0 ⟨by omega,by omega⟩;go_enter func72,ntmps72
 go_upto_region 3 with fail
 go_cut [4] (fun s wx=>s= .pointer (Y ⟨w.heap.size+1,0,O⟩)/\wx.heap[w.heap.size+1]? =Y (M #[I J d0,I J (d1*256+d2),I J 0,X F',I J 0,X F',I J 0] 79 (0,0))/\Below (w.heap.size+1) (w.alloc (M #[I J 0,I J 0,I J 0,X F',I J 0,X F',I J 0] 79)) wx/\wx.heap.size=w.heap.size+2)
 case first=>
  have HS:Hid (∀W',Below (w.heap.size+1) (w.alloc (M #[I J 0,I J 0,I J 0,X F',I J 0,X F',I J 0] 79)) W'->W'.cell? ⟨b,off,O⟩=Y (I .u8 d0)/\Below (w.heap.size+1) (w.alloc (M #[I J 0,I J 0,I J 0,X F',I J 0,X F',I J 0] 79)) W'):=fun W' hb=>⟨(aC (cD hb) hc0),hb⟩
  refine R0 (fun W'=>W'.cell? ⟨b,off,O⟩=Y (I .u8 d0)/\Below (w.heap.size+1) (w.alloc (M #[I J 0,I J 0,I J 0,X F',I J 0,X F',I J 0] 79)) W') (HS.out _ u'.drew) (fun hH=>?_);refine R5 0 1 2 3 4 ?_;refine wpAnyH_ready (rs:=[5,7]) (by kernel_rfl) (by simp) ?_;refine AllReadyH.cons rfl (fun K hK=>?_) (AllReadyH.cons rfl (fun K hK=>?_) AllReadyH.nil);focus
   go_simp;refine(tk1 _ hH.2).mono ?_;rintro e w1⟨rfl,hh1,bq⟩;have bq:=hH.2.trans (bq.mono (by simp));go_wp2_with fail
   refine hK.out _ _ ?_ (fun hH=>?_)
   .exact HS.out _ bq
   clear hK K;refine R1 6 ?_;refine R6 7 (fun K hK=>?_);go_simp;refine hK.out _ _ ?_ (fun hH=>?_)
   .exact HS.out _ (hH.2.alloc (by first|(simp;done)|(have:=hH.2.size;simp at this;omega)) _)
   clear hK K;have zq:=bq.size;simp at zq;have hsq:w1.heap.size=w.heap.size+1:=by rw[hh1];simp
   refine R6 8 (fun K hK=>?_);go_simp;refine hK.out _ _ ?_ (fun hH=>?_)
   .exact HS.out _ (bq.alloc zq _)
   clear hK K;refine R7 ?_;go_wp2_with fail
   go_meet;exact⟨rfl,aO hsq.symm,bq.alloc zq _,by simp[hsq]⟩
  rotate_left;focus
   go_simp;refine hK.out _ _ ?_ (fun hH=>?_)
   .exact HS.out _ (hH.2.alloc (by first|(simp;done)|(have:=hH.2.size;simp at this;omega)) _)
   clear hK K;refine R6 5 (fun K hK=>?_);go_simp;refine(tk1 _ hH.2).mono ?_;rintro e w1⟨rfl,hh1,bq⟩;have bq:=hH.2.trans (bq.mono (by simp));go_wp2_with fail
   refine hK.out _ _ ?_ (fun hH=>?_)
   .exact HS.out _ bq
   clear hK K;refine R1 6 ?_;have hR:w1.heap[w.heap.size+1]? =Y (M #[I J 0,I J 0,I J 0,X F',I J 0,X F',I J 0] 79 (0,0)):=by rw[hh1];exact aO (by simp)
   have hsq:w1.heap.size=w.heap.size+2:=by rw[hh1];simp
   obtain⟨x0,x1,x2,x3,x4,x5,x6⟩:=aB0 hR;obtain⟨f0,f1,f2,f3,f4,f5,f6⟩:=bJ5 hR;refine R6 8 (fun K hK=>?_);go_simp;refine hK.out _ _ ?_ (fun hH=>?_)
   .exact HS.out _ (nH bq (by omega) _ _ _ _ _ _ _)
   clear hK K;clear x0 x1 x2 x3 x4 x5 x6 f0 f1 f2 f3 f4 f5 f6;refine R7 ?_;go_wp2_with fail
   go_meet;exact⟨rfl,aO6 hR _ _ _ _ _ _ _,nH bq (by omega) _ _ _ _ _ _ _,by simp[hsq]⟩
  rotate_left
 case rest=>
 obtain⟨rfl,hR,hB,hsz⟩:=hcut;clear tk1 hc0;obtain⟨x0,x1,x2,x3,x4,x5,x6⟩:=aB0 hR;have j1:(5:Int)<=(n:Int):=by omega
 have j2:(5:Int)<=(cap:Int):=by omega
 have j3:5<=cap:=by omega
 have HLn:Hid (Rec.len ⟨d0,d1*256+d2,0,F',0,F',0⟩=5):=by show _=_;simp[Rec.len,hset]
 go_upto_region 14 with(go_at_call 112;refine(lM _ _).mono ?_;rintro e w1⟨rfl,hw1⟩;subst w1)
 by_cases hf:Rec.fault ⟨d0,d1*256+d2,0,F',0,F',0⟩=0
 .have HF:Hid (Rec.fault ⟨d0,d1*256+d2,0,F',0,F',0⟩=0):=hf;have fit:=Rec.fit hf;have E0:=bC2 (aA3 (Rec.all_bytes fit)) (zF hb 5);have HP:Hid (decide (Rec.bytes ⟨d0,d1*256+d2,0,F',0,F',0⟩=zs.take 5)=decide (Rec.bytes ⟨d0,d1*256+d2,0,F',0,F',0⟩<+:zs)):=by
   show _=_;rw[<-xW,Rec.bytes_len,HLn.out];by_cases e:zs.take 5=Rec.bytes ⟨d0,d1*256+d2,0,F',0,F',0⟩
   .simp[e]
   .simp[e,Ne.symm e]
  clear hf;by_cases hp:Rec.bytes ⟨d0,d1*256+d2,0,F',0,F',0⟩<+:zs
  .rw[HP.out,decide_eq_true hp]at E0;have HV:Hid (cS zs=(⟨d0,d1*256+d2,0,F',0,F',0⟩,5)):=by have:=pN (zs:=zs) (by rw[HU.out];exact HF.out) (by rw[HU.out];exact hp);rw[HU.out,HLn.out]at this;exact this
   clear hp HP;have HS:Hid (∀W',Below wc.heap.size wc W'->W'.cell? ⟨w.heap.size+1,0,O⟩=Y (I J (d0))/\W'.cell? ⟨w.heap.size+1,1,O⟩=Y (I J (d1*256+d2))/\W'.cell? ⟨w.heap.size+1,2,O⟩=Y (I J (0))/\W'.cell? ⟨w.heap.size+1,3,O⟩=Y (X (F'))/\W'.cell? ⟨w.heap.size+1,4,O⟩=Y (I J (0))/\W'.cell? ⟨w.heap.size+1,5,O⟩=Y (X (F'))/\W'.cell? ⟨w.heap.size+1,6,O⟩=Y (I J (0))/\(convert 22 9 (Z (Y ⟨b,off,O⟩) 5 cap)).run prog W'= .ok (.string (strOfNums (zs.take 5))) W'/\Below wc.heap.size wc W'):=fun W' hb'=>⟨aC hb' x0,aC hb' x1,aC hb' x2,aC hb' x3,aC hb' x4,aC hb' x5,aC hb' x6,jB ((h.take (m:=5) (by omega)).below ((cD hB).trans (hb'.mono (cD hB).size))) cap,hb'⟩
   refine R0 (fun W'=>W'.cell? ⟨w.heap.size+1,0,O⟩=Y (I J (d0))/\W'.cell? ⟨w.heap.size+1,1,O⟩=Y (I J (d1*256+d2))/\W'.cell? ⟨w.heap.size+1,2,O⟩=Y (I J (0))/\W'.cell? ⟨w.heap.size+1,3,O⟩=Y (X (F'))/\W'.cell? ⟨w.heap.size+1,4,O⟩=Y (I J (0))/\W'.cell? ⟨w.heap.size+1,5,O⟩=Y (X (F'))/\W'.cell? ⟨w.heap.size+1,6,O⟩=Y (I J (0))/\(convert 22 9 (Z (Y ⟨b,off,O⟩) 5 cap)).run prog W'= .ok (.string (strOfNums (zs.take 5))) W'/\Below wc.heap.size wc W') (HS.out _ u'.drew) (fun hH=>?_);refine R1 0 ?_;refine R6 1 (fun K hK=>?_);go_simp;refine(jZ (d0) (d1*256+d2) (0) (F') (0) (F') (0) _).mono ?_;rintro e w1⟨rfl,b1⟩;rw[HF.out];have b1:=hH.2.2.2.2.2.2.2.2.trans (b1.mono (by simp));go_wp2_with fail
   refine hK.out _ _ ?_ (fun hH=>?_)
   .exact HS.out _ b1
   clear hK K;refine R5 2 3 4 7 8 ?_;refine R2 9 10 ?_;refine R6 5 (fun K hK=>?_);go_simp;refine(pS (d0) (d1*256+d2) (0) (F') (0) (F') (0) _ fit).mono ?_;rw[HLn.out];rintro e w2⟨g,cp,rfl,own,b2⟩;have b2:=hH.2.2.2.2.2.2.2.2.trans (b2.mono b1.size);have hcv:=jB (w:=w2) (a:=Y ⟨g,0,O⟩) (n:=5) (zs:=Rec.bytes ⟨d0,d1*256+d2,0,F',0,F',0⟩) (by simpa using aJ own) cp;go_wp2_with fail
   refine hK.out _ _ ?_ (fun hH=>?_)
   .exact HS.out _ b2
   clear hK K;refine R6 6 (fun K hK=>?_);go_simp;refine hK.out _ _ ?_ (fun hH=>?_)
   .exact hH
   clear hK K;refine R2 11 12 ?_;refine R7 ?_;clear hcv E0 HLn;have zc:=b2.size;have x0:=aC b2 x0;have x1:=aC b2 x1;have x2:=aC b2 x2;have x3:=aC b2 x3;have x4:=aC b2 x4;have x5:=aC b2 x5;have x6:=aC b2 x6;have bF:=hB.trans (b2.mono (by omega));have bF':Below (w.alloc (M #[I J 0,I J 0,I J 0,X F',I J 0,X F',I J 0] 79)).heap.size (w.alloc (M #[I J 0,I J 0,I J 0,X F',I J 0,X F',I J 0] 79)) w2:=by simpa using bF
   obtain⟨y0,y1,y2,y3,y4,y5,y6⟩:=aQ2 bF';have g0:=bF.frozen (p:=⟨w.heap.size,0,O⟩) (by simp);have g1:=bF.frozen (p:=⟨w.heap.size,1,O⟩) (by simp);have g2:=bF.frozen (p:=⟨w.heap.size,2,O⟩) (by simp);have g3:=bF.frozen (p:=⟨w.heap.size,3,O⟩) (by simp);have g4:=bF.frozen (p:=⟨w.heap.size,4,O⟩) (by simp);have g5:=bF.frozen (p:=⟨w.heap.size,5,O⟩) (by simp);have g6:=bF.frozen (p:=⟨w.heap.size,6,O⟩) (by simp);simp[go_sem]at g0 g1 g2 g3 g4 g5 g6;have bE:=cD bF;have zE:=aD y0;clear bF bF';go_wp2_with fail
   rw[HV.out];refine bodyPost_ret (v:=.tuple #[U #[I J (d0),I J (d1*256+d2),I J (0),X (F'),I J (0),X (F'),I J (0)],I J 5]) (by simp[results,Tryz.results72,go_sem,zE,y0,y1,y2,y3,y4,y5,y6]) rfl ⟨rfl,?_⟩;repeat(first|with_reducible exact bE|with_reducible refine Below.drew ?_|with_reducible refine Below.alloc ?_ (by first|omega|(simp;done)|(simp;omega)) _|with_reducible refine Below.setCell ?_ (by simp) _)
  .rw[HP.out,decide_eq_false hp]at E0;have HV:Hid (cS zs=(Rec.zero,0)):=fO (by rw[HU.out];exact fun hh=>hp hh.2);clear hp HP;have HS:Hid (∀W',Below wc.heap.size wc W'->W'.cell? ⟨w.heap.size+1,0,O⟩=Y (I J (d0))/\W'.cell? ⟨w.heap.size+1,1,O⟩=Y (I J (d1*256+d2))/\W'.cell? ⟨w.heap.size+1,2,O⟩=Y (I J (0))/\W'.cell? ⟨w.heap.size+1,3,O⟩=Y (X (F'))/\W'.cell? ⟨w.heap.size+1,4,O⟩=Y (I J (0))/\W'.cell? ⟨w.heap.size+1,5,O⟩=Y (X (F'))/\W'.cell? ⟨w.heap.size+1,6,O⟩=Y (I J (0))/\(convert 22 9 (Z (Y ⟨b,off,O⟩) 5 cap)).run prog W'= .ok (.string (strOfNums (zs.take 5))) W'/\Below wc.heap.size wc W'):=fun W' hb'=>⟨aC hb' x0,aC hb' x1,aC hb' x2,aC hb' x3,aC hb' x4,aC hb' x5,aC hb' x6,jB ((h.take (m:=5) (by omega)).below ((cD hB).trans (hb'.mono (cD hB).size))) cap,hb'⟩
   refine R0 (fun W'=>W'.cell? ⟨w.heap.size+1,0,O⟩=Y (I J (d0))/\W'.cell? ⟨w.heap.size+1,1,O⟩=Y (I J (d1*256+d2))/\W'.cell? ⟨w.heap.size+1,2,O⟩=Y (I J (0))/\W'.cell? ⟨w.heap.size+1,3,O⟩=Y (X (F'))/\W'.cell? ⟨w.heap.size+1,4,O⟩=Y (I J (0))/\W'.cell? ⟨w.heap.size+1,5,O⟩=Y (X (F'))/\W'.cell? ⟨w.heap.size+1,6,O⟩=Y (I J (0))/\(convert 22 9 (Z (Y ⟨b,off,O⟩) 5 cap)).run prog W'= .ok (.string (strOfNums (zs.take 5))) W'/\Below wc.heap.size wc W') (HS.out _ u'.drew) (fun hH=>?_);refine R1 0 ?_;refine R6 1 (fun K hK=>?_);go_simp;refine(jZ (d0) (d1*256+d2) (0) (F') (0) (F') (0) _).mono ?_;rintro e w1⟨rfl,b1⟩;rw[HF.out];have b1:=hH.2.2.2.2.2.2.2.2.trans (b1.mono (by simp));go_wp2_with fail
   refine hK.out _ _ ?_ (fun hH=>?_)
   .exact HS.out _ b1
   clear hK K;refine R5 2 3 4 7 8 ?_;refine R2 9 10 ?_;refine R6 5 (fun K hK=>?_);go_simp;refine(pS (d0) (d1*256+d2) (0) (F') (0) (F') (0) _ fit).mono ?_;rw[HLn.out];rintro e w2⟨g,cp,rfl,own,b2⟩;have b2:=hH.2.2.2.2.2.2.2.2.trans (b2.mono b1.size);have hcv:=jB (w:=w2) (a:=Y ⟨g,0,O⟩) (n:=5) (zs:=Rec.bytes ⟨d0,d1*256+d2,0,F',0,F',0⟩) (by simpa using aJ own) cp;go_wp2_with fail
   refine hK.out _ _ ?_ (fun hH=>?_)
   .exact HS.out _ b2
   clear hK K;refine R6 6 (fun K hK=>?_);go_simp;refine hK.out _ _ ?_ (fun hH=>?_)
   .exact hH
   clear hK K;refine R2 11 12 ?_;refine R7 ?_;clear hcv E0 HLn;have zc:=b2.size;have x0:=aC b2 x0;have x1:=aC b2 x1;have x2:=aC b2 x2;have x3:=aC b2 x3;have x4:=aC b2 x4;have x5:=aC b2 x5;have x6:=aC b2 x6;have bF:=hB.trans (b2.mono (by omega));have bF':Below (w.alloc (M #[I J 0,I J 0,I J 0,X F',I J 0,X F',I J 0] 79)).heap.size (w.alloc (M #[I J 0,I J 0,I J 0,X F',I J 0,X F',I J 0] 79)) w2:=by simpa using bF
   obtain⟨y0,y1,y2,y3,y4,y5,y6⟩:=aQ2 bF';have g0:=bF.frozen (p:=⟨w.heap.size,0,O⟩) (by simp);have g1:=bF.frozen (p:=⟨w.heap.size,1,O⟩) (by simp);have g2:=bF.frozen (p:=⟨w.heap.size,2,O⟩) (by simp);have g3:=bF.frozen (p:=⟨w.heap.size,3,O⟩) (by simp);have g4:=bF.frozen (p:=⟨w.heap.size,4,O⟩) (by simp);have g5:=bF.frozen (p:=⟨w.heap.size,5,O⟩) (by simp);have g6:=bF.frozen (p:=⟨w.heap.size,6,O⟩) (by simp);simp[go_sem]at g0 g1 g2 g3 g4 g5 g6;have bE:=cD bF;have zE:=aD y0;clear bF bF';go_wp2_with fail
   rw[HV.out];refine bodyPost_ret (v:=.tuple #[U #[I J 0,I J 0,I J 0,X F',I J 0,X F',I J 0],I J 0]) (by simp[results,Tryz.results72,go_sem,zE,y0,y1,y2,y3,y4,y5,y6]) rfl ⟨rfl,?_⟩;repeat(first|with_reducible exact bE|with_reducible refine Below.drew ?_|with_reducible refine Below.alloc ?_ (by first|omega|(simp;done)|(simp;omega)) _|with_reducible refine Below.setCell ?_ (by simp) _)
 .have HV:Hid (cS zs=(Rec.zero,0)):=fO (by rw[HU.out];exact fun hh=>hf hh.1);obtain⟨fc,hfc⟩:∃fc,fc=Rec.fault ⟨d0,d1*256+d2,0,F',0,F',0⟩:=⟨_,rfl⟩
  rw[<-hfc]at hf;have HF:Hid (Rec.fault ⟨d0,d1*256+d2,0,F',0,F',0⟩=fc):=hfc.symm;have hc:(fc !=0)=A':=by simpa using hf
  clear hfc hf;have HS:Hid (∀W',Below wc.heap.size wc W'->W'.cell? ⟨w.heap.size+1,0,O⟩=Y (I J (d0))/\W'.cell? ⟨w.heap.size+1,1,O⟩=Y (I J (d1*256+d2))/\W'.cell? ⟨w.heap.size+1,2,O⟩=Y (I J (0))/\W'.cell? ⟨w.heap.size+1,3,O⟩=Y (X (F'))/\W'.cell? ⟨w.heap.size+1,4,O⟩=Y (I J (0))/\W'.cell? ⟨w.heap.size+1,5,O⟩=Y (X (F'))/\W'.cell? ⟨w.heap.size+1,6,O⟩=Y (I J (0))/\(convert 22 9 (Z (Y ⟨b,off,O⟩) 5 cap)).run prog W'= .ok (.string (strOfNums (zs.take 5))) W'/\Below wc.heap.size wc W'):=fun W' hb'=>⟨aC hb' x0,aC hb' x1,aC hb' x2,aC hb' x3,aC hb' x4,aC hb' x5,aC hb' x6,jB ((h.take (m:=5) (by omega)).below ((cD hB).trans (hb'.mono (cD hB).size))) cap,hb'⟩
  refine R0 (fun W'=>W'.cell? ⟨w.heap.size+1,0,O⟩=Y (I J (d0))/\W'.cell? ⟨w.heap.size+1,1,O⟩=Y (I J (d1*256+d2))/\W'.cell? ⟨w.heap.size+1,2,O⟩=Y (I J (0))/\W'.cell? ⟨w.heap.size+1,3,O⟩=Y (X (F'))/\W'.cell? ⟨w.heap.size+1,4,O⟩=Y (I J (0))/\W'.cell? ⟨w.heap.size+1,5,O⟩=Y (X (F'))/\W'.cell? ⟨w.heap.size+1,6,O⟩=Y (I J (0))/\(convert 22 9 (Z (Y ⟨b,off,O⟩) 5 cap)).run prog W'= .ok (.string (strOfNums (zs.take 5))) W'/\Below wc.heap.size wc W') (HS.out _ u'.drew) (fun hH=>?_);refine R1 0 ?_;refine R6 1 (fun K hK=>?_);go_simp;refine(jZ (d0) (d1*256+d2) (0) (F') (0) (F') (0) _).mono ?_;rintro e w1⟨rfl,b1⟩;rw[HF.out];have b1:=hH.2.2.2.2.2.2.2.2.trans (b1.mono (by simp));go_wp2_with fail
  refine hK.out _ _ ?_ (fun hH=>?_)
  .exact HS.out _ b1
  clear hK K;refine R8 2 (h:=R8 3 (h:=R9 4 (h:=R9 5 (h:=R9 6 (h:=J3 ?_)))));refine R9 7 (h:=R9 8 (h:=R9 9 (h:=R9 10 (h:=R9 11 (h:=J3 ?_)))));refine R1 12 ?_;refine R7 ?_;clear HLn;have zc:=b1.size;have bF:=hB.trans (b1.mono (by omega));have bF':Below (w.alloc (M #[I J 0,I J 0,I J 0,X F',I J 0,X F',I J 0] 79)).heap.size (w.alloc (M #[I J 0,I J 0,I J 0,X F',I J 0,X F',I J 0] 79)) w1:=by simpa using bF
  obtain⟨y0,y1,y2,y3,y4,y5,y6⟩:=aQ2 bF';have g0:=bF.frozen (p:=⟨w.heap.size,0,O⟩) (by simp);have g1:=bF.frozen (p:=⟨w.heap.size,1,O⟩) (by simp);have g2:=bF.frozen (p:=⟨w.heap.size,2,O⟩) (by simp);have g3:=bF.frozen (p:=⟨w.heap.size,3,O⟩) (by simp);have g4:=bF.frozen (p:=⟨w.heap.size,4,O⟩) (by simp);have g5:=bF.frozen (p:=⟨w.heap.size,5,O⟩) (by simp);have g6:=bF.frozen (p:=⟨w.heap.size,6,O⟩) (by simp);simp[go_sem]at g0 g1 g2 g3 g4 g5 g6;have bE:=cD bF;have zE:=aD y0;clear bF bF';go_wp2_with fail
  rw[HV.out];refine bodyPost_ret (v:=.tuple #[U #[I J 0,I J 0,I J 0,X F',I J 0,X F',I J 0],I J 0]) (by simp[results,Tryz.results72,go_sem,zE,y0,y1,y2,y3,y4,y5,y6]) rfl ⟨rfl,?_⟩;repeat(first|with_reducible exact bE|with_reducible refine Below.drew ?_|with_reducible refine Below.alloc ?_ (by first|omega|(simp;done)|(simp;omega)) _|with_reducible refine Below.setCell ?_ (by simp) _)
end Go.Proofs.YtpbbokalojdooaaGreat
