import Derived.Test.YtpbbokalojdooaaGreatWau
import Derived.Test.YtpbbokalojdooaaGreatWaw
import Derived.Test.YtpbbokalojdooaaGreatWay
namespace Go.Proofs.YtpbbokalojdooaaGreat
open Go.RowKit Ch Go.Proofs.Tryz
set_option linter.unusedSimpArgs false
set_option linter.unusedVariables false
set_option maxRecDepth 20000
set_option maxHeartbeats 8000000
open Value renaming int->I,slice->Z,bool->X,agg->U
open IntKind renaming i64->J
open Option renaming none->O,some->Y
open Obj renaming cells->M
open Ending renaming returned->R'
open Bool renaming true->A',false->F'
variable {ops:Array Oper} {tmps:Array Value} {b:Bool} {R:Ending->World->Prop} {Q:Exit->Act->World->Prop} {F:Fence} {xs:List Value} {X' g k m n p:Nat} {a:Option Addr} {row:Option Nat} {P:Program} {st:Rp} {t:TypeId} {u0:Value} {A B W w:World}
theorem mE(h:CellsAt w a m xs)(hk:k<=m):CellsAt w a k (xs.take k):=by refine⟨by rw[Ey,h.1];omega,fun h0=>?_⟩;obtain⟨b,off,ha,hc⟩:=h.2 (by omega);refine⟨b,off,ha,fun i hi=>?_⟩;rw[hc i (by omega),Ez,if_pos hi]
theorem tB{b off:Nat}(h:CellsAt w (Y ⟨b,off,O⟩) m xs)(hk:k<=m):CellsAt w (Y ⟨b,off+k,O⟩) (m-k) (xs.drop k):=by refine⟨by rw[Ej,h.1],fun hm=>?_⟩;obtain⟨b',off',ha,hc⟩:=h.2 (by omega);simp only[Af,Ap,Cn]at ha;obtain⟨rfl,rfl⟩:=ha;refine⟨b,off+k,rfl,fun i hi=>?_⟩;rw[Df,Dm,hc _ (by omega)]
theorem aE0(B o n cap:Nat)(r:Int)(ls:List Lock)(vs:List (Value×Value))(w:World)(own:OwnK 227 w B (Z (Y ⟨o,0,O⟩) n cap) n ls vs)(hn:n<=1048576)(hB:B<=w.heap.size):
  Calls prog 199 #[Z (Y ⟨o,0,O⟩) n cap,I J r] w fun e w'=>∃a' m c',e=R' (.tuple #[Z a' m c',I J (aX r ls)])/\cO8 227 w' B (Z a' m c') m (bQ r ls)/\Below B w w':=by
 have HL:Hid (ls.length=n):=own.len;have HOwn:=hid own;have h1x:=hid own.one';have HCap:=hid (gI own.row);obtain⟨i0,hi0,hz0,hz1,hz2⟩:=Bz Tryz.info227;go_enter func199,ntmps199
 go_wp2;go_loopw [6] (fun i wr=>∃k:Nat,k<=n/\i=I J k/\Hid (∀j,j<k->(aI ls j).r<r)/\wr=w) (fun i _=>n-(intOf i).toNat)
 case atStart=>exact⟨0,Ad _,rfl,(fun j hj=>by omega),rfl⟩
 case round=>
  obtain⟨k,hk,rfl,HA,rfl⟩:=hrel;have HINS:(k<ls.length->r<(aI ls k).r)->Hid (aX r ls=k/\bQ r ls=ls.take k++[⟨r,[],[]⟩]++ls.drop k):=fun hh=>dA9 (by have:=HL.out;omega) HA.out hh;by_cases hlt:k<n
  .have hkl:k<ls.length:=by have:=HL.out;omega
   obtain⟨ah,ch,aq,cq,hp,c0,c1,c2,f1,f2,o1,o2,ne,nr,ob1,ob2⟩:=own.one hlt;have HNX:Hid ((aI ls k).r<r->∀j,j<k+1->(aI ls j).r<r):=fun hh j hj=>by
    rcases Nat.lt_or_eq_of_le (Nat.le_of_lt_succ hj)with h1|h1
    .exact HA.out j h1
    .subst h1;exact hh
   have HYES:Hid ((aI ls k).r=r->aX r ls=k/\bQ r ls=ls):=fun he=>cS9 (by omega) HA.out hkl he;generalize hrr:(aI ls k).r=rr at*;clear c1 c2 f1 f2 o1 o2 ne nr hp own;by_cases h1:rr<r
   .go_wp2;go_roundw;case rel=>exact⟨k+1,by omega,by go_num,HNX.out h1,Cm⟩
    case measure=>simp[intOf];omega
   .by_cases h2:rr=r
    .subst h2;have HY:=hid (HYES.out rfl);go_wp2;exact Ae (v:=.tuple #[Z (Y ⟨o,0,O⟩) n cap,I J k]) (by simp[results,Tryz.results199,go_sem]) rfl ⟨_,_,_,by rw[HY.out.1],by rw[HY.out.2];exact⟨vs,HOwn.out⟩,Aa _ _⟩
    .have HY:=HINS (fun _=>by omega);clear HYES HNX HINS;obtain⟨oE,kE,lE⟩:=fN wr 227 3;have hkc:=HCap.out;have hC1:=((mE (aO HOwn.out.row) (k:=k*3) (by omega)).below kE)
     have h1a:∀u∈(lcells ls vs).take (k*3),u.oneCell'=A':=fun u hu=>h1x.out u (Cg hu);have h1b:∀u∈(lcells ls vs).drop (k*3),u.oneCell'=A':=fun u hu=>h1x.out u (Cz hu);have hs0:0+k<=4194304:=by omega
     have hs1:k+1<=4194304:=by omega
     have hs2:k+1+(n-k)<=4194304:=by omega
     go_wp2_with(first
      |(at_builtin
        refine bM underlying62 underlying62 hi0 hz0 hz1 hz2 rfl (by omega) (by omega) (.tmp 38) (.tmp 41) ?_ ?_ wr.heap.size (Z (Y ⟨wr.heap.size,0,O⟩) 0 0) 0 [] (Y ⟨o,0,O⟩) k cap ((lcells ls vs).take (k*3)) ?_ ?_ oE hC1 h1a hs0 kE.size ?_;exact rfl;exact rfl;exact rfl;exact rfl;intro a5 c5 w5 own5 gr5 at5;simp only[Al,List.nil_append]at own5⊢;have k5:V' wr w5:=kE.grown gr5 kE.size (fun g hg=>(aH oE g hg).1);clear gr5 at5 hC1 oE kE lE;have kN:V' w5 (w5.alloc (M #[I J r,Z O 0 0,Z O 0 0] 227)):=(Aa _ _).alloc z' _;have k6:=k5.trans (kN.mono k5.size))
      |(at_builtin
        refine bM underlying62 underlying62 hi0 hz0 hz1 hz2 rfl (by omega) (by omega) (.tmp 43) (.tmp 46) ?_ ?_ wr.heap.size (Z a5 k c5) k ((lcells ls vs).take (k*3)) _ 1 1 [I J r,Z O 0 0,Z O 0 0] ?_ ?_ (aG own5 kN) (qH w5 r O 0 0 O 0 0 _) (nY r O 0 0 O 0 0) hs1 k6.size ?_;exact rfl;exact rfl;exact rfl;exact rfl;intro a7 c7 w7 own7 gr7 at7;have k7:V' wr w7:=k6.grown gr7 k6.size (fun g hg=>(aH own5 g hg).1);clear gr7 at7 own5 k6 kN k5;have hC2:=CellsAt.below (by have:=tB (aO HOwn.out.row) (k:=k*3) (by omega);rw[Al,<-Nat.sub_mul]at this;exact this) k7)
      |(at_builtin
        refine bM underlying62 underlying62 hi0 hz0 hz1 hz2 rfl (by omega) (by omega) (.tmp 48) (.tmp 51) ?_ ?_ wr.heap.size (Z a7 (k+1) c7) (k+1) _ (Y ⟨o,k*3,O⟩) (n-k) (cap-k) ((lcells ls vs).drop (k*3)) ?_ ?_ own7 hC2 h1b hs2 k7.size ?_;exact rfl;exact rfl;exact rfl;exact rfl;intro a8 c8 w8 own8 gr8 at8;have k8:V' wr w8:=k7.grown gr8 k7.size (fun g hg=>(aH own7 g hg).1);have en:k+1+(n-k)=n+1:=by omega
        rw[en]at own8;have hat8:∀g,(Z a8 (n+1) c8).ownBlock=Y g->wr.heap.size<=g:=fun g hg=>(aH own8 g hg).1;have ownI:=hid (HOwn.out.ins hk (r:=r) (aQ own8 hB) (mI k8 _) (fun g hg=>.inr (hat8 g hg)));have bI:=hid (k8.mono hB);clear gr8 at8 own7 k7 hC2 own8 hat8 k8;simp only[en]))
     exact Ae (v:=.tuple #[Z a8 (n+1) c8,I J k]) (by simp[results,Tryz.results199,go_sem]) rfl ⟨_,_,_,by rw[HY.out.1],by rw[HY.out.2];exact⟨_,ownI.out⟩,bI.out⟩
  .have HY:=HINS (fun hh=>by have:=HL.out;omega);clear HINS;clear own;by_cases hck:cap=k
   .subst hck;obtain rfl:n=cap:=by have:=HCap.out;omega
    obtain⟨oE,kE,lE⟩:=fN wr 227 3;have hkc:=HCap.out;have hC1:=((mE (aO HOwn.out.row) (k:=n*3) (by omega)).below kE)
    have h1a:∀u∈(lcells ls vs).take (n*3),u.oneCell'=A':=fun u hu=>h1x.out u (Cg hu);have h1b:∀u∈(lcells ls vs).drop (n*3),u.oneCell'=A':=fun u hu=>h1x.out u (Cz hu);have hs0:0+n<=4194304:=by omega
    have hs1:n+1<=4194304:=by omega
    have hs2:n+1+0<=4194304:=by omega
    go_wp2_with(first
     |(at_builtin
       refine bM underlying62 underlying62 hi0 hz0 hz1 hz2 rfl (by omega) (by omega) (.tmp 38) (.tmp 41) ?_ ?_ wr.heap.size (Z (Y ⟨wr.heap.size,0,O⟩) 0 0) 0 [] (Y ⟨o,0,O⟩) n n ((lcells ls vs).take (n*3)) ?_ ?_ oE hC1 h1a hs0 kE.size ?_;exact rfl;exact rfl;exact rfl;exact rfl;intro a5 c5 w5 own5 gr5 at5;simp only[Al,List.nil_append]at own5⊢;have k5:V' wr w5:=kE.grown gr5 kE.size (fun g hg=>(aH oE g hg).1);clear gr5 at5 hC1 oE kE lE;have kN:V' w5 (w5.alloc (M #[I J r,Z O 0 0,Z O 0 0] 227)):=(Aa _ _).alloc z' _;have k6:=k5.trans (kN.mono k5.size))
     |(at_builtin
       refine bM underlying62 underlying62 hi0 hz0 hz1 hz2 rfl (by omega) (by omega) (.tmp 43) (.tmp 46) ?_ ?_ wr.heap.size (Z a5 n c5) n ((lcells ls vs).take (n*3)) _ 1 1 [I J r,Z O 0 0,Z O 0 0] ?_ ?_ (aG own5 kN) (qH w5 r O 0 0 O 0 0 _) (nY r O 0 0 O 0 0) hs1 k6.size ?_;exact rfl;exact rfl;exact rfl;exact rfl;intro a7 c7 w7 own7 gr7 at7;have k7:V' wr w7:=k6.grown gr7 k6.size (fun g hg=>(aH own5 g hg).1);clear gr7 at7 own5 k6 kN k5;have hC2:=CellsAt.below (show CellsAt wr (Y ⟨o,0,O⟩) (0*3) ((lcells ls vs).drop (n*3))from⟨by rw[Ej,HOwn.out.row.1];omega,fun h0=>by omega⟩) k7)
     |(at_builtin
       refine bM underlying62 underlying62 hi0 hz0 hz1 hz2 rfl (by omega) (by omega) (.tmp 48) (.tmp 51) ?_ ?_ wr.heap.size (Z a7 (n+1) c7) (n+1) _ (Y ⟨o,0,O⟩) 0 0 ((lcells ls vs).drop (n*3)) ?_ ?_ own7 hC2 h1b hs2 k7.size ?_;exact rfl;exact rfl;exact rfl;exact rfl;intro a8 c8 w8 own8 gr8 at8;have k8:V' wr w8:=k7.grown gr8 k7.size (fun g hg=>(aH own7 g hg).1);have en:n+1+0=n+1:=by omega
       rw[en]at own8;have hat8:∀g,(Z a8 (n+1) c8).ownBlock=Y g->wr.heap.size<=g:=fun g hg=>(aH own8 g hg).1;have ownI:=hid (HOwn.out.ins hk (r:=r) (aQ own8 hB) (mI k8 _) (fun g hg=>.inr (hat8 g hg)));have bI:=hid (k8.mono hB);clear gr8 at8 own7 k7 hC2 own8 hat8 k8;simp only[en]))
    exact Ae (v:=.tuple #[Z a8 (n+1) c8,I J n]) (by simp[results,Tryz.results199,go_sem]) rfl ⟨_,_,_,by rw[HY.out.1],by rw[HY.out.2];exact⟨_,ownI.out⟩,bI.out⟩
   .skip
    obtain⟨oE,kE,lE⟩:=fN wr 227 3;have hkc:=HCap.out;have hC1:=((mE (aO HOwn.out.row) (k:=k*3) (by omega)).below kE)
    have h1a:∀u∈(lcells ls vs).take (k*3),u.oneCell'=A':=fun u hu=>h1x.out u (Cg hu);have h1b:∀u∈(lcells ls vs).drop (k*3),u.oneCell'=A':=fun u hu=>h1x.out u (Cz hu);have hs0:0+k<=4194304:=by omega
    have hs1:k+1<=4194304:=by omega
    have hs2:k+1+(n-k)<=4194304:=by omega
    go_wp2_with(first
     |(at_builtin
       refine bM underlying62 underlying62 hi0 hz0 hz1 hz2 rfl (by omega) (by omega) (.tmp 38) (.tmp 41) ?_ ?_ wr.heap.size (Z (Y ⟨wr.heap.size,0,O⟩) 0 0) 0 [] (Y ⟨o,0,O⟩) k cap ((lcells ls vs).take (k*3)) ?_ ?_ oE hC1 h1a hs0 kE.size ?_;exact rfl;exact rfl;exact rfl;exact rfl;intro a5 c5 w5 own5 gr5 at5;simp only[Al,List.nil_append]at own5⊢;have k5:V' wr w5:=kE.grown gr5 kE.size (fun g hg=>(aH oE g hg).1);clear gr5 at5 hC1 oE kE lE;have kN:V' w5 (w5.alloc (M #[I J r,Z O 0 0,Z O 0 0] 227)):=(Aa _ _).alloc z' _;have k6:=k5.trans (kN.mono k5.size))
     |(at_builtin
       refine bM underlying62 underlying62 hi0 hz0 hz1 hz2 rfl (by omega) (by omega) (.tmp 43) (.tmp 46) ?_ ?_ wr.heap.size (Z a5 k c5) k ((lcells ls vs).take (k*3)) _ 1 1 [I J r,Z O 0 0,Z O 0 0] ?_ ?_ (aG own5 kN) (qH w5 r O 0 0 O 0 0 _) (nY r O 0 0 O 0 0) hs1 k6.size ?_;exact rfl;exact rfl;exact rfl;exact rfl;intro a7 c7 w7 own7 gr7 at7;have k7:V' wr w7:=k6.grown gr7 k6.size (fun g hg=>(aH own5 g hg).1);clear gr7 at7 own5 k6 kN k5;have hC2:=CellsAt.below (by have:=tB (aO HOwn.out.row) (k:=k*3) (by omega);rw[Al,<-Nat.sub_mul]at this;exact this) k7)
     |(at_builtin
       refine bM underlying62 underlying62 hi0 hz0 hz1 hz2 rfl (by omega) (by omega) (.tmp 48) (.tmp 51) ?_ ?_ wr.heap.size (Z a7 (k+1) c7) (k+1) _ (Y ⟨o,k*3,O⟩) (n-k) (cap-k) ((lcells ls vs).drop (k*3)) ?_ ?_ own7 hC2 h1b hs2 k7.size ?_;exact rfl;exact rfl;exact rfl;exact rfl;intro a8 c8 w8 own8 gr8 at8;have k8:V' wr w8:=k7.grown gr8 k7.size (fun g hg=>(aH own7 g hg).1);have en:k+1+(n-k)=n+1:=by omega
       rw[en]at own8;have hat8:∀g,(Z a8 (n+1) c8).ownBlock=Y g->wr.heap.size<=g:=fun g hg=>(aH own8 g hg).1;have ownI:=hid (HOwn.out.ins hk (r:=r) (aQ own8 hB) (mI k8 _) (fun g hg=>.inr (hat8 g hg)));have bI:=hid (k8.mono hB);clear gr8 at8 own7 k7 hC2 own8 hat8 k8;simp only[en]))
    exact Ae (v:=.tuple #[Z a8 (n+1) c8,I J k]) (by simp[results,Tryz.results199,go_sem]) rfl ⟨_,_,_,by rw[HY.out.1],by rw[HY.out.2];exact⟨_,ownI.out⟩,bI.out⟩
section
open Go.Shelf
attribute [local go_sem] Oper.semAt_some
abbrev mkD(D:Nat):Deferred:={target:=.collected D,args:=#[]}
theorem bE3{fn:Func}{lo:Nat}(Good:World->Prop)(hgood:∀W,Good W->LeavesInM F n prog fn tmps R [] .returning W)
  (hput:∀W D,Good W->lo<=D->W.heap[D]? =Y (.deferred (Y []))->Good (W.putObj D (.deferred O))):
  ∀(Ds:List Nat) (W:World),Ds.Nodup->(∀D∈Ds,lo<=D/\W.heap[D]? =Y (.deferred (Y [])))->Good W->LeavesInM F n prog fn tmps R (Ds.map mkD) .returning W:=by
 intro Ds;induction Ds with
 |nil=>intro W _ _ hg;exact hgood W hg
 |cons D Ds ih=>intro W hnd hD hg;obtain⟨h1,h2⟩:=hD D (by simp);rw[Eb]at hnd;refine⟨by simp,.inl ⟨D,_,rfl,run_takeDeferred h2,ih _ hnd.2 (fun E hE=>?_) (hput W D hg h1 h2)⟩⟩;obtain⟨h3,h4⟩:=hD E (by simp[hE]);refine⟨h3,?_⟩;have hne:E≠D:=fun e=>hnd.1 (e▸hE);rw[Fi hne];exact h4
structure RpW(w:World)(p X':Nat)(st:Rp)(W:World):Prop where
 sl:Slt W p st.s
 c8:W.heap[X']? =Y (M #[.pointer (Y ⟨p,0,O⟩)] 87 (0,0))
 c9:W.heap[X'+1]? =Y (M #[X st.ok] 4 (0,0))
 cr:W.heap[w.heap.size]? =Y (M #[I J 0,X F',Z O 0 0] 49 (0,0))
 lp:w.heap.size<p
 lx:p<X'
 sz:X'+2<=W.heap.size
 bel:Below w.heap.size w W
theorem RpW.keep(h:RpW w p X' st A)(hg:A.grownBy B row)(hr:∀r,row=Y r->X'+2<=r):RpW w p X' st B:=by have h1:=h.lp;have h2:=h.lx;refine⟨h.sl.keep hg (fun e=>by have:=hr p e;omega),cV hg h.c8 (fun e=>by have:=hr _ e;omega),cV hg h.c9 (fun e=>by have:=hr _ e;omega),cV hg h.cr (fun e=>by have:=hr _ e;omega),h1,h2,Ak h.sz hg.size,h.bel.grown hg h.bel.size (fun k e=>by have:=hr k e;omega)⟩
theorem RpW.below(h:RpW w p X' st A)(hb:Below A.heap.size A B):RpW w p X' st B:=h.keep (aB6 hb O) (fun r e=>by cases e)
theorem RpW.ok(h:RpW w p X' st W)(b:Bool):RpW w p X' ⟨st.s,b⟩ (W.setCell ⟨X'+1,0,O⟩ (X b)):=by have h1:=h.lp;have h2:=h.lx;have hg:W.grownBy (W.setCell ⟨X'+1,0,O⟩ (X b)) (Y (X'+1)):=pJ;refine⟨h.sl.keep hg (by simp;omega),cV hg h.c8 (by simp),?_,cV hg h.cr (by simp;omega),h1,h2,by simpa using h.sz,h.bel.setCell (p:=⟨X'+1,0,O⟩) (by simp;omega) _⟩;have:=Ah (i:=0) h.c9 (X b);simpa using this
theorem RpW.did{S:Sl}(h:RpW w p X' st A)(hg:A.grownBy B (Y p))(hs:Slt B p S):RpW w p X' ⟨S,st.ok⟩ B:=by have h1:=h.lp;have h2:=h.lx;exact⟨hs,cV hg h.c8 (by simp;omega),cV hg h.c9 (by simp;omega),cV hg h.cr (by simp;omega),h1,h2,Ak h.sz hg.size,h.bel.grown hg h.bel.size (fun k e=>by cases e;omega)⟩
theorem RpW.drew(h:RpW w p X' st W):RpW w p X' st W.drew:=⟨h.sl,h.c8,h.c9,h.cr,h.lp,h.lx,h.sz,h.bel.drew⟩
theorem aY0{n₀ Bn Bm B:Nat}{W':World}(hg:W.grownBy W' row)(hn:n₀<=W.heap.size)(hr:∀r,row=Y r->n₀<=r/\r<B/\r≠Bn/\r≠Bm):KeepsFrom B W W'/\KpA n₀ Bn Bm W W':=
 ⟨KeepsFrom.of_grownBy hg (fun j e=>(hr j e).2.1),(Aa _ _).grown hg hn (fun k e=>(hr k e).1),fun _ hv=>aK hg hv (fun e=>(hr _ e).2.2.1 rfl),fun _ hv=>aK hg hv (fun e=>(hr _ e).2.2.2 rfl)⟩
theorem dO9:W.grownBy (W.setCell ⟨X'+1,0,O⟩ (X b)).drew (Y (X'+1)):=
 have g:W.grownBy (W.setCell ⟨X'+1,0,O⟩ (X b)) (Y (X'+1)):=pJ
 ⟨g.os,g.tape,g.output,g.size,g.block⟩
theorem dN9{u1 u2:Value}(h:W.heap[g]? =Y (M #[u0,u1,u2] t (0,0))):
  W.cell? ⟨g,0,O⟩=Y u0/\W.cell? ⟨g,1,O⟩=Y u1/\W.cell? ⟨g,2,O⟩=Y u2:=
 ⟨C' h,C' h,C' h⟩
theorem wS{id:Nat}{a:Act}(h:(Code.region id ops b).wpIn F n P (NoPanic Q) a w):(Code.region id ops b).wpIn F n P Q a w:=
 wpIn_mono h (fun e a w hq=>NoPanic.imp e a w hq)
theorem aO8(h:W.heap[g]? =Y (M #[u0] t (0,0))):W.cell? ⟨g,0,O⟩=Y u0:=C' h
theorem dQ9{u1 u2 u3 u4 u5:Value}(h:W.heap[g]? =Y (M #[u0,u1,u2,u3,u4,u5] t (0,0))):
  W.cell? ⟨g,1,O⟩=Y u1/\W.cell? ⟨g,1+1,O⟩=Y u2/\W.cell? ⟨g,1+2,O⟩=Y u3/\W.cell? ⟨g,1+3,O⟩=Y u4/\W.cell? ⟨g,5,O⟩=Y u5:=
 ⟨C' h,C' h,C' h,C' h,C' h⟩
set_option maxRecDepth 100000 in
set_option maxHeartbeats 8000000 in
theorem aT4(a:Option Addr)(n cap:Nat)(base:List Row)(a1:Option Addr)(n1 cap1:Nat)(ts:List Ac)(a2:Option Addr)(n2 cap2:Nat)(cs:List Int)(w:World)(h:CellsAt w a (n*3) (rcells base))(h1:AcAt w a1 n1 ts)(h2:CellsAt w a2 (n2*1) (icells cs))(hn:n<=1048576)(hn1:n1<=1048576)(hn2:n2<=1048576)(hF:fJ base ts cs=0):
  Calls prog 18 #[Z a n cap,Z a1 n1 cap1,Z a2 n2 cap2] w fun e w'=>∃a' m c',e=R' (U #[I J 0,X (eU ts cs ⟨cX base base.length,A'⟩ cs.length).ok,Z a' m c'])/\m<=100/\w'.ownsRow w.heap.size 86 3 (Z a' m c') m (rcells (Ch.rowsS (eU ts cs ⟨cX base base.length,A'⟩ cs.length).s))/\Below w.heap.size w w':=by
 obtain⟨hFa,hFb,hFc⟩:=lI hF;obtain⟨stE,HstE⟩:∃stE,Hid (eU ts cs ⟨cX base base.length,A'⟩ cs.length=stE):=⟨_,rfl⟩
 rw[HstE.out];obtain⟨S1,ok1⟩:=stE;obtain⟨sv,hV⟩:=h1.named;have HFz:=hid (jA hFa).2;have HL:=h.rlen;have HL1:=h1.len;have HL2:=h2.ilen;have hn4:n2<=40:=by have:=HL2.out;omega
 have hbF:Hid (base.length<=240/\∀k,k<base.length->(base.getD k Row.zero).fault=0):=(mV hFb).2;refine(Do (n:=6)).1 ?_;refine callsIn_of_wp_marks func18 rfl Cm ?_ rfl;simp only[ntmps18,List.size_toArray,List.length_cons,List.length_nil,Nat.reduceAdd,Nat.reduceSub,Array.replicate_succ,Array.replicate_zero,List.push_toArray,List.append_toArray,List.nil_append,List.cons_append];have b0:Below w.heap.size w (w.alloc (M #[I J 0,X F',Z O 0 0] 49)):=(Aa _ _).alloc z' _;gi_wp2_with fail
 refine⟨Cm,(Do.2 (aF1 a n cap base a1 n1 cap1 ts a2 n2 cap2 cs _ (h.below b0) (h1.below b0) (h2.below b0) hn hn1 hn2)).mono ?_⟩;rintro e w1⟨rfl,b1⟩;rw[hF];have hR1:w1.heap[w.heap.size]? =Y (M #[I J 0,X F',Z O 0 0] 49 (0,0)):=(b1.block w.heap.size (by simp)).trans (Ar w _);have hB1:Below w.heap.size w w1:=aZ b1;have hsz1:w.heap.size<w1.heap.size:=by have:=b1.size;simp at this;omega
 clear b1 b0;gi_wp2_with fail
 refine⟨Cm,(Do.2 (cY9 a n cap base _ (h.below hB1) (by have:=hbF.out.1;have:=HL.out;omega) hbF.out.2)).mono ?_⟩;rintro e w2⟨rfl,hS2,b2⟩;gi_wp2_with fail
 obtain⟨X',hX⟩:∃X',w2.heap.size=X':=⟨_,rfl⟩
 obtain⟨p,hp⟩:∃p,w1.heap.size=p:=⟨_,rfl⟩
 have hsz2:=b2.size;rw[hX,hp]at hsz2;replace b2:Below w1.heap.size w1 w2:=b2;rw[hp]at hsz1 hS2 b2;have hpX:p<X':=by have:=hS2.lt;omega
 obtain⟨st0,Hst0⟩:∃st0,Hid ((⟨cX base base.length,A'⟩:Rp)=st0):=⟨_,rfl⟩
 have I0:RpW w p X' st0 ((w2.alloc (M #[.pointer (Y ⟨p,0,O⟩)] 87)).alloc (M #[X A'] 4)):=by rw[<-Hst0.out];refine⟨(hS2.alloc _).alloc _,(cN (by simp[hX])).trans (aP hX.symm),aP (by simp[hX]),(cN (by simp;omega)).trans ((cN (by omega)).trans ((b2.block _ (by omega)).trans hR1)),hsz1,hpX,by simp[hX],?_⟩;exact((hB1.trans (b2.mono (by omega))).alloc (by omega) _).alloc (by simp;omega) _
 rw[hp,hX];clear hS2 b2 hR1 hB1 hsz2 hX hp;generalize((w2.alloc (M #[.pointer (Y ⟨p,0,O⟩)] 87)).alloc (M #[X A'] 4))=V at*;refine wpIn_loop (fun act W=>∃(k:Nat) (Ds:List Nat) (u11 u26 u27 u28 u29 u30 u31 u47:Value),k<=n2/\act={tmps:=#[Z a n cap,Z a1 n1 cap1,Z a2 n2 cap2,undef,undef,undef,.pointer (Y ⟨w.heap.size,0,O⟩),I J 0,.pointer (Y ⟨X',0,O⟩),.pointer (Y ⟨X'+1,0,O⟩),undef,u11,undef,Z a n cap,Z a1 n1 cap1,Z a2 n2 cap2,I J 0,I J 0,X F',undef,undef,Z a n cap,.pointer (Y ⟨p,0,O⟩),Z a2 n2 cap2,I J n2,I J (k:Int),u26,u27,u28,u29,u30,u31,undef,undef,undef,undef,undef,undef,undef,undef,undef,undef,undef,undef,undef,undef,undef,u47,undef,undef,undef,undef],defers:=Ds.map mkD}/\RpW w p X' (eU ts cs st0 k) W/\Ds.Nodup/\(∀D∈Ds,X'+2<=D/\W.heap[D]? =Y (.deferred (Y [])))) (fun act _=>n2-(intOf (act.tmps.getD 25 undef)).toNat) ?first ?rounds
 case first=>exact⟨0,[],undef,undef,undef,undef,undef,undef,undef,undef,Ad _,rfl,I0,List.nodup_nil,fun D hD=>by simp at hD⟩
 case rounds=>
  rintro act W⟨k,Ds,u11,u26,u27,u28,u29,u30,u31,u47,hk,rfl,hI,hnd,hDs⟩;by_cases hlt:k<n2
  .obtain⟨cb,coff,rfl,hc0⟩:=(h2.below hI.bel).int hlt;have hcbl:=aD hc0;have HStep:=hid (xN ts st0 (cs:=cs) (m:=k) (by have:=HL2.out;omega));obtain⟨st,Hst⟩:∃st,Hid (eU ts cs st0 k=st):=⟨_,rfl⟩
   rw[Hst.out]at hI HStep;generalize cs.getD k 0=c at*;gi_wp2_with fail
   refine⟨Cm,(Do.2 (aI1 a1 n1 cap1 c _)).mono ?_⟩;rintro e w3⟨rfl,rfl⟩;gi_wp2_with fail
   obtain⟨HH,hHH⟩:∃HH,W.heap.size=HH:=⟨_,rfl⟩
   have hsW:=hI.sz;have bK:Below W.heap.size W ((W.alloc (M #[Z a1 n1 cap1] 45)).alloc (M #[I J c] 2)):=((Aa _ _).alloc z' _).alloc (by simp) _;have hI3:=hI.below bK;have hc1:((W.alloc (M #[Z a1 n1 cap1] 45)).alloc (M #[I J c] 2)).cell? ⟨HH,0,O⟩=Y (Z a1 n1 cap1):=by
    refine Ai _ _ 0 #[Z a1 n1 cap1] 45 (0,0) ((cN ?_).trans (aP ?_))
    .simp[hHH]
    .exact hHH.symm
   have hc2:((W.alloc (M #[Z a1 n1 cap1] 45)).alloc (M #[I J c] 2)).cell? ⟨HH+1,0,O⟩=Y (I J c):=by refine Ai _ _ 0 #[I J c] 2 (0,0) (aP ?_);simp[hHH]
   have hD3:∀D∈Ds,X'+2<=D/\D<HH/\((W.alloc (M #[Z a1 n1 cap1] 45)).alloc (M #[I J c] 2)).heap[D]? =Y (.deferred (Y [])):=fun D hD=>by have hl:D<W.heap.size:=(Ab.1 (hDs D hD).2).1;exact⟨(hDs D hD).1,by omega,(bK.block D hl).trans (hDs D hD).2⟩
   have hs3:((W.alloc (M #[Z a1 n1 cap1] 45)).alloc (M #[I J c] 2)).heap.size=HH+2:=by simp[hHH]
   rw[hHH];rw[hHH]at hsW;clear hI hDs bK hc0 hcbl;generalize((W.alloc (M #[Z a1 n1 cap1] 45)).alloc (M #[I J c] 2))=W3 at*;have hlx:=hI3.lx;have hlp:=hI3.lp;refine wpIn_rangeFunc_ownH rfl (by decide) (gf:=86) (lb:=#[.pointer (Y ⟨HH,0,O⟩),.pointer (Y ⟨HH+1,0,O⟩)]) rfl Cm (enters_of func86 (by kernel_rfl) rfl)
    (aI2 5 HH (HH+1) (by decide) a1 n1 cap1 c sv ts w W3 hV hn1 hI3.bel hc1 hc2) KpA.t (KpA.b (by omega)) (Aa _ _) (fun _=>rfl)
    (fun pre W=>RpW w p X' (fQ ts st pre) W/\HH+2<=W.heap.size/\∀D∈Ds,X'+2<=D/\D<HH/\W.heap[D]? =Y (.deferred (Y [])))
    (fun _ _ _=>False)
    ?hI (fun _ _ _ _ _ hs _ _=>hs)
    ⟨hI3,by omega,hD3⟩
    (fun x a' W=>∃Bx,HH+2<=Bx/\W.heap[Bx]? =Y (M (acC ts sv x) 56 (0,0))/\a'={tmps:=#[Z a n cap,Z a1 n1 cap1,Z (Y ⟨cb,coff,O⟩) n2 cap2,undef,undef,undef,.pointer (Y ⟨w.heap.size,0,O⟩),I J 0,.pointer (Y ⟨X',0,O⟩),.pointer (Y ⟨X'+1,0,O⟩),undef,I J c,.pointer (Y ⟨Bx,0,O⟩),Z a n cap,Z a1 n1 cap1,Z (Y ⟨cb,coff,O⟩) n2 cap2,I J 0,I J 0,X F',undef,undef,Z a n cap,.pointer (Y ⟨p,0,O⟩),Z (Y ⟨cb,coff,O⟩) n2 cap2,I J n2,I J (k:Int),X A',.pointer (Y ⟨cb,coff+k,O⟩),I J c,Z a1 n1 cap1,I J c,.func (.func 86) #[] #[.pointer (Y ⟨HH,0,O⟩),.pointer (Y ⟨HH+1,0,O⟩)],U (acC ts sv x),undef,undef,undef,undef,undef,undef,undef,undef,undef,undef,undef,undef,undef,undef,u47,undef,undef,undef,undef],defers:=[]})
    ?hAx ?assign ?body ?done ?stop
   case hI=>rintro s A B row⟨hA,hz,hd⟩ hg hr;exact⟨hA.keep hg (fun r e=>by have:=(hr r e).1;omega),Ak hz hg.size,fun D hD=>⟨(hd D hD).1,(hd D hD).2.1,cV hg (hd D hD).2.2 (fun e=>by have:=(hr _ e).1;have:=(hd D hD).2.1;omega)⟩⟩
   case hAx=>rintro x a' s A B row⟨Bx,hle,hh,he⟩ hg hr;exact⟨Bx,hle,qX hh hg (fun r e=>(hr r e).2),he⟩
   case assign=>
    rintro l pre x W K⟨hA,hz,hd⟩ hK;obtain⟨ai,ni,ci,hsv,_,_⟩:=hV.2.2 x;simp only[dC8,hsv];have bA:Below W.heap.size W (W.alloc (M (acC ts sv x) 56)):=(Aa _ _).alloc z' _;have hsz:=hA.sz;rw[acC,hsv]at bA;gi_wp2
    refine hK _ _ ((KeepsOthers.alloc _ _).from _) ⟨(Aa _ _).alloc (by omega) _,fun v hv=>keep_cell bA hv,fun v hv=>keep_cell bA hv⟩ ⟨hA.below bA,by simp;omega,fun D hD=>⟨(hd D hD).1,(hd D hD).2.1,fF bA (hd D hD).2.2⟩⟩ ⟨W.heap.size,hz,by rw[acC,hsv];exact aP rfl,by simp only[acC,hsv]⟩
   case body=>
    rintro l pre x a' W hl⟨r,hr⟩ ⟨hA,hz,hd⟩ ⟨Bx,hBx,hX,rfl⟩ hlt;have HSn:=hid (zU ts st pre x);have HWk:=hid (aG3 HFz.out x);obtain⟨ai,ni,ci,hsv,hcan,hni⟩:=hV.2.2 x;simp only[acC,hsv]at hX⊢;have hmx:prog.follows .mixedOrders=A':=by kernel_rfl
    obtain⟨st1,Hst1⟩:∃st1,Hid (fQ ts st pre=st1):=⟨_,rfl⟩
    rw[Hst1.out]at hA HSn;obtain⟨S2,ok2⟩:=st1;obtain⟨y1,y2,y3,y4,y5⟩:=dQ9 hX;have x8:=aO8 hA.c8;have x9:=aO8 hA.c9;have f9:=Ax hA.c9 0;have hcan':=hcan.below hA.bel;have hS:=hA.sl;simp only at x9 hS;have hx8:=aD x8;have hx9:=aD x9;have hyB:=aD y1;generalize aM ts x=t at*;obtain⟨tx,kd,ka,kb,kv,an⟩:=t;simp only at y1 y2 y3 y4 y5 hcan hcan' HWk;clear hlt hl hr r;cases ok2 with
    |false=>
     gi_wp2
     gi_region_with_o (refine⟨Cm,?_⟩)
     all_goals
      have gm:W.grownBy W O:=aB6 (Aa _ _) O;have hA2:=(hA.ok (F')).drew;have gm2:W.grownBy (W.setCell ⟨X'+1,0,O⟩ (X (F'))).drew (Y (X'+1)):=dO9;have z1:=aK gm2 (y1) (by simp;omega);have z2:=aK gm2 (y2) (by simp;omega);have z3:=aK gm2 (y3) (by simp;omega);have z4:=aK gm2 (y4) (by simp;omega);have z8:=aO8 hA2.c8;have lz1:=aD z1;have lz8:=aD z8;have hsm:=gm.size;gi_wp2_with fail
      refine⟨Cm,(CallsIn.inRound l (Do.2 (cP8 p S2 tx kd ka kb kv an _ hA2.sl HWk.out))).mono ?_⟩;rintro e w5⟨rfl,hS5,g5⟩;have hA5:=hA2.did g5 hS5;have hs5:=g5.size;simp at hs5;gi_wp2
      have k1:=aY0 (n₀:=w.heap.size) (Bn:=HH) (Bm:=HH+1) (B:=HH+2) gm (by omega) (fun r e=>by cases e);have k2:=aY0 (n₀:=w.heap.size) (Bn:=HH) (Bm:=HH+1) (B:=HH+2) gm2 (by omega) (fun r e=>by cases e;omega);have k3:=aY0 (n₀:=w.heap.size) (Bn:=HH) (Bm:=HH+1) (B:=HH+2) g5 (by simp;omega) (fun r e=>by cases e;omega);refine⟨by rw[hs3];exact(k1.1.trans k2.1).trans k3.1,(k1.2.t k2.2).t k3.2,?_,by omega,fun D hD=>⟨(hd D hD).1,(hd D hD).2.1,?_⟩⟩
      .rw[HSn.out];exact hA5
      .have h1:=(hd D hD).1;exact cV g5 (cV gm2 (cV gm (hd D hD).2.2 (by simp)) (by simp;omega)) (by simp;omega)
    |true=>
     gi_wp2
     gi_region_with_o (refine⟨Cm,?_⟩;first|(gi_at_call 49;refine(CallsIn.inRound l (Do.2 (cZ6 p S2 kd ka kb kv W.drew hS))).mono ?_;rintro e w3⟨a3,m3,c3,rfl,hm3,o3,b3⟩;have b3':Below W.heap.size W w3:=⟨b3.os,b3.tape,b3.output,b3.size,b3.block⟩;have hcan3:=hcan'.below b3';have y53:=keep_cell b3' y5)|(gi_at_call 48;refine(CallsIn.inRound l (Do.2 (cA6 _ _ _ _ _ _ an (cP kd ka kb kv (Ch.rowsS S2)) _ hcan3 (aO o3) hni (by omega)))).mono ?_;rintro e w4⟨rfl,b4⟩;have b4':Below W.heap.size W w4:=b3'.trans (b4.mono b3'.size);have x94:=keep_cell b4' x9;have f94:=(b4'.frozen (p:=⟨X'+1,0,O⟩) hx9).trans f9;have hx94:=aD x94))
     all_goals
      have gm:W.grownBy w4 O:=aB6 b4' O;have hA4:=hA.below b4';have hA2:=hA4.ok (an==cP kd ka kb kv (Ch.rowsS S2));have gm2:w4.grownBy (w4.setCell ⟨X'+1,0,O⟩ (X (an==cP kd ka kb kv (Ch.rowsS S2)))) (Y (X'+1)):=pJ;have z1:=aK gm2 (keep_cell b4' y1) (by simp;omega);have z2:=aK gm2 (keep_cell b4' y2) (by simp;omega);have z3:=aK gm2 (keep_cell b4' y3) (by simp;omega);have z4:=aK gm2 (keep_cell b4' y4) (by simp;omega);have z8:=aO8 hA2.c8;have lz1:=aD z1;have lz8:=aD z8;have hsm:=gm.size;gi_wp2_with fail
      refine⟨Cm,(CallsIn.inRound l (Do.2 (cP8 p S2 tx kd ka kb kv an _ hA2.sl HWk.out))).mono ?_⟩;rintro e w5⟨rfl,hS5,g5⟩;have hA5:=hA2.did g5 hS5;have hs5:=g5.size;simp at hs5;gi_wp2
      have k1:=aY0 (n₀:=w.heap.size) (Bn:=HH) (Bm:=HH+1) (B:=HH+2) gm (by omega) (fun r e=>by cases e);have k2:=aY0 (n₀:=w.heap.size) (Bn:=HH) (Bm:=HH+1) (B:=HH+2) gm2 (by omega) (fun r e=>by cases e;omega);have k3:=aY0 (n₀:=w.heap.size) (Bn:=HH) (Bm:=HH+1) (B:=HH+2) g5 (by simp;omega) (fun r e=>by cases e;omega);refine⟨by rw[hs3];exact(k1.1.trans k2.1).trans k3.1,(k1.2.t k2.2).t k3.2,?_,by omega,fun D hD=>⟨(hd D hD).1,(hd D hD).2.1,?_⟩⟩
      .rw[HSn.out];exact hA5
      .have h1:=(hd D hD).1;exact cV g5 (cV gm2 (cV gm (hd D hD).2.2 (by simp)) (by simp;omega)) (by simp;omega)
   case done=>
    rintro D ys W hD rfl⟨hA,hz,hd⟩ hK;rw[HL1.out,<-HStep.out]at hA;gi_wp2
    refine⟨⟨k+1,D::Ds,_,_,_,_,_,_,_,_,by omega,rfl,hA,Eb.2 ⟨fun hm=>by have:=(hd D hm).2.1;omega,hnd⟩,fun E hE=>?_⟩,?_⟩
    .rcases Am.1 hE with rfl|hE
     .exact⟨by omega,hK⟩
     .exact⟨(hd E hE).1,(hd E hE).2.2⟩
    .simp[intOf];omega
   case stop=>rintro D c pre W _ _ h _;exact h.elim
  .obtain rfl:k=n2:=by omega
   rw[HL2.out]at hI;rw[<-Hst0.out,HstE.out]at hI;have x8:=aO8 hI.c8;have x9:=aO8 hI.c9;have hS:=hI.sl;simp only at x9 hS;have hx8:=aD x8;have hx9:=aD x9;have hlx:=hI.lx;have hlp:=hI.lp;have hsz:=hI.sz;have hmx:prog.follows .mixedOrders=A':=by kernel_rfl
   gi_wp2
   refine wS ?_;gi_region_with_o (refine⟨Cm,(Do.2 (sR p S1 W.drew hS)).mono ?_⟩;rintro e w3⟨a3,m3,c3,rfl,hm3,o3,b3⟩;have b3':Below W.heap.size W w3:=⟨b3.os,b3.tape,b3.output,b3.size,b3.block⟩;have hI3:=hI.below b3';have z9:=aO8 hI3.c9;have hR3:=hI3.cr;have fr0:=Ax hR3 0;have fr1:=Ax hR3 1;have fr2:=Ax hR3 2;obtain⟨q0,q1,q2⟩:=dN9 hR3)
   all_goals
    refine NoPanic.normal ?_;have o3:w3.ownsRow W.heap.size 86 3 (Z a3 m3 c3) m3 (rcells (Ch.rowsS S1)):=o3;have hF3:=Ah (i:=2) (Ah (i:=1) (Ah (i:=0) hR3 (I J 0)) (X ok1)) (Z a3 m3 c3);simp only[Bh,List.set_cons_zero,List.set_cons_succ]at hF3;have oF3:=Bd (a:=⟨w.heap.size,2,O⟩) (Bd (a:=⟨w.heap.size,1,O⟩) (Bd (a:=⟨w.heap.size,0,O⟩) o3 (by simp;omega) (I J 0)) (by simp;omega) (X ok1)) (by simp;omega) (Z a3 m3 c3);have bF3:=((hI3.bel.setCell (p:=⟨w.heap.size,0,O⟩) z' (I J 0)).setCell (p:=⟨w.heap.size,1,O⟩) z' (X ok1)).setCell (p:=⟨w.heap.size,2,O⟩) z' (Z a3 m3 c3);have hDF:∀D∈Ds,X'+2<=D/\(((w3.setCell ⟨w.heap.size,0,O⟩ (I J 0)).setCell ⟨w.heap.size,1,O⟩ (X ok1)).setCell ⟨w.heap.size,2,O⟩ (Z a3 m3 c3)).heap[D]? =Y (.deferred (Y [])):=fun D hD=>by have h1:=(hDs D hD).1;refine⟨h1,?_⟩;rw[Bu _ _ _ _ (by show D≠w.heap.size;omega),Bu _ _ _ _ (by show D≠w.heap.size;omega),Bu _ _ _ _ (by show D≠w.heap.size;omega)];exact fF b3' (hDs D hD).2
    gi_wp2
    refine bE3 (lo:=X'+2) (fun W'=>W'.heap[w.heap.size]? =Y (M #[I J 0,X ok1,Z a3 m3 c3] 49 (0,0))/\W'.ownsRow (w.heap.size+1) 86 3 (Z a3 m3 c3) m3 (rcells (Ch.rowsS S1))/\Below w.heap.size w W') ?_ ?_ Ds _ hnd hDF ⟨hF3,aQ oF3 (by omega),bF3⟩
    .rintro W'⟨g1,g2,g3⟩;obtain⟨v0,v1,v2⟩:=dN9 g1;refine⟨U #[I J 0,X ok1,Z a3 m3 c3],?_,a3,m3,c3,rfl,hm3,aQ g2 (by omega),g3⟩;simp[results,Tryz.results18,go_sem,v0,v1,v2]
    .rintro W' D⟨g1,g2,g3⟩ hD hK;have hne:w.heap.size≠D:=by omega
     exact⟨(Fi hne).trans g1,ownsRow_putObj g2 _ hK rfl,g3.trans (belowK_b (w:=w) z' W' D _ _ (by omega) hK rfl rfl)⟩
end
end Go.Proofs.YtpbbokalojdooaaGreat
