import Derived.Test.YtpbbokalojdooaaGreatWai
namespace Go.Proofs.YtpbbokalojdooaaGreat
open Go.RowKit Ch Go.Proofs.Tryz
set_option linter.unusedSimpArgs false
set_option linter.unusedVariables false
set_option maxRecDepth 20000
set_option maxHeartbeats 8000000
open Value renaming int->I,slice->Z,bool->X,agg->U
open IntKind renaming i64->J
open Option renaming none->O,some->Y
open Obj renaming cells->M
open Ending renaming returned->R'
open Bool renaming true->A',false->F'
variable {h:Hold} {m:Int} {nl:List (List Row)} {vs vs':List (Value×Value)} {es:List Hold} {zs:List Int} {ls:List Lock} {F:List Row} {xs:List Value} {l:Lock} {B b cap g k n o:Nat} {f:Nat×Nat} {a ai au:Option Addr} {row:Option Nat} {α:Type} {T t:TypeId} {c0 c1 c2 v v':Value} {p p':Value×Value} {W w w' w1 w2:World}
section
open Go.Maps
theorem aS5(F:List Row)(key:Int)(k:Nat)(hk:k<F.length)(hne:∀j,j<k->(F.getD j Row.zero).k≠key)(he:(F.getD k Row.zero).k=key):F.find? (fun r=>r.k==key)=Y (F.getD k Row.zero):=by
 induction F generalizing k with
 |nil=>simp at hk
 |cons q F ih=>
  cases k with
  |zero=>simp at he;simp[he]
  |succ k=>have h0:=hne 0 (by omega);simp at h0;rw[List.find?_cons_of_neg (by simpa using h0)];have:=ih k (by simpa using hk) (fun j hj=>by have:=hne (j+1) (by omega);simpa using this) (by simpa using he);simpa using this
theorem aG4(F:List Row)(key:Int)(hne:∀j,j<F.length->(F.getD j Row.zero).k≠key):F.find? (fun r=>r.k==key)=O:=by rw[List.find?_eq_none];intro r hr;obtain⟨j,hj,rfl⟩:=Co hr;have:=hne j hj;rw[lT _ _ _ hj]at this;simpa using this
def dB0(ls:List (List Row))(key:Int)(r:Row)(ok:Bool):Prop:=(ok=A'/\iL ls key=Y r)\/(ok=F'/\iL ls key=O)
def dB1(ls:List (List Row))(key:Int)(w:World)(e:Ending)(w':World):Prop:=
 ∃r ok,e=R' (.tuple #[U #[I J r.k,I J r.v,X r.g],X ok])/\dB0 ls key r ok/\V' w w'
theorem box3(b:Below (w.alloc (M #[c0,c1,c2] t)).heap.size (w.alloc (M #[c0,c1,c2] t)) w1):
  w1.cell? ⟨w.heap.size,0,O⟩=Y c0/\w1.cell? ⟨w.heap.size,1,O⟩=Y c1/\w1.cell? ⟨w.heap.size,2,O⟩=Y c2:=⟨aU b 0,aU b 1,aU b 2⟩
theorem tL(a:Option Addr)(n cap:Nat)(key:Int)(ls:List (List Row))(w:World)(h:LvAt w a n ls)(hs:aW ls<=1048576)(hg:∀k,k<n->(ls.getD k []).length≠0):
  Calls prog 212 #[Z a n cap,I J key] w (dB1 ls key w):=by
 have HL:=h.len;have hfl:=oJ hs ls.length;rw[Be]at hfl;have b0:V' w (w.alloc (M #[I J 0,I J 0,X F'] 86)):=(Aa _ _).alloc z' _;go_enter func212,ntmps212
 go_wp2_with fail
 refine(tN a n cap ls _ (h.below b0) hs hg).mono ?_;rintro e w1⟨a1,c1,rfl,own1,b1⟩;obtain⟨x0,x1,x2⟩:=box3 b1;have f0:=aJ3 b1 0;have f1:=aJ3 b1 1;have f2:=aJ3 b1 2;have hz:=aD x0;have b1':=b0.trans (b1.mono b0.size);have C1:=aO own1;have HD:Hid (∀F,F=ls.flatten->iL ls key=F.find? (fun r=>r.k==key)):=fun F hF=>by rw[hF];rfl
 generalize hF:ls.flatten=F at*;replace HD:=hid (HD.out F rfl);clear hF;generalize hnf:F.length=nf at*;go_wp2;go_loop [7] (fun i=>∃k:Nat,k<=nf/\i=I J k/\Hid (∀j,j<k->(F.getD j Row.zero).k≠key)) (fun i=>nf-(intOf i).toNat)
 case atStart=>exact⟨0,Ad _,rfl,fun j hj=>absurd hj (by omega)⟩
 case round=>
  obtain⟨k,hk,rfl,HP⟩:=hrel;by_cases hlt:k<nf
  .obtain⟨b,off,rfl,hc0,hc1,hc2⟩:=C1.row hlt;have HY:=hid (fun he=>aS5 F key k (by omega) HP.out he);have HP':Hid (¬(F.getD k Row.zero).k=key->∀j,j<k+1->(F.getD j Row.zero).k≠key):=by
    intro h0 j hj;by_cases hjk:j=k
    .rw[hjk];exact h0
    .exact HP.out j (by omega)
   generalize F.getD k Row.zero=r at*;obtain⟨rk,rv,rg⟩:=r;simp only at hc0 hc1 hc2 HY HP';by_cases he:rk=key
   .have hq:(rk==key)=A':=by simpa using he
    have HYe:=hid (HY.out he);clear he HY HP';go_wp2;exact Ae (v:=.tuple #[U #[I J rk,I J rv,X rg],X A']) (by simp[results,Tryz.results212,go_sem,x0,x1,x2]) rfl ⟨⟨rk,rv,rg⟩,A',rfl,.inl ⟨rfl,HD.out.trans HYe.out⟩,((b1'.setCell (p:=⟨w.heap.size,0,O⟩) z' _).setCell (p:=⟨w.heap.size,1,O⟩) z' _).setCell (p:=⟨w.heap.size,2,O⟩) z' _⟩
   .have hq:(rk==key)=F':=by simpa using he
    go_wp2;go_round
    case rel=>exact⟨k+1,by omega,by go_num,HP'.out he⟩
    case measure=>simp[intOf];omega
  .obtain rfl:k=nf:=by omega
   go_wp2;exact Ae (v:=.tuple #[U #[I J 0,I J 0,X F'],X F']) (by simp[results,Tryz.results212,go_sem,x0,x1,x2]) rfl ⟨⟨0,0,F'⟩,F',rfl,.inr ⟨rfl,HD.out.trans (aG4 F key (fun j hj=>HP.out j (by omega)))⟩,((b1'.setCell (p:=⟨w.heap.size,0,O⟩) z' _).setCell (p:=⟨w.heap.size,1,O⟩) z' _).setCell (p:=⟨w.heap.size,2,O⟩) z' _⟩
end
theorem bT1(l:List Row)(i:Nat):(rcells l).take (i*3)=rcells (l.take i):=by
 by_cases h:i<=l.length
 .conv=>lhs;rw[<-Ci i l,oM]
  exact List.take_left' (by rw[gG];simp;omega)
 .rw[Bb (by rw[gG];omega),Bb (by omega)]
theorem bS8(l:List Row)(i:Nat):(rcells l).drop (i*3)=rcells (l.drop i):=by
 by_cases h:i<=l.length
 .conv=>lhs;rw[<-Ci i l,oM]
  exact List.drop_left' (by rw[gG];simp;omega)
 .rw[Cb (by rw[gG];omega),Cb (by omega)];rfl
theorem bG1{m:Nat}(h:w.ownsRow B 86 3 v m (rcells F)):Hid (m=F.length):=by have h1:=h.1;rw[gG]at h1;show _=_;omega
theorem aP6(a:Option Addr)(n cap:Nat)(ls:List (List Row))(w:World)(h:LvAt w a n ls)(hs:aW ls<=1048576)(hg:∀k,k<n->(ls.getD k []).length≠0)(m:Nat)(hm:Hid (ls.flatten.length=m)):
  Calls prog 197 #[Z a n cap] w fun e w'=>∃a' c',e=R' (Z a' m c')/\w'.ownsRow w.heap.size 86 3 (Z a' m c') m (rcells ls.flatten)/\V' w w':=by
 have hm:=hm.out;subst hm;exact tN a n cap ls w h hs hg
def RefR(w:World)(v:Value)(ai:Option Addr)(ni:Nat)(l:List Row):Prop:=
 CellsAt w ai (ni*3) (rcells l)/\ni<=9223372036854775807/\∀b off,ai=Y ⟨b,off,O⟩->b<w.heap.size/\v.ownBlock≠Y b
def RefLv(w:World)(B:Nat)(v:Value)(n:Nat)(vs:List Value)(ls:List (List Row)):Prop:=
 ls.length=n/\w.ownsRow B 200 1 v n vs/\∀i,i<n->∃ai ni ci,vs[i]? =Y (Z ai ni ci)/\RefR w v ai ni (ls.getD i [])
theorem CellsAt.grown{m:Nat}(h:CellsAt w a m xs)(hg:w.grownBy w' row)(hne:∀b off,a=Y ⟨b,off,O⟩->row≠Y b):CellsAt w' a m xs:=by
 refine⟨h.1,fun hm=>?_⟩;obtain⟨b,off,ha,hc⟩:=h.2 hm;refine⟨b,off,ha,fun i hi=>?_⟩;have:=hc i hi;have hx:xs[i]? =Y (xs[i]'(by rw[h.1];exact hi)):=by simp
 rw[hx]at this⊢;exact aK hg this (hne b off ha)
theorem RefR.move{ni:Nat}{l:List Row}(h:RefR w v ai ni l)(hb:V' w W)(hg:W.grownBy w2 v.ownBlock)(hat:∀g,v'.ownBlock=Y g->v.ownBlock=Y g\/W.heap.size<=g):RefR w2 v' ai ni l:=by
 obtain⟨h1,h2,h3⟩:=h;refine⟨(h1.below hb).grown hg (fun b off e=>(h3 b off e).2),h2,fun b off e=>⟨?_,fun hv=>?_⟩⟩
 .have:=(h3 b off e).1;have:=hb.size;have:=hg.size;omega
 .have h4:=(h3 b off e).1;have:=hb.size;rcases hat b hv with h5|h5
  .exact(h3 b off e).2 h5
  .omega
theorem RefLv.at{vs:List Value}{ls:List (List Row)}(h:RefLv w B (Z a n cap) n vs ls):LvAt w a n ls:=by obtain⟨hl,ho,hi⟩:=h;have hc:=aO ho;rw[Fb]at hc;refine⟨hl,vs,hc,fun i hlt=>?_⟩;obtain⟨ai,ni,ci,h1,h2⟩:=hi i hlt;exact⟨ai,ni,ci,h1,h2.1,h2.2.1⟩
theorem RefLv.app{w0:World}{m:Nat}{vs:List Value}{ls:List (List Row)}(h:RefLv w0 B v n vs ls)(hb:V' w0 W)
  (hl:nl.length=xs.length) (hm:m=n+xs.length) (hx:∀i,i<xs.length->∃w1 ai ni ci,xs[i]? =Y (Z ai ni ci)/\V' w1 W/\RefR w1 v ai ni (nl.getD i []))
  (h2:w2.ownsRow B 200 1 v' m (vs++xs)) (hg:W.grownBy w2 v.ownBlock) (hat:∀g,v'.ownBlock=Y g->v.ownBlock=Y g\/W.heap.size<=g):RefLv w2 B v' m (vs++xs) (ls++nl):=by
 subst hm;obtain⟨hll,ho,hi⟩:=h;have hvl:vs.length=n:=by have:=ho.1;omega
 refine⟨by simp[hll,hl],h2,fun i hlt=>?_⟩;by_cases hin:i<n
 .obtain⟨ai,ni,ci,h1,h3⟩:=hi i hin;refine⟨ai,ni,ci,by rw[Av (by omega)];exact h1,?_⟩;have e:(ls++nl).getD i []=ls.getD i []:=by simp[List.getD,Av (show i<ls.length by omega)]
  rw[e];exact h3.move hb hg hat
 .obtain⟨w1,ai,ni,ci,h1,hb1,h3⟩:=hx (i-n) (by omega);refine⟨ai,ni,ci,by rw[Ay (by omega),hvl];exact h1,?_⟩;have e:(ls++nl).getD i []=nl.getD (i-n) []:=by simp only[List.getD];rw[Ay (by omega),hll]
  rw[e];exact h3.move hb1 hg hat
theorem CellsAt.cutL{l:List Row}(h:CellsAt w (Y ⟨g,o,O⟩) (n*3) (rcells l))(hk:k<=n):CellsAt w (Y ⟨g,o,O⟩) (k*3) (rcells (l.take k)):=by have hl:=h.rlen.out;refine⟨by rw[gG];simp;omega,fun hm=>?_⟩;obtain⟨b,off,ha,hc⟩:=h.2 (by omega);refine⟨b,off,ha,fun i hi=>?_⟩;rw[hc i (by omega),<-bT1,Ez,if_pos hi]
theorem CellsAt.cutR{l:List Row}(h:CellsAt w (Y ⟨g,o,O⟩) (n*3) (rcells l))(hk:k<=n):CellsAt w (Y ⟨g,o+k*3,O⟩) ((n-k)*3) (rcells (l.drop k)):=by have hl:=h.rlen.out;refine⟨by rw[gG];simp;omega,fun hm=>?_⟩;obtain⟨b,off,ha,hc⟩:=h.2 (by omega);simp only[Af,Ap,Cn]at ha;obtain⟨rfl,rfl⟩:=ha;refine⟨g,o+k*3,rfl,fun i hi=>?_⟩;rw[show o+k*3+i=o+(k*3+i)by omega,hc (k*3+i) (by omega),<-bS8,Df]
theorem cO4{x y:Value}{H:Nat}(hH:H=w.heap.size):CellsAt (w.alloc (M #[x,y] t)) (Y ⟨H,0,O⟩) 2 [x,y]:=by subst hH;refine⟨rfl,fun _=>⟨_,_,rfl,fun i hi=>?_⟩⟩;rw[Al];have:=Ai (w.alloc (M #[x,y] t)) _ i _ _ _ (Ar w _);rw[this];simp
theorem dL6(W:World)(B:Nat)(rk rv:Int)(rg:Bool)(hB:B<=W.heap.size):OwnLv ((W.alloc (M #[I J rk,I J rv,X rg] 86)).alloc (M #[Z (Y ⟨W.heap.size,0,O⟩) 1 1] 200)) B (Z (Y ⟨W.heap.size+1,0,O⟩) 1 1) 1 [[⟨rk,rv,rg⟩]]:=by
 have o1:(W.alloc (M #[I J rk,I J rv,X rg] 86)).ownsRow B 86 3 (Z (Y ⟨W.heap.size,0,O⟩) 1 1) 1 (rcells [⟨rk,rv,rg⟩]):=Cr W #[I J rk,I J rv,X rg] 1 hB (by unfold maxLen;omega) rfl;have o2:=Cr (base:=B) (e:=200) (size:=1) (W.alloc (M #[I J rk,I J rv,X rg] 86)) #[Z (Y ⟨W.heap.size,0,O⟩) 1 1] 1 (by simp;omega) (by unfold maxLen;omega) rfl;rw[show(W.alloc (M #[I J rk,I J rv,X rg] 86)).heap.size=W.heap.size+1 by simp]at o2;refine⟨rfl,[Z (Y ⟨W.heap.size,0,O⟩) 1 1],o2,fun i hi=>?_,?_,?_⟩
 .obtain rfl:i=0:=by omega
  exact⟨_,rfl,aG o1 ((Aa _ _).alloc z' _)⟩
 .intro i j x y g hij hx hy;have:j<1:=by
   rcases Cd j 1 with h|h
   .exact h
   .rw[Bk (by simpa using h)]at hy;cases hy
  omega
 .intro i x g hx hv;have:i=0:=by
   rcases Cd i 1 with h|h
   .omega
   .rw[Bk (by simpa using h)]at hx;cases hx
  subst this;simp at hx;subst hx;simp[Value.ownBlock]at hv⊢;omega
def dJ2(d s:Nat)(a:Option Addr)(n cap k:Nat)(zs:List Int)(w:World)(e:Ending)(w':World):Prop:=
 ∃r:Row,∃k',r.fault=0/\0<=r.k/\r.k<20/\e=R' (U #[I J r.k,I J r.v,X r.g])/\k'=k+d/\Src w' s a n cap k' zs/\w.grownBy w' (Y s)
theorem cJ3(h:w.heap[b]? =Y (M #[c0,c1,c2] t f)):w.cell? ⟨b,0,O⟩=Y c0/\w.cell? ⟨b,1,O⟩=Y c1/\w.cell? ⟨b,2,O⟩=Y c2:=
 ⟨C' h,C' h,C' h⟩
theorem dO8(h:w.heap[b]? =Y (M #[c0,c1,c2] t (0,0))):w.frozen? ⟨b,0,O⟩=F'/\w.frozen? ⟨b,1,O⟩=F'/\w.frozen? ⟨b,2,O⟩=F':=by simp[World.frozen?,h]
theorem cQ0(h:w.grownBy W row)(hb:w.heap.size<=g)(v0 v1 v2:Value):w.grownBy (((W.setCell ⟨g,0,O⟩ v0).setCell ⟨g,1,O⟩ v1).setCell ⟨g,2,O⟩ v2) row:=rB (rB (rB h hb) hb) hb
theorem Src.set3{s:Nat}(h:Src w s a n cap k zs)(hb:s<g)(v0 v1 v2:Value):Src (((w.setCell ⟨g,0,O⟩ v0).setCell ⟨g,1,O⟩ v1).setCell ⟨g,2,O⟩ v2) s a n cap k zs:=((h.set hb).set hb).set hb
theorem aJ9{k v:Int}(h0:0<=k)(h1:k<20)(h2:0<=v)(h3:v<50):Row.fault ⟨k,v,F'⟩=0:=by
 have a:inB k 0 99=A':=by unfold inB;simp;omega
 have b:inB v 0 9999=A':=by unfold inB;simp;omega
 simp[Row.fault,dQ,a,b]
theorem aJ8{k:Int}(h0:0<=k)(h1:k<20):Row.fault ⟨k,0,A'⟩=0:=by
 have a:inB k 0 99=A':=by unfold inB;simp;omega
 have b:inB 0 0 9999=A':=by decide
 simp[Row.fault,dQ,a,b]
theorem cW4(s:Nat)(a:Option Addr)(n cap k:Nat)(zs:List Int)(w:World)(h:Src w s a n cap k zs)(hb:IsB zs)(hn:n<=1048580)(hk:k<=900):
  Calls prog 71 #[.pointer (Y ⟨s,0,O⟩)] w (dJ2 3 s a n cap k zs w):=by
 have hsl:=h.lt;go_enter func71,ntmps71
 go_wp2_with fail
 refine(eD 20 s a n cap k zs _ h.new hb hn (by omega) (by omega) (by omega)).mono ?_;rintro e w1⟨⟨x,x0,x1,rfl⟩,s1,g1⟩;have hR:w1.heap[w.heap.size]? =Y (M #[I J 0,I J 0,X F'] 86 (0,0)):=bS g1 (Ar w _) (by simp;omega);have G:=kJ g1;go_wp2_with fail
 refine(eD 50 s a n cap (k+1) zs _ s1 hb hn (by omega) (by omega) (by omega)).mono ?_;rintro e w2⟨⟨v,v0,v1,rfl⟩,s2,g2⟩;have hR:=bS g2 hR (by simp;omega);have G:=cC G g2;have hz2:=G.size;have hRX:w.heap.size<w2.heap.size:=(Ab.1 hR).1;clear s1 g1 g2;go_wp2_with fail
 refine(mF 5 s a n cap (k+1+1) zs _ s2.new hb hn (by omega) (by omega) (by omega)).mono ?_;rintro e w3⟨⟨c,rfl⟩,s3,g3⟩;have hX:w3.heap[w2.heap.size]? =Y (M #[I J x,I J v,X F'] 86 (0,0)):=bS g3 (Ar w2 _) (by simp;omega);have hR:=bS g3 ((Ex w2 _ _ hRX).trans hR) (by simp;omega);have G:=cC G (kJ g3);obtain⟨p0,p1,p2⟩:=cJ3 hX;obtain⟨e0,e1,e2⟩:=dO8 hX;obtain⟨r0,r1,r2⟩:=cJ3 hR;obtain⟨f0,f1,f2⟩:=dO8 hR;have lX:=aD p0;have lR:=aD r0;generalize w2.heap.size=X' at*;clear g3 s2 hX;cases c with
 |false=>go_wp2;exact Ae (v:=U #[I J x,I J v,X F']) (by simp[results,Tryz.results71,go_sem,r0,r1,r2]) rfl ⟨⟨x,v,F'⟩,k+1+1+1,aJ9 x0 x1 v0 v1,x0,x1,rfl,rfl,s3.set3 (by omega) _ _ _,cQ0 G z' _ _ _⟩
 |true=>go_wp2;exact Ae (v:=U #[I J x,I J 0,X A']) (by simp[results,Tryz.results71,go_sem,r0,r1,r2]) rfl ⟨⟨x,0,A'⟩,k+1+1+1,aJ8 x0 x1,x0,x1,rfl,rfl,Src.set3 ((s3.set (by omega)).set (by omega)) (by omega) _ _ _,cQ0 (rB (rB G (by omega)) (by omega)) z' _ _ _⟩
theorem bZ5(w:World):(Instr.build 131 #[]).run prog w= .ok (U (slA (fun _=>O))) w:=by kernel_rfl
theorem aP0{r:Row}(h:r.fault=0):0<=r.k/\r.k<=99:=by have:=qU h;unfold Row.fits at this;omega
theorem cY9(a:Option Addr)(n cap:Nat)(rs:List Row)(w:World)(h:CellsAt w a (n*3) (rcells rs))(hn:n<=240)(hf:∀k,k<rs.length->(rs.getD k Row.zero).fault=0):
  Calls prog 40 #[Z a n cap] w fun e w'=>e=R' (.pointer (Y ⟨w.heap.size,0,O⟩))/\Slt w' w.heap.size (cX rs rs.length)/\V' w w':=by
 have HL:=h.rlen;have HF:=hid hf;clear hf;have hbd:=bZ5;have h0:Slt (w.alloc (M (slA (fun _=>O)) 131)) w.heap.size (cX rs 0):=Ar w _;go_enter func40,ntmps40
 go_wp2;go_loopw [10] (fun i wr=>∃k:Nat,k<=n/\i=I J k/\Slt wr w.heap.size (cX rs k)/\V' w wr) (fun i _=>n-(intOf i).toNat)
 case atStart=>exact⟨0,Ad _,rfl,h0,(Aa _ _).alloc z' _⟩
 case round=>
  clear h0 hbd;obtain⟨k,hk,rfl,hS,hB⟩:=hrel;by_cases hlt:k<n
  .have hkl:k<rs.length:=by have:=HL.out;omega
   have HK:=hid (aP0 (HF.out k hkl));have HT:=hid (aV9 (rs:=rs) hkl);obtain⟨b,off,rfl,q0,q1,q2⟩:=(h.below hB).row hlt;have hbl:=aD q0;generalize rs.getD k Row.zero=r at*;obtain⟨rk,rv,rg⟩:=r;simp only at q0 q1 q2 HT HK;have hkk:0<=rk/\rk<=99:=HK.out;have IS:=fun W hW=>cS2 w.heap.size rk A' rv (cX rs k) W hW hkk;have hS1:=hS.alloc (M #[I J rk,I J rv,X rg] 86);have b1:=hB.alloc hB.size (M #[I J rk,I J rv,X rg] 86);go_wp2_with fail
   refine(IS _ hS1).mono ?_;rintro e w1⟨rfl,hS2,g2⟩;have b2:=b1.grown g2 b1.size (fun j hj=>by cases hj;exact z');clear IS hS1 g2 b1;go_wp2;go_roundw;case rel=>exact⟨k+1,by omega,by go_num,by rw[HT.out];exact hS2,b2⟩
   case measure=>simp[intOf];omega
  .obtain rfl:k=n:=by omega
   have HWF:Hid (k=rs.length):=HL.out;rw[HWF.out]at hS;go_wp2;go_ret;exact⟨rfl,hS,hB⟩
theorem vF(a b:List Row):rcells (a++b)=rcells a++rcells b:=by simp[rcells]
theorem vG(zs:List Row):∀u∈rcells zs,u.oneCell'=A':=by intro u hu;simp only[rcells,Cf]at hu;obtain⟨r,_,hu⟩:=hu;simp at hu;rcases hu with rfl|rfl|rfl<;>rfl
theorem bQ9(w:World)(k v:Int)(g:Bool)(t:TypeId):CellsAt (w.alloc (M #[I J k,I J v,X g] t)) (Y ⟨w.heap.size,0,O⟩) (1*3) (rcells [⟨k,v,g⟩]):=by refine⟨rfl,fun _=>⟨_,_,rfl,fun i hi=>?_⟩⟩;rw[Al];have:=Ai (w.alloc (M #[I J k,I J v,X g] t)) _ i _ _ _ (Ar w _);rw[this];simp[rcells]
theorem sR(p:Nat)(S:Sl)(w:World)(h:Slt w p S):
  Calls prog 43 #[.pointer (Y ⟨p,0,O⟩)] w fun e w'=>∃a' m c',e=R' (Z a' m c')/\m<=100/\w'.ownsRow w.heap.size 86 3 (Z a' m c') m (rcells (Ch.rowsS S))/\V' w w':=by
 obtain⟨i0,hi0,hz0,hz1,hz2⟩:=Bz Tryz.info86;have HR:Hid (Ch.rowsS S=gY S 100):=rfl;rw[HR.out];go_enter func43,ntmps43
 go_wp2;go_loopw [3,8] (fun q i wr=>∃(k m:Nat) (a':Option Addr) (c':Nat),k<=100/\m<=k/\i=I J k/\q=Z a' m c'/\wr.ownsRow w.heap.size 86 3 (Z a' m c') m (rcells (gY S k))/\Slt wr p S/\V' w wr) (fun _ i _=>100-(intOf i).toNat)
 case atStart=>exact⟨0,0,O,0,Ad _,z',rfl,rfl,Aw _ _ _ _,h,Aa _ _⟩
 case round=>
  obtain⟨k,m,a',c',hk,hmk,rfl,rfl,own,hS,hB⟩:=hrel;by_cases hlt:k<100
  .have HY:=hid (fun v hv=>bK5 (S:=S) (m:=k) (v:=v) hv);have HN:=hid (fun hv=>bX2 (S:=S) (m:=k) hv);obtain⟨d0,d1⟩:=hS.cell2 hlt;have hpl:=hS.lt;generalize S (k:Int)=o at*;generalize gY S k=zs at*;have i1:(k:Int)<100:=by omega
   cases o with
   |none=>
    simp only[Option.isSome_none,Option.getD_none]at d0 d1;have own2:=aG own ((Aa _ _).alloc z' (M #[X F',I J 0] 129));have hS2:=hS.alloc (M #[X F',I J 0] 129);have b2:=(hB.alloc hB.size (M #[X F',I J 0] 129)).drew;have HQ:=hid (HN.out rfl);clear HY HN;go_wp2;go_region
    go_wp2;go_roundw;case rel=>exact⟨k+1,m,a',c',by omega,by omega,by go_num,rfl,by rw[HQ.out];exact own2,hS2,b2⟩
    case measure=>simp[intOf];omega
   |some v=>
    simp only[Option.isSome_some,Option.getD_some]at d0 d1;have own2:(wr.alloc (M #[X A',I J v] 129)).drew.ownsRow w.heap.size 86 3 (Z a' m c') m (rcells zs):=aG own ((Aa _ wr).alloc z' (M #[X A',I J v] 129)).drew;have hS2:Slt (wr.alloc (M #[X A',I J v] 129)).drew p S:=hS.below ((Aa _ wr).alloc z' (M #[X A',I J v] 129)).drew;have b2:=(hB.alloc hB.size (M #[X A',I J v] 129)).drew;have HQ:=hid (HY.out v rfl);clear HY HN;have kQ:Below (wr.alloc (M #[X A',I J v] 129)).drew.heap.size (wr.alloc (M #[X A',I J v] 129)).drew ((wr.alloc (M #[X A',I J v] 129)).drew.alloc (M #[I J k,I J v,X F'] 86)):=(Aa _ _).alloc z' _;have own3:=aG own2 kQ;have hS3:=hS2.below kQ;have b3:=b2.trans (kQ.mono b2.size);have hC3:=bQ9 (wr.alloc (M #[X A',I J v] 129)).drew k v F' 86;rw[show(wr.alloc (M #[X A',I J v] 129)).drew.heap.size=wr.heap.size+1 by simp]at hC3;have hb3:w.heap.size<=((wr.alloc (M #[X A',I J v] 129)).drew.alloc (M #[I J k,I J v,X F'] 86)).heap.size:=by have:=hB.size;simp;omega
    have hpw:p<w.heap.size:=h.lt;go_wp2;go_region
    go_wp2_with(at_builtin;go_must (refine bM underlying24 underlying24 hi0 hz0 hz1 hz2 rfl (by omega) (by omega) (.tmp 16) (.tmp 21) ?_ ?_ w.heap.size (Z a' m c') m (rcells zs) _ 1 1 (rcells [⟨k,v,F'⟩]) ?_ ?_ own3 hC3 (vG _) (by omega) hb3 ?_;exact rfl;exact rfl;exact rfl;exact rfl;intro a5 c5 w5 own5 gr5 at5;go_frame))
    go_roundw;case rel=>rw[<-vF,<-HQ.out]at own5;exact⟨k+1,m+1,a5,c5,by omega,by omega,by go_num,rfl,own5,hS3.keep gr5 (tG own3 hpw),b3.grown gr5 b3.size (fun g hg=>(aH own3 g hg).1)⟩
    case measure=>simp[intOf];omega
  .obtain rfl:k=100:=by omega
   go_wp2;go_ret;exact⟨a',m,c',rfl,by omega,own,hB⟩
def vC(f:Int->Int)(x wn b:Int)(e:Int×Int):Int:=if e.1=x/\f e.2=wn/\(b=0\/e.2<b)then e.2 else b
def nH(f:Int->Int)(t s:Int)(e:Int×Int):Int:=if e.1=t/\0<=f e.2/\(s<0\/f e.2<s)then f e.2 else s
theorem zI(h:k<es.length)(F:α->Int×Int->α)(b:α):((prE es).take (k+1)).foldl F b=F (((prE es).take k).foldl F b) ((es.getD k Hold.zero).t,(es.getD k Hold.zero).m):=by
 have hl:k<(prE es).length:=by simp[prE];exact h
 rw[bZ (prE es) (0,0) k hl,Em];have:(prE es).getD k (0,0)=((es.getD k Hold.zero).t,(es.getD k Hold.zero).m):=by simp[prE,List.getD,h]
 rw[this];rfl
theorem cG8(a:Option Addr)(n cap:Nat)(es:List Hold)(x wn:Int)(g c:Nat)(f:Int->Int)(w:World)(h:CellsAt w a (n*2) (hcells es))(hn:n<=400)(hin:∀k,k<n->1<=(es.getD k Hold.zero).t/\(es.getD k Hold.zero).t<=999/\1<=(es.getD k Hold.zero).m/\(es.getD k Hold.zero).m<=999)(hF:CellsAt w (Y ⟨g,0,O⟩) (1000*1) (icells (lst f))):
  Calls prog 204 #[Z a n cap,I J x,Z (Y ⟨g,0,O⟩) 1000 c,I J wn] w fun e w'=>e=R' (I J (jJ (prE es) f x wn))/\w'=w:=by
 have HL:=h.hlen;have HE:Hid (jJ (prE es) f x wn=((prE es).take n).foldl (vC f x wn) 0):=by show _=_;rw[Bb (by simp[prE];have:=HL.out;omega)];rfl
 go_enter func204,ntmps204
 go_wp2;go_loop [9,10] (fun q i=>∃k:Nat,k<=n/\i=I J k/\q=I J (((prE es).take k).foldl (vC f x wn) 0)) (fun _ i=>n-(intOf i).toNat)
 case atStart=>exact⟨0,Ad _,rfl,rfl⟩
 case round=>
  obtain⟨k,hk,rfl,rfl⟩:=hrel;by_cases hlt:k<n
  .have hkl:k<es.length:=by have:=HL.out;omega
   have HT:=hid (zI hkl (vC f x wn) 0);have hb4:=hin k hlt;obtain⟨b,off,rfl,q0,q1⟩:=h.hold hlt;have hbl:=aD q0;generalize es.getD k Hold.zero=ed at*;obtain⟨rt,rm⟩:=ed;simp only at q0 q1 HT hb4;obtain⟨xm,rfl⟩:∃y:Nat,rm=(y:Int):=⟨rm.toNat,by omega⟩
   have hxm:xm<1000:=by omega
   obtain⟨b1,o1,e1,m0⟩:=hF.int (k:=xm) (by omega);cases e1;rw[Al,tE f hxm]at m0;have hgz:=aD m0;generalize((prE es).take k).foldl (vC f x wn) 0=B at*;have HS:Hid (vC f x wn B (rt,(xm:Int))=if rt=x/\f xm=wn/\(B=0\/(xm:Int)<B)then(xm:Int)else B):=rfl;generalize f xm=fm at*;clear hb4;by_cases h1:rt=x
   .have d1:(rt==x)=A':=by simpa using h1
    by_cases h2:fm=wn
    .have d2:(fm==wn)=A':=by simpa using h2
     by_cases h3:B=0
     .have d3:(B==0)=A':=by simpa using h3
      rw[if_pos ⟨h1,h2,.inl h3⟩]at HS;clear h1 h2 h3;go_wp2;go_round
      case rel=>exact⟨k+1,by omega,by go_num,by rw[HT.out,HS.out]⟩
      case measure=>simp[intOf];omega
     .have d3:(B==0)=F':=by simpa using h3
      by_cases h4:(xm:Int)<B
      .rw[if_pos ⟨h1,h2,.inr h4⟩]at HS;clear h1 h2 h3;go_wp2;go_round
       case rel=>exact⟨k+1,by omega,by go_num,by rw[HT.out,HS.out]⟩
       case measure=>simp[intOf];omega
      .rw[if_neg (fun hh=>hh.2.2.elim h3 h4)]at HS;clear h1 h2 h3;go_wp2;go_round
       case rel=>exact⟨k+1,by omega,by go_num,by rw[HT.out,HS.out]⟩
       case measure=>simp[intOf];omega
    .have d2:(fm==wn)=F':=by simpa using h2
     rw[if_neg (fun hh=>h2 hh.2.1)]at HS;clear h1 h2;go_wp2;go_round
     case rel=>exact⟨k+1,by omega,by go_num,by rw[HT.out,HS.out]⟩
     case measure=>simp[intOf];omega
   .have d1:(rt==x)=F':=by simpa using h1
    rw[if_neg (fun hh=>h1 hh.1)]at HS;clear h1;go_wp2;go_round
    case rel=>exact⟨k+1,by omega,by go_num,by rw[HT.out,HS.out]⟩
    case measure=>simp[intOf];omega
  .obtain rfl:k=n:=by omega
   rw[<-HE.out];go_wp2;go_ret;exact⟨rfl,rfl⟩
def cQ2(es:List Hold)(e:Hold):Bool:=decide (0<(fP (prE es) e.t).length)
def cQ3(es:List Hold):Bool:=eZ es==0&&es.any (cQ2 es)
theorem bM5(h:eZ es=0):es.length<=400/\∀k,k<es.length->1<=(es.getD k Hold.zero).t/\(es.getD k Hold.zero).t<=999/\1<=(es.getD k Hold.zero).m/\(es.getD k Hold.zero).m<=999:=by
 unfold eZ at h;by_cases h1:400<es.length
 .rw[if_pos h1]at h;cases h
 rw[if_neg h1]at h;refine⟨by omega,fun k hk=>?_⟩;cases h2:es.any mC
 .have hb:mC (es.getD k Hold.zero)=F':=by
   cases hx:mC (es.getD k Hold.zero)
   .rfl
   .rw[bY2 hk hx]at h2;cases h2
  unfold mC at hb;simp only[Bool.or_eq_false_iff,Bool.not_eq_false']at hb;have a1:=(nW _ _ _).1 hb.1.1;have a2:=(nW _ _ _).1 hb.1.2;exact⟨a1.1,a1.2,a2.1,a2.2⟩
 .rw[h2]at h;cases h
theorem dF0{ls':List Lock}(h:ls.map (·.r)=ls'.map (·.r)):lcells ls vs=lcells ls' vs:=by
 induction ls generalizing ls' vs with
 |nil=>
  cases ls' with
  |nil=>rfl
  |cons l ls'=>simp at h
 |cons l ls ih=>
  cases ls' with
  |nil=>simp at h
  |cons l' ls'=>
   simp at h;cases vs with
   |nil=>rfl
   |cons v vs=>have:=ih (ls':=ls') (vs:=vs) h.2;simp only[lcells,List.zip_cons_cons,Cc]at*;rw[this,h.1]
theorem cX5(ls:List Lock)(k:Nat)(l:Lock)(h:l.r=(aI ls k).r):(ls.set k l).map (·.r)=ls.map (·.r):=by
 apply Ga;intro i;simp only[List.getElem?_map,Gb];by_cases hik:k=i
 .subst hik;rw[if_pos rfl];by_cases hk:k<ls.length
  .rw[if_pos hk];unfold aI at h;simp[List.getD,hk]at h;simp[hk,h]
  .rw[if_neg hk];simp[Bk (Nat.le_of_not_lt hk)]
 .rw[if_neg hik]
theorem aA4{l:List α}{v:α}(h:l[k]? =Y v):l.set k v=l:=by
 have hk:k<l.length:=(Di.1 h).1;apply Ga;intro i;by_cases e:k=i
 .subst e;rw[Fk hk,h]
 .rw[Ea e]
theorem OwnK.turn(h:OwnK T w B v n ls vs)(hp:vs[k]? =Y p)(hg:w.grownBy w' row)(hrow:∀g,row=Y g->g∈blks p)(l:Lock)(hr:l.r=(aI ls k).r)
  (o1:w'.ownsRow B 232 2 p.1 l.hs.length (hcells l.hs)) (o2:w'.ownsRow B 232 2 p.2 l.qs.length (hcells l.qs)):OwnK T w' B v n (ls.set k l) vs:=by
 have hk:=h.in hp;have hkl:k<ls.length:=by rw[h.len];exact hk
 refine⟨by simpa using h.len,h.vlen,?_,fun i q hq=>?_,fun i q hq=>?_,h.apart⟩
 .rw[dF0 (cX5 ls k l hr)];exact aN h.row hg fun g hgv e=>sG h.apart hp hgv (hrow g e)
 .rw[yH ls k i l hkl];by_cases hik:k=i
  .subst hik;rw[hp]at hq;cases hq;rw[if_pos rfl];exact o1
  .rw[if_neg hik];refine aN (h.hs i q hq) hg fun g hgq e=>?_;exact vY h.apart (fun e=>hik e.symm) hq hp (by simp[blks,hgq]) (hrow g e)
 .rw[yH ls k i l hkl];by_cases hik:k=i
  .subst hik;rw[hp]at hq;cases hq;rw[if_pos rfl];exact o2
  .rw[if_neg hik];refine aN (h.qs i q hq) hg fun g hgq e=>?_;exact vY h.apart (fun e=>hik e.symm) hq hp (by simp[blks,hgq]) (hrow g e)
theorem OwnK.rowAt(h:OwnK T w B (Z a n cap) n ls vs)(hk:k<n):∃o,a=Y ⟨o,0,O⟩:=by
 rcases h.row.2 with⟨hv,h0⟩|⟨g,cp,cur,hv,_⟩
 .omega
 .simp only[Bg,Es]at hv;exact⟨g,hv.1⟩
theorem qH(w:World)(r:Int)(ah:Option Addr)(nh ch:Nat)(aq:Option Addr)(nq cq:Nat)(t:TypeId):CellsAt (w.alloc (M #[I J r,Z ah nh ch,Z aq nq cq] t)) (Y ⟨w.heap.size,0,O⟩) (1*3) [I J r,Z ah nh ch,Z aq nq cq]:=by refine⟨rfl,fun _=>⟨_,_,rfl,fun i hi=>?_⟩⟩;rw[Al];have:=Ai (w.alloc (M #[I J r,Z ah nh ch,Z aq nq cq] t)) _ i _ _ _ (Ar w _);rw[this];simp
theorem nY(r:Int)(ah:Option Addr)(nh ch:Nat)(aq:Option Addr)(nq cq:Nat):∀u∈[I J r,Z ah nh ch,Z aq nq cq],u.oneCell'=A':=by intro u hu;simp at hu;rcases hu with rfl|rfl|rfl<;>rfl
def iF(l:Lock):Bool:=!(l.hs.length+l.qs.length==0)
structure Moved(v:Value)(vs vs':List (Value×Value))(w w':World):Prop where
 os:w'.os=w.os
 tape:w'.tape=w.tape
 output:w'.output=w.output
 size:w.heap.size<=w'.heap.size
 block:∀g,g<w.heap.size->g∉v.ownBlock.toList++vs.flatMap blks->w'.heap[g]? =w.heap[g]?
 new:∀g∈vs'.flatMap blks,g∈vs.flatMap blks\/w.heap.size<=g
theorem Moved.below(h:Moved v vs vs' w w')(own:OwnK T w B v n ls vs)(hB:B<=w.heap.size):Below B w w':=by
 refine⟨h.os,h.tape,h.output,h.size,fun g hg=>h.block g (by omega) fun hm=>?_⟩;rw[Aj]at hm;rcases hm with hm|hm
 .have:=(aH own.row g (by simpa using hm)).1;omega
 .obtain⟨i,q,hq,hgq⟩:=qC hm;have:=(own.bd hq hgq).1;omega
theorem aE5(hp:vs[k]? =Y p)(hvs:vs'=vs.set k p')(gr:w.grownBy w' row)(hrow:∀g,row=Y g->g∈v.ownBlock.toList++blks p)(hf:∀g∈blks p',g∈blks p\/w.heap.size<=g):Moved v vs vs' w w':=by
 have hin:∀g∈blks p,g∈vs.flatMap blks:=fun g hg=>Cf.2 ⟨p,Dv hp,hg⟩;refine⟨gr.os,gr.tape,gr.output,gr.size,fun g hg hn=>gr.block g hg fun e=>?_,fun g hg=>?_⟩
 .have:=hrow g e.symm;rw[Aj]at this hn;rcases this with h1|h1
  .exact hn (.inl h1)
  .exact hn (.inr (hin g h1))
 .subst hvs;obtain⟨i,q,hq,hgq⟩:=qC hg;by_cases hik:k=i
  .subst hik;have hk:k<vs.length:=(Di.1 hp).1;rw[Fk hk]at hq;cases hq;rcases hf g hgq with h1|h1
   .exact .inl (hin g h1)
   .exact .inr h1
  .rw[Ea hik]at hq;exact .inl (Cf.2 ⟨q,Dv hq,hgq⟩)
theorem OwnK.one(h:OwnK T w B (Z (Y ⟨o,0,O⟩) n cap) n ls vs)(hk:k<n):
  ∃ah ch aq cq,vs[k]? =Y (Z ah (aI ls k).hs.length ch,Z aq (aI ls k).qs.length cq)/\w.cell? ⟨o,k*3,O⟩=Y (I J (aI ls k).r)/\w.cell? ⟨o,k*3+1,O⟩=Y (Z ah (aI ls k).hs.length ch)/\w.cell? ⟨o,k*3+2,O⟩=Y (Z aq (aI ls k).qs.length cq)/\
   w.frozen? ⟨o,k*3+1,O⟩=F'/\w.frozen? ⟨o,k*3+2,O⟩=F'/\w.ownsRow B 232 2 (Z ah (aI ls k).hs.length ch) (aI ls k).hs.length (hcells (aI ls k).hs)/\w.ownsRow B 232 2 (Z aq (aI ls k).qs.length cq) (aI ls k).qs.length (hcells (aI ls k).qs)/\
   (∀g,(Z ah (aI ls k).hs.length ch).ownBlock=Y g->(Z aq (aI ls k).qs.length cq).ownBlock≠Y g)/\o∉blks (Z ah (aI ls k).hs.length ch,Z aq (aI ls k).qs.length cq)/\B<=o/\o<w.heap.size:=by
 obtain⟨p,hp⟩:=h.got hk;have hat:=wB (ls:=ls) (by rw[h.len,h.vlen]) hp;have o1:=h.hs k p hp;have o2:=h.qs k p hp;have ne:=fun g hg=>cT2 h.apart hp (g:=g) hg;have nr:o∉blks p:=sG h.apart hp rfl;obtain⟨x,y⟩:=p;obtain⟨ah,ch,ex⟩:=dT o1;obtain⟨aq,cq,ey⟩:=dT o2;simp only at ex ey o1 o2 hat ne;subst ex ey;have ob:=aH h.row o rfl;exact⟨ah,ch,aq,cq,hp,(h.row.cellAt (k*3) (by omega)).trans hat.1,(h.row.cellAt (k*3+1) (by omega)).trans hat.2.1,(h.row.cellAt (k*3+2) (by omega)).trans hat.2.2,h.row.frozenAt _,h.row.frozenAt _,o1,o2,ne,nr,ob.1,ob.2⟩
theorem pT(hp:vs[k]? =Y p)(hvs:vs'=vs.set k p')(gr:w.grownBy w1 row)(g2:w1.grownBy w' (Y o))(hrow:∀g,row=Y g->g∈blks p)(hv:v.ownBlock=Y o)(hf:∀g∈blks p',g∈blks p\/w.heap.size<=g):Moved v vs vs' w w':=by have m1:Moved v vs (vs.set k p') w w1:=aE5 hp rfl gr (fun g hg=>Aj.2 (.inr (hrow g hg))) hf;subst hvs;refine⟨g2.os.trans m1.os,g2.tape.trans m1.tape,g2.output.trans m1.output,Ak m1.size g2.size,fun g hg hn=>?_,m1.new⟩;refine(g2.block g (At hg m1.size) fun e=>?_).trans (m1.block g hg hn);simp at e;subst e;exact hn (Aj.2 (.inl (by simp[hv])))
theorem rC(hs:List Hold)(k:Nat):hcells (hs.drop k)=(hcells hs).drop (k*2):=by
 rcases Cd hs.length k with h|h
 .rw[Cb (by omega),Cb (by rw[iJ];omega)];rfl
 .have e:hcells hs=hcells (hs.take k)++hcells (hs.drop k):=by rw[<-cD,Ci]
  have hl:(hcells (hs.take k)).length=k*2:=by rw[iJ];simp;omega
  rw[e];exact(List.drop_left' hl).symm
theorem wM(ls:List Lock)(k:Nat):ls.set k (aI ls k)=ls:=by
 rcases Cd k ls.length with h|h
 .unfold aI;rw[Bt,Ao h];simp
 .exact List.set_eq_of_length_le h
theorem wY(hq:20<=l.qs.length):dV l k h=(F',2,l):=by unfold dV;rw[if_pos hq]
theorem wZ(hq:¬20<=l.qs.length):dV l k h=(F',0,⟨l.r,l.hs,l.qs.take k++[h]++l.qs.drop k⟩):=by unfold dV;rw[if_neg hq]
theorem bY6{t:Int}(h:eJ (bT l.hs t) m=A'):cR l t m=(A',0,l):=by unfold cR;rw[if_pos h]
theorem bY7{t:Int}(h:eJ (bT l.hs t) m=F')(h2:(bT l.hs t==0&&(!eR l.hs t (eX (bT l.hs t) m)||decide (0<l.qs.length)))=A'):cR l t m=dV l l.qs.length ⟨t,eX (bT l.hs t) m⟩:=by unfold cR;rw[if_neg (by simp[h]),if_pos h2]
theorem bL2{t:Int}(h:eJ (bT l.hs t) m=F')(h2:(bT l.hs t==0&&(!eR l.hs t (eX (bT l.hs t) m)||decide (0<l.qs.length)))=F')(h3:eR l.hs t (eX (bT l.hs t) m)=F'):cR l t m=dV l (dB l.hs l.qs) ⟨t,eX (bT l.hs t) m⟩:=by unfold cR;rw[if_neg (by simp[h]),if_neg (by simp[h2]),if_pos (by simp[h3])]
theorem bL3{t:Int}(h:eJ (bT l.hs t) m=F')(h2:(bT l.hs t==0&&(!eR l.hs t (eX (bT l.hs t) m)||decide (0<l.qs.length)))=F')(h3:eR l.hs t (eX (bT l.hs t) m)=A')(h4:(aV l.hs t||decide (l.hs.length<20))=F'):cR l t m=(F',2,l):=by unfold cR;rw[if_neg (by simp[h]),if_neg (by simp[h2]),if_neg (by simp[h3]),if_pos (by simp[h4])]
theorem aI7{t:Int}(h:eJ (bT l.hs t) m=F')(h2:(bT l.hs t==0&&(!eR l.hs t (eX (bT l.hs t) m)||decide (0<l.qs.length)))=F')(h3:eR l.hs t (eX (bT l.hs t) m)=A')(h4:(aV l.hs t||decide (l.hs.length<20))=A'):cR l t m=(A',0,⟨l.r,iZ l.hs ⟨t,eX (bT l.hs t) m⟩,l.qs⟩):=by unfold cR;rw[if_neg (by simp[h]),if_neg (by simp[h2]),if_neg (by simp[h3]),if_neg (by simp[h4])]
structure Ch.Tx where
 id:Int
 sy:Bool
 st:Int
 un:List Bf
 wk:Int
 wa:Int
 wb:Int
 wv:Int
def Ch.Tx.zero:Tx:=⟨0,F',0,[],0,0,0,0⟩
structure Ch.Eng where
 base:List Row
 lv:List (List Row)
 lk:List Lock
 tx:List Tx
 su:List Int
 lo:List Int
 ix:List Hold
 bt:Bool
 cm:List Int
 ac:List Ac
def aS(ts:List Tx)(k:Nat):Tx:=ts.getD k Tx.zero
def TxOne(w:World)(b off:Nat)(au:Option Addr)(nu cu:Nat)(t:Tx):Prop:=
 w.cell? ⟨b,off,O⟩=Y (I J t.id)/\w.cell? ⟨b,off+1,O⟩=Y (X t.sy)/\w.cell? ⟨b,off+2,O⟩=Y (I J t.st)/\w.cell? ⟨b,off+3,O⟩=Y (Z au nu cu)/\
  w.cell? ⟨b,off+4,O⟩=Y (I J t.wk)/\w.cell? ⟨b,off+5,O⟩=Y (I J t.wa)/\w.cell? ⟨b,off+6,O⟩=Y (I J t.wb)/\w.cell? ⟨b,off+7,O⟩=Y (I J t.wv)/\
  CellsAt w au (nu*3) (bfcells t.un)/\nu<=1048576
theorem TxOne.below{off:Nat}{nu cu:Nat}{t:Tx}(h:TxOne w b off au nu cu t)(hb:V' w w'):TxOne w' b off au nu cu t:=by obtain⟨h0,h1,h2,h3,h4,h5,h6,h7,h8,h9⟩:=h;exact⟨keep_cell hb h0,keep_cell hb h1,keep_cell hb h2,keep_cell hb h3,keep_cell hb h4,keep_cell hb h5,keep_cell hb h6,keep_cell hb h7,h8.below hb,h9⟩
def TxAt(w:World)(a:Option Addr)(n:Nat)(ts:List Tx):Prop:=
 ts.length=n/\(0<n->∃b off,a=Y ⟨b,off,O⟩/\∀i,i<n->∃au nu cu,TxOne w b (off+i*8) au nu cu (aS ts i))
theorem TxAt.below{ts:List Tx}(h:TxAt w a n ts)(hb:V' w w'):TxAt w' a n ts:=by refine⟨h.1,fun h0=>?_⟩;obtain⟨b,off,ha,hi⟩:=h.2 h0;refine⟨b,off,ha,fun i hlt=>?_⟩;obtain⟨au,nu,cu,h1⟩:=hi i hlt;exact⟨au,nu,cu,h1.below hb⟩
theorem TxAt.txn{ts:List Tx}(h:TxAt w a n ts)(hk:k<n):∃b off au nu cu,a=Y ⟨b,off,O⟩/\TxOne w b (off+k*8) au nu cu (aS ts k):=by obtain⟨b,off,ha,hi⟩:=h.2 (by omega);obtain⟨au,nu,cu,h1⟩:=hi k hk;exact⟨b,off,au,nu,cu,ha,h1⟩
theorem TxAt.len{ts:List Tx}(h:TxAt w a n ts):Hid (n=ts.length):=h.1.symm
structure EgS where
 ba:Option Addr
 bn:Nat
 bc:Nat
 la:Option Addr
 ln:Nat
 lc:Nat
 ka:Option Addr
 kn:Nat
 kc:Nat
 ta:Option Addr
 tn:Nat
 tc:Nat
 sa:Option Addr
 sn:Nat
 sc:Nat
 oa:Option Addr
 on:Nat
 oc:Nat
 xa:Option Addr
 xn:Nat
 xc:Nat
 ma:Option Addr
 mn:Nat
 mc:Nat
 aa:Option Addr
 an:Nat
 ac:Nat
def EgS.cells(s:EgS)(bt:Bool):Array Value:=#[Z s.ba s.bn s.bc,Z s.la s.ln s.lc,Z s.ka s.kn s.kc,Z s.ta s.tn s.tc,Z s.sa s.sn s.sc,Z s.oa s.on s.oc,Z s.xa s.xn s.xc,X bt,Z s.ma s.mn s.mc,Z s.aa s.an s.ac]
structure EgR(w:World)(s:EgS)(e:Eng):Prop where
 base:CellsAt w s.ba (s.bn*3) (rcells e.base)
 lv:LvAt w s.la s.ln e.lv
 lk:LkAt w s.ka s.kn e.lk
 tx:TxAt w s.ta s.tn e.tx
 su:CellsAt w s.sa s.sn (bts e.su)
 lo:CellsAt w s.oa s.on (bts e.lo)
 ix:CellsAt w s.xa (s.xn*2) (hcells e.ix)
 cm:CellsAt w s.ma (s.mn*1) (icells e.cm)
 ac:AcAt w s.aa s.an e.ac
 bsu:IsB e.su
 blo:IsB e.lo
 n1:s.bn<=1048576
 n2:aW e.lv<=1048576
 n3:dS e.lk<=1048576
 n4:s.tn<=1048576
 n5:s.sn<=4100000
 n6:s.on<=4100000
 n7:s.xn<=1048576
 n8:s.mn<=1048576
 n9:s.an<=1048576
 n10:∀i,(aM e.ac i).an.length<=1048576
 c5:s.sn<=s.sc
 c6:s.on<=s.oc
 c8:s.mn<=s.mc
theorem EgR.below{s:EgS}{e:Eng}(h:EgR w s e)(hb:V' w w'):EgR w' s e:=
 ⟨h.base.below hb,h.lv.below hb,h.lk.below hb,h.tx.below hb,h.su.below hb,h.lo.below hb,h.ix.below hb,h.cm.below hb,h.ac.below hb,h.bsu,h.blo,h.n1,h.n2,h.n3,h.n4,h.n5,h.n6,h.n7,h.n8,h.n9,h.n10,h.c5,h.c6,h.c8⟩
def EgP(w:World)(b:Nat)(s:EgS)(e:Eng):Prop:=w.heap[b]? =Y (M (s.cells e.bt) 68 (0,0))/\EgR w s e
theorem EgP.below{s:EgS}{e:Eng}(h:EgP w b s e)(hb:V' w w'):EgP w' b s e:=⟨(hb.block b (Ab.1 h.1).1).trans h.1,h.2.below hb⟩
theorem EgP.lt{s:EgS}{e:Eng}(h:EgP w b s e):b<w.heap.size:=(Ab.1 h.1).1
theorem EgP.all{s:EgS}{e:Eng}(h:EgP w b s e):w.cell? ⟨b,0,O⟩=Y (Z s.ba s.bn s.bc)/\w.cell? ⟨b,1,O⟩=Y (Z s.la s.ln s.lc)/\w.cell? ⟨b,2,O⟩=Y (Z s.ka s.kn s.kc)/\w.cell? ⟨b,3,O⟩=Y (Z s.ta s.tn s.tc)/\w.cell? ⟨b,4,O⟩=Y (Z s.sa s.sn s.sc)/\w.cell? ⟨b,5,O⟩=Y (Z s.oa s.on s.oc)/\w.cell? ⟨b,6,O⟩=Y (Z s.xa s.xn s.xc)/\w.cell? ⟨b,7,O⟩=Y (X e.bt)/\w.cell? ⟨b,8,O⟩=Y (Z s.ma s.mn s.mc)/\w.cell? ⟨b,9,O⟩=Y (Z s.aa s.an s.ac):=by have h1:=h.1;exact⟨C' h1,C' h1,C' h1,C' h1,C' h1,C' h1,C' h1,C' h1,C' h1,C' h1⟩
def Ch.isT(e:Eng)(t:Int):Bool:=inB t 1 e.tx.length
theorem oP(b:Nat)(s:EgS)(e:Eng)(t:Int)(w:World)(h:EgP w b s e):
  Calls prog 174 #[.pointer (Y ⟨b,0,O⟩),I J t] w fun r w'=>r=R' (X (isT e t))/\w'=w:=by
 have HL:=h.2.tx.len;obtain⟨x0,x1,x2,x3,x4,x5,x6,x7,x8,x9⟩:=h.all;have hn:=h.2.n4;have HE:Hid (isT e t=inB t 1 (s.tn:Int)):=by show _=_;unfold isT;rw[<-HL.out]
 rw[HE.out];have hbl:=h.lt;have II:=fun W=>cU t 1 (s.tn:Int) W;clear HE HL h;go_enter func174,ntmps174
 go_wp2_with fail
 refine(II _).mono ?_;rintro r w1⟨rfl,hw1⟩;obtain rfl:=hw1.symm;go_wp2;go_ret;exact⟨rfl,rfl⟩
def gQ(ls:List Lock)(t:Int)(k:Nat):Bool:=(ls.take k).any (fun l=>decide (0<=Ch.atH l.hs t)||decide (0<=Ch.atH l.qs t))
theorem aM2{t:Int}(h:k<ls.length):gQ ls t (k+1)=(gQ ls t k||(decide (0<=Ch.atH (aI ls k).hs t)||decide (0<=Ch.atH (aI ls k).qs t))):=by unfold gQ;rw[Du,Ao h,List.any_append];simp[aI,List.getD,h]
theorem aH0{t:Int}(h:gQ ls t k=A'):gQ ls t ls.length=A':=by unfold gQ at*;rw[Ct]at*;obtain⟨x,hx,hp⟩:=h;exact⟨x,by rw[Be];exact Cg hx,hp⟩
theorem cZ7(b:Below (w.alloc (M #[c0,c1,c2] t)).heap.size (w.alloc (M #[c0,c1,c2] t)) w1):
  w1.cell? ⟨w.heap.size,0,O⟩=Y c0/\w1.cell? ⟨w.heap.size,1,O⟩=Y c1/\w1.cell? ⟨w.heap.size,2,O⟩=Y c2/\w1.frozen? ⟨w.heap.size,0,O⟩=F'/\w1.frozen? ⟨w.heap.size,1,O⟩=F'/\w1.frozen? ⟨w.heap.size,2,O⟩=F':=by
 obtain⟨cA,fA⟩:=dH b;have x0:=cA w.heap.size 0 (by simp);have x1:=cA w.heap.size 1 (by simp);have x2:=cA w.heap.size 2 (by simp);have f0:=fA w.heap.size 0 (by simp);have f1:=fA w.heap.size 1 (by simp);have f2:=fA w.heap.size 2 (by simp);simp[go_sem]at x0 x1 x2 f0 f1 f2;exact⟨x0,x1,x2,f0,f1,f2⟩
theorem pK(a:Option Addr)(n cap:Nat)(key:Int)(ls:List (List Row))(w:World)(h:LvAt w a n ls)(hs:aW ls<=1048576)(hg:∀k,k<n->(ls.getD k []).length≠0):
  Calls prog 208 #[Z a n cap,I J key] w fun e w'=>e=R' (U #[I J (Ch.bf key (Ch.has ls key)).k,X (Ch.bf key (Ch.has ls key)).h,I J (Ch.bf key (Ch.has ls key)).v])/\V' w w':=by
 have b0:V' w (w.alloc (M #[I J 0,X F',I J 0] 263)):=(Aa _ _).alloc z' _;have FI:=fun W hW=>tL a n cap key ls W hW hs hg;have HR:=hid (fun rk rv hf=>congrArg (Ch.bf key) (cB6 (ls:=ls) (key:=key) (rk:=rk) (rv:=rv) hf));have HG:=hid (fun rk rv hf=>congrArg (Ch.bf key) (bD0 (ls:=ls) (key:=key) (rk:=rk) (rv:=rv) hf));have HN:=hid (fun hf=>congrArg (Ch.bf key) (bN8 (ls:=ls) (key:=key) hf));generalize Ch.bf key (Ch.has ls key)=X' at*;go_enter func208,ntmps208
 go_wp2_with fail
 refine(FI _ (h.below b0)).mono ?_;rintro e w1⟨⟨rk,rv,rg⟩,ok,rfl,his,b1⟩;obtain⟨x0,x1,x2,f0,f1,f2⟩:=cZ7 b1;have hz:=aD x0;have bE:=b0.trans (b1.mono b0.size);clear b1 FI;rcases his with⟨rfl,hf⟩|⟨rfl,hf⟩
 .cases rg
  .have HX:=hid (HR.out _ _ hf);clear hf HR HG HN;go_wp2;exact Ae (v:=U #[I J key,X A',I J rv]) (by simp[results,Tryz.results208,go_sem,x0,x1,x2,hz]) rfl ⟨by rw[HX.out];rfl,De (((bE.setCell (p:=⟨w.heap.size,0,O⟩) z' _).setCell (p:=⟨w.heap.size,1,O⟩) z' _).setCell (p:=⟨w.heap.size,2,O⟩) z' _) (by simp;omega) _⟩
  .have HX:=hid (HG.out _ _ hf);clear hf HR HG HN;go_wp2;exact Ae (v:=U #[I J key,X F',I J 0]) (by simp[results,Tryz.results208,go_sem,x0,x1,x2,hz]) rfl ⟨by rw[HX.out];rfl,De (((bE.setCell (p:=⟨w.heap.size,0,O⟩) z' _).setCell (p:=⟨w.heap.size,1,O⟩) z' _).setCell (p:=⟨w.heap.size,2,O⟩) z' _) (by simp;omega) _⟩
 .have HX:=hid (HN.out hf);clear hf HR HG HN;go_wp2;exact Ae (v:=U #[I J key,X F',I J 0]) (by simp[results,Tryz.results208,go_sem,x0,x1,x2,hz]) rfl ⟨by rw[HX.out];rfl,De (((bE.setCell (p:=⟨w.heap.size,0,O⟩) z' _).setCell (p:=⟨w.heap.size,1,O⟩) z' _).setCell (p:=⟨w.heap.size,2,O⟩) z' _) (by simp;omega) _⟩
theorem bN5{ls:List (List Row)}{key:Int}(hl:n=ls.length)(hc:(aC5 ls key !=0)=F'):∀k,k<n->(ls.getD k []).length≠0:=by intro k hk;exact(fY (bJ1 (ls:=ls) (key:=key) (by simpa using hc)).1 k (by omega)).1
end Go.Proofs.YtpbbokalojdooaaGreat
