import Derived.Test.YtpbbokalojdooaaGreatQai
import Derived.Test.YtpbbokalojdooaaGreatQaj
namespace Go.Proofs.YtpbbokalojdooaaGreat
open Go.RowKit Ch Go.Proofs.Tryz
set_option linter.unusedSimpArgs false
set_option linter.unusedVariables false
set_option maxRecDepth 20000
set_option maxHeartbeats 8000000
open Value renaming int->I,slice->Z,bool->X,agg->U
open IntKind renaming i64->J
open Option renaming none->O,some->Y
open Obj renaming cells->M
open Ending renaming returned->R'
open Bool renaming true->A',false->F'
variable {key:Int} {ls:List (List Row)} {zs:List Int} {rs:List Rec} {l:List Row} {vs:List Value} {B b cap g k m n p s:Nat} {f:Nat×Nat} {a:Option Addr} {row:Option Nat} {t:TypeId} {c0 c1 c2 rv v x:Value} {w w':World}
theorem sQ(a:Option Addr)(n cap:Nat)(rs:List Rec)(w:World)(h:CellsAt w a (n*7) (rc7 rs))(hn:n<=1048576):
  Calls prog 34 #[Z a n cap] w fun e w'=>e=R' (I J (eR rs))/\Below w.heap.size w w':=by
 have HL:=h.len7;by_cases h8:800<n
 .have HF:Hid (eR rs=2):=tU (by have:=HL.out;omega);rw[HF.out];go_enter func34,ntmps34
  go_wp2;go_ret;exact⟨rfl,u'⟩
 .have HF:Hid (eR rs=iA rs rs.length):=wG (by have:=HL.out;omega);have h8':n<=800:=by omega
  rw[HF.out];clear h8;obtain⟨c,HC⟩:∃c,Hid (iA rs rs.length=c):=⟨_,rfl⟩
  rw[HC.out];go_enter func34,ntmps34
  go_wp2;go_loopw [11] (fun i wr=>∃k:Nat,k<=n/\i=I J k/\Hid (iA rs k=0)/\Below w.heap.size w wr) (fun i _=>n-(intOf i).toNat)
  case atStart=>exact⟨0,Nat.zero_le _,rfl,rfl,u'⟩
  case round=>
   obtain⟨k,hk,rfl,H0,hB⟩:=hrel;by_cases hlt:k<n
   .have HS:=hid (rV (by have:=HL.out;omega:k<rs.length) H0.out);obtain⟨b,off,rfl,hc0,hc1,hc2,hc3,hc4,hc5,hc6⟩:=(h.below hB).rec hlt;generalize rs.getD k Rec.zero=r at*;obtain⟨kd,tx,ky,hd,ol,hs,nw⟩:=r;simp only at hc0 hc1 hc2 hc3 hc4 hc5 hc6;have IR:=fun W=>uR kd tx ky hd ol hs nw W;generalize Rec.fault ⟨kd,tx,ky,hd,ol,hs,nw⟩=q at*;go_wp2_with fail
    refine(IR _).mono ?_;rintro e w1⟨rfl,b1⟩;have b1':Below w.heap.size w w1:=hB.trans ((cL b1).mono hB.size);clear IR;by_cases h0:q=0
    .subst h0;go_wp2;go_roundw;case rel=>exact⟨k+1,by omega,by go_num,HS.out,b1'⟩
     case measure=>simp[intOf];omega
    .have hq:(q !=0)=A':=by simpa using h0
     have HQ:=hid ((qL HS.out hq).symm.trans HC.out);clear h0;go_wp2;go_ret;exact⟨cK HQ.out,b1'⟩
   .obtain rfl:k=n:=by omega
    have HQ:Hid (0=c):=by have h1:=H0.out;rw[HL.out]at h1;exact h1.symm.trans HC.out
    go_wp2;go_ret;exact⟨cK HQ.out,hB⟩
theorem bD7(a:Option Addr)(n cap:Nat)(rs:List Rec)(w:World)(h:CellsAt w a (n*7) (rc7 rs))(hn:n<=1048576):
  Calls prog 73 #[Z a n cap] w fun e w'=>e=R' (I J (eR rs))/\Below w.heap.size w w':=by
 have HL:=h.len7;by_cases h8:800<n
 .have HF:Hid (eR rs=2):=tU (by have:=HL.out;omega);rw[HF.out];go_enter func73,ntmps73
  go_wp2;go_ret;exact⟨rfl,u'⟩
 .have HF:Hid (eR rs=iA rs rs.length):=wG (by have:=HL.out;omega);have h8':n<=800:=by omega
  rw[HF.out];clear h8;obtain⟨c,HC⟩:∃c,Hid (iA rs rs.length=c):=⟨_,rfl⟩
  rw[HC.out];go_enter func73,ntmps73
  go_wp2;go_loopw [3] (fun i wr=>∃k:Nat,k<=n/\i=I J k/\Hid (iA rs k=0)/\Below w.heap.size w wr) (fun i _=>n-(intOf i).toNat)
  case atStart=>exact⟨0,Nat.zero_le _,rfl,rfl,u'⟩
  case round=>
   obtain⟨k,hk,rfl,H0,hB⟩:=hrel;by_cases hlt:k<n
   .have HS:=hid (rV (by have:=HL.out;omega:k<rs.length) H0.out);obtain⟨b,off,rfl,hc0,hc1,hc2,hc3,hc4,hc5,hc6⟩:=(h.below hB).rec hlt;generalize rs.getD k Rec.zero=r at*;obtain⟨kd,tx,ky,hd,ol,hs,nw⟩:=r;simp only at hc0 hc1 hc2 hc3 hc4 hc5 hc6;have IR:=fun W=>jZ kd tx ky hd ol hs nw W;generalize Rec.fault ⟨kd,tx,ky,hd,ol,hs,nw⟩=q at*;go_wp2_with fail
    refine(IR _).mono ?_;rintro e w1⟨rfl,b1⟩;have b1':Below w.heap.size w w1:=hB.trans (b1.mono hB.size);clear IR;by_cases h0:q=0
    .subst h0;go_wp2;go_roundw;case rel=>exact⟨k+1,by omega,by go_num,HS.out,b1'⟩
     case measure=>simp[intOf];omega
    .have hq:(q !=0)=A':=by simpa using h0
     have HQ:=hid ((qL HS.out hq).symm.trans HC.out);clear h0;go_wp2;go_ret;exact⟨cK HQ.out,b1'⟩
   .obtain rfl:k=n:=by omega
    have HQ:Hid (0=c):=by have h1:=H0.out;rw[HL.out]at h1;exact h1.symm.trans HC.out
    go_wp2;go_ret;exact⟨cK HQ.out,hB⟩
def dB0(d s:Nat)(a:Option Addr)(n cap k:Nat)(zs:List Int)(w:World)(e:Ending)(w':World):Prop:=
 ∃r:Row,∃k',r.fault=0/\0<=r.k/\r.k<20/\e=R' (U #[I J r.k,I J r.v,X r.g])/\k'=k+d/\Src w' s a n cap k' zs/\w.grownBy w' (Y s)
theorem dI7(h:w.heap[b]? =Y (M #[c0,c1,c2] t f)):w.cell? ⟨b,0,O⟩=Y c0/\w.cell? ⟨b,1,O⟩=Y c1/\w.cell? ⟨b,2,O⟩=Y c2:=
 ⟨cell_of_row _ _ _ _ _ _ h,cell_of_row _ _ _ _ _ _ h,cell_of_row _ _ _ _ _ _ h⟩
theorem dI5(h:w.heap[b]? =Y (M #[c0,c1,c2] t (0,0))):w.frozen? ⟨b,0,O⟩=F'/\w.frozen? ⟨b,1,O⟩=F'/\w.frozen? ⟨b,2,O⟩=F':=by simp[World.frozen?,h]
theorem cH8{W:World}(h:w.grownBy W row)(hb:w.heap.size<=g)(v0 v1 v2:Value):w.grownBy (((W.setCell ⟨g,0,O⟩ v0).setCell ⟨g,1,O⟩ v1).setCell ⟨g,2,O⟩ v2) row:=yW (yW (yW h hb) hb) hb
theorem Src.set3(h:Src w s a n cap k zs)(hb:s<g)(v0 v1 v2:Value):Src (((w.setCell ⟨g,0,O⟩ v0).setCell ⟨g,1,O⟩ v1).setCell ⟨g,2,O⟩ v2) s a n cap k zs:=((h.set hb).set hb).set hb
theorem aJ2{k v:Int}(h0:0<=k)(h1:k<20)(h2:0<=v)(h3:v<50):Row.fault ⟨k,v,F'⟩=0:=by
 have a:inB k 0 99=A':=by unfold inB;simp;omega
 have b:inB v 0 9999=A':=by unfold inB;simp;omega
 simp[Row.fault,dL,a,b]
theorem aJ1{k:Int}(h0:0<=k)(h1:k<20):Row.fault ⟨k,0,A'⟩=0:=by
 have a:inB k 0 99=A':=by unfold inB;simp;omega
 have b:inB 0 0 9999=A':=by decide
 simp[Row.fault,dL,a,b]
theorem aV6(s:Nat)(a:Option Addr)(n cap k:Nat)(zs:List Int)(w:World)(h:Src w s a n cap k zs)(hb:IsB zs)(hn:n<=1048580)(hk:k<=900):
  Calls prog 71 #[.pointer (Y ⟨s,0,O⟩)] w (dB0 3 s a n cap k zs w):=by
 have hsl:=h.lt;go_enter func71,ntmps71
 go_wp2_with fail
 refine(eQ 20 s a n cap k zs _ h.new hb hn (by omega) (by omega) (by omega)).mono ?_;rintro e w1⟨⟨x,x0,x1,rfl⟩,s1,g1⟩;have hR:w1.heap[w.heap.size]? =Y (M #[I J 0,I J 0,X F'] 86 (0,0)):=cR g1 (heap_alloc_new w _) (by simp;omega);have G:=uN g1;go_wp2_with fail
 refine(eQ 50 s a n cap (k+1) zs _ s1 hb hn (by omega) (by omega) (by omega)).mono ?_;rintro e w2⟨⟨v,v0,v1,rfl⟩,s2,g2⟩;have hR:=cR g2 hR (by simp;omega);have G:=cW G g2;have hz2:=G.size;have hRX:w.heap.size<w2.heap.size:=(Array.getElem?_eq_some_iff.1 hR).1;clear s1 g1 g2;go_wp2_with fail
 refine(pL 5 s a n cap (k+1+1) zs _ s2.new hb hn (by omega) (by omega) (by omega)).mono ?_;rintro e w3⟨⟨c,rfl⟩,s3,g3⟩;have hX:w3.heap[w2.heap.size]? =Y (M #[I J x,I J v,X F'] 86 (0,0)):=cR g3 (heap_alloc_new w2 _) (by simp;omega);have hR:=cR g3 ((Below.heap_alloc w2 _ _ hRX).trans hR) (by simp;omega);have G:=cW G (uN g3);obtain⟨p0,p1,p2⟩:=dI7 hX;obtain⟨e0,e1,e2⟩:=dI5 hX;obtain⟨r0,r1,r2⟩:=dI7 hR;obtain⟨f0,f1,f2⟩:=dI5 hR;have lX:=aD p0;have lR:=aD r0;generalize w2.heap.size=X' at*;clear g3 s2 hX;cases c with
 |false=>go_wp2;exact bodyPost_ret (v:=U #[I J x,I J v,X F']) (by simp[results,Tryz.results71,go_sem,r0,r1,r2]) rfl ⟨⟨x,v,F'⟩,k+1+1+1,aJ2 x0 x1 v0 v1,x0,x1,rfl,rfl,s3.set3 (by omega) _ _ _,cH8 G z' _ _ _⟩
 |true=>go_wp2;exact bodyPost_ret (v:=U #[I J x,I J 0,X A']) (by simp[results,Tryz.results71,go_sem,r0,r1,r2]) rfl ⟨⟨x,0,A'⟩,k+1+1+1,aJ1 x0 x1,x0,x1,rfl,rfl,Src.set3 ((s3.set (by omega)).set (by omega)) (by omega) _ _ _,cH8 (yW (yW G (by omega)) (by omega)) z' _ _ _⟩
theorem OwnLv.grown(h:OwnLv w B v n ls)(hg:w.grownBy w' (Y s))(hs:s<B):OwnLv w' B v n ls:=by obtain⟨hl,vs,ho,hi,hd,hd'⟩:=h;refine⟨hl,vs,aK ho hg (fun g hg' e=>by have:=(aG ho g hg').1;simp at e;omega),fun i hlt=>?_,hd,hd'⟩;obtain⟨x,h1,h2⟩:=hi i hlt;exact⟨x,h1,aK h2 hg (fun g hg' e=>by have:=(aG h2 g hg').1;simp at e;omega)⟩
def OwnU(w:World)(B:Nat)(lv:Value)(m:Nat)(ls:List (List Row))(rv:Value)(p:Nat)(rs:List Rec):Prop:=
 ∃vs lo hi,OwnV w B lv m vs ls/\w.ownsRow B 79 7 rv p (rc7 rs)/\B<=lo/\hi<=w.heap.size/\(∀g,lv.ownBlock=Y g->lo<=g/\g<hi)/\(∀(i:Nat) (x:Value) (g:Nat),vs[i]? =Y x->x.ownBlock=Y g->lo<=g/\g<hi)/\(∀g,rv.ownBlock=Y g->g<lo\/hi<=g)
theorem OwnU.below{lv:Value}(h:OwnU w B lv m ls rv p rs)(hb:Below w.heap.size w w'):OwnU w' B lv m ls rv p rs:=by obtain⟨vs,lo,hi,h1,h2,h3,h4,h5⟩:=h;exact⟨vs,lo,hi,h1.below hb,aF h2 hb,h3,Nat.le_trans h4 hb.size,h5⟩
theorem OwnU.base{B':Nat}{lv:Value}(h:OwnU w B lv m ls rv p rs)(hb:B'<=B):OwnU w B' lv m ls rv p rs:=by obtain⟨vs,lo,hi,h1,h2,h3,h4,h5⟩:=h;exact⟨vs,lo,hi,h1.base hb,aP h2 hb,Nat.le_trans hb h3,h4,h5⟩
theorem OwnU.none(w:World)(B:Nat):OwnU w B (Z O 0 0) 0 [] (Z O 0 0) 0 []:=by refine⟨[],B,0,⟨rfl,World.ownsRow_nil _ _ _ _,fun i hi=>absurd hi (by omega),fun i j x y g _ hx=>by simp at hx,fun i x g hx=>by simp at hx⟩,World.ownsRow_nil _ _ _ _,z',Nat.zero_le _,fun g hg=>by simp[Value.ownBlock]at hg,fun i x g hx=>by simp at hx,fun g hg=>by simp[Value.ownBlock]at hg⟩
theorem OwnU.len{lv:Value}(h:OwnU w B lv m ls rv p rs):m=ls.length/\p=rs.length:=by obtain⟨vs,lo,hi,h1,h2,_⟩:=h;refine⟨h1.1.symm,?_⟩;have:=h2.1;rw[bC9]at this;omega
theorem OwnU.lv(h:OwnU w B (Z a m cap) m ls rv p rs)(hs:aW ls<=1048576):LvAt w a m ls:=by obtain⟨vs,lo,hi,h1,_⟩:=h;exact h1.own.at (cZ2 hs)
section
open Go.Maps
theorem OwnLv.snoc{w0 w1 w2:World}{v':Value}{o:Obj}(h:OwnV w0 B v n vs ls)(hb:Below w0.heap.size w0 w1)
  (hx:w1.ownsRow w0.heap.size 86 3 x l.length (rcells l)) (hB:B<=w0.heap.size) (hm:m=n+1)
  (h2:w2.ownsRow B 200 1 v' m (vs++[x])) (hg:(w1.alloc o).grownBy w2 v.ownBlock) (hat:∀g,v'.ownBlock=Y g->v.ownBlock=Y g\/(w1.alloc o).heap.size<=g):OwnLv w2 B v' m (ls++[l]):=by
 subst hm;have hlt:=h.lt;obtain⟨hl,ho,hi,hd,hd'⟩:=h;have hvl:vs.length=n:=by have:=ho.1;omega
 have ba:=f' w1 o;have hsz:=hb.size;have Lx:=aG hx;have Lv:=aG ho;have hin:∀(i:Nat) (y:Value),vs[i]? =Y y->i<n:=by
  intro i y hy;rcases Nat.lt_or_ge i n with h|h
  .exact h
  .rw[List.getElem?_eq_none (by omega)]at hy;cases hy
 have split:∀(i:Nat) (y:Value),(vs++[x])[i]? =Y y->(i<n/\vs[i]? =Y y)\/(i=n/\y=x):=by
  intro i y hy;rcases Nat.lt_or_ge i n with h|h
  .rw[List.getElem?_append_left (by omega)]at hy;exact .inl ⟨h,hy⟩
  .rw[List.getElem?_append_right (by omega)]at hy;by_cases h0:i-vs.length=0
   .rw[h0]at hy;simp at hy;exact .inr ⟨by omega,hy.symm⟩
   .rw[List.getElem?_eq_none (by simp;omega)]at hy;cases hy
 refine⟨by simp[hl],vs++[x],h2,fun i hlt'=>?_,?_,?_⟩
 .by_cases hin':i=n
  .subst hin';refine⟨x,by rw[List.getElem?_append_right (by omega)];simp[hvl],?_⟩;have e:(ls++[l]).getD i []=l:=by simp[List.getD,hl]
   rw[e];refine aP (aK (aF hx ba) hg fun g hg' he=>?_) hB;have:=Lx g hg';have:=Lv g he;omega
  .obtain⟨y,h1,h3⟩:=hi i (by omega);refine⟨y,by rw[List.getElem?_append_left (by omega)];exact h1,?_⟩;have e:(ls++[l]).getD i []=ls.getD i []:=by simp[List.getD,List.getElem?_append_left (show i<ls.length by omega)]
   rw[e];refine aK (aF (aF h3 hb) ba) hg fun g hg' he=>?_;exact hd' i y g h1 he hg'
 .intro i j y z g hij hy hz hyg hzg;rcases split i y hy with⟨hi1,hy'⟩|⟨hi1,rfl⟩
  .rcases split j z hz with⟨hj1,hz'⟩|⟨hj1,rfl⟩
   .exact hd i j y z g hij hy' hz' hyg hzg
   .have:=hlt i y g hy' hyg;have:=Lx g hzg;omega
  .rcases split j z hz with⟨hj1,hz'⟩|⟨hj1,rfl⟩<;>omega
 .intro i y g hy hvg hyg;have hv':=hat g hvg;simp only[World.alloc,Array.size_push]at hv';rcases split i y hy with⟨hi1,hy'⟩|⟨hi1,rfl⟩
  .rcases hv' with h3|h3
   .exact hd' i y g hy' h3 hyg
   .have:=hlt i y g hy' hyg;omega
  .have:=Lx g hyg;rcases hv' with h3|h3
   .have:=Lv g h3;omega
   .omega
theorem uX{H:Nat}(hH:H=w.heap.size):CellsAt (w.alloc (M #[x] t)) (Y ⟨H,0,O⟩) 1 [x]:=by subst hH;refine⟨rfl,fun _=>⟨_,_,rfl,fun i hi=>?_⟩⟩;rw[Nat.zero_add];have:=cell_of_row (w.alloc (M #[x] t)) _ i _ _ _ (heap_alloc_new w _);rw[this];simp
theorem aQ8(h:k<l.length)(hin:¬(l.getD k Row.zero).k=key):(l.take (k+1)).filter (dQ key)=(l.take k).filter (dQ key)++[l.getD k Row.zero]:=by rw[bT l Row.zero k h];generalize l.getD k Row.zero=r at*;rw[List.filter_append];simp[dQ,hin]
theorem aZ7(h:k<l.length)(hin:(l.getD k Row.zero).k=key):(l.take (k+1)).filter (dQ key)=(l.take k).filter (dQ key):=by rw[bT l Row.zero k h];generalize l.getD k Row.zero=r at*;rw[List.filter_append];simp[dQ,hin]
theorem bD6(a:Option Addr)(n cap:Nat)(key:Int)(ls:List (List Row))(w:World)(h:LvAt w a n ls)(hs:aW ls<=1048576):
  Calls prog 213 #[Z a n cap,I J key] w fun e w'=>∃a' m c',e=R' (Z a' m c')/\OwnLv w' w.heap.size (Z a' m c') m (eS ls key)/\Below w.heap.size w w':=by
 have HL:=h.len;have hn:n<=1048576:=by unfold aW at hs;have:=HL.out;omega
 have o0:=oQ w w.heap.size z';have O0:OwnLv (w.alloc (M #[] 200)) w.heap.size (Z (Y ⟨w.heap.size,0,O⟩) 0 0) 0 []:=⟨rfl,[],o0,fun i hi=>absurd hi (by omega),fun i j x y g _ hx=>by simp at hx,fun i x g hx=>by simp at hx⟩
 clear o0;go_enter func213,ntmps213
 go_wp2;go_loopw [5,6] (fun q i wr=>∃(k m:Nat) (a':Option Addr) (c':Nat),k<=n/\m<=k/\i=I J k/\q=Z a' m c'/\OwnLv wr w.heap.size (Z a' m c') m (eS (ls.take k) key)/\Below w.heap.size w wr) (fun _ i _=>n-(intOf i).toNat)
 case atStart=>exact⟨0,0,_,_,Nat.zero_le _,z',rfl,rfl,by simpa[eS]using O0,q'⟩
 case round=>
  clear O0;obtain⟨k,m,a',c',hk,hmk,rfl,rfl,own,hB⟩:=hrel;by_cases hlt:k<n
  .have hkl:k<ls.length:=by have:=HL.out;omega
   have HS:=hid (eZ hs k);have HD:=hid (bS1 ls key k hkl);obtain⟨b,off,ai,ni,ci,rfl,hc,hr,hni⟩:=h.leaf hlt;have HRl:=hr.rlen;have hni':ni<=1048576:=by have:=HS.out;have:=HRl.out;omega
   generalize ls.getD k []=l at*;generalize eS (ls.take k) key=DL at*;obtain⟨wo,hwo⟩:∃x:World,x=wr:=⟨_,rfl⟩
   subst hwo;have hcr:=aC hB hc;have e0:=jV wo wo.heap.size z';have bR:=f' wo (M #[] 86);go_wp2;go_loopw [7,8] (fun q i wq=>∃(t p:Nat) (a2:Option Addr) (c2:Nat),t<=ni/\p<=t/\i=I J t/\q=Z a2 p c2/\wq.ownsRow wo.heap.size 86 3 (Z a2 p c2) p (rcells ((l.take t).filter (dQ key)))/\Below wo.heap.size wo wq) (fun _ i _=>ni-(intOf i).toNat)
   case atStart=>exact⟨0,0,_,_,Nat.zero_le _,z',rfl,rfl,by simpa using e0,bR⟩
   case round=>
    clear e0 bR;obtain⟨t,p,a2,c2,ht,hpt,rfl,rfl,own2,hB2⟩:=hrel;have hcq:=aC hB2 hcr;by_cases hlt2:t<ni
    .obtain⟨b1,o1,rfl,q0,q1,q2⟩:=(hr.below (hB.trans (hB2.mono hB.size))).row hlt2;have HY:=hid (fun hin=>aQ8 (key:=key) (l:=l) (k:=t) (by have:=HRl.out;omega) hin);have HNo:=hid (fun hin=>aZ7 (key:=key) (l:=l) (k:=t) (by have:=HRl.out;omega) hin);generalize l.getD t Row.zero=rr at*;obtain⟨rk,rv,rg⟩:=rr;simp only at q0 q1 q2 HY HNo;generalize(l.take t).filter (dQ key)=S at*;have hsum:p+1<=2097152:=by omega
     have bA:∀o,Below wr.heap.size wr (wr.alloc o):=fun o=>q';by_cases hke:rk=key
     .have HNo':=hid (HNo.out hke);have hne:(rk !=key)=F':=by simpa using hke
      clear HY HNo hke;go_wp2;go_roundw;case rel=>exact⟨t+1,p,a2,c2,by omega,by omega,by go_num,rfl,by rw[HNo'.out];exact own2,hB2⟩
      case measure=>simp[intOf];omega
     .have HY':=hid (HY.out hke);have hne:(rk !=key)=A':=by simpa using hke
      clear HY HNo hke;go_wp2_with(at_builtin;go_must (refine fC (.tmp 38) (.tmp 47) wo.heap.size (Z a2 p c2) p S 1 [⟨rk,rv,rg⟩] hsum ?_ ?_ ?_ ?_ ?_ ?_ ?_;exact rfl;exact rfl;exact rfl;exact⟨_,_,rfl,lK (r:=⟨rk,rv,rg⟩) rfl⟩;exact aF own2 (bA _);(focus(have:=hB2.size;simp;omega));intro a3 c3 w3 own3 b3))
      go_roundw;case rel=>exact⟨t+1,p+1,a3,c3,by omega,by omega,by go_num,rfl,by rw[HY'.out];exact own3,(hB2.alloc hB2.size _).trans b3⟩
      case measure=>simp[intOf];omega
    .obtain rfl:t=ni:=by omega
     have hbq:=hB.trans (hB2.mono hB.size);rw[List.take_of_length_le (by have:=HRl.out;omega)]at own2;have hpl:p=(l.filter (dQ key)).length:=by have:=own2.1;rw[fW]at this;omega
     have HPL:=hid hpl;clear hpl;by_cases hp0:p=0
     .subst hp0;have HD':Hid (eS (ls.take (k+1)) key=DL):=by
       show _=_;rw[HD.out];have:aG0 (l.filter (dQ key))=F':=by unfold aG0;rw[<-HPL.out];rfl
       rw[this];simp
      clear HD;go_wp2;go_roundw;case rel=>exact⟨k+1,m,a',c',by omega,by omega,by go_num,rfl,by rw[HD'.out];exact own.below hB2,hbq⟩
      case measure=>simp[intOf];omega
     .have HD':Hid (eS (ls.take (k+1)) key=DL++[l.filter (dQ key)]):=by
       show _=_;rw[HD.out];have:aG0 (l.filter (dQ key))=A':=by unfold aG0;rw[<-HPL.out];simp;omega
       rw[this];simp
      clear HD;have hp1:(0:Int)<(p:Int):=by omega
      obtain⟨vs,hV⟩:=own.told;have hoV:=hV.2.1;have hsum:m+1<=2097152:=by omega
      have bA:∀o,Below wr.heap.size wr (wr.alloc o):=fun o=>q';go_wp2_with(at_builtin;go_must (refine mU (.tmp 52) (.tmp 55) w.heap.size (Z a' m c') m vs 1 [Z a2 p c2] hsum (by simp[Value.oneCell']) ?_ ?_ ?_ ?_ ?_ ?_ ?_ (by omega);exact rfl;exact rfl;exact rfl;exact⟨_,_,rfl,uX rfl⟩;exact aF (aF hoV hB2) (bA _);(focus(have:=hbq.size;simp;omega));intro a3 c3 w3 own3 gr3 at3))
      go_roundw;case rel=>
       refine⟨k+1,m+1,a3,c3,by omega,by omega,by go_num,rfl,?_,?_⟩
       .rw[HD'.out];refine OwnLv.snoc hV hB2 ?_ hB.size rfl own3 gr3 at3;have:=HPL.out;rw[<-this];exact own2
       .refine(hbq.alloc hbq.size _).grown gr3 (by have:=hbq.size;simp;omega) ?_;intro j hj;exact(aG hoV j hj).1
      case measure=>simp[intOf];omega
  .obtain rfl:k=n:=by omega
   go_wp2;go_ret;have e1:=HL.out;rw[List.take_of_length_le (by omega)]at own;exact⟨a',m,c',rfl,own,hB⟩
end
theorem zU(a:Option Addr)(n cap:Nat)(l:List Row)(rk rv:Int)(rg:Bool)(w:World)(h:CellsAt w a (n*3) (rcells l))(hn:n<=1048576):
  Calls prog 128 #[Z a n cap,U #[I J rk,I J rv,X rg]] w fun e w'=>∃a' m c',e=R' (Z a' m c')/\w'.ownsRow w.heap.size 86 3 (Z a' m c') m (rcells (eF ⟨rk,rv,rg⟩ l))/\Below w.heap.size w w':=by
 have HL:=h.rlen;have bA:∀(W:World) o,Below W.heap.size W (W.alloc o):=fun W o=>q';go_enter func128,ntmps128
 go_wp2;obtain⟨B,HBe⟩:∃B,Hid (B=w.heap.size+1):=⟨_,rfl⟩
 go_loopw [5,6,7] (fun q dv i wr=>∃(t p:Nat) (a2:Option Addr) (c2:Nat) (d:Bool) (S:List Row),t<=n/\p<=t+d.toNat/\i=I J t/\dv=X d/\q=Z a2 p c2/\Hid (Ch.InSt ⟨rk,rv,rg⟩ l t d S)/\wr.ownsRow B 86 3 (Z a2 p c2) p (rcells S)/\Below B (w.alloc (M #[I J rk,I J rv,X rg] 86)) wr) (fun _ _ i _=>n-(intOf i).toNat)
 case atStart=>
  have e:=HBe.out;subst e;refine⟨0,0,_,_,F',[],Nat.zero_le _,by simp,rfl,rfl,rfl,Ch.InSt.start _ _,?_,?_⟩
  .have:=jV (w.alloc (M #[I J rk,I J rv,X rg] 86)) (w.heap.size+1) (by simp);simpa using this
  .exact u'.alloc (by simp) _
 case round=>
  obtain⟨t,p,a2,c2,d,S,ht,hp,rfl,rfl,rfl,st,own,hB⟩:=hrel;have hBs:B<=wr.heap.size:=by have:=hB.size;have:=HBe.out;simp at*;omega
  have hBo:Below (w.alloc (M #[I J rk,I J rv,X rg] 86)).heap.size (w.alloc (M #[I J rk,I J rv,X rg] 86)) wr:=by have:=HBe.out;subst this;simpa using hB
  have r0:=cV hBo 0;have r1:=cV hBo 1;have r2:=cV hBo 2;simp at r0 r1 r2;have hbw:=cL hBo;clear hBo;by_cases hlt:t<n
  .have htl:t<l.length:=by have:=HL.out;omega
   obtain⟨b1,o1,rfl,y0,y1,y2⟩:=h.row hlt;have HLo:=hid (fun(e:d=F')=>Ch.InSt.low (e▸st.out) htl);have HSa:=hid (fun(e:d=F')=>Ch.InSt.same (e▸st.out) htl);have HHi:=hid (fun(e:d=F')=>Ch.InSt.high (e▸st.out) htl);have HOn:=hid (fun(e:d=A')=>Ch.InSt.on (e▸st.out) htl);have HOv:=hid (fun(e:d=A')=>Ch.InSt.over (e▸st.out) htl);generalize l.getD t Row.zero=rr at*;obtain⟨xk,xv,xg⟩:=rr;simp only at y0 y1 y2 HLo HSa HHi HOn HOv;have q0:=aC hbw y0;have q1:=aC hbw y1;have q2:=aC hbw y2;have hit:((t:Int)<(n:Int)):=by omega
   cases d with
   |false=>
    simp only[Bool.toNat_false,Nat.add_zero]at hp;have hsum1:p+1<=2097152:=by omega
    have hsum2:p+1+1<=2097152:=by omega
    have HLo':=hid (HLo.out rfl);have HSa':=hid (HSa.out rfl);have HHi':=hid (HHi.out rfl);clear HLo HSa HHi HOn HOv st;rcases Int.lt_trichotomy xk rk with hx|hx|hx
    .have hd:decide (xk≥rk)=F':=by simp;omega
     have hne:(xk !=rk)=A':=by simp;omega
     have HS:=hid (HLo'.out hx);clear HLo' HSa' HHi' hx;go_wp2;go_quiet (fail)
     go_wp2;go_quiet (fail)
     go_wp2_with(at_builtin;go_must (refine fC (.tmp 39) (.tmp 44) B (Z a2 p c2) p S 1 [⟨xk,xv,xg⟩] hsum1 ?_ ?_ ?_ ?_ ?_ ?_ ?_;exact rfl;exact rfl;exact rfl;exact⟨_,_,rfl,lK (r:=⟨xk,xv,xg⟩) rfl⟩;exact aF own (Go.below_drewN u' _|>.alloc (by simp) _);(focus(simp;omega));intro a3 c3 w3 own3 b3))
     go_roundw;case rel=>exact⟨t+1,p+1,a3,c3,F',_,by omega,by simp;omega,by go_num,rfl,rfl,HS.out,own3,((Go.below_drewN hB _).alloc (by simpa using hBs) _).trans b3⟩
     case measure=>simp[intOf];omega
    .have hd:decide (xk≥rk)=A':=by simp;omega
     have hne:(xk !=rk)=F':=by simp;omega
     have HS:=hid (HSa'.out hx);clear HLo' HSa' HHi' hx;go_wp2;go_quiet (fail)
     go_wp2_with(at_builtin;go_must (refine fC (.tmp 27) (.tmp 29) B (Z a2 p c2) (p) (S) 1 [⟨rk,rv,rg⟩] hsum1 ?_ ?_ ?_ ?_ ?_ ?_ ?_;exact rfl;exact rfl;exact rfl;exact⟨_,_,rfl,lK (r:=⟨rk,rv,rg⟩) rfl⟩;exact aF own (Go.below_drewN u' _|>.alloc (by simp) _);(focus(simp;omega));intro a3 c3 w3 own3 b3))
     have hB3:=((Go.below_drewN hB _).alloc (by simpa using hBs) _).trans b3;have hBs3:B<=w3.heap.size:=by have:=hB3.size;have:=HBe.out;simp at*;omega
     have hBo3:Below (w.alloc (M #[I J rk,I J rv,X rg] 86)).heap.size (w.alloc (M #[I J rk,I J rv,X rg] 86)) w3:=by have:=HBe.out;subst this;simpa using hB3
     have r0:=cV hBo3 0;have r1:=cV hBo3 1;have r2:=cV hBo3 2;simp at r0 r1 r2;have hbw3:=cL hBo3;clear hBo3;have q0:=aC hbw3 y0;have q1:=aC hbw3 y1;have q2:=aC hbw3 y2;go_quiet (fail)
     go_wp2;go_roundw;case rel=>exact⟨t+1,p+1,a3,c3,A',_,by omega,by simp;omega,by go_num,rfl,rfl,HS.out,own3,Go.below_drewN hB3 _⟩
     case measure=>simp[intOf];omega
    .have hd:decide (xk≥rk)=A':=by simp;omega
     have hne:(xk !=rk)=A':=by simp;omega
     have HS:=hid (HHi'.out hx);clear HLo' HSa' HHi' hx;go_wp2;go_quiet (fail)
     go_wp2_with(at_builtin;go_must (refine fC (.tmp 27) (.tmp 29) B (Z a2 p c2) (p) (S) 1 [⟨rk,rv,rg⟩] hsum1 ?_ ?_ ?_ ?_ ?_ ?_ ?_;exact rfl;exact rfl;exact rfl;exact⟨_,_,rfl,lK (r:=⟨rk,rv,rg⟩) rfl⟩;exact aF own (Go.below_drewN u' _|>.alloc (by simp) _);(focus(simp;omega));intro a3 c3 w3 own3 b3))
     have hB3:=((Go.below_drewN hB _).alloc (by simpa using hBs) _).trans b3;have hBs3:B<=w3.heap.size:=by have:=hB3.size;have:=HBe.out;simp at*;omega
     have hBo3:Below (w.alloc (M #[I J rk,I J rv,X rg] 86)).heap.size (w.alloc (M #[I J rk,I J rv,X rg] 86)) w3:=by have:=HBe.out;subst this;simpa using hB3
     have r0:=cV hBo3 0;have r1:=cV hBo3 1;have r2:=cV hBo3 2;simp at r0 r1 r2;have hbw3:=cL hBo3;clear hBo3;have q0:=aC hbw3 y0;have q1:=aC hbw3 y1;have q2:=aC hbw3 y2;go_quiet (fail)
     go_wp2_with(at_builtin;go_must (refine fC (.tmp 39) (.tmp 44) B (Z a3 (p+1) c3) ((p+1)) (S++[⟨rk,rv,rg⟩]) 1 [⟨xk,xv,xg⟩] hsum2 ?_ ?_ ?_ ?_ ?_ ?_ ?_;exact rfl;exact rfl;exact rfl;exact⟨_,_,rfl,lK (r:=⟨xk,xv,xg⟩) rfl⟩;exact aF own3 (Go.below_drewN u' _|>.alloc (by simp) _);(focus(simp;omega));intro a4 c4 w4 own4 b4))
     go_roundw;case rel=>exact⟨t+1,p+1+1,a4,c4,A',_,by omega,by simp;omega,by go_num,rfl,rfl,HS.out,own4,((Go.below_drewN hB3 _).alloc (by simpa using hBs3) _).trans b4⟩
     case measure=>simp[intOf];omega
   |true=>
    simp only[Bool.toNat_true]at hp;have hsum1:p+1<=2097152:=by omega
    have HOn':=hid (HOn.out rfl);have HOv':=hid (HOv.out rfl);clear HLo HSa HHi HOn HOv st;by_cases hx:xk=rk
    .have hne:(xk !=rk)=F':=by simp;omega
     have HS:=hid (HOv'.out hx);clear HOn' HOv' hx;go_wp2;go_quiet (fail)
     go_wp2;go_quiet (fail)
     go_wp2;go_roundw;case rel=>exact⟨t+1,p,a2,c2,A',_,by omega,by simp;omega,by go_num,rfl,rfl,HS.out,own,Go.below_drewN hB _⟩
     case measure=>simp[intOf];omega
    .have hne:(xk !=rk)=A':=by simpa using hx
     have HS:=hid (HOn'.out hx);clear HOn' HOv' hx;go_wp2;go_quiet (fail)
     go_wp2;go_quiet (fail)
     go_wp2_with(at_builtin;go_must (refine fC (.tmp 39) (.tmp 44) B (Z a2 p c2) (p) (S) 1 [⟨xk,xv,xg⟩] hsum1 ?_ ?_ ?_ ?_ ?_ ?_ ?_;exact rfl;exact rfl;exact rfl;exact⟨_,_,rfl,lK (r:=⟨xk,xv,xg⟩) rfl⟩;exact aF own (Go.below_drewN u' _|>.alloc (by simp) _);(focus(simp;omega));intro a3 c3 w3 own3 b3))
     go_roundw;case rel=>exact⟨t+1,p+1,a3,c3,A',_,by omega,by simp;omega,by go_num,rfl,rfl,HS.out,own3,((Go.below_drewN hB _).alloc (by simpa using hBs) _).trans b3⟩
     case measure=>simp[intOf];omega
  .obtain rfl:t=n:=by omega
   have hit:¬((t:Int)<(t:Int)):=by omega
   have HNo:=hid (fun(e:d=F')=>Ch.InSt.endNo (e▸st.out) (by have:=HL.out;omega));have HYe:=hid (fun(e:d=A')=>Ch.InSt.endYes (e▸st.out) (by have:=HL.out;omega));have hBw:w.heap.size<=B:=by have:=HBe.out;omega
   cases d with
   |false=>
    simp only[Bool.toNat_false,Nat.add_zero]at hp;have hsum1:p+1<=2097152:=by omega
    have HN:=hid (HNo.out rfl);clear HNo HYe st;go_wp2_with(at_builtin;go_must (refine fC (.tmp 48) (.tmp 50) B (Z a2 p c2) (p) (S) 1 [⟨rk,rv,rg⟩] hsum1 ?_ ?_ ?_ ?_ ?_ ?_ ?_;exact rfl;exact rfl;exact rfl;exact⟨_,_,rfl,lK (r:=⟨rk,rv,rg⟩) rfl⟩;exact aF own (q');(focus(simp;omega));intro a3 c3 w3 own3 b3))
    go_ret;have hBo3:Below w.heap.size w w3:=((hbw.alloc hbw.size _)).trans (b3.mono hBw);exact⟨a3,p+1,c3,rfl,by rw[HN.out];exact aP own3 hBw,hBo3⟩
   |true=>have HY:=hid (HYe.out rfl);clear HNo HYe st;go_wp2;go_ret;exact⟨a2,p,c2,rfl,by rw[HY.out];exact aP own hBw,hbw⟩
end Go.Proofs.YtpbbokalojdooaaGreat
