import Derived.Test.YtpbbokalojdooaaGreatWaa
namespace Go.Proofs.YtpbbokalojdooaaGreat
open Go.RowKit Ch Go.Proofs.Tryz
set_option linter.unusedSimpArgs false
set_option linter.unusedVariables false
set_option maxRecDepth 20000
set_option maxHeartbeats 8000000
open Value renaming int->I,slice->Z,bool->X,agg->U
open IntKind renaming i64->J
open Option renaming none->O,some->Y
open Obj renaming cells->M
open Ending renaming returned->R'
open Bool renaming true->A',false->F'
variable {cs:Array Value} {key m t:Int} {f:Int->Int} {sc:Int->List Int} {es:List (Int×Int)} {l zs:List Int} {xs:List Value} {b base cap g k n size:Nat} {o:Obj} {a:Option Addr} {p:Option Int} {e:TypeId} {v:Value} {w w' w1:World}
namespace Ch
def inB(v lo hi:Int):Bool:=decide (lo<=v)&&decide (v<=hi)
def dQ(k v:Int)(g:Bool):Int:=
 if !inB k 0 99||!inB v 0 9999 then 3 else if g&&v !=0 then 1 else 0
def qQ(h z:Int):Int:=(h*263+z+1)%65521
def nS(zs:List Int):Int:=zs.foldl qQ 5
theorem cO1(h z:Int):0<=qQ h z/\qQ h z<65521:=by unfold qQ;exact⟨Int.emod_nonneg _ (by decide),Fy _ (by decide)⟩
theorem wR(zs:List Int):0<=nS zs/\nS zs<65521:=by
 unfold nS;suffices H:∀h:Int,0<=h/\h<65521->0<=zs.foldl qQ h/\zs.foldl qQ h<65521 from H 5 (by decide);induction zs with
 |nil=>intro h hh;exact hh
 |cons z zs ih=>intro h _;exact ih _ (cO1 h z)
theorem bZ{α:Type}(zs:List α)(d:α)(k:Nat)(h:k<zs.length):zs.take (k+1)=zs.take k++[zs.getD k d]:=by rw[List.take_succ_eq_append_getElem h];simp[List.getD,h]
theorem bX6(zs:List Int)(k:Nat)(h:k<zs.length):nS (zs.take (k+1))=qQ (nS (zs.take k)) (zs.getD k 0):=by rw[bZ zs 0 k h];simp[nS,Em]
structure Row where
 k:Int
 v:Int
 g:Bool
def Row.zero:Row:=⟨0,0,F'⟩
def Row.fault(r:Row):Int:=dQ r.k r.v r.g
def low:Option Int->Int->Bool
 |none,_=>F'
 |some p,k=>decide (k<=p)
def iU:Option Int->List Row->Int
 |_,[]=>0
 |prev,r::rs=>if r.fault !=0 then r.fault else if low prev r.k then 1 else iU (Y r.k) rs
theorem gJ(prev:Option Int)(r:Row)(rs:List Row):iU prev (r::rs)=if r.fault !=0 then r.fault else if low prev r.k then 1 else iU (Y r.k) rs:=by cases prev<;>rfl
def iT(rs:List Row):Int:=iU O rs
def bG3(rs:List Row):Nat->Option Int
 |0=>O
 |k+1=>Y (rs.getD k Row.zero).k
def iN(rs:List Row)(k:Nat):Int:=iU (bG3 rs k) (rs.drop k)
theorem zX(rs:List Row)(k:Nat)(h:rs.length<=k):iN rs k=0:=by unfold iN;rw[Cb h];cases k<;>rfl
theorem aR7(rs:List Row)(k:Nat)(h:k<rs.length)(hf:((rs.getD k Row.zero).fault !=0)=A'):iN rs k=(rs.getD k Row.zero).fault:=by
 unfold iN;have e:rs.drop k=rs.getD k Row.zero::rs.drop (k+1):=by rw[Ck h];simp[List.getD,h]
 rw[e,gJ,if_pos hf]
theorem zY(rs:List Row)(k:Nat)(h:k+1<rs.length)(hf:((rs.getD (k+1) Row.zero).fault !=0)=F')(hl:(rs.getD (k+1) Row.zero).k<=(rs.getD k Row.zero).k):iN rs (k+1)=1:=by
 unfold iN;have e:rs.drop (k+1)=rs.getD (k+1) Row.zero::rs.drop (k+1+1):=by rw[Ck h];simp[List.getD,h]
 rw[e,gJ,if_neg (by rw[hf];exact Da),bG3];rw[if_pos (by simpa[low]using hl)]
theorem aF2(rs:List Row)(k:Nat)(h:k+1<rs.length)(hf:((rs.getD (k+1) Row.zero).fault !=0)=F')(hl:¬(rs.getD (k+1) Row.zero).k<=(rs.getD k Row.zero).k):iN rs (k+1)=iN rs (k+1+1):=by
 unfold iN;have e:rs.drop (k+1)=rs.getD (k+1) Row.zero::rs.drop (k+1+1):=by rw[Ck h];simp[List.getD,h]
 rw[e,gJ,if_neg (by rw[hf];exact Da),bG3];rw[if_neg (by simpa[low]using hl)];rfl
theorem vJ(rs:List Row)(h:0<rs.length)(hf:((rs.getD 0 Row.zero).fault !=0)=F'):iN rs 0=iN rs 1:=by
 unfold iN;have e:rs.drop 0=rs.getD 0 Row.zero::rs.drop 1:=by rw[Ck h];simp[List.getD,h]
 rw[e,gJ,if_neg (by rw[hf];exact Da),bG3,if_neg (by simp[low])];rfl
def cL(rs:List Row):Int:=if 4<rs.length then 2 else iT rs
def pE(p:List Int):List Int:=p++[nS p / 256,nS p%256]
def Row.fits(r:Row):Prop:=0<=r.k/\r.k<=99/\0<=r.v/\r.v<=9999
def dO0(rs:List Row):Prop:=∀i,(rs.getD i Row.zero).fits
def bK9(zs:List Int):Prop:=∀z∈zs,0<=z/\z<=255
theorem cZ5(p:List Int):bK9 [nS p / 256,nS p%256]:=by have:=wR p;intro z hz;simp only[Am,Cu,Eh]at hz;rcases hz with rfl|rfl<;>omega
theorem aU5{rs:List Row}(h:iU p rs=0):∀r∈rs,r.fault=0:=by
 induction rs generalizing p with
 |nil=>intro r hr;cases hr
 |cons q rs ih=>
  rw[gJ]at h;by_cases hq:(q.fault !=0)=A'
  .rw[if_pos hq]at h;simp[h]at hq
  .rw[if_neg hq]at h;by_cases hl:low p q.k=A'
   .rw[if_pos hl]at h;omega
   .rw[if_neg hl]at h;intro r hr;rcases Am.1 hr with rfl|hr
    .simpa using hq
    .exact ih h r hr
theorem qU{r:Row}(h:r.fault=0):r.fits:=by unfold Row.fault dQ inB at h;unfold Row.fits;by_cases h1:0<=r.k<;>by_cases h2:r.k<=99<;>by_cases h3:0<=r.v<;>by_cases h4:r.v<=9999<;>simp[h1,h2,h3,h4]at h⊢
theorem uN{rs:List Row}(h:cL rs=0):dO0 rs/\rs.length<=4:=by
 unfold cL at h;by_cases h4:4<rs.length
 .rw[if_pos h4]at h;omega
 .rw[if_neg h4]at h;refine⟨fun i=>?_,by omega⟩;by_cases hi:i<rs.length
  .have:rs.getD i Row.zero=rs[i]:=by simp[List.getD,hi]
   rw[this];exact qU (aU5 h _ (Ce hi))
  .have:rs.getD i Row.zero=Row.zero:=by simp[List.getD,Bk (show rs.length<=i by omega)]
   rw[this];unfold Row.fits Row.zero;decide
end Ch
theorem bS{row:Option Nat}(hg:w.grownBy w' row)(h:w.heap[b]? =Y o)(hne:row≠Y b):w'.heap[b]? =Y o:=
 (hg.block b (Ab.1 h).1 (fun e=>hne e.symm)).trans h
theorem aZ1(h:w.ownsRow base e size (Z (Y ⟨g,0,O⟩) n cap) n xs):n<=cap/\cap<=9223372036854775807:=by
 rcases h.2 with⟨hv,_⟩|⟨g',cp,cur,hv,hb,hh,h1,h2,_⟩
 .simp at hv
 .simp only[Bg]at hv;obtain⟨_,_,rfl⟩:=hv;exact⟨h1,by unfold maxLen at h2;exact h2⟩
def dF1(v:Value):Nat:=match v with
 |Z _ m _=>m
 |_=>0
section
open Go.Maps
theorem dQ8{t:TypeId}{f:Nat×Nat}{c0 c1 c2:Value}(h:w.heap[b]? =Y (M #[c0,c1,c2] t f)):w.cell? ⟨b,0,O⟩=Y c0/\w.cell? ⟨b,1,O⟩=Y c1/\w.cell? ⟨b,2,O⟩=Y c2:=
 ⟨C' h,C' h,C' h⟩
end
section
structure Ch.Far(sc:Int->List Int)(t:Int)(far:Int->Option Nat):Prop where
 zero:∀x,far x=Y 0↔x=t
 down:∀x d,far x=Y (d+1)->∃u∈sc x,far u=Y d
 up:∀x u d,u∈sc x->far u=Y d->∃d',d'<=d+1/\far x=Y d'
section
variable{sc:Int->List Int}{t:Int}{v:Nat->Int}{par lev:Nat->Nat}{N p m:Nat}{far:Int->Option Nat}{al:Nat->Nat}
end
end
def fM(r:Nat)(f:Int->Int)(e:Int×Int):Int->Int:=if f e.2=r/\f e.1<0 then fun y=>if y=e.1 then(r:Int)+1 else f y else f
def qB(es:List (Int×Int))(r:Nat)(f:Int->Int):Int->Int:=es.foldl (fM r) f
def dD(es:List (Int×Int))(t:Int):Nat->Int->Int
 |0=>fun x=>if x=t then 0 else -1
 |r+1=>qB es r (dD es t r)
def Ch.hit(es:List (Int×Int))(r:Nat)(f:Int->Int)(x:Int):Bool:=es.any (fun e=>decide (e.1=x)&&decide (f e.2=r))
theorem aS3(es:List (Int×Int))(r:Nat)(f:Int->Int):∀x,qB es r f x=if 0<=f x then f x else if Ch.hit es r f x=A' then(r:Int)+1 else f x:=by
 suffices H:∀(es done:List (Int×Int)) (g:Int->Int),(∀x,g x=if 0<=f x then f x else if Ch.hit done r f x=A' then(r:Int)+1 else f x)->∀x,es.foldl (fM r) g x=if 0<=f x then f x else if Ch.hit (done++es) r f x=A' then(r:Int)+1 else f x by intro x;have:=H es [] f (fun x=>by simp[Ch.hit]) x;simpa[qB]using this
 intro es;induction es with
 |nil=>intro done g hg x;simpa using hg x
 |cons e es ih=>
  intro done g hg x;rw[List.foldl_cons];have:=ih (done++[e]) (fM r g e) ?_ x
  .simpa using this
  intro y;have hm:g e.2=r↔f e.2=r:=by
   rw[hg e.2];by_cases h0:0<=f e.2
   .rw[if_pos h0]
   .rw[if_neg h0];split
    .constructor<;>intro h<;>omega
    .rfl
  have hhit:Ch.hit (done++[e]) r f y=(Ch.hit done r f y||(decide (e.1=y)&&decide (f e.2=r))):=by unfold Ch.hit;simp
  unfold fM;by_cases hc:g e.2=r/\g e.1<0
  .rw[if_pos hc];have hf2:=hm.1 hc.1;have h1:=hg e.1;by_cases h0:0<=f e.1
   .rw[if_pos h0]at h1;omega
   .by_cases hy:y=e.1
    .subst hy;rw[if_pos rfl,if_neg h0,hhit];simp[hf2]
    .rw[if_neg hy,hg y,hhit];have:decide (e.1=y)=F':=by simp;exact fun h=>hy h.symm
     rw[this];simp
  .rw[if_neg hc,hg y,hhit];by_cases h0:0<=f y
   .rw[if_pos h0,if_pos h0]
   .rw[if_neg h0,if_neg h0];by_cases hd:Ch.hit done r f y=A'
    .simp[hd]
    .have hd':Ch.hit done r f y=F':=by simpa using hd
     have hgy:g y=f y:=by rw[hg y,if_neg h0,if_neg hd]
     have:(decide (e.1=y)&&decide (f e.2=r))=F':=by
      by_cases he:e.1=y
      .subst he;have:¬f e.2=r:=fun h=>hc ⟨hm.2 h,by omega⟩;simp[this]
      .simp[he]
     rw[hd',this];rfl
structure Ch.FarTo(es:List (Int×Int))(t:Int)(r:Nat)(f:Int->Int):Prop where
 low:∀x,-1<=f x
 high:∀x,f x<=r
 zero:∀x,f x=0↔x=t
 down:∀x (d:Nat),f x=(d:Int)+1->∃e∈es,e.1=x/\f e.2=d
 up:∀(d:Nat),d<r->∀e∈es,f e.2=d->0<=f e.1/\f e.1<=(d:Int)+1
theorem aL0(es:List (Int×Int))(t:Int):∀r,FarTo es t r (dD es t r):=by
 intro r;induction r with
 |zero=>
  refine⟨fun x=>?_,fun x=>?_,fun x=>?_,fun x d h=>?_,fun d hd=>by omega⟩
  .unfold dD;split<;>omega
  .unfold dD;split<;>omega
  .unfold dD;split
   .simp[*]
   .constructor
    .intro h;omega
    .intro h;contradiction
  .unfold dD at h;split at h<;>omega
 |succ r ih=>
  have F:=aS3 es r (dD es t r);have e1:dD es t (r+1)=qB es r (dD es t r):=rfl;rw[e1];clear e1;generalize dD es t r=f at*;have old:∀x,0<=f x->qB es r f x=f x:=fun x h=>by rw[F x,if_pos h]
  refine⟨fun x=>?_,fun x=>?_,fun x=>?_,fun x d h=>?_,fun d hd e he hf=>?_⟩
  .rw[F x];have:=ih.low x;split<;>(try split)<;>omega
  .rw[F x];have:=ih.high x;split<;>(try split)<;>omega
  .rw[F x];by_cases h0:0<=f x
   .rw[if_pos h0];exact ih.zero x
   .rw[if_neg h0];have hx:¬x=t:=fun e=>h0 (by rw[(ih.zero x).2 e];omega);split
    .constructor
     .intro h;omega
     .intro h;contradiction
    .constructor
     .intro h;omega
     .intro h;contradiction
  .rw[F x]at h;by_cases h0:0<=f x
   .rw[if_pos h0]at h;obtain⟨e,he,h1,h2⟩:=ih.down x d h;exact⟨e,he,h1,by rw[old _ (by omega)];exact h2⟩
   .rw[if_neg h0]at h;by_cases hh:Ch.hit es r f x=A'
    .rw[if_pos hh]at h;obtain⟨e,he,h1⟩:=Ct.1 hh;simp only[Bq,Cs]at h1;exact⟨e,he,h1.1,by rw[old _ (by omega)];omega⟩
    .rw[if_neg hh]at h;omega
  .by_cases h0:0<=f e.2
   .rw[old _ h0]at hf;by_cases hdr:d<r
    .have:=ih.up d hdr e he hf;rw[old _ this.1];exact this
    .have hd':d=r:=by omega
     subst hd';by_cases h1:0<=f e.1
     .rw[old _ h1];exact⟨h1,by have:=ih.high e.1;omega⟩
     .have hh:Ch.hit es d f e.1=A':=Ct.2 ⟨e,he,by simp[hf]⟩;rw[F e.1,if_neg h1,if_pos hh];omega
   .rw[F e.2,if_neg h0]at hf;split at hf<;>omega
theorem Ch.FarTo.chain{r:Nat}(F:FarTo es t r f):∀(d:Nat) (x:Int),f x=d->∃l:List Int,l.length=d/\l.Nodup/\(∀y∈l,(∃e∈es,e.1=y)/\0<f y/\f y<=d):=by
 intro d;induction d with
 |zero=>intro x _;exact⟨[],rfl,List.nodup_nil,fun y hy=>by cases hy⟩
 |succ d ih=>
  intro x hx;obtain⟨e,he,h1,h2⟩:=F.down x d (by rw[hx];simp);obtain⟨l,hl,hn,hy⟩:=ih e.2 h2;refine⟨x::l,by simp[hl],Eb.2 ⟨fun hm=>?_,hn⟩,fun y hm=>?_⟩
  .have:=(hy x hm).2.2;rw[hx]at this;omega
  .rcases Am.1 hm with rfl|hm
   .exact⟨⟨e,he,h1⟩,by rw[hx];omega,by rw[hx];omega⟩
   .obtain⟨h3,h4,h5⟩:=hy y hm;exact⟨h3,h4,by omega⟩
theorem bR1{m:List Int}(hn:l.Nodup)(hs:∀y∈l,y∈m):l.length<=m.length:=by
 induction l generalizing m with
 |nil=>simp
 |cons a l ih=>rw[Eb]at hn;have ha:=hs a (Bj ..);have:=ih (m:=m.erase a) hn.2 (fun y hy=>(List.mem_erase_of_ne (fun e:y=a=>hn.1 (by rw[<-e];exact hy))).2 (hs y (Ba _ hy)));rw[List.length_erase_of_mem ha]at this;have hp:0<m.length:=List.length_pos_of_mem ha;simp;omega
theorem cU7(F:FarTo es t es.length f){e:Int×Int}(he:e∈es){d:Nat}(hf:f e.2=d):0<=f e.1/\f e.1<=(d:Int)+1:=by
 by_cases hd:d<es.length
 .exact F.up d hd e he hf
 .have hh:=F.high e.2;have hde:d=es.length:=by omega
  have hh1:=F.high e.1;have hl1:=F.low e.1;by_cases h0:0<=f e.1
  .exact⟨h0,by omega⟩
  .exfalso;obtain⟨l,hl,hn,hy⟩:=F.chain d e.2 hf;have:=bR1 (l:=e.1::l) (m:=es.map Prod.fst) (Eb.2 ⟨fun hm=>by have:=(hy _ hm).2.1;omega,hn⟩) (fun y hm=>by
    rcases Am.1 hm with rfl|hm
    .exact Db.2 ⟨e,he,rfl⟩
    .obtain⟨e',he',h'⟩:=(hy y hm).1;exact Db.2 ⟨e',he',h'⟩)
   simp at this;omega
theorem cU6(hsc:∀x u,u∈sc x↔(x,u)∈es):Far sc t (fun x=>if 0<=dD es t es.length x then Y (dD es t es.length x).toNat else O):=by
 have F:=aL0 es t es.length;generalize dD es t es.length=f at*;refine⟨fun x=>?_,fun x d h=>?_,fun x u d hu h=>?_⟩
 .have:=F.zero x;by_cases h0:0<=f x
  .simp only[if_pos h0,Af];rw[<-this];omega
  .simp only[if_neg h0];constructor
   .intro h;cases h
   .intro h;exact absurd (this.2 h) (by omega)
 .by_cases h0:0<=f x
  .simp only[if_pos h0,Af]at h;obtain⟨e,he,h1,h2⟩:=F.down x d (by omega);refine⟨e.2,(hsc x e.2).2 (by rw[<-h1];exact he),?_⟩;simp only[if_pos (show 0<=f e.2 by omega),Af];omega
  .simp only[if_neg h0]at h;cases h
 .by_cases h0:0<=f u
  .simp only[if_pos h0,Af]at h;have:=cU7 F ((hsc x u).1 hu) (d:=d) (by show f u=d;omega);refine⟨(f x).toNat,by have:=this.2;simp only at this;omega,?_⟩;simp only[if_pos this.1]
  .simp only[if_neg h0]at h;cases h
def CellsAt(w:World)(a:Option Addr)(m:Nat)(xs:List Value):Prop:=
 xs.length=m/\(0<m->∃b off,a=Y ⟨b,off,O⟩/\∀i,i<m->w.cell? ⟨b,off+i,O⟩=xs[i]?)
def bts(zs:List Int):List Value:=zs.map (I .u8)
def IsB(zs:List Int):Prop:=∀i,0<=zs.getD i 0/\zs.getD i 0<=255
theorem bD5(h:bK9 zs):IsB zs:=by
 intro i;by_cases hi:i<zs.length
 .have:zs.getD i 0=zs[i]:=by simp[List.getD,hi]
  rw[this];exact h _ (Ce hi)
 .have:zs.getD i 0=0:=by simp[List.getD,Bk (show zs.length<=i by omega)]
  rw[this];decide
theorem CellsAt.at(h:CellsAt w a n (bts zs))(hk:k<n):
  ∃b off,a=Y ⟨b,off,O⟩/\w.cell? ⟨b,off+k,O⟩=Y (I .u8 (zs.getD k 0)):=by
 obtain⟨b,off,ha,hc⟩:=h.2 (by omega);refine⟨b,off,ha,?_⟩;have hl:zs.length=n:=by simpa[bts]using h.1
 rw[hc k hk];simp[bts,List.getD,show k<zs.length by omega]
theorem CellsAt.len(h:CellsAt w a n (bts zs)):Hid (n=zs.length):=by
 have hl:zs.length=n:=by simpa[bts]using h.1
 exact hl.symm
theorem aD{o:Nat}(h:w.cell? ⟨b,o,O⟩=Y v):b<w.heap.size:=by
 by_cases hb:b<w.heap.size
 .exact hb
 .exfalso;have:w.heap[b]? =O:=by simp;omega
  simp[World.cell?,this]at h
theorem CellsAt.below{m:Nat}(h:CellsAt w a m xs)(hb:V' w w'):CellsAt w' a m xs:=by
 refine⟨h.1,fun hm=>?_⟩;obtain⟨b,off,ha,hc⟩:=h.2 hm;refine⟨b,off,ha,fun i hi=>?_⟩;have:=hc i hi;have hx:xs[i]? =Y (xs[i]'(by rw[h.1];exact hi)):=by simp
 rw[<-this];exact hb.cell (p:=⟨b,off+i,O⟩) (aD (this.trans hx))
theorem keep_cell(hb:V' w w'){o:Nat}(h:w.cell? ⟨b,o,O⟩=Y v):w'.cell? ⟨b,o,O⟩=Y v:=
 (hb.cell (p:=⟨b,o,O⟩) (aD h)).trans h
theorem aZ(b1:Below (w.alloc o).heap.size (w.alloc o) w1):V' w w1:=
 ((Aa _ _).alloc z' _).trans (b1.mono (by simp))
theorem aU{t:TypeId}(b1:Below (w.alloc (M cs t)).heap.size (w.alloc (M cs t)) w1)(i:Nat):w1.cell? ⟨w.heap.size,i,O⟩=cs[i]? :=by rw[b1.cell (p:=⟨w.heap.size,i,O⟩) (by simp)];exact C' (Ar w _)
theorem dH{W:World}(hb:V' W w1):(∀b o,b<W.heap.size->w1.cell? ⟨b,o,O⟩=W.cell? ⟨b,o,O⟩)/\(∀b o,b<W.heap.size->w1.frozen? ⟨b,o,O⟩=W.frozen? ⟨b,o,O⟩):=
 ⟨fun b o h=>hb.cell (p:=⟨b,o,O⟩) h,fun b o h=>hb.frozen (p:=⟨b,o,O⟩) h⟩
theorem aG(h:w.ownsRow base e size v n xs)(hb:V' w w'):w'.ownsRow base e size v n xs:=by
 refine⟨h.1,?_⟩;rcases h.2 with h'|⟨g,cap,cur,hv,hg,hh,h1,h2,h3,h4⟩
 .exact .inl h'
 .refine .inr ⟨g,cap,cur,hv,hg,?_,h1,h2,h3,h4⟩;have hlt:g<w.heap.size:=by
   by_cases hlt:g<w.heap.size
   .exact hlt
   .rw[Ev (by omega)]at hh;cases hh
  rw[hb.block g hlt];exact hh
theorem aO(h:w.ownsRow base e size (Z a n cap) n xs):CellsAt w a (n*size) xs:=by
 refine⟨h.1,fun hm=>?_⟩;rcases h.2 with⟨hv,h0⟩|⟨g,cap',cur,hv,_⟩
 .subst h0;simp at hm
 .simp only[Bg]at hv;obtain⟨rfl,_,rfl⟩:=hv;exact⟨g,0,rfl,fun i hi=>by rw[Al];exact h.cellAt i hi⟩
theorem wE(h:w.ownsRow base e size (Z (Y ⟨g,0,O⟩) n cap) n xs){j:Nat}(hj:j<n*size):∃u,w.cell? ⟨g,j,O⟩=Y u:=by rw[h.cellAt j hj];exact⟨xs[j]'(by rw[h.1];exact hj),by simp⟩
theorem iY(h:w.ownsRow base e size (Z (Y ⟨g,0,O⟩) n cap) n xs):base<=g/\g<w.heap.size:=by
 rcases h.2 with⟨hv,_⟩|⟨g',cap',cur,hv,hb,hh,_⟩
 .simp at hv
 .simp only[Bg,Af,Ap,Cn,Es]at hv;obtain⟨rfl,rfl⟩:=hv;refine⟨hb,?_⟩;by_cases hlt:g<w.heap.size
  .exact hlt
  .rw[Ev (by omega)]at hh;cases hh
theorem aQ{base':Nat}(h:w.ownsRow base e size v n xs)(hb:base'<=base):w.ownsRow base' e size v n xs:=by
 refine⟨h.1,?_⟩;rcases h.2 with h'|⟨g,cap,cur,hv,hg,hh,h1,h2,h3,h4⟩
 .exact .inl h'
 .exact .inr ⟨g,cap,cur,hv,by omega,hh,h1,h2,h3,h4⟩
theorem dT(h:w.ownsRow base e size v n xs):∃a cap,v=Z a n cap:=by
 rcases h.2 with⟨hv,h0⟩|⟨g,cap',cur,hv,_⟩
 .subst h0;exact⟨_,_,hv⟩
 .exact⟨_,_,hv⟩
def rcells(rs:List Row):List Value:=rs.flatMap fun r=>[I J r.k,I J r.v,X r.g]
theorem gG(rs:List Row):(rcells rs).length=rs.length*3:=by
 induction rs with
 |nil=>rfl
 |cons r rs ih=>simp only[rcells,Cc,Bv,List.length_cons,List.length_nil]at*;omega
theorem cY2(rs:List Row)(k:Nat)(h:k<rs.length):(rcells rs)[k*3]? =Y (I J (rs.getD k Row.zero).k)/\(rcells rs)[k*3+1]? =Y (I J (rs.getD k Row.zero).v)/\(rcells rs)[k*3+2]? =Y (X (rs.getD k Row.zero).g):=by
 induction rs generalizing k with
 |nil=>simp at h
 |cons r rs ih=>
  cases k with
  |zero=>simp[rcells]
  |succ k=>have:=ih k (by simpa using h);simp only[rcells,Cc]at*;rw[show(k+1)*3=k*3+1+1+1 by omega];simpa using this
theorem CellsAt.rlen{rs:List Row}(h:CellsAt w a (n*3) (rcells rs)):Hid (n=rs.length):=by have:=h.1;rw[gG]at this;exact(by omega:n=rs.length)
theorem CellsAt.row{rs:List Row}(h:CellsAt w a (n*3) (rcells rs))(hk:k<n):
  ∃b off,a=Y ⟨b,off,O⟩/\w.cell? ⟨b,off+k*3,O⟩=Y (I J (rs.getD k Row.zero).k)/\w.cell? ⟨b,off+k*3+1,O⟩=Y (I J (rs.getD k Row.zero).v)/\w.cell? ⟨b,off+k*3+2,O⟩=Y (X (rs.getD k Row.zero).g):=by
 obtain⟨b,off,ha,hc⟩:=h.2 (by omega);have hl:=h.rlen.out;obtain⟨h0,h1,h2⟩:=cY2 rs k (by omega);exact⟨b,off,ha,(hc _ (by omega)).trans h0,by rw[Dm];exact(hc _ (by omega)).trans h1,by rw[Dm];exact(hc _ (by omega)).trans h2⟩
namespace Ch
def gL(l:List Row):Int:=(l.getD 0 Row.zero).k
def nO(l:List Row):Int:=(l.getD (l.length-1) Row.zero).k
def tF:Option Int->List (List Row)->Int
 |_,[]=>0
 |p,l::ls=>if l.length=0 then 1 else if cL l !=0 then cL l else if low p (gL l)then 1 else tF (Y (nO l)) ls
theorem kM(p:Option Int)(l:List Row)(ls:List (List Row)):tF p (l::ls)=if l.length=0 then 1 else if cL l !=0 then cL l else if low p (gL l)then 1 else tF (Y (nO l)) ls:=by cases p<;>rfl
def aL(ls:List (List Row)):Int:=if 60<ls.length then 2 else tF O ls
def aN8(ls:List (List Row)):Nat->Option Int
 |0=>O
 |k+1=>Y (nO (ls.getD k []))
def tU(ls:List (List Row))(k:Nat):Int:=tF (aN8 ls k) (ls.drop k)
def nM(ls:List (List Row)):Nat->Int
 |0=> -1
 |k+1=>nO (ls.getD k [])
theorem aH7(ls:List (List Row))(k:Nat)(h:k<ls.length):ls.drop k=ls.getD k []::ls.drop (k+1):=by rw[Ck h];simp[List.getD,h]
theorem cR1(ls:List (List Row))(k:Nat)(h:ls.length<=k):tU ls k=0:=by unfold tU;rw[Cb h];cases aN8 ls k<;>rfl
theorem bJ7(ls:List (List Row))(k:Nat)(h:k<ls.length)(h0:(ls.getD k []).length=0):tU ls k=1:=by unfold tU;rw[aH7 ls k h,kM,if_pos h0]
theorem bX0(ls:List (List Row))(k:Nat)(h:k<ls.length)(h0:(ls.getD k []).length≠0)(hp:(cL (ls.getD k []) !=0)=A'):tU ls k=cL (ls.getD k []):=by unfold tU;rw[aH7 ls k h,kM,if_neg h0,if_pos hp]
theorem cU8{l:List Row}(hp:cL l=0):0<=gL l:=by have:=(uN hp).1 0;exact this.1
theorem cR2(ls:List (List Row))(k:Nat)(h:k<ls.length)(h0:(ls.getD k []).length≠0)(hp:(cL (ls.getD k []) !=0)=F')(hl:gL (ls.getD k [])<=nM ls k):tU ls k=1:=by
 have hp':cL (ls.getD k [])=0:=by simpa using hp
 have:=cU8 hp';unfold tU;rw[aH7 ls k h,kM,if_neg h0,if_neg (by rw[hp];exact Da)];cases k with
 |zero=>simp only[nM]at hl;omega
 |succ k=>rw[if_pos (by simpa[aN8,low,nM]using hl)]
theorem dA6(ls:List (List Row))(k:Nat)(h:k<ls.length)(h0:(ls.getD k []).length≠0)(hp:(cL (ls.getD k []) !=0)=F')(hl:¬gL (ls.getD k [])<=nM ls k):tU ls k=tU ls (k+1):=by
 unfold tU;rw[aH7 ls k h,kM,if_neg h0,if_neg (by rw[hp];exact Da)];cases k with
 |zero=>rw[if_neg (by simp[aN8,low])];rfl
 |succ k=>rw[if_neg (by simpa[aN8,low,nM]using hl)];rfl
theorem bQ4{ls:List (List Row)}(h:tF p ls=0):∀l∈ls,l.length≠0/\cL l=0:=by
 induction ls generalizing p with
 |nil=>intro l hl;cases hl
 |cons q ls ih=>
  rw[kM]at h;by_cases h0:q.length=0
  .rw[if_pos h0]at h;omega
  .rw[if_neg h0]at h;by_cases hq:(cL q !=0)=A'
   .rw[if_pos hq]at h;simp[h]at hq
   .rw[if_neg hq]at h;by_cases hl:low p (gL q)=A'
    .rw[if_pos hl]at h;omega
    .rw[if_neg hl]at h;intro l hl;rcases Am.1 hl with rfl|hl
     .exact⟨h0,by simpa using hq⟩
     .exact ih h l hl
theorem fY{ls:List (List Row)}(h:aL ls=0)(k:Nat)(hk:k<ls.length):(ls.getD k []).length≠0/\cL (ls.getD k [])=0:=by
 unfold aL at h;by_cases h6:60<ls.length
 .rw[if_pos h6]at h;omega
 .rw[if_neg h6]at h;have:=bQ4 h (ls[k]) (Ce hk);simpa[List.getD,hk]using this
theorem aX4{ls:List (List Row)}(h:aL ls=0):ls.length<=60:=by
 unfold aL at h;by_cases h6:60<ls.length
 .rw[if_pos h6]at h;omega
 .omega
end Ch
theorem cB1{ls:List (List Row)}(hl:Hid (n=ls.length))(h:aL ls=0):∀k,k<n->(ls.getD k []).length≠0:=fun k hk=>(fY h k (by have:=hl.out;omega)).1
namespace Ch
def isM(m:Int):Bool:=inB m 0 5
def rX:List (List Bool):=
 [[A',A',A',A',A',A'],[A',A',A',A',A',F'],[A',A',A',F',F',F'],
  [A',A',F',A',F',F'],[A',A',F',F',F',F'],[A',F',F',F',F',F']]
def pP:List (List Bool):=
 [[A',F',F',F',F',F'],[A',A',F',F',F',F'],[A',A',A',F',F',F'],
  [A',A',F',A',F',F'],[A',A',A',A',A',F'],[A',A',A',A',A',A']]
def tab(t:List (List Bool))(a b:Int):Bool:=(t.getD a.toNat []).getD b.toNat F'
def fit(a b:Int):Bool:=tab rX a b
def cov(a b:Int):Bool:=tab pP a b
def kU(a b:Int):Bool:=isM a&&isM b&&fit a b
def eJ(a b:Int):Bool:=isM a&&isM b&&cov a b
def joinT:List (List Int):=
 [[0,1,2,3,4,5],[1,1,2,3,4,5],[2,2,2,4,4,5],[3,3,4,3,4,5],[4,4,4,4,4,5],[5,5,5,5,5,5]]
def eX(a b:Int):Int:=(joinT.getD a.toNat []).getD b.toNat 0
theorem dK(h:isM m=A'):m=0\/m=1\/m=2\/m=3\/m=4\/m=5:=by simp[isM,inB]at h;omega
theorem dA7(h:isM m=A'):0<=m/\m<=5:=by simp[isM,inB]at h;omega
end Ch
namespace Ch
structure Rec where
 kd:Int
 tx:Int
 ky:Int
 hd:Bool
 ol:Int
 hs:Bool
 nw:Int
def Rec.zero:Rec:=⟨0,0,0,F',0,F',0⟩
def lL(k:Int):Bool:=k==2||k==3
def Rec.fault(r:Rec):Int:=
 if !inB r.kd 1 5 then 1
 else if !inB r.tx 1 999||lL r.kd&&(!inB r.ky 0 99||!inB r.ol 0 9999||!inB r.nw 0 9999)then 3
 else if !lL r.kd&&(r.ky !=0||r.hd||r.hs||r.ol !=0||r.nw !=0)then 1
 else if !r.hd&&r.ol !=0||!r.hs&&r.nw !=0 then 1 else 0
def Rec.flags(r:Rec):Int:=(if r.hd then 1 else 0)+(if r.hs then 2 else 0)
def Rec.more(r:Rec):List Int:=[r.ky,r.flags,r.ol / 256,r.ol%256,r.nw / 256,r.nw%256]
def Rec.body(r:Rec):List Int:=[r.kd,r.tx / 256,r.tx%256]++(if lL r.kd then r.more else [])
def Rec.bytes(r:Rec):List Int:=pE r.body
def Rec.len(r:Rec):Nat:=if lL r.kd then 11 else 5
theorem Rec.len_bd(r:Rec):5<=r.len/\r.len<=11:=by unfold Rec.len;split<;>omega
theorem Rec.bytes_len(r:Rec):r.bytes.length=r.len:=by unfold Rec.bytes pE Rec.body Rec.len;cases h:lL r.kd<;>simp[Rec.more]
structure Rec.Fit(r:Rec):Prop where
 kd:1<=r.kd/\r.kd<=5
 tx:1<=r.tx/\r.tx<=999
 ky:0<=r.ky/\r.ky<=99
 ol:0<=r.ol/\r.ol<=9999
 nw:0<=r.nw/\r.nw<=9999
 rest:lL r.kd=F'->r.ky=0/\r.hd=F'/\r.ol=0/\r.hs=F'/\r.nw=0
theorem Rec.fit{r:Rec}(h:r.fault=0):r.Fit:=by
 obtain⟨kd,tx,ky,hd,ol,hs,nw⟩:=r;simp only[Rec.fault]at h;by_cases h1:(!inB kd 1 5)=A'
 .rw[if_pos h1]at h;omega
 rw[if_neg h1]at h;by_cases h2:(!inB tx 1 999||lL kd&&(!inB ky 0 99||!inB ol 0 9999||!inB nw 0 9999))=A'
 .rw[if_pos h2]at h;omega
 rw[if_neg h2]at h;by_cases h3:(!lL kd&&(ky !=0||hd||hs||ol !=0||nw !=0))=A'
 .rw[if_pos h3]at h;omega
 clear h;cases hs':lL kd
 .simp[hs']at h1 h2 h3;simp[inB]at h1 h2;obtain⟨⟨⟨⟨a,b⟩,c⟩,d⟩,e⟩:=h3;subst a b c d e;exact⟨⟨h1.1,h1.2⟩,⟨h2.1,h2.2⟩,by simp,by simp,by simp,fun _=>⟨rfl,rfl,rfl,rfl,rfl⟩⟩
 .simp[hs',inB]at h1 h2;obtain⟨⟨a,b⟩,⟨⟨c,d⟩,e,f⟩,g,k⟩:=h2;refine⟨⟨h1.1,h1.2⟩,⟨a,b⟩,⟨c,d⟩,⟨e,f⟩,⟨g,k⟩,fun h=>?_⟩;simp[hs']at h
theorem Rec.flags_bd(r:Rec):0<=r.flags/\r.flags<=3:=by unfold Rec.flags;cases r.hd<;>cases r.hs<;>simp
theorem Rec.body_bytes{r:Rec}(h:r.Fit):bK9 r.body:=by
 obtain⟨⟨_,_⟩,⟨_,_⟩,⟨_,_⟩,⟨_,_⟩,⟨_,_⟩,_⟩:=h;have:=r.flags_bd;intro z hz;unfold Rec.body at hz;cases hs:lL r.kd
 .simp[hs]at hz;rcases hz with rfl|rfl|rfl<;>omega
 .simp[hs,Rec.more]at hz;rcases hz with rfl|rfl|rfl|rfl|rfl|rfl|rfl|rfl|rfl<;>omega
theorem Rec.all_bytes{r:Rec}(h:r.Fit):bK9 r.bytes:=by
 intro z hz;unfold Rec.bytes pE at hz;rcases Aj.1 hz with hz|hz
 .exact Rec.body_bytes h z hz
 .exact cZ5 _ z hz
def unp(zs:List Int):Rec:=
 if lL (zs.getD 0 0)then⟨zs.getD 0 0,zs.getD 1 0*256+zs.getD 2 0,zs.getD 3 0,zs.getD 4 0%2==1,zs.getD 5 0*256+zs.getD 6 0,zs.getD 4 0 / 2%2==1,zs.getD 7 0*256+zs.getD 8 0⟩
 else⟨zs.getD 0 0,zs.getD 1 0*256+zs.getD 2 0,0,F',0,F',0⟩
def first(zs:List Int):Option Rec:=if(unp zs).fault=0/\(unp zs).bytes<+:zs then Y (unp zs)else O
theorem cA8{r:Rec}(h:first zs=Y r):r.fault=0/\r.bytes<+:zs/\unp zs=r:=by
 unfold first at h
 split at h
 .next hc=>cases h;exact⟨hc.1,hc.2,rfl⟩
 .cases h
theorem tZ{r:Rec}(h:first zs=Y r):5<=r.len/\r.len<=zs.length:=by obtain⟨_,h2,_⟩:=cA8 h;have:=h2.length_le;rw[r.bytes_len]at this;exact⟨r.len_bd.1,this⟩
def vH:Nat->List Int->List Rec
 |0,_=>[]
 |n+1,zs=>match first zs with
  |none=>[]
  |some r=>r::vH n (zs.drop r.len)
def iS(zs:List Int):List Rec:=vH zs.length zs
theorem oZ(h:first zs=O):vH n zs=[]:=by
 cases n with
 |zero=>rfl
 |succ n=>simp[vH,h]
theorem cY3(n:Nat):∀(m:Nat) (zs:List Int),zs.length<=n->zs.length<=m->vH n zs=vH m zs:=by
 induction n with
 |zero=>
  intro m zs h _;have:first zs=O:=by
   cases hf:first zs with
   |none=>rfl
   |some r=>have:=tZ hf;omega
  rw[oZ this,oZ this]
 |succ n ih=>
  intro m zs h hm;cases hf:first zs with
  |none=>rw[oZ hf,oZ hf]
  |some r=>
   have hl:=tZ hf;cases m with
   |zero=>omega
   |succ m=>simp only[vH,hf];rw[ih m (zs.drop r.len) (by simp;omega) (by simp;omega)]
theorem bK0(h:first zs=O):iS zs=[]:=oZ h
theorem bK1{r:Rec}(h:first zs=Y r):iS zs=r::iS (zs.drop r.len):=by
 unfold iS;have hl:=tZ h;obtain⟨n,hn⟩:∃n,zs.length=n+1:=⟨zs.length-1,by omega⟩
 rw[hn];simp only[vH,h];rw[cY3 n (zs.drop r.len).length (zs.drop r.len) (by simp;omega) z']
def lenOf(rs:List Rec):Nat:=(rs.map Rec.len).sum
theorem bJ5(r:Rec)(rs:List Rec):lenOf (r::rs)=r.len+lenOf rs:=rfl
theorem aR6(a b:List Rec):lenOf (a++b)=lenOf a+lenOf b:=by simp[lenOf]
def kY(zs:List Int):Nat:=lenOf (iS zs)
def eC(s l:List Int):Int:=if 4000<s.length+l.length then 2 else if kY s≠s.length\/kY l≠l.length then 5 else 0
end Ch
def aF(k a b v:Int):Int:=
 if k=1\/k=3\/k=8 then(if inB a 0 99=F' then 3 else if b=0/\v=0 then 0 else 1)
 else if k=2 then(if inB a 0 99=F' then 3 else if inB v 0 9999=F' then 3 else if b=0 then 0 else 1)
 else if k=4 then(if inB a 0 99=F' then 3 else if inB b 0 99=F' then 3 else if v=0 then 0 else 1)
 else if k=5 then(if inB v 0 9999=F' then 3 else if a=0/\b=0 then 0 else 1)
 else if k=6\/k=7\/k=9\/k=10 then(if a=0/\b=0/\v=0 then 0 else 1)
 else 1
theorem rI(k:Int):k=1\/k=2\/k=3\/k=4\/k=5\/k=6\/k=7\/k=8\/k=9\/k=10\/inB k 1 10=F':=by unfold inB;simp only[Ca,Bp];omega
def iW(k a b key:Int):Bool:=if k=1\/k=2\/k=3 then a==key else if k=4 then inB key a b else k==5
def fL(k a b v key:Int):Bool:=if aF k a b v=0 then(if inB key 0 99=A' then iW k a b key else F')else F'
theorem aQ5{k a b v:Int}(h:aF k a b v≠0):fL k a b v key=F':=by unfold fL;rw[if_neg h]
theorem aQ6{k a b v:Int}(h:inB key 0 99=F'):fL k a b v key=F':=by unfold fL;simp[h]
theorem sC{k a b v:Int}(h:aF k a b v=0)(h':inB key 0 99=A'):fL k a b v key=iW k a b key:=by unfold fL;rw[if_pos h,if_pos h']
theorem bR3{k a b v:Int}(h:aF k a b v=0):k=1\/k=2\/k=3\/k=4\/k=5\/k=6\/k=7\/k=8\/k=9\/k=10:=by
 rcases rI k with h1|h1|h1|h1|h1|h1|h1|h1|h1|h1|h1;all_goals first|(subst h1;decide)|skip
 exfalso;unfold inB at h1;simp only[Ca,Bp]at h1;unfold aF at h;repeat rw[if_neg (by omega)]at h
 simp at h
structure Ch.Ac where
 tx:Int
 k:Int
 a:Int
 b:Int
 v:Int
 an:List Int
def Ch.Ac.zero:Ac:=⟨0,0,0,0,0,[]⟩
def aM(ts:List Ac)(k:Nat):Ac:=ts.getD k Ac.zero
def Ch.Ac.fault(t:Ac):Int:=if inB t.tx 1 999=F' then 3 else aF t.k t.a t.b t.v
def fV(rs:List Ac)(k:Nat):Int:=((rs.take k).map Ac.fault).foldl (fun c f=>if c !=0 then c else f) 0
def cQ(rs:List Ac):Int:=if 220<rs.length then 2 else fV rs rs.length
theorem xS(rs:List Ac)(k:Nat)(h:k<rs.length):rs.take (k+1)=rs.take k++[aM rs k]:=by rw[Du,Ao h];simp[aM,List.getD,h]
theorem rS{rs:List Ac}(hk:k<rs.length)(h:fV rs k=0):fV rs (k+1)=(aM rs k).fault:=by unfold fV at*;rw[xS rs k hk,Dp,Em,h];rfl
theorem aG6(l:List Int)(c:Int)(h:(c !=0)=A'):l.foldl (fun c f=>if c !=0 then c else f) c=c:=by
 induction l with
 |nil=>rfl
 |cons f l ih=>simp only[List.foldl_cons];rw[if_pos h];exact ih
theorem kD{rs:List Ac}{c:Int}(h:fV rs (k+1)=c)(hc:(c !=0)=A'):fV rs rs.length=c:=by
 unfold fV at*;rw[Be];conv=>lhs;rw[<-Ci (k+1) rs]
 rw[Dp,Em,h];exact aG6 _ _ hc
theorem sZ{rs:List Ac}(h:220<rs.length):cQ rs=2:=if_pos h
theorem uM{rs:List Ac}(h:¬220<rs.length):cQ rs=fV rs rs.length:=if_neg h
theorem aR9{rs:List Ac}(h:fV rs rs.length=0):∀k,k<rs.length->(aM rs k).fault=0:=by
 intro k hk;have key:∀m,m<=rs.length->fV rs m=0:=by
  intro m hm;rcases Int.decEq (fV rs m) 0 with h0|h0
  .exfalso;cases m with
   |zero=>exact h0 rfl
   |succ m=>have:=kD (rs:=rs) (k:=m) rfl (by simpa using h0);rw[h]at this;exact h0 this.symm
  .exact h0
 rw[<-rS hk (key k (by omega))];exact key (k+1) (by omega)
theorem jA{rs:List Ac}(h:cQ rs=0):rs.length<=220/\∀k,k<rs.length->(aM rs k).fault=0:=by
 by_cases h8:220<rs.length
 .rw[sZ h8]at h;omega
 .rw[uM h8]at h;exact⟨by omega,aR9 h⟩
end Go.Proofs.YtpbbokalojdooaaGreat
