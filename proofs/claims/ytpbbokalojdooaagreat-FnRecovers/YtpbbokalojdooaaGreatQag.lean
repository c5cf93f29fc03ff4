import Derived.Test.YtpbbokalojdooaaGreatQaf
namespace Go.Proofs.YtpbbokalojdooaaGreat
open Go.RowKit Ch Go.Proofs.Tryz
set_option linter.unusedSimpArgs false
set_option linter.unusedVariables false
set_option maxRecDepth 20000
set_option maxHeartbeats 8000000
open Value renaming int->I,slice->Z,bool->X,agg->U
open IntKind renaming i64->J
open Option renaming none->O,some->Y
open Obj renaming cells->M
open Ending renaming returned->R'
open Bool renaming true->A',false->F'
variable {has:Bool} {key r tx:Int} {ls:List (List Row)} {hs:List Hold} {cyc sys zs:List Int} {l:List Row} {vs xs:List Value} {B b cap g k n o p s:Nat} {a:Option Addr} {row:Option Nat} {e t:TypeId} {v y:Value} {W w w':World}
theorem sV(a a':Option Addr)(n cap n' cap':Nat)(rs qs:List Row)(w:World)(h:CellsAt w a (n*3) (rcells rs))(h':CellsAt w a' (n'*3) (rcells qs))(hn:n<=1048576)(hn':n'<=1048576):
  Calls prog 16 #[Z a n cap,Z a' n' cap'] w fun e w'=>e=R' (X (oP rs qs))/\Below w.heap.size w w':=by
 have HL:=h.rlen;have HL':=h'.rlen;by_cases hnn:n=n'
 .subst hnn;have hne:((n:Int) !=n)=F':=by simp
  go_enter func16,ntmps16
  go_wp2;go_loopw [5] (fun i wr=>∃k:Nat,k<=n/\i=I J k/\Hid (oP rs qs=oP (rs.drop k) (qs.drop k))/\Below w.heap.size w wr) (fun i _=>n-(intOf i).toNat)
  case atStart=>exact⟨0,Nat.zero_le _,rfl,rfl,u'⟩
  case round=>
   obtain⟨k,hk,rfl,HS,hB⟩:=hrel;by_cases hlt:k<n
   .have HA:=hid (cJ9 rs qs k (by have:=HL.out;omega) (by have:=HL'.out;omega));obtain⟨b,off,rfl,hc0,hc1,hc2⟩:=(h.below hB).row hlt;obtain⟨b',off',rfl,hd0,hd1,hd2⟩:=(h'.below hB).row hlt;generalize rs.getD k Row.zero=r at*;generalize qs.getD k Row.zero=q at*;obtain⟨rk,rv,rg⟩:=r;obtain⟨qk,qv,qg⟩:=q;simp only at hc0 hc1 hc2 hd0 hd1 hd2;have hneq:=fun W=>dG8 rk rv rg qk qv qg W;have HE:Hid (Row.same ⟨rk,rv,rg⟩ ⟨qk,qv,qg⟩=(rk==qk&&(rv==qv&&rg==qg))):=rfl;generalize(rk==qk&&(rv==qv&&rg==qg))=same at*;cases same
    .simp only[Bool.not_false]at hneq;go_wp2;go_quiet (fail)
     go_wp2;go_ret;exact⟨by rw[HS.out,HA.out,HE.out];rfl,aT6 hB _⟩
    .simp only[Bool.not_true]at hneq;go_wp2;go_quiet (fail)
     go_wp2;go_roundw;case rel=>exact⟨k+1,by omega,by go_num,(by show _=_;rw[HS.out,HA.out,HE.out];rfl),aT6 hB _⟩
     case measure=>simp[intOf];omega
   .obtain rfl:k=n:=by omega
    go_wp2;go_ret;refine⟨?_,hB⟩;rw[HS.out,List.drop_of_length_le (by have:=HL.out;omega),List.drop_of_length_le (by have:=HL'.out;omega)];rfl
 .have hne:((n:Int) !=(n':Int))=A':=by simp;omega
  have hne2:¬(n:Int)=(n':Int):=by omega
  go_enter func16,ntmps16
  go_wp2;go_ret;exact⟨by rw[bT3 _ _ (by have:=HL.out;have:=HL'.out;omega)];rfl,u'⟩
section
open Go.Maps
theorem cQ1(h:w.ownsRow B 232 2 v n (hcells hs)):Hid (n=hs.length):=by have:=h.1;rw[iF]at this;exact(by omega:n=hs.length)
end
theorem bA6{r:Row}(hp:l.Pairwise (fun a b=>a.k<b.k))(hm:∃x∈l,x.k=r.k):(eF r l).length=l.length:=by
 induction l with
 |nil=>obtain⟨x,hx,_⟩:=hm;cases hx
 |cons y l ih=>
  rw[List.pairwise_cons]at hp;unfold eF;obtain⟨x,hx,hk⟩:=hm;by_cases hy:y.k<r.k
  .rw[if_pos hy];rcases List.mem_cons.1 hx with rfl|hx
   .omega
   .simp[ih hp.2 ⟨x,hx,hk⟩]
  .rw[if_neg hy];have hyk:y.k=r.k:=by
    rcases List.mem_cons.1 hx with rfl|hx
    .exact hk
    .have:=hp.1 x hx;omega
   have h1:dQ r.k y=F':=by simp[dQ,hyk]
   have h2:l.filter (dQ r.k)=l:=List.filter_eq_self.2 fun z hz=>by have:=hp.1 z hz;simp[dQ];omega
   rw[List.filter_cons_of_neg (by rw[h1];exact Bool.false_ne_true),h2];simp
theorem aZ9(ls:List (List Row))(i:Nat)(h:i<ls.length)(m:List (List Row)):(ls.take i++m++ls.drop (i+1)).flatten.length+(ls.getD i []).length=ls.flatten.length+m.flatten.length:=by
 have e:ls=ls.take i++[ls.getD i []]++ls.drop (i+1):=by rw[<-bT ls [] i h,List.take_append_drop]
 have:ls.flatten.length=(ls.take i).flatten.length+(ls.getD i []).length+(ls.drop (i+1)).flatten.length:=by
  conv=>lhs;rw[e]
  simp;omega
 simp at this⊢;omega
theorem bC8(hg:aL ls=0)(r:Row)(hf:(iH ls r.k).isSome=A'):(Ch.put ls r).length=ls.length:=by
 obtain⟨x,hx⟩:=Option.isSome_iff_exists.1 hf;unfold iH at hx;have hxm:=List.mem_of_find?_eq_some hx;have hxk:x.k=r.k:=by have:=List.find?_some hx;simpa using this
 obtain⟨_,h4,_,hp⟩:=(jW ls).1 hg;have hl:=bA6 (r:=r) hp ⟨x,hxm,hxk⟩;rw[<-aE3 hg]at hl;have hne:ls.length≠0:=by intro h0;have:ls=[]:=List.eq_nil_of_length_eq_zero h0;subst this;simp at hxm
 have hfi:fP ls r.k ls.length<ls.length:=nY (by omega);unfold Ch.put at hl⊢;rw[if_neg hne]at hl⊢;generalize fP ls r.k ls.length=i at*;have h3:=aZ9 ls i hfi (gX (eF r (ls.getD i [])));rw[yX]at h3;have hi4:(ls.getD i []).length<=4:=(h4 (ls.getD i []) (by simp[List.getD,hfi])).2;have hlen:(eF r (ls.getD i [])).length<=4:=by omega
 unfold gX;rw[if_pos hlen];simp;omega
def jQ(ls:List (List Row))(tx:Int)(bs:List Bf):Int:=if aL ls !=0 then aL ls else if inB tx 1 999 then cT bs else 3
theorem wM(b:Bf):cT [b]=b.fault:=by
 unfold cT;rw[if_neg (by simp)];unfold eE;cases h:(b.fault !=0)
 .have:b.fault=0:=by simpa using h
  rw[this];rfl
 .simp
def dO(ls:List (List Row))(key:Int)(has:Bool)(v:Int):Int×List (List Row):=
 if has then(if 60<(Ch.put ls ⟨key,v,F'⟩).length then(2,[])else(0,Ch.put ls ⟨key,v,F'⟩))
 else if(iH ls key).isSome then(0,Ch.put ls ⟨key,0,A'⟩)else(0,ls)
def nP(kd:Int)(ls:List (List Row))(tx key:Int)(has:Bool)(v:Int):Rec:=⟨kd,tx,key,(Ch.bf key (Ch.has ls key)).h,(Ch.bf key (Ch.has ls key)).v,has,v⟩
def iY(ls:List (List Row))(tx key:Int)(has:Bool)(v:Int):Int×List (List Row)×List Rec:=
 if jQ ls tx [⟨key,has,v⟩] !=0 then(jQ ls tx [⟨key,has,v⟩],[],[])else
  if(dO ls key has v).1 !=0 then((dO ls key has v).1,[],[])else(0,(dO ls key has v).2,[nP 2 ls tx key has v])
theorem zR{v c:Int}(h:jQ ls tx [⟨key,has,v⟩]=c)(hc:(c !=0)=A'):iY ls tx key has v=(c,[],[]):=by rw[iY,h,if_pos hc]
theorem sZ{v c:Int}(h:jQ ls tx [⟨key,has,v⟩]=0)(hs:(dO ls key has v).1=c)(hc:(c !=0)=A'):iY ls tx key has v=(c,[],[]):=by rw[iY,h,if_neg (by decide),hs,if_pos hc]
theorem xX{v:Int}(h:jQ ls tx [⟨key,has,v⟩]=0)(hs:(dO ls key has v).1=0):iY ls tx key has v=(0,(dO ls key has v).2,[nP 2 ls tx key has v]):=by rw[iY,h,if_neg (by decide),hs,if_neg (by decide)]
theorem bD4{v:Int}(h:jQ ls tx [⟨key,has,v⟩]=0):aL ls=0/\inB tx 1 999=A'/\inB key 0 99=A'/\inB v 0 9999=A'/\(has=F'->v=0):=by
 unfold jQ at h;rw[wM]at h;by_cases h1:(aL ls !=0)=A'
 .rw[if_pos h1]at h;rw[h]at h1;cases h1
 .rw[if_neg h1]at h;by_cases h2:inB tx 1 999=A'
  .rw[if_pos h2]at h;unfold Bf.fault at h;by_cases h3:(!inB key 0 99||!inB v 0 9999)=A'
   .rw[if_pos h3]at h;cases h
   .rw[if_neg h3]at h;by_cases h4:(!has&&v !=0)=A'
    .rw[if_pos h4]at h;cases h
    .simp only[Bool.or_eq_true,Bool.not_eq_true',not_or,Bool.not_eq_false]at h3;refine⟨by simpa using h1,h2,h3.1,h3.2,fun hh=>?_⟩;subst hh;simpa using h4
  .rw[if_neg h2]at h;cases h
theorem bH5(hg:aL ls=0)(hk:inB key 0 99=A'):aB4 ls key=0:=by unfold aB4;rw[hg,hk];rfl
theorem bP6{v:Int}(hk:inB key 0 99=A')(hv:inB v 0 9999=A'):(⟨key,v,F'⟩:Row).fault=0:=by unfold Row.fault dL;simp[hk,hv]
theorem aR2(hk:inB key 0 99=A'):(⟨key,0,A'⟩:Row).fault=0:=by
 unfold Row.fault dL;have h0:inB 0 0 9999=A':=by decide
 simp[hk,h0]
theorem xE{v:Int}(hf:iH ls key=O):dO ls key F' v=(0,ls):=by unfold dO;rw[hf];rfl
theorem iV(hg:aL ls=0):aW ls<=1048576:=by
 obtain⟨h1,h2,_,_⟩:=(jW ls).1 hg;have:∀(xs:List (List Row)),(∀l∈xs,l.length<=4)->(xs.map List.length).sum<=4*xs.length:=by
  intro xs;induction xs with
  |nil=>intro _;simp
  |cons x xs ih=>intro h;have:=ih (fun l hl=>h l (List.mem_cons_of_mem _ hl));have:=h x (List.mem_cons_self ..);simp;omega
 have:=this ls (fun l hl=>(h2 l hl).2);unfold aW;omega
theorem rH{v:Int}(h:jQ ls tx [⟨key,has,v⟩]=0)(hs:(dO ls key has v).1=0):aL (dO ls key has v).2=0:=by
 obtain⟨hg,_,hk,hv,_⟩:=bD4 h;cases has
 .cases hf:iH ls key with
  |none=>rw[xE hf];exact hg
  |some r=>
   have hi:(iH ls key).isSome=A':=by rw[hf];rfl
   have h1:=bC8 hg ⟨key,0,A'⟩ hi;have h2:=((jW ls).1 hg).1;have e:dO ls key F' v=(0,Ch.put ls ⟨key,0,A'⟩):=by unfold dO;rw[hi];rfl
   rw[e];exact xA hg (aR2 hk) (by omega)
 .unfold dO at hs⊢;rw[if_pos rfl]at hs⊢;by_cases hm:60<(Ch.put ls ⟨key,v,F'⟩).length
  .rw[if_pos hm]at hs;cases hs
  .rw[if_neg hm];exact xA hg (bP6 hk hv) (by omega)
theorem aS2{v:Int}:aW (iY ls tx key has v).2.1<=1048576/\(iY ls tx key has v).2.2.length<=1:=by
 by_cases h:jQ ls tx [⟨key,has,v⟩]=0
 .by_cases hs:(dO ls key has v).1=0
  .rw[xX h hs];exact⟨iV (rH h hs),by simp⟩
  .rw[sZ h rfl (by simpa using hs)];exact⟨by simp[aW],by simp⟩
 .rw[zR rfl (by simpa using h)];exact⟨by simp[aW],by simp⟩
def lG:List Hold->List Hold->Bool
 |[],[]=>A'
 |x::a,y::b=>iP x y&&lG a b
 |_,_=>F'
theorem bQ1(a b:List Hold)(k:Nat)(h:k<a.length)(h':k<b.length):lG (a.drop k) (b.drop k)=(iP (a.getD k Hold.zero) (b.getD k Hold.zero)&&lG (a.drop (k+1)) (b.drop (k+1))):=by rw[List.drop_eq_getElem_cons h,List.drop_eq_getElem_cons h',lG];simp[List.getD,h,h']
theorem zQ:∀(a b:List Hold),a.length≠b.length->lG a b=F'
 |[],[],h=>absurd rfl h
 |[],_::_,_=>rfl
 |_::_,[],_=>rfl
 |x::a,y::b,h=>by rw[lG,zQ a b (by simpa using h)];simp
theorem aT7(h:Below B w w')(q:Nat):Below B w (w'.drewN q):=⟨h.os,h.tape,h.output,h.size,h.block⟩
theorem cM8(c j c' j':Int)(w:World):(Op.equalIn 10000 265 (U #[I J c,I J j]) (U #[I J c',I J j'])).run prog w= .ok (iP ⟨c,j⟩ ⟨c',j'⟩) w:=by
 have hS:prog.underlying 265=Y (.struct (prog.fieldsOf 265)):=by kernel_rfl
 have hp:prog.stoodInHeld 265=F':=by kernel_rfl
 have u2:=underlying2;have a2:=isAgg2;have z2:=sizeOf2;rw[show(10000:Nat)=9999+1 from rfl,run_equalIn_agg w 9999 265 _ _ hS hp];simp only[Program.fieldsOf,underlying265];go_simp;unfold iP;by_cases h1:c=c'<;>by_cases h2:j=j'<;>simp[h1,h2]
theorem dD5(c j c' j':Int)(w:World):(binOp .neq 265 (U #[I J c,I J j]) (U #[I J c',I J j'])).run prog w= .ok (X (!iP ⟨c,j⟩ ⟨c',j'⟩)) w:=by rw[run_neq_struct,cM8];rfl
theorem vI(a a':Option Addr)(n cap n' cap':Nat)(rs qs:List Hold)(w:World)(h:CellsAt w a (n*2) (hcells rs))(h':CellsAt w a' (n'*2) (hcells qs))(hn:n<=1048576)(hn':n'<=1048576):
  Calls prog 177 #[Z a n cap,Z a' n' cap'] w fun e w'=>e=R' (X (lG rs qs))/\Below w.heap.size w w':=by
 have HL:=h.hlen;have HL':=h'.hlen;by_cases hnn:n=n'
 .subst hnn;have hne:((n:Int) !=n)=F':=by simp
  go_enter func177,ntmps177
  go_wp2;go_loopw [5] (fun i wr=>∃k:Nat,k<=n/\i=I J k/\Hid (lG rs qs=lG (rs.drop k) (qs.drop k))/\Below w.heap.size w wr) (fun i _=>n-(intOf i).toNat)
  case atStart=>exact⟨0,Nat.zero_le _,rfl,rfl,u'⟩
  case round=>
   obtain⟨k,hk,rfl,HS,hB⟩:=hrel;by_cases hlt:k<n
   .have HA:=hid (bQ1 rs qs k (by have:=HL.out;omega) (by have:=HL'.out;omega));obtain⟨b,off,rfl,hc0,hc1⟩:=(h.below hB).hold hlt;obtain⟨b',off',rfl,hd0,hd1⟩:=(h'.below hB).hold hlt;generalize rs.getD k Hold.zero=r at*;generalize qs.getD k Hold.zero=q at*;obtain⟨rt,rm⟩:=r;obtain⟨qt,qm⟩:=q;simp only at hc0 hc1 hd0 hd1;have hneq:=fun W=>dD5 rt rm qt qm W;generalize iP ⟨rt,rm⟩ ⟨qt,qm⟩=same at*;cases same
    .simp only[Bool.not_false]at hneq;go_wp2;go_quiet (fail)
     go_wp2;go_ret;exact⟨by rw[HS.out,HA.out];rfl,aT7 hB _⟩
    .simp only[Bool.not_true]at hneq;go_wp2;go_quiet (fail)
     go_wp2;go_roundw;case rel=>exact⟨k+1,by omega,by go_num,(by show _=_;rw[HS.out,HA.out];rfl),aT7 hB _⟩
     case measure=>simp[intOf];omega
   .obtain rfl:k=n:=by omega
    go_wp2;go_ret;refine⟨?_,hB⟩;rw[HS.out,List.drop_of_length_le (by have:=HL.out;omega),List.drop_of_length_le (by have:=HL'.out;omega)];rfl
 .have hne:((n:Int) !=(n':Int))=A':=by simp;omega
  have hne2:¬(n:Int)=(n':Int):=by omega
  go_enter func177,ntmps177
  go_wp2;go_ret;exact⟨by rw[zQ _ _ (by have:=HL.out;have:=HL'.out;omega)];rfl,u'⟩
structure Src(w:World)(s:Nat)(a:Option Addr)(n cap k:Nat)(zs:List Int):Prop where
 box:w.heap[s]? =Y (M #[Z a n cap,I J k] 108 (0,0))
 far:0<n->∀b off,a=Y ⟨b,off,O⟩->b<s
 bytes:CellsAt w a n (bts zs)
theorem Src.lt(h:Src w s a n cap k zs):s<w.heap.size:=(Array.getElem?_eq_some_iff.1 h.box).1
theorem Src.grown(h:Src w s a n cap k zs)(hg:w.grownBy w' row)(hr:∀r,row=Y r->s<r):Src w' s a n cap k zs:=by
 refine⟨?_,h.far,h.bytes.1,fun hm=>?_⟩
 .rw[hg.block s h.lt (fun e=>by have:=hr s e.symm;omega)];exact h.box
 .obtain⟨b,off,ha,hc⟩:=h.bytes.2 hm;have hbs:=h.far hm b off ha;refine⟨b,off,ha,fun i hi=>?_⟩;rw[<-hc i hi];exact World.grownBy.cell_far hg ⟨b,off+i,O⟩ (Nat.lt_trans hbs h.lt) (fun e=>by have:=hr b e.symm;omega)
theorem Src.below(h:Src w s a n cap k zs)(hb:Below B w w')(hB:s<B):Src w' s a n cap k zs:=by refine⟨by rw[hb.block s hB];exact h.box,h.far,h.bytes.1,fun hm=>?_⟩;obtain⟨b,off,ha,hc⟩:=h.bytes.2 hm;refine⟨b,off,ha,fun i hi=>?_⟩;rw[<-hc i hi];exact hb.cell (p:=⟨b,off+i,O⟩) (by have:=h.far hm b off ha;show b<B;omega)
theorem Src.step(h:Src w s a n cap k zs){i:Int}(hi:i=(k:Int)+1):Src (w.setCell ⟨s,1,O⟩ (I J i)) s a n cap (k+1) zs:=by
 subst hi;refine⟨?_,h.far,h.bytes.1,fun hm=>?_⟩
 .simp only[World.setCell,Array.getElem?_modify,if_true,h.box];simp
 .obtain⟨b,off,ha,hc⟩:=h.bytes.2 hm;refine⟨b,off,ha,fun i hi=>?_⟩;rw[<-hc i hi];exact World.cell?_of_block (Below.heap_setCell _ _ _ _ (by have:=h.far hm b off ha;show b≠s;omega))
theorem Src.drewN(h:Src w s a n cap k zs)(q:Nat):Src (w.drewN q) s a n cap k zs:=⟨h.box,h.far,h.bytes⟩
theorem nI:w.grownBy (w.setCell ⟨s,o,O⟩ v) (Y s):=⟨rfl,rfl,rfl,by simp[World.setCell],fun k _ hne=>Below.heap_setCell _ _ _ _ (by intro e;exact hne (by rw[e]))⟩
theorem yV(h:w.grownBy w' row)(q:Nat):w.grownBy (w'.drewN q) row:=⟨h.os,h.tape,h.output,h.size,h.block⟩
theorem eQ(N:Int)(s:Nat)(a:Option Addr)(n cap k:Nat)(zs:List Int)(w:World)(h:Src w s a n cap k zs)(hb:IsB zs)(hn:n<=1048580)(hk:k<=1000)(h1:1<=N)(h2:N<=256):
  Calls prog 28 #[.pointer (Y ⟨s,0,O⟩),I J N] w fun e w'=>(∃v:Int,0<=v/\v<N/\e=R' (I J v))/\Src w' s a n cap (k+1) zs/\w.grownBy w' (Y s):=by
 have hS:=h.step (i:=(k:Int)+1) rfl;have q0:w.cell? ⟨s,0,O⟩=Y (Z a n cap):=cell_of_row _ _ _ _ _ _ h.box;have q1:w.cell? ⟨s,1,O⟩=Y (I J k):=cell_of_row _ _ _ _ _ _ h.box;have hfz:w.frozen? ⟨s,1,O⟩=F':=by simp[World.frozen?,h.box]
 have hgr:w.grownBy (w.setCell ⟨s,1,O⟩ (I J ((k:Int)+1))) (Y s):=nI;have hlt1:¬N<1:=by omega
 by_cases h0:n=0
 .subst h0;have m0:0<=((k:Int)*7)%N:=Int.emod_nonneg _ (by omega);have m1:((k:Int)*7)%N<N:=Int.emod_lt_of_pos _ (by omega);go_enter func28,ntmps28
  go_wp2;go_ret;exact⟨⟨_,m0,m1,rfl⟩,hS,hgr⟩
 .obtain⟨j,hj,hjn⟩:∃j:Nat,(k:Int)%(n:Int)=j/\j<n:=⟨k%n,by simp,Nat.mod_lt _ (by omega)⟩
  obtain⟨j',hj',hjn'⟩:∃j:Nat,((k:Int)+1)%(n:Int)=j/\j<n:=⟨(k+1)%n,by simp,Nat.mod_lt _ (by omega)⟩
  obtain⟨p,hp,hpk⟩:∃p:Nat,(k:Int) / (n:Int)=p/\p<=k:=⟨k / n,by simp,Nat.div_le_self _ _⟩
  obtain⟨b,off,rfl,hc⟩:=h.bytes.at hjn;obtain⟨b',off',hbo,hc'⟩:=h.bytes.at hjn';simp only[Option.some.injEq,Addr.mk.injEq,and_true]at hbo;obtain⟨rfl,rfl⟩:=hbo;obtain⟨x0,x1⟩:=hb j;obtain⟨y0,y1⟩:=hb j';generalize zs.getD j 0=x at*;generalize zs.getD j' 0=y at*;have hfar:b≠s:=by have:=h.far (by omega) _ _ rfl;omega
  have hn0:((n:Int)==0)=F':=by simpa using h0
  have hn1:(n:Int)≠0:=by omega
  by_cases hN:200<N
  .have m0:0<=((x+(p:Int)*37)*251+y*13+k)%N:=Int.emod_nonneg _ (by omega);have m1:((x+(p:Int)*37)*251+y*13+k)%N<N:=Int.emod_lt_of_pos _ (by omega);go_enter func28,ntmps28
   go_wp2;go_quiet (fail)
   go_wp2;go_quiet (fail)
   go_wp2;go_ret;exact⟨⟨_,m0,m1,rfl⟩,hS.drewN _,yV hgr _⟩
  .have m0:0<=(x+(p:Int)*37)%N:=Int.emod_nonneg _ (by omega);have m1:(x+(p:Int)*37)%N<N:=Int.emod_lt_of_pos _ (by omega);go_enter func28,ntmps28
   go_wp2;go_quiet (fail)
   go_wp2;go_ret;exact⟨⟨_,m0,m1,rfl⟩,hS.drewN _,yV hgr _⟩
theorem pL(N:Int)(s:Nat)(a:Option Addr)(n cap k:Nat)(zs:List Int)(w:World)(h:Src w s a n cap k zs)(hb:IsB zs)(hn:n<=1048580)(hk:k<=1000)(h1:1<=N)(h2:N<=256):
  Calls prog 29 #[.pointer (Y ⟨s,0,O⟩),I J N] w fun e w'=>(∃v:Bool,e=R' (X v))/\Src w' s a n cap (k+1) zs/\w.grownBy w' (Y s):=by
 go_enter func29,ntmps29
 go_wp2_with fail
 refine(eQ N s a n cap k zs w h hb hn hk h1 h2).mono ?_;rintro e w1⟨⟨v,v0,v1,rfl⟩,s1,g1⟩;go_wp2;go_ret;exact⟨⟨_,rfl⟩,s1,g1⟩
theorem yW(h:w.grownBy w' row)(hb:w.heap.size<=b):w.grownBy (w'.setCell ⟨b,o,O⟩ v) row:=
 ⟨h.os,h.tape,h.output,by have:=h.size;simpa[World.setCell]using this,fun k hk hne=>(Below.heap_setCell _ _ _ _ (by show k≠b;omega)).trans (h.block k hk hne)⟩
theorem cW3{o:Obj}(h:w.grownBy w' row):w.grownBy (w'.alloc o) row:=
 ⟨h.os,h.tape,h.output,by have:=h.size;simp;omega,fun k hk hne=>(Below.heap_alloc _ _ _ (by have:=h.size;omega)).trans (h.block k hk hne)⟩
theorem Src.set(h:Src w s a n cap k zs)(hb:s<b):Src (w.setCell ⟨b,o,O⟩ v) s a n cap k zs:=
 h.below (B:=b) (u'.setCell (p:=⟨b,o,O⟩) z' _) hb
theorem Src.new{o:Obj}(h:Src w s a n cap k zs):Src (w.alloc o) s a n cap k zs:=
 h.below (B:=w.heap.size) (q') h.lt
theorem cR{o:Obj}(hg:w.grownBy w' row)(h:w.heap[b]? =Y o)(hne:row≠Y b):w'.heap[b]? =Y o:=
 (hg.block b (Array.getElem?_eq_some_iff.1 h).1 (fun e=>hne e.symm)).trans h
theorem cB9(a:Option Addr)(n cap:Nat)(zs:List Int)(w:World)(h:CellsAt w a n (bts zs)):
  Calls prog 26 #[Z a n cap] w fun e w'=>e=R' (.pointer (Y ⟨w.heap.size,0,O⟩))/\Src w' w.heap.size a n cap 0 zs/\Below w.heap.size w w':=by
 have b0:=f' w (M #[Z a n cap,I J 0] 108);go_enter func26,ntmps26
 go_wp2;go_ret;refine⟨rfl,⟨heap_alloc_new w _,fun hn b off ha=>?_,h.below b0⟩,b0⟩;subst ha;obtain⟨b',off',hb,hc⟩:=h.at hn;simp only[Option.some.injEq,Addr.mk.injEq,and_true]at hb;obtain⟨rfl,rfl⟩:=hb;exact aD hc
theorem dF2{w'':World}(h:w.grownBy w' row)(hb:Below w.heap.size w' w''):w.grownBy w'' row:=
 ⟨hb.os.trans h.os,hb.tape.trans h.tape,hb.output.trans h.output,Nat.le_trans h.size hb.size,fun k hk hne=>(hb.block k hk).trans (h.block k hk hne)⟩
theorem cY4(g m:Nat)(us:List Int)(s:Nat)(a:Option Addr)(n cap k:Nat)(zs:List Int)(w:World)(h:Src w s a n cap k zs)(hb:IsB zs)(hn:n<=1048580)(hk:k<=1000)
  (hg:w.heap[g]? =Y (M (us.map (I J)).toArray 2 (0,0))) (hs:g≠s) (hm:us.length=m) (h1:1<=m) (h2:m<=256):
  Calls prog 85 #[.pointer (Y ⟨s,0,O⟩),Z (Y ⟨g,0,O⟩) m m] w fun e w'=>(∃v:Int,v∈us/\e=R' (I J v))/\Src w' s a n cap (k+1) zs/\w.grownBy w' (Y s):=by
 go_enter func85,ntmps85
 go_wp2_with fail
 refine(eQ (m:Int) s a n cap k zs w h hb hn hk (by omega) (by omega)).mono ?_;rintro e w1⟨⟨v,v0,v1,rfl⟩,s1,g1⟩;obtain⟨j,rfl⟩:∃j:Nat,v=(j:Int):=⟨v.toNat,by omega⟩
 have hj:j<us.length:=by omega
 have q:=cR g1 hg (by simp;omega);have q0:w1.cell? ⟨g,j,O⟩=Y (I J us[j]):=by rw[cell_of_row _ _ _ _ _ _ q];simp[hj]
 have hmem:us[j]∈us:=List.getElem_mem hj;generalize us[j]=x at*;go_wp2;go_ret;exact⟨⟨x,hmem,rfl⟩,s1,g1⟩
section
open Go.Maps
theorem OwnLv.nil(w:World)(B:Nat):OwnLv w B (Z O 0 0) 0 []:=⟨rfl,[],World.ownsRow_nil _ _ _ _,fun i hi=>absurd hi (by omega),fun i j x y g _ hx=>by simp at hx,fun i x g hx=>by simp at hx⟩
theorem oA{base:Nat}{size:Nat}(h:w.ownsRow base e size v n xs)(hne:∀g,v.ownBlock=Y g->g≠p)(u:Value):(w.setCell ⟨p,o,O⟩ u).ownsRow base e size v n xs:=by
 refine⟨h.1,?_⟩;rcases h.2 with h'|⟨g,cap,cur,hv,hb,hh,h1,h2,h3,h4⟩
 .exact .inl h'
 .refine .inr ⟨g,cap,cur,hv,hb,?_,h1,h2,h3,h4⟩;rw[Below.heap_setCell _ _ _ _ (hne g (by rw[hv];rfl))];exact hh
theorem OwnLv.box(h:OwnLv w B v n ls)(hp:p<B)(u:Value):OwnLv (w.setCell ⟨p,o,O⟩ u) B v n ls:=by obtain⟨hl,vs,ho,hi,hd,hd'⟩:=h;refine⟨hl,vs,oA ho (fun g hg=>by have:=aG ho g hg;omega) u,fun i hlt=>?_,hd,hd'⟩;obtain⟨x,h1,h2⟩:=hi i hlt;exact⟨x,h1,oA h2 (fun g hg=>by have:=aG h2 g hg;omega) u⟩
theorem OwnV.out{r:Nat}{zs:List Value}(h:OwnV w B (Z (Y ⟨g,0,O⟩) n cap) n (xs++[y]++zs) ls)(hn:n=k+1+r)(hx:xs.length=k)(hg:w.grownBy w' (Y g))
  (ho':w'.ownsRow B 200 1 (Z (Y ⟨g,0,O⟩) (k+r) cap) (k+r) (xs++zs)):OwnLv w' B (Z (Y ⟨g,0,O⟩) (k+r) cap) (k+r) (ls.take k++ls.drop (k+1)):=by
 obtain⟨hl,ho,hi,hd,hd'⟩:=h;have hvl:(xs++[y]++zs).length=n:=by have:=ho.1;omega
 simp only[List.length_append,List.length_cons,List.length_nil]at hvl;have up:∀i,(xs++zs)[i]? =(xs++[y]++zs)[if i<k then i else i+1]? :=by
  intro i;by_cases hik:i<k
  .rw[if_pos hik,List.getElem?_append_left (by omega),List.append_assoc,List.getElem?_append_left (by omega)]
  .rw[if_neg hik,List.getElem?_append_right (by omega),List.getElem?_append_right (by simp;omega)];rw[show i+1-(xs++[y]).length=i-xs.length by simp]
 have upl:∀i,(ls.take k++ls.drop (k+1)).getD i []=ls.getD (if i<k then i else i+1) []:=by
  intro i;by_cases hik:i<k
  .rw[if_pos hik];simp only[List.getD];rw[List.getElem?_append_left (by simp;omega)];simp[hik]
  .rw[if_neg hik];simp only[List.getD];rw[List.getElem?_append_right (by simp;omega)];simp only[List.getElem?_drop,List.length_take];congr 2;omega
 refine⟨by simp;omega,xs++zs,ho',fun i hlt=>?_,?_,?_⟩
 .obtain⟨x,h1,h2⟩:=hi (if i<k then i else i+1) (by split<;>omega);refine⟨x,by rw[up];exact h1,?_⟩;rw[upl];refine aK h2 hg fun g' hg' he=>?_;simp at he;subst he;exact hd' _ x _ h1 rfl hg'
 .intro i j x z g' hij hx' hz';rw[up]at hx' hz';exact hd _ _ x z g' (by split<;>split<;>omega) hx' hz'
 .intro i x g' hx' hv;rw[up]at hx';simp[Value.ownBlock]at hv;subst hv;exact hd' _ x _ hx' rfl
end
theorem OwnV.grownN(h:OwnV w B v n vs ls)(hg:w.grownBy w' row)(h1:∀g,v.ownBlock=Y g->row≠Y g)(h2:∀(i:Nat) (x:Value) (g:Nat),vs[i]? =Y x->x.ownBlock=Y g->row≠Y g):OwnV w' B v n vs ls:=by obtain⟨hl,ho,hi,hd,hd'⟩:=h;refine⟨hl,aK ho hg h1,fun i hlt=>?_,hd,hd'⟩;obtain⟨x,a,b⟩:=hi i hlt;exact⟨x,a,aK b hg (fun g hg=>h2 i x g a hg)⟩
theorem iB{u0 u1 u2 u3 u4 u5 u6 u7 u8 u9 u10 u11 u12 u13 u14:Value}(h:W.heap[g]? =Y (M #[u0,u1,u2,u3,u4,u5,u6,u7,u8,u9,u10,u11,u12,u13,u14] t (0,0))):
  W.cell? ⟨g,0,O⟩=Y u0/\W.cell? ⟨g,1,O⟩=Y u1/\W.cell? ⟨g,2,O⟩=Y u2/\W.cell? ⟨g,3,O⟩=Y u3/\W.cell? ⟨g,4,O⟩=Y u4/\W.cell? ⟨g,5,O⟩=Y u5/\W.cell? ⟨g,6,O⟩=Y u6/\W.cell? ⟨g,7,O⟩=Y u7/\W.cell? ⟨g,8,O⟩=Y u8/\W.cell? ⟨g,9,O⟩=Y u9/\W.cell? ⟨g,10,O⟩=Y u10/\W.cell? ⟨g,11,O⟩=Y u11/\W.cell? ⟨g,12,O⟩=Y u12/\W.cell? ⟨g,13,O⟩=Y u13/\W.cell? ⟨g,14,O⟩=Y u14/\∀i,W.frozen? ⟨g,i,O⟩=F':=
 ⟨cell_of_row _ _ _ _ _ _ h,cell_of_row _ _ _ _ _ _ h,cell_of_row _ _ _ _ _ _ h,cell_of_row _ _ _ _ _ _ h,cell_of_row _ _ _ _ _ _ h,cell_of_row _ _ _ _ _ _ h,cell_of_row _ _ _ _ _ _ h,cell_of_row _ _ _ _ _ _ h,cell_of_row _ _ _ _ _ _ h,cell_of_row _ _ _ _ _ _ h,cell_of_row _ _ _ _ _ _ h,cell_of_row _ _ _ _ _ _ h,cell_of_row _ _ _ _ _ _ h,cell_of_row _ _ _ _ _ _ h,cell_of_row _ _ _ _ _ _ h,fun i=>by simp[World.frozen?,h]⟩
theorem uO(w:World)(row:Option Nat):w.grownBy w row:=⟨rfl,rfl,rfl,z',fun _ _ _=>rfl⟩
theorem cN(h:w.grownBy w' (Y s)):w.grownBy (w'.setCell ⟨s,o,O⟩ v) (Y s):=
 ⟨h.os,h.tape,h.output,by simpa[World.setCell]using h.size,fun k hk hne=>(Below.heap_setCell _ _ _ _ (by intro e;exact hne (by rw[e]))).trans (h.block k hk hne)⟩
theorem cY2(w:World)(B:Nat):OwnV w B (Z O 0 0) 0 [] []:=
 ⟨rfl,World.ownsRow_nil _ _ _ _,fun i hi=>by omega,fun i j x y g _ hx=>by simp at hx,fun i x g hx=>by simp at hx⟩
section
open Go.Maps
theorem cS0(h0:0<cyc.length)(h:∀v∈cyc,inB v 1 999=A'):tH cyc sys=(0,nT cyc sys):=by unfold tH;rw[if_neg (by omega),if_neg];intro ha;obtain⟨v,hv,hb⟩:=List.any_eq_true.1 ha;rw[h v hv]at hb;cases hb
end
theorem bE7{v:Int}(h:tH cyc sys=(0,v)):
  (∀c∈cyc,v<c->(sys.contains c==sys.contains v)=F')/\cyc.contains v=A'/\cyc.any (fun c=>sys.contains c)=sys.contains v:=by
 unfold tH at h;by_cases h0:cyc.length=0
 .rw[if_pos h0]at h;simp at h
 rw[if_neg h0]at h;by_cases ha:cyc.any (fun v=>!inB v 1 999)=A'
 .rw[if_pos ha]at h;simp at h
 rw[if_neg ha]at h;have hc:∀v∈cyc,1<=v/\v<=999:=by
  intro v hv;refine(nJ v 1 999).1 ?_;cases hb:inB v 1 999
  .exact absurd (List.any_eq_true.2 ⟨v,hv,by rw[hb];rfl⟩) ha
  .rfl
 have hv:v=nT cyc sys:=by simpa using h.symm
 unfold nT at hv;rw[aI6]at hv;cases hs:cyc.any (fun c=>sys.contains c)
 .have hz:cyc.filter (fun c=>sys.contains c)=[]:=by rw[List.filter_eq_nil_iff];intro x hx hh;rw[List.any_eq_false]at hs;exact absurd hh (by simpa using hs x hx)
  rw[hz]at hv;have hv:v=dX cyc:=hv;have hmem:v∈cyc:=by
   rcases nZ cyc with e|e
   .exfalso;have hp:0<cyc.length:=by omega
    have h1:=lN (List.getElem_mem hp);have h2:=(hc _ (List.getElem_mem hp)).1;omega
   .rw[hv];exact e
  have hns:sys.contains v=F':=by rw[List.any_eq_false]at hs;simpa using hs v hmem
  refine⟨fun c hcm hlt=>?_,List.contains_iff_mem.2 hmem,hns.symm⟩;have:=lN hcm;omega
 .obtain⟨x,hx,hxs⟩:=List.any_eq_true.1 hs;have hm:x∈cyc.filter (fun v=>sys.contains v):=List.mem_filter.2 ⟨hx,hxs⟩;have h1:=lN hm;have h2:=(hc x hx).1;rcases nZ (cyc.filter fun v=>sys.contains v)with e|e
  .omega
  .have e2:=List.mem_filter.1 e;rw[if_pos ((nJ _ _ _).2 ⟨by omega,(hc _ e2.1).2⟩)]at hv;rw[<-hv]at e2 h1;refine⟨fun c hcm hlt=>?_,List.contains_iff_mem.2 e2.1,e2.2.symm⟩;cases hcs:sys.contains c
   .rw[e2.2];rfl
   .have:=lN (List.mem_filter.2 ⟨hcm,hcs⟩);rw[<-hv]at this;omega
namespace Ch
def aX(r:Int):List Lock->Nat
 |[]=>0
 |l::ls=>if l.r<r then aX r ls+1 else 0
theorem wZ(r:Int)(ls:List Lock):aX r ls<=ls.length:=by
 induction ls with
 |nil=>exact z'
 |cons q qs ih=>unfold aX;split<;>simp<;>omega
theorem bO0(r:Int)(ls:List Lock)(hk:k<aX r ls):(aH ls k).r<r:=by
 induction ls generalizing k with
 |nil=>simp[aX]at hk
 |cons q qs ih=>
  unfold aX at hk;split at hk
  .cases k with
   |zero=>simpa[aH]using ‹_›
   |succ k=>simpa[aH]using ih (by omega)
  .omega
theorem bN8(r:Int)(ls:List Lock)(hk:aX r ls<ls.length):¬(aH ls (aX r ls)).r<r:=by
 induction ls with
 |nil=>simp at hk
 |cons q qs ih=>
  unfold aX at hk⊢;split
  .next h=>rw[if_pos h]at hk;simpa[aH]using ih (by simpa using hk)
  .next h=>simpa[aH]using h
theorem bN9{ls:List Lock}(hk:k<=ls.length)(h1:∀j,j<k->(aH ls j).r<r)(h2:k<ls.length->¬(aH ls k).r<r):aX r ls=k:=by
 rcases Nat.lt_trichotomy (aX r ls) k with h|h|h
 .have:=h1 _ h;exact absurd this (bN8 r ls (by omega))
 .exact h
 .have:=bO0 r ls h;have hl:=wZ r ls;exact absurd this (h2 (by omega))
def aP2(r:Int)(ls:List Lock):Bool:=decide (aX r ls<ls.length)&&((aH ls (aX r ls)).r==r)
def bO(r:Int)(ls:List Lock):List Lock:=if aP2 r ls then ls else ls.take (aX r ls)++[⟨r,[],[]⟩]++ls.drop (aX r ls)
theorem cK8{ls:List Lock}(hk:k<=ls.length)(h1:∀j,j<k->(aH ls j).r<r)(h2:k<ls.length)(he:(aH ls k).r=r):aX r ls=k/\bO r ls=ls:=by have hp:aX r ls=k:=bN9 hk h1 (fun _=>by omega);refine⟨hp,?_⟩;unfold bO aP2;rw[hp,if_pos (by simp[h2,he])]
theorem cT1{ls:List Lock}(hk:k<=ls.length)(h1:∀j,j<k->(aH ls j).r<r)(h2:k<ls.length->r<(aH ls k).r):aX r ls=k/\bO r ls=ls.take k++[⟨r,[],[]⟩]++ls.drop k:=by have hp:aX r ls=k:=bN9 hk h1 (fun h=>by have:=h2 h;omega);refine⟨hp,?_⟩;unfold bO aP2;rw[hp,if_neg];simp only[Bool.and_eq_true,decide_eq_true_eq,beq_iff_eq,not_and];intro h e;have:=h2 h;omega
theorem wW(ls:List Lock)(l:Lock)(k i:Nat)(hk:k<=ls.length):aH (ls.take k++[l]++ls.drop k) i=if i<k then aH ls i else if i=k then l else aH ls (i-1):=by
 unfold aH;simp only[List.getD];have hlen:(ls.take k).length=k:=by simp;omega
 split
 .next h=>rw[List.append_assoc,List.getElem?_append_left (by omega),List.getElem?_take_of_lt h]
 .next h=>
  split
  .next h2=>subst h2;rw[List.append_assoc,List.getElem?_append_right (by omega),hlen];simp
  .next h2=>rw[List.getElem?_append_right (by simp;omega)];simp only[List.length_append,hlen,List.length_singleton,List.getElem?_drop];congr 3;omega
def dP(l:Lock)(k:Nat)(h:Hold):Bool×Int×Lock:=if 20<=l.qs.length then(F',2,l)else(F',0,⟨l.r,l.hs,l.qs.take k++[h]++l.qs.drop k⟩)
def cO(l:Lock)(t m:Int):Bool×Int×Lock:=
 if eB (bQ l.hs t) m then(A',0,l)
 else if bQ l.hs t==0&&(!eJ l.hs t (eN (bQ l.hs t) m)||decide (0<l.qs.length))then dP l l.qs.length ⟨t,eN (bQ l.hs t) m⟩
 else if !eJ l.hs t (eN (bQ l.hs t) m)then dP l (cY l.hs l.qs) ⟨t,eN (bQ l.hs t) m⟩
 else if !(aV l.hs t||decide (l.hs.length<20))then(F',2,l)
 else(A',0,⟨l.r,iS l.hs ⟨t,eN (bQ l.hs t) m⟩,l.qs⟩)
def lA(ls:List Lock)(t r m:Int):Bool×Int×Lock:=cO (aH (bO r ls) (aX r ls)) t m
theorem qF(r:Int)(ls:List Lock):aX r ls<(bO r ls).length/\(bO r ls).length<=ls.length+1:=by
 have:=wZ r ls;unfold bO;split
 .next h=>unfold aP2 at h;simp only[Bool.and_eq_true,decide_eq_true_eq]at h;exact⟨h.1,by omega⟩
 .simp;omega
end Ch
end Go.Proofs.YtpbbokalojdooaaGreat
