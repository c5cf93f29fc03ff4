import Derived.Test.YtpbbokalojdooaaGreatQap
import Derived.Test.YtpbbokalojdooaaGreatQaq
namespace Go.Proofs.YtpbbokalojdooaaGreat
open Go.RowKit Ch Go.Proofs.Tryz
set_option linter.unusedSimpArgs false
set_option linter.unusedVariables false
set_option maxRecDepth 20000
set_option maxHeartbeats 8000000
open Value renaming int->I,slice->Z,bool->X,agg->U
open IntKind renaming i64->J
open Option renaming none->O,some->Y
open Obj renaming cells->M
open Ending renaming returned->R'
open Bool renaming true->A',false->F'
variable {a0:Act} {L0 l:Array Bool} {ops:Array Oper} {Q:Exit->Act->World->Prop} {c:Int} {L:Int->Bool} {vs:List (Value×Value)} {ls:List Lock} {E:List Nat} {rs:List Rec} {base:List Row} {B fuel i k m n:Nat} {a':Option Addr} {row:Option Nat} {P:Program} {r:Row} {T t:TypeId} {v:Value} {q:Value×Value} {W w w':World} {S:World->Prop}
namespace Ch
abbrev Sl:=Int->Option Int
def Sl.set(S:Sl)(k:Int)(o:Option Int):Sl:=fun q=>if q=k then o else S q
def rT(h:Bool)(v:Int):Option Int:=if h then Y v else O
def aO2(S:Sl)(i:Nat):Option Row:=(S i).map (fun v=>⟨i,v,F'⟩)
def iL(S:Sl)(m:Nat):List Row:=(List.range m).filterMap (aO2 S)
def rowsS(S:Sl):List Row:=iL S 100
theorem bG3{S:Sl}{v:Int}(h:S m=Y v):iL S (m+1)=iL S m++[⟨m,v,F'⟩]:=by unfold iL;rw[List.range_succ,List.filterMap_append];simp[aO2,h]
theorem bT2{S:Sl}(h:S m=O):iL S (m+1)=iL S m:=by unfold iL;rw[List.range_succ,List.filterMap_append];simp[aO2,h]
theorem bG2(S:Sl)(m:Nat):(iL S m).length<=m:=by unfold iL;exact Nat.le_trans (List.length_filterMap_le _ _) (by simp)
theorem kZ(S:Sl)(m:Nat)(r:Row):r∈iL S m↔∃i:Nat,i<m/\r.k=i/\S i=Y r.v/\r.g=F':=by
 unfold iL aO2;simp only[List.mem_filterMap,List.mem_range,Option.map_eq_some_iff];constructor
 .rintro⟨i,hi,v,hv,rfl⟩;exact⟨i,hi,rfl,hv,rfl⟩
 .rintro⟨i,hi,hk,hs,hg⟩;refine⟨i,hi,r.v,hs,?_⟩;obtain⟨k,v,g⟩:=r;simp only at hk hg;rw[hk,hg]
theorem gY(S:Sl)(m:Nat):(iL S m).Pairwise (fun a b=>a.k<b.k):=by unfold iL;rw[List.pairwise_filterMap];refine List.Pairwise.imp ?_ List.pairwise_lt_range;intro i j hij a ha b hb;simp only[aO2,Option.map_eq_some_iff]at ha hb;obtain⟨v,_,rfl⟩:=ha;obtain⟨u,_,rfl⟩:=hb;show(i:Int)<(j:Int);omega
theorem aF0:∀(l l':List Row),l.Pairwise (fun a b=>a.k<b.k)->l'.Pairwise (fun a b=>a.k<b.k)->(∀r,r∈l↔r∈l')->l=l':=by
 intro l;induction l with
 |nil=>
  intro l' _ _ h;cases l' with
  |nil=>rfl
  |cons a l'=>exact absurd ((h a).2 List.mem_cons_self) (by simp)
 |cons a l ih=>
  intro l' h1 h2 h;cases l' with
  |nil=>exact absurd ((h a).1 List.mem_cons_self) (by simp)
  |cons b l'=>
   have p1:=List.pairwise_cons.1 h1;have p2:=List.pairwise_cons.1 h2;have hab:a=b:=by
    rcases List.mem_cons.1 ((h a).1 List.mem_cons_self)with e|e
    .exact e
    .rcases List.mem_cons.1 ((h b).2 List.mem_cons_self)with e'|e'
     .exact e'.symm
     .have:=p1.1 b e';have:=p2.1 a e;omega
   subst hab;congr 1;refine ih l' p1.2 p2.2 (fun r=>?_);constructor
   .intro hr;rcases List.mem_cons.1 ((h r).1 (List.mem_cons_of_mem _ hr))with e|e
    .subst e;have:=p1.1 r hr;omega
    .exact e
   .intro hr;rcases List.mem_cons.1 ((h r).2 (List.mem_cons_of_mem _ hr))with e|e
    .subst e;have:=p2.1 r hr;omega
    .exact e
theorem aV3:∀{l:List Row},l.Pairwise (fun a b=>a.k<b.k)->∀x,x∈eF r l↔x=r\/(x∈l/\x.k≠r.k):=by
 intro l;induction l with
 |nil=>intro _ x;simp[eF]
 |cons a l ih=>
  intro hp x;have p1:=List.pairwise_cons.1 hp;by_cases h:a.k<r.k
  .simp only[eF,if_pos h,List.mem_cons,ih p1.2 x];constructor
   .rintro(rfl|rfl|⟨h1,h2⟩)
    .exact .inr ⟨.inl rfl,by omega⟩
    .exact .inl rfl
    .exact .inr ⟨.inr h1,h2⟩
   .rintro(rfl|⟨rfl|h1,h2⟩)
    .exact .inr (.inl rfl)
    .exact .inl rfl
    .exact .inr (.inr ⟨h1,h2⟩)
  .simp only[eF,if_neg h,List.mem_cons,List.mem_filter,dQ];simp
theorem bA7:∀{l:List Row},l.Pairwise (fun a b=>a.k<b.k)->(eF r l).Pairwise (fun a b=>a.k<b.k):=by
 intro l;induction l with
 |nil=>intro _;simp[eF]
 |cons a l ih=>
  intro hp;have p1:=List.pairwise_cons.1 hp;by_cases h:a.k<r.k
  .simp only[eF,if_pos h];refine List.pairwise_cons.2 ⟨fun x hx=>?_,ih p1.2⟩;rcases(aV3 p1.2 x).1 hx with rfl|⟨h1,_⟩
   .exact h
   .exact p1.1 x h1
  .simp only[eF,if_neg h];refine List.pairwise_cons.2 ⟨fun x hx=>?_,hp.filter _⟩;rw[List.mem_filter]at hx;have hne:x.k≠r.k:=by simpa[dQ]using hx.2
   rcases List.mem_cons.1 hx.1 with rfl|h1
   .omega
   .have:=p1.1 x h1;omega
theorem bG1(S:Sl){k v:Int}(h0:0<=k)(h1:k<=99):eF ⟨k,v,F'⟩ (rowsS S)=rowsS (S.set k (Y v)):=by
 refine aF0 _ _ (bA7 (gY S 100)) (gY _ 100) (fun r=>?_);show r∈eF _ (iL S 100)↔r∈iL _ 100;rw[aV3 (gY S 100),kZ,kZ];constructor
 .rintro(rfl|⟨⟨i,hi,hk,hs,hg⟩,hne⟩)
  .exact⟨k.toNat,by omega,by simp;omega,by simp only[Sl.set];rw[if_pos (by omega)],rfl⟩
  .simp only at hne;exact⟨i,hi,hk,by simp only[Sl.set];rw[if_neg (by omega)];exact hs,hg⟩
 .rintro⟨i,hi,hk,hs,hg⟩;simp only[Sl.set]at hs;by_cases e:(i:Int)=k
  .rw[if_pos e]at hs;left;obtain⟨a,b,c⟩:=r;simp only[Option.some.injEq]at hk hs hg;rw[hk,e,<-hs,hg]
  .rw[if_neg e]at hs;exact .inr ⟨⟨i,hi,hk,hs,hg⟩,by simp only;omega⟩
theorem bG0(S:Sl)(k:Int):(rowsS S).filter (dQ k)=rowsS (S.set k O):=by
 refine aF0 _ _ ((gY S 100).filter _) (gY _ 100) (fun r=>?_);rw[List.mem_filter,rowsS,rowsS,kZ,kZ];constructor
 .rintro⟨⟨i,hi,hk,hs,hg⟩,hn⟩;have hne:r.k≠k:=by simpa[dQ]using hn
  exact⟨i,hi,hk,by simp only[Sl.set];rw[if_neg (by omega)];exact hs,hg⟩
 .rintro⟨i,hi,hk,hs,hg⟩;simp only[Sl.set]at hs;by_cases e:(i:Int)=k
  .rw[if_pos e]at hs;simp at hs
  .rw[if_neg e]at hs;exact⟨⟨i,hi,hk,hs,hg⟩,by simp only[dQ];simp;omega⟩
def fU(rs:List Row)(k:Nat):Sl:=(rs.take k).foldl (fun S r=>S.set r.k (Y r.v)) (fun _=>O)
theorem tX(rs:List Row)(k:Nat)(h:k<rs.length):rs.take (k+1)=rs.take k++[rs.getD k Row.zero]:=by rw[List.take_add_one,List.getElem?_eq_getElem h];simp[List.getD,h]
theorem aT5{rs:List Row}(h:k<rs.length):fU rs (k+1)=(fU rs k).set (rs.getD k Row.zero).k (Y (rs.getD k Row.zero).v):=by unfold fU;rw[tX rs k h,List.foldl_append];rfl
def rW(S:Sl)(r:Rec):Sl:=if eU r.kd then S.set r.ky (rT r.hs r.nw)else S
def fG(S:Sl)(rs:List Rec)(k:Nat):Sl:=(rs.take k).foldl rW S
theorem xD{S:Sl}(h:k<rs.length):fG S rs (k+1)=rW (fG S rs k) (rs.getD k Rec.zero):=by unfold fG;rw[qC rs k h,List.foldl_append];rfl
structure Bs where
 s:Sl
 b:Int->Int
def jA(L:Int->Bool)(st:Bs)(r:Rec):Bs:=
 if r.kd !=2||!L r.tx then st else if 0<st.b r.tx then⟨st.s,fun t=>if t=r.tx then st.b t-1 else st.b t⟩else⟨st.s.set r.ky (rT r.hd r.ol),st.b⟩
def cG(L:Int->Bool)(st:Bs)(rs:List Rec):Bs:=rs.foldl (jA L) st
theorem mY(L:Int->Bool)(st:Bs)(rs:List Rec)(r:Rec):cG L st (rs++[r])=jA L (cG L st rs) r:=by unfold cG;rw[List.foldl_append];rfl
theorem aJ3(h:k<rs.length):(rs.drop k).reverse=(rs.drop (k+1)).reverse++[rs.getD k Rec.zero]:=by rw[List.drop_eq_getElem_cons h,List.reverse_cons];simp[List.getD,h]
theorem dB4{st:Bs}{r:Rec}{m:Int}(h:∀t,0<=st.b t/\st.b t<=m):∀t,0<=(jA L st r).b t/\(jA L st r).b t<=m:=by
 intro t;unfold jA;have h1:=h t;have h2:=h r.tx;split
 .exact h1
 .split
  .simp only;split
   .rename_i e;subst e;omega
   .exact h1
  .exact h1
theorem aH8{m:Int}:∀(rs:List Rec) {st:Bs},(∀t,0<=st.b t/\st.b t<=m)->∀t,0<=(cG L st rs).b t/\(cG L st rs).b t<=m:=by
 intro rs;induction rs with
 |nil=>intro st h;exact h
 |cons r rs ih=>intro st h;exact ih (dB4 h)
def tQ(base:List Row)(rs:List Rec):Bs:=cG (fun t=>(bP rs t).lost) ⟨fG (fU base base.length) rs rs.length,fun t=>(bP rs t).bk⟩ rs.reverse
def mO(base:List Row)(rs:List Rec):Int×List Int×List Row:=
 if eR rs !=0 then(eR rs,[],[])else if dM base !=0 then(dM base,[],[])else(0,jG rs,rowsS (tQ base rs).s)
theorem wH(h:eR rs=c)(hc:(c !=0)=A'):mO base rs=(c,[],[]):=by unfold mO;rw[h,if_pos hc]
theorem tV(h0:eR rs=0)(h:dM base=c)(hc:(c !=0)=A'):mO base rs=(c,[],[]):=by unfold mO;rw[h0,h,if_neg (by simp),if_pos hc]
theorem vC(h0:eR rs=0)(h:dM base=0):mO base rs=(0,jG rs,rowsS (tQ base rs).s):=by unfold mO;rw[h0,h];rfl
end Ch
theorem dB2(z:Int)(h0:0<=z)(h1:z<=255):(bits .and .u8 z 1 !=0)=(z%2==1):=by
 rw[u8_and z 1 h0 (by omega) (by omega) (by omega)];obtain⟨n,rfl⟩:=Int.eq_ofNat_of_zero_le h0;have:n&&&1=n%2:=Nat.and_one_is_mod n;simp only[Int.toNat_natCast];have e:((1:Int).toNat)=1:=rfl;rw[e,this];rcases Nat.mod_two_eq_zero_or_one n with h|h
 .have h2:((n:Int)%2)=0:=by omega
  simp[h,h2]
 .have h2:((n:Int)%2)=1:=by omega
  simp[h,h2]
theorem dB3(z:Int)(h0:0<=z)(h1:z<=255):(bits .and .u8 z 2 !=0)=(z / 2%2==1):=by
 rw[u8_and z 2 h0 (by omega) (by omega) (by omega)];obtain⟨n,rfl⟩:=Int.eq_ofNat_of_zero_le h0;have hn:n<256:=by omega
 have e:((2:Int).toNat)=2:=rfl;simp only[Int.toNat_natCast];rw[e];have key:∀n:Fin 256,(((n.val&&&2:Nat):Int) !=0)=((n.val:Int) / 2%2==1):=by decide+kernel
 exact key ⟨n,hn⟩
def recV(r:Rec):Value:=U #[I J r.kd,I J r.tx,I J r.ky,X r.hd,I J r.ol,X r.hs,I J r.nw]
theorem cG4(b0 b1 b2 b3 b4 b5 b6 b7 b8:Int)(w:World)(p0:0<=b0)(q0:b0<=255)(p1:0<=b1)(q1:b1<=255)(p2:0<=b2)(q2:b2<=255)(p3:0<=b3)(q3:b3<=255)(p4:0<=b4)(q4:b4<=255)(p5:0<=b5)(q5:b5<=255)(p6:0<=b6)(q6:b6<=255)(p7:0<=b7)(q7:b7<=255)(p8:0<=b8)(q8:b8<=255):
  Calls prog 118 #[U #[I .u8 b0,I .u8 b1,I .u8 b2,I .u8 b3,I .u8 b4,I .u8 b5,I .u8 b6,I .u8 b7,I .u8 b8]] w fun e w'=>e=R' (recV (Ch.unp [b0,b1,b2,b3,b4,b5,b6,b7,b8]))/\Below w.heap.size w w':=by
 have n1:=dB2 b4 p4 q4;have n2:=dB3 b4 p4 q4;have hw0:IntKind.i64.wrap b0=b0:=IntWalk.i64_in b0 ⟨by omega,by omega⟩;have hw3:IntKind.i64.wrap b3=b3:=IntWalk.i64_in b3 ⟨by omega,by omega⟩;go_enter func118,ntmps118
 go_upto_region 1 with fail
 go_cut [3] (fun s wx=>s= .pointer (Y ⟨w.heap.size+2,0,O⟩)/\wx=(((w.alloc (M #[I .u8 b0,I .u8 b1,I .u8 b2,I .u8 b3,I .u8 b4,I .u8 b5,I .u8 b6,I .u8 b7,I .u8 b8] 164)).alloc (M #[I J 0,I J 0,I J 0,X F',I J 0,X F',I J 0] 79)).alloc (nO b0 (b1*256+b2) 0 F' 0 F' 0)).drew)
 case first=>
  have HS:Hid (∀W',Below (w.heap.size+2) ((w.alloc (M #[I .u8 b0,I .u8 b1,I .u8 b2,I .u8 b3,I .u8 b4,I .u8 b5,I .u8 b6,I .u8 b7,I .u8 b8] 164)).alloc (M #[I J 0,I J 0,I J 0,X F',I J 0,X F',I J 0] 79)) W'->W'.cell? ⟨w.heap.size,0,O⟩=Y (I .u8 b0)/\W'.cell? ⟨w.heap.size,1,O⟩=Y (I .u8 b1)/\W'.cell? ⟨w.heap.size,2,O⟩=Y (I .u8 b2)/\Below (w.heap.size+2) ((w.alloc (M #[I .u8 b0,I .u8 b1,I .u8 b2,I .u8 b3,I .u8 b4,I .u8 b5,I .u8 b6,I .u8 b7,I .u8 b8] 164)).alloc (M #[I J 0,I J 0,I J 0,X F',I J 0,X F',I J 0] 79)) W'):=fun W' hb=>⟨by simpa using dR (bU hb) 0,by simpa using dR (bU hb) 1,by simpa using dR (bU hb) 2,hb⟩
  refine R0 (fun W'=>W'.cell? ⟨w.heap.size,0,O⟩=Y (I .u8 b0)/\W'.cell? ⟨w.heap.size,1,O⟩=Y (I .u8 b1)/\W'.cell? ⟨w.heap.size,2,O⟩=Y (I .u8 b2)/\Below (w.heap.size+2) ((w.alloc (M #[I .u8 b0,I .u8 b1,I .u8 b2,I .u8 b3,I .u8 b4,I .u8 b5,I .u8 b6,I .u8 b7,I .u8 b8] 164)).alloc (M #[I J 0,I J 0,I J 0,X F',I J 0,X F',I J 0] 79)) W') (HS.out _ u'.drew) (fun hH=>?_);refine R5 0 1 2 3 4 ?_;refine R2 5 6 ?_;refine wpAnyH_ready (rs:=[7,9]) (by kernel_rfl) (by simp) ?_;refine AllReadyH.cons rfl (fun K hK=>?_) (AllReadyH.cons rfl (fun K hK=>?_) AllReadyH.nil);focus
   go_simp;refine(aM2 _ _ _ p1 q1 p2 q2).mono ?_;rintro e w1⟨rfl,hw1⟩;subst w1;go_wp2_with fail
   refine hK.out _ _ ?_ (fun hH=>?_)
   .exact hH
   clear hK K;refine R1 8 ?_;refine R6 9 (fun K hK=>?_);go_simp;refine hK.out _ _ ?_ (fun hH=>?_)
   .exact HS.out _ (hH.2.2.2.alloc (by simp) _)
   clear hK K;refine R6 10 (fun K hK=>?_);go_simp;refine hK.out _ _ ?_ (fun hH=>?_)
   .exact HS.out _ ((u'.drew.alloc (by simp) _))
   clear hK K;refine R7 ?_
  rotate_left;focus
   go_simp;refine hK.out _ _ ?_ (fun hH=>?_)
   .exact HS.out _ (hH.2.2.2.alloc (by simp) _)
   clear hK K;refine R6 7 (fun K hK=>?_);go_simp;refine(aM2 _ _ _ p1 q1 p2 q2).mono ?_;rintro e w1⟨rfl,hw1⟩;subst w1;go_wp2_with fail
   refine hK.out _ _ ?_ (fun hH=>?_)
   .exact hH
   clear hK K;refine R1 8 ?_;refine R6 10 (fun K hK=>?_);go_simp;refine hK.out _ _ ?_ (fun hH=>?_)
   .exact HS.out _ ((u'.drew.alloc (by simp) _))
   clear hK K;refine R7 ?_
  rotate_left;all_goals
   go_wp2_with fail
   go_meet;exact⟨rfl,rfl⟩
 case rest=>
 obtain⟨rfl,rfl⟩:=hcut;cases hset:eU b0
 .go_wp2_with(go_at_call 82;refine(nS _ _).mono ?_;rintro e w1⟨rfl,hw1⟩;subst w1)
  refine bodyPost_ret (v:=U #[I J b0,I J (b1*256+b2),I J 0,X F',I J 0,X F',I J 0]) (by simp[results,Tryz.results118,go_sem]) rfl ⟨?_,?_⟩
  .simp[recV,Ch.unp,hset]
  .repeat(first|exact u'|refine Below.drew ?_|refine Below.alloc ?_ (by first|omega|(simp;done)|(simp;omega)) _)
 .go_wp2_with(first|(go_at_call 82;refine(nS _ _).mono ?_;rintro e w1⟨rfl,hw1⟩;subst w1)|(go_at_call 156;refine(aM2 _ _ _ (by assumption) (by assumption) (by assumption) (by assumption)).mono ?_;rintro e w1⟨rfl,hw1⟩;subst w1))
  refine bodyPost_ret (v:=U #[I J b0,I J (b1*256+b2),I J b3,X (b4%2==1),I J (b5*256+b6),X (b4 / 2%2==1),I J (b7*256+b8)]) (by simp[results,Tryz.results118,go_sem]) rfl ⟨?_,?_⟩
  .simp[recV,Ch.unp,hset]
  .repeat(first|exact u'|refine Below.drew ?_|refine Below.alloc ?_ (by first|omega|(simp;done)|(simp;omega)) _)
theorem xF{N:Nat}(h:∀l∈ls,l.hs.length+l.qs.length<=N):dC ls<=(N+1)*ls.length:=by
 induction ls with
 |nil=>simp[dC,mM]
 |cons l ls ih=>have h1:=ih (fun x hx=>h x (by simp[hx]));have h2:=h l (by simp);unfold dC mM at*;simp only[List.map_cons,List.sum_cons,List.length_cons,Nat.mul_add,Nat.mul_one];omega
theorem qN(h:aS ls=0)(hi:i<ls.length):(aH ls i).hs.length<=20/\(aH ls i).qs.length<=20/\aZ (aH ls i).hs=A'/\aZ (aH ls i).qs=A'/\cP (aH ls i).qs=F':=by have:=fN (iI ((eL h).1 i hi)).2.2.2;exact⟨this.1,this.2.1,this.2.2.1,this.2.2.2.1,this.2.2.2.2.2.1⟩
theorem aL2(l:Lock)(t:Int):(fQ l t).hs.length+(fQ l t).qs.length<=l.hs.length+l.qs.length:=by have h1:=(bR8 (aI l.hs t) (aI l.qs t)).1;have h2:=jR l.hs t;have h3:=jR l.qs t;unfold fQ;simp only;omega
theorem aL1(h:aS ls=0)(t:Int):∀l∈dG ls t,l.hs.length+l.qs.length<=40:=by
 intro l hl;unfold dG at hl;rw[List.mem_map]at hl;obtain⟨l0,hl0,rfl⟩:=hl;obtain⟨i,hi,rfl⟩:=List.getElem_of_mem hl0;have h1:=qN h hi;have e:aH ls i=ls[i]:=by simp[aH,List.getD,hi]
 rw[e]at h1;have:=aL2 ls[i] t;omega
theorem sM(h:aS ls=0)(t:Int):dC ((dG ls t).filter iD)<=5000:=by
 have h1:=xF (ls:=(dG ls t).filter iD) (N:=40) (fun l hl=>aL1 h t l (List.mem_filter.1 hl).1);have h2:=mK h;have h3:(dG ls t).length=ls.length:=by simp[dG]
 have h4:=List.length_filter_le iD (dG ls t);omega
theorem jJ{g:Nat}{u0 u1 u2 u3:Value}(h:W.heap[g]? =Y (M #[u0,u1,u2,u3] t (0,0))):
  (W.cell? ⟨g,0,O⟩=Y u0/\W.cell? ⟨g,1,O⟩=Y u1/\W.cell? ⟨g,2,O⟩=Y u2/\W.cell? ⟨g,3,O⟩=Y u3)/\(W.frozen? ⟨g,0,O⟩=F'/\W.frozen? ⟨g,1,O⟩=F'/\W.frozen? ⟨g,2,O⟩=F'/\W.frozen? ⟨g,3,O⟩=F'):=
 ⟨⟨cell_of_row _ _ _ _ _ _ h,cell_of_row _ _ _ _ _ _ h,cell_of_row _ _ _ _ _ _ h,cell_of_row _ _ _ _ _ _ h⟩,pO h,pO h,pO h,pO h⟩
theorem iG(hb:Below B w w'){b:Nat}(hB:b<B){o:Obj}(h:w.heap[b]? =Y o):w'.heap[b]? =Y o:=(hb.block b hB).trans h
theorem OwnK.other(h:OwnK T w B v n ls vs)(gr:w.grownBy w' row)(hr:∀g,row=Y g->g∉v.ownBlock.toList++vs.flatMap blks):OwnK T w' B v n ls vs:=by
 refine⟨h.len,h.vlen,aK h.row gr fun g hg e=>hr g e (List.mem_append.2 (.inl (by simp[hg]))),fun i q hq=>aK (h.hs i q hq) gr fun g hg e=>hr g e ?_,fun i q hq=>aK (h.qs i q hq) gr fun g hg e=>hr g e ?_,h.apart⟩
 .exact List.mem_append.2 (.inr (List.mem_flatMap.2 ⟨q,List.mem_of_getElem? hq,by simp[blks,hg]⟩))
 .exact List.mem_append.2 (.inr (List.mem_flatMap.2 ⟨q,List.mem_of_getElem? hq,by simp[blks,hg]⟩))
theorem aD7(h:ls.length=vs.length)(hk:k<=ls.length):lcells (ls.take k) (vs.take k)=(lcells ls vs).take (k*3)/\lcells (ls.drop k) (vs.drop k)=(lcells ls vs).drop (k*3):=by
 have ht:(ls.take k).length=(vs.take k).length:=by simp[h]
 have e:lcells ls vs=lcells (ls.take k) (vs.take k)++lcells (ls.drop k) (vs.drop k):=by rw[<-lD ht,List.take_append_drop,List.take_append_drop]
 have hl:(lcells (ls.take k) (vs.take k)).length=k*3:=by rw[bZ5 ht];simp;omega
 rw[e];exact⟨(List.take_left' hl).symm,(List.drop_left' hl).symm⟩
theorem cI2(hk:k<=vs.length)(p:Value×Value)(hq:(vs.take k++[p]++vs.drop k)[i]? =Y q):(i<k/\vs[i]? =Y q)\/(i=k/\q=p)\/(k<i/\vs[i-1]? =Y q):=by
 have hlen:(vs.take k).length=k:=by simp;omega
 rcases Nat.lt_trichotomy i k with h|h|h
 .rw[List.append_assoc,List.getElem?_append_left (by omega),List.getElem?_take_of_lt h]at hq;exact .inl ⟨h,hq⟩
 .subst h;rw[List.append_assoc,List.getElem?_append_right (by omega),hlen]at hq;simp at hq;exact .inr (.inl ⟨rfl,hq.symm⟩)
 .rw[List.getElem?_append_right (by simp;omega)]at hq;simp only[List.length_append,hlen,List.length_singleton,List.getElem?_drop]at hq;have:k+(i-(k+1))=i-1:=by omega
  rw[this]at hq;exact .inr (.inr ⟨h,hq⟩)
def dG9:Value×Value:=(Z O 0 0,Z O 0 0)
theorem cW8(vs:List (Value×Value))(k:Nat):(vs.take k++[dG9]++vs.drop k).flatMap blks=vs.flatMap blks:=by
 have e:vs.flatMap blks=(vs.take k).flatMap blks++(vs.drop k).flatMap blks:=by rw[<-List.flatMap_append,List.take_append_drop]
 rw[e,List.flatMap_append,List.flatMap_append];simp[dG9,blks,Value.ownBlock]
theorem OwnK.ins(h:OwnK T w B v n ls vs)(hk:k<=n){r:Int}{c':Nat}
  (own:w'.ownsRow B T 3 (Z a' (n+1) c') (n+1) ((lcells ls vs).take (k*3)++[I J r,Z O 0 0,Z O 0 0]++(lcells ls vs).drop (k*3))) (gr:w.grownBy w' v.ownBlock) (hat:∀g,(Z a' (n+1) c').ownBlock=Y g->v.ownBlock=Y g\/w.heap.size<=g):
  OwnK T w' B (Z a' (n+1) c') (n+1) (ls.take k++[⟨r,[],[]⟩]++ls.drop k) (vs.take k++[dG9]++vs.drop k):=by
 have hl:ls.length=vs.length:=by rw[h.len,h.vlen]
 have hk1:k<=ls.length:=by rw[h.len];exact hk
 have hk2:k<=vs.length:=by rw[h.vlen];exact hk
 have hsub:∀(i:Nat) (q:Value×Value),vs[i]? =Y q->∀g∈blks q,v.ownBlock≠Y g:=fun i q hq g hg e=>nG h.apart hq e hg;refine⟨by simp[h.len];omega,by simp[h.vlen];omega,?_,fun i q hq=>?_,fun i q hq=>?_,?_⟩
 .rw[lD (by simp[hl]),lD (by simp[hl]),(aD7 hl hk1).1,(aD7 hl hk1).2];exact own
 .rw[wW _ _ _ _ hk1];rcases cI2 hk2 _ hq with⟨hi,hq'⟩|⟨rfl,rfl⟩|⟨hi,hq'⟩
  .rw[if_pos hi];exact aK (h.hs i q hq') gr fun g hg e=>hsub i q hq' g (by simp[blks,hg]) e
  .rw[if_neg (by omega),if_pos rfl];exact World.ownsRow_nil _ _ _ _
  .rw[if_neg (by omega),if_neg (by omega)];exact aK (h.hs _ q hq') gr fun g hg e=>hsub _ q hq' g (by simp[blks,hg]) e
 .rw[wW _ _ _ _ hk1];rcases cI2 hk2 _ hq with⟨hi,hq'⟩|⟨rfl,rfl⟩|⟨hi,hq'⟩
  .rw[if_pos hi];exact aK (h.qs i q hq') gr fun g hg e=>hsub i q hq' g (by simp[blks,hg]) e
  .rw[if_neg (by omega),if_pos rfl];exact World.ownsRow_nil _ _ _ _
  .rw[if_neg (by omega),if_neg (by omega)];exact aK (h.qs _ q hq') gr fun g hg e=>hsub _ q hq' g (by simp[blks,hg]) e
 .rw[cW8];exact cG8 h.apart hat fun i q hq g hg=>(h.bd hq hg).2
theorem bL6(h:∀(i:Nat) (q:Value×Value),vs[i]? =Y q->q.1.oneCell'=A'/\q.2.oneCell'=A'):∀u∈lcells ls vs,u.oneCell'=A':=by
 intro u hu;unfold lcells at hu;rw[List.mem_flatMap]at hu;obtain⟨⟨l,x,y⟩,hz,hu⟩:=hu;have hm:=(List.of_mem_zip hz).2;obtain⟨i,hi⟩:=List.getElem?_of_mem hm;have:=h i _ hi;simp at hu;rcases hu with rfl|rfl|rfl
 .rfl
 .exact this.1
 .exact this.2
theorem OwnK.one'(h:OwnK T w B v n ls vs):∀u∈lcells ls vs,u.oneCell'=A':=by refine bL6 fun i q hq=>?_;obtain⟨a,c,e⟩:=dI (h.hs i q hq);obtain⟨a2,c2,e2⟩:=dI (h.qs i q hq);rw[e,e2];exact⟨rfl,rfl⟩
def dV(a0:Act)(d:Nat->Nat)(E:List Nat)(vs:Nat->Value):Act:=E.foldl (fun a j=>a.put (Y (d j)) (vs j)) a0
theorem cY5(a:Act)(x:Nat)(v u:Value):(a.put (Y x) v).put (Y x) u=a.put (Y x) u:=by simp[Act.put,Array.setIfInBounds_setIfInBounds]
theorem dE0(a:Act)(x:Nat):a.put (Y x) (a.eval (.tmp x))=a:=by
 have h:a.tmps.setIfInBounds x (a.tmps.getD x undef)=a.tmps:=by
  apply Array.ext
  .simp
  .intro i h1 h2;rw[Array.getElem_setIfInBounds];split
   .rename_i e
    subst e;simp[Array.getD,h2]
   .rfl
 show({a with tmps:=a.tmps.setIfInBounds x (a.tmps.getD x undef)}:Act)=a;rw[h]
theorem bV4(d:Nat->Nat)(vs:Nat->Value)(x:Nat)(v:Value):∀(E:List Nat) (a0:Act),(∀k∈E,d k≠x)->(dV a0 d E vs).put (Y x) v=dV (a0.put (Y x) v) d E vs:=by
 intro E;induction E with
 |nil=>intro a0 _;rfl
 |cons j E ih=>intro a0 h;show(dV (a0.put (Y (d j)) (vs j)) d E vs).put (Y x) v=dV ((a0.put (Y x) v).put (Y (d j)) (vs j)) d E vs;rw[ih _ (fun k hk=>h k (List.mem_cons_of_mem _ hk))];congr 1;exact Act.put_comm a0 (vs j) v (fun e he hx=>h j (List.mem_cons_self) (by cases he;cases hx;rfl))
theorem bI2(d:Nat->Nat)(vs us:Nat->Value):∀(E:List Nat) (a0:Act),(∀k∈E,vs k=us k)->dV a0 d E vs=dV a0 d E us:=by
 intro E;induction E with
 |nil=>intro a0 _;rfl
 |cons j E ih=>intro a0 h;show dV (a0.put (Y (d j)) (vs j)) d E vs=dV (a0.put (Y (d j)) (us j)) d E us;rw[h j (List.mem_cons_self)];exact ih _ (fun k hk=>h k (List.mem_cons_of_mem _ hk))
theorem aT9(d:Nat->Nat)(vs:Nat->Value)(i:Nat)(v:Value):∀(E:List Nat) (a0:Act),(∀j∈E,∀k∈E,d j=d k->j=k)->E.Nodup->i∈E->(dV a0 d E vs).put (Y (d i)) v=dV a0 d E (fun j=>if j=i then v else vs j):=by
 intro E;induction E with
 |nil=>intro a0 _ _ h;cases h
 |cons j E ih=>
  intro a0 hd hn hi;have hn':=List.nodup_cons.1 hn;show(dV (a0.put (Y (d j)) (vs j)) d E vs).put (Y (d i)) v=dV (a0.put (Y (d j)) (if j=i then v else vs j)) d E _;by_cases hij:j=i
  .subst hij;rw[if_pos rfl,bV4 d vs (d j) v E _ (fun k hk he=>hn'.1 (by rw[<-hd k (List.mem_cons_of_mem _ hk) j List.mem_cons_self he];exact hk)),cY5];exact bI2 d _ _ E _ fun k hk=>by rw[if_neg];intro e;subst e;exact hn'.1 hk
  .rw[if_neg hij];rcases List.mem_cons.1 hi with h|h
   .exact absurd h.symm hij
   .exact ih _ (fun a ha b hb=>hd a (List.mem_cons_of_mem _ ha) b (List.mem_cons_of_mem _ hb)) hn'.2 h
theorem aT8(d:Nat->Nat)(a0:Act):∀(E:List Nat),dV a0 d E (fun j=>a0.eval (.tmp (d j)))=a0:=by
 intro E;induction E with
 |nil=>rfl
 |cons j E ih=>show dV (a0.put (Y (d j)) (a0.eval (.tmp (d j)))) d E _=a0;rw[dE0];exact ih
def unl(n:Nat)(l:Array Bool):Nat:=((List.range n).filter fun i=>!l.getD i A').length
theorem aC5{p q:Nat->Bool}:∀(l:List Nat),(∀j,q j=A'->p j=A')->i∈l->p i=A'->q i=F'->(l.filter q).length<(l.filter p).length:=by
 intro l;induction l with
 |nil=>intro _ h;cases h
 |cons x l ih=>
  intro hs hi hp hq;have hle:(l.filter q).length<=(l.filter p).length:=by
   clear ih hi;induction l with
   |nil=>simp
   |cons y l ih=>
    rw[List.filter_cons,List.filter_cons];cases hy:q y
    .cases hy':p y
     .simpa using ih
     .simp;omega
    .rw[hs y hy];simpa using ih
  rw[List.filter_cons,List.filter_cons];rcases List.mem_cons.1 hi with h|h
  .subst h;rw[hp,hq];simp;omega
  .have:=ih hs h hp hq;cases hx:q x
   .cases hx':p x
    .simpa using this
    .simp;omega
   .rw[hs x hx];simpa using this
theorem rN(l:Array Bool)(i j:Nat)(b:Bool)(h:i<l.size):(l.setIfInBounds i A').getD j b=if i=j then A' else l.getD j b:=by
 by_cases hij:i=j
 .subst hij;simp[Array.getD,h]
 .rw[if_neg hij];simp only[Array.getD,Array.size_setIfInBounds];split
  .rename_i hj
   exact Array.getElem_setIfInBounds_ne (by simpa using hj) hij
  .rfl
theorem aU6(hi:i<l.size)(h:l.getD i A'=A'):l.getD i F'=A':=by simp only[Array.getD,dif_pos hi]at h⊢;exact h
theorem rP(h:l.getD i F'=A'):l.getD i A'=A':=by
 simp only[Array.getD]at h⊢;split at h
 .rename_i hi;rw[dif_pos hi];exact h
 .cases h
theorem cK5(hi:i<n)(hs:l.size=n)(h:l.getD i A'=F'):unl n (l.setIfInBounds i A')<unl n l:=by
 unfold unl;refine aC5 (i:=i) _ (fun j hj=>?_) (List.mem_range.2 hi) (by rw[h];rfl) (by rw[rN _ _ _ _ (by omega),if_pos rfl];rfl);rw[rN _ _ _ _ (by omega)]at hj;by_cases hij:i=j
 .rw[if_pos hij]at hj;cases hj
 .rw[if_neg hij]at hj;exact hj
theorem vB(h:i∈Region.ready .any ops l):∃o,ops[i]? =Y o/\i<ops.size/\l.getD i A'=F'/\∀e,e∈o.after->Region.binds .any e=A'->l.getD e.on F'=A':=by unfold Region.ready at h;rw[List.mem_filter]at h;obtain⟨h1,h2⟩:=h;have hi:i<ops.size:=List.mem_range.1 h1;have ho:ops[i]? =Y ops[i]:=Array.getElem?_eq_getElem hi;rw[ho]at h2;simp only[Option.map_some,Option.getD_some,Bool.and_eq_true,Bool.not_eq_true']at h2;refine⟨_,ho,hi,h2.1,fun e he hb=>?_⟩;have h3:=h2.2;rw[Array.all_eq_true']at h3;have h4:=h3 e he;rw[hb]at h4;simpa using h4
def Oper.waitsFor(o:Oper)(j:Nat):Bool:=o.after.any fun e=>e.on==j&&Region.binds .any e
theorem mS{j:Nat}{o:Oper}(h:i∈Region.ready .any ops l)(ho:ops[i]? =Y o)(hw:Oper.waitsFor o j=A'):l.getD j F'=A':=by obtain⟨o',ho',_,_,h1⟩:=vB h;rw[ho]at ho';cases ho';unfold Oper.waitsFor at hw;rw[Array.any_eq_true']at hw;obtain⟨e,he,h2⟩:=hw;simp only[Bool.and_eq_true,beq_iff_eq]at h2;rw[<-h2.1];exact h1 e he h2.2
theorem vQ
  (d:Nat->Nat) (E:List Nat) (z:Nat) (pre:Nat->List Nat) (R:Nat->Value->(Nat->Nat)->World->Prop) (Bs:(Nat->Nat)->World->Prop)
  (hinj:(E.all fun i=>E.all fun j=>d i !=d j||i==j)=A') (hnd:E.Nodup) (hN:(L0.size==ops.size)=A')
  (hcov:((List.range ops.size).all fun i=>L0.getD i A'||E.contains i||i==z)=A') (hz0:(decide (z<ops.size)&&!L0.getD z A'&&!E.contains z)=A') (hE0:(E.all fun j=>!L0.getD j A')=A')
  (hpre:(E.all fun i=>match ops[i]? with|Y o=>(pre i).all (fun j=>E.contains j&&Oper.waitsFor o j)|O=>F')=A')
  (hord:((List.range ops.size).all fun i=>match ops[i]? with|Y o=>o.after.all (fun e=>decide (e.on<i))|O=>A')=A')
  (hz:(E.all fun j=>match ops[z]? with|Y o=>Oper.waitsFor o j|O=>F')=A') (hfu:unl ops.size L0<=fuel)
  (hmono:∀j v T T' w w',R j v T w->(∀k,Kp k T T' w w')->w.heap.size<=w'.heap.size->R j v T' w') (hBS:∀T w,Bs T w->S w)
  (hstep:∀i∈E,∀vs T w,Bs T w->(∀j∈pre i,R j (vs j) T w)->wpOp P ops Q i (fun a' w'=>∃v T',a'=(dV a0 d E vs).put (Y (d i)) v/\R i v T' w'/\(∀k,Kp k T T' w w')/\w.heap.size<=w'.heap.size/\Bs T' w') (dV a0 d E vs) w)
  (hlast:∀vs T w,Bs T w->(∀j∈E,R j (vs j) T w)->∀K:Act->World->Prop,(∀a' w',S w'->Q .normal a' w'->K a' w')->wpOp P ops Q z K (dV a0 d E vs) w)
  (T:Nat->Nat) (hB:Bs T w):wpAnyH P .any ops Q S fuel L0 a0 w:=by
 have hinj':∀j∈E,∀k∈E,d j=d k->j=k:=by intro j hj k hk he;have:=List.all_eq_true.1 (List.all_eq_true.1 hinj j hj) k hk;simpa[he]using this
 have hN':L0.size=ops.size:=by simpa using hN
 simp only[Bool.and_eq_true,decide_eq_true_eq,Bool.not_eq_true']at hz0;have hzE:z∉E:=by have:=hz0.2;simpa using this
 have key:∀(fuel:Nat) (l:Array Bool) (a:Act) (w:World),l.size=ops.size->(∀i,i<ops.size->i∉E->i≠z->l.getD i A'=A')->unl ops.size l<=fuel->
   ((l.getD z A'=F'/\∃vs T,a=dV a0 d E vs/\Bs T w/\∀j∈E,l.getD j A'=A'->R j (vs j) T w)\/((∀i,i<ops.size->l.getD i A'=A')/\Q .normal a w))->wpAnyH P .any ops Q S fuel l a w:=by
  intro fuel;induction fuel with
  |zero=>
   intro l a w hs hout hf hI;have hall:∀i,i<ops.size->l.getD i A'=A':=by
    intro i hi;cases hc:l.getD i A' with
    |true=>rfl
    |false=>have:=cK5 (n:=ops.size) hi hs hc;omega
   have hr:Region.ready .any ops l=[]:=by apply List.eq_nil_iff_forall_not_mem.2;intro i hi;obtain⟨o,_,h1,h2,_⟩:=vB hi;rw[hall i h1]at h2;cases h2
   refine⟨hr,?_⟩;rcases hI with⟨h1,_⟩|⟨_,h2⟩
   .rw[hall z hz0.1.1]at h1;cases h1
   .exact h2
  |succ fuel ih=>
   intro l a w hs hout hf hI;rcases hI with⟨hlz,vs,T,rfl,hBs,hR⟩|⟨hall,hQ⟩;rotate_left
   .have hr:Region.ready .any ops l=[]:=by apply List.eq_nil_iff_forall_not_mem.2;intro i hi;obtain⟨o,_,h1,h2,_⟩:=vB hi;rw[hall i h1]at h2;cases h2
    refine⟨fun _=>hQ,fun i hi=>?_⟩;rw[hr]at hi;cases hi
   .refine⟨fun hr=>?_,fun i hi=>?_⟩
    .-- nothing comes up:then all of them have,the last one too
     exfalso;have hall:∀i,i<ops.size->l.getD i A'=A':=by
      intro i;induction i using Nat.strongRecOn with
      |_ i ihi=>
       intro hi;cases hc:l.getD i A' with
       |true=>rfl
       |false=>
        have ho:ops[i]? =Y ops[i]:=Array.getElem?_eq_getElem hi;have h1:=List.all_eq_true.1 hord i (List.mem_range.2 hi);rw[ho]at h1;simp only[]at h1;rw[Array.all_eq_true']at h1;have hm:i∈Region.ready .any ops l:=by
         unfold Region.ready;rw[List.mem_filter];refine⟨List.mem_range.2 hi,?_⟩;rw[ho,hc];simp only[Option.map_some,Option.getD_some,Bool.not_false,Bool.true_and];rw[Array.all_eq_true'];intro e he;have h2:e.on<i:=by simpa using h1 e he
         have h3:=ihi e.on h2 (by omega);rw[aU6 (by omega) h3];simp
        rw[hr]at hm;cases hm
     rw[hall z hz0.1.1]at hlz;cases hlz
    .obtain⟨o,ho,hi1,hi2,_⟩:=vB hi;have hsz:(l.setIfInBounds i A').size=ops.size:=by simpa using hs
     have hl':=fun j b=>rN l i j b (by omega:i<l.size);have hun:unl ops.size (l.setIfInBounds i A')<=fuel:=by have:=cK5 hi1 hs hi2;omega
     by_cases hiE:i∈E
     .have hp:=List.all_eq_true.1 hpre i hiE;rw[ho]at hp;simp only[]at hp;have hpj:∀j∈pre i,R j (vs j) T w:=by intro j hj;have h1:=List.all_eq_true.1 hp j hj;simp only[Bool.and_eq_true]at h1;refine hR j (by simpa using h1.1) ?_;exact rP (mS hi ho h1.2)
      refine wpOp_mono ?_ (hstep i hiE vs T w hBs hpj);rintro a' w'⟨v,T',rfl,hRi,hk,hsz',hB'⟩;refine⟨hBS _ _ hB',ih _ _ _ hsz (fun j hj hjE hjz=>?_) hun (Or.inl ⟨?_,fun j=>if j=i then v else vs j,T',aT9 d vs i v E a0 hinj' hnd hiE,hB',fun j hj hlj=>?_⟩)⟩
      .rw[hl'];split
       .rfl
       .exact hout j hj hjE hjz
      .rw[hl',if_neg]
       .exact hlz
       .intro e;subst e;exact hzE hiE
      .rw[hl']at hlj;by_cases hji:j=i
       .subst hji;simp only[if_true];exact hRi
       .show R j (if j=i then v else vs j) T' w';rw[if_neg hji];rw[if_neg (fun e=>hji e.symm)]at hlj;exact hmono j _ T T' w w' (hR j hj hlj) hk hsz'
     .have hiz:i=z:=by
       by_cases h:i=z
       .exact h
       .have:=hout i hi1 hiE h;rw[this]at hi2;cases hi2
      subst hiz;have hRall:∀j∈E,R j (vs j) T w:=by intro j hj;have h1:=List.all_eq_true.1 hz j hj;rw[ho]at h1;refine hR j hj ?_;exact rP (mS hi ho h1)
      refine hlast vs T w hBs hRall _ fun a' w' hS' hQ'=>?_;refine⟨hS',ih _ _ _ hsz (fun j hj hjE hjz=>?_) hun (Or.inr ⟨fun j hj=>?_,hQ'⟩)⟩
      .rw[hl'];split
       .rfl
       .exact hout j hj hjE hjz
      .rw[hl'];split
       .rfl
       .by_cases hjE:j∈E
        .have h1:=List.all_eq_true.1 hz j hjE;rw[ho]at h1;exact rP (mS hi ho h1)
        .rename_i hne
         exact hout j hj hjE (fun e=>hne e.symm)
 refine key fuel L0 a0 w hN' (fun i hi hiE hiz=>?_) hfu (Or.inl ⟨hz0.1.2,fun j=>a0.eval (.tmp (d j)),T,(aT8 d a0 E).symm,hB,fun j hj hl=>?_⟩)
 .have:=List.all_eq_true.1 hcov i (List.mem_range.2 hi);simp only[Bool.or_eq_true,beq_iff_eq]at this;rcases this with(h|h)|h
  .exact h
  .exact absurd (by simpa using h) hiE
  .exact absurd h hiz
 .have:=List.all_eq_true.1 hE0 j hj;rw[hl]at this;cases this
def aP4(E:List Nat)(l:Array Bool):Nat:=(E.filter fun i=>!l.getD i A').length
theorem bR1(hi:i∈E)(hs:i<l.size)(h:l.getD i A'=F'):aP4 E (l.setIfInBounds i A')<aP4 E l:=by
 unfold aP4;refine aC5 (i:=i) _ (fun j hj=>?_) hi (by rw[h];rfl) (by rw[rN _ _ _ _ hs,if_pos rfl];rfl);rw[rN _ _ _ _ hs]at hj;by_cases hij:i=j
 .rw[if_pos hij]at hj;cases hj
 .rw[if_neg hij]at hj;exact hj
theorem bR6:∀(fuel:Nat) (l:Array Bool) (a:Act) (w:World),wpAnyH P .any ops Q S fuel l a w->wpAnyH P .any ops Q S (fuel+1) l a w:=by
 intro fuel;induction fuel with
 |zero=>intro l a w h;refine⟨fun _=>h.2,fun i hi=>?_⟩;rw[h.1]at hi;cases hi
 |succ fuel ih=>intro l a w h;exact⟨h.1,fun i hi=>wpOp_mono (fun a' w' hh=>⟨hh.1,ih _ _ _ hh.2⟩) (h.2 i hi)⟩
theorem rJ
  (d:Nat->Nat) (E:List Nat) (L1:Array Bool) (fuel1:Nat) (pre:Nat->List Nat) (R:Nat->Value->(Nat->Nat)->World->Prop) (Bs:(Nat->Nat)->World->Prop)
  (hinj:(E.all fun i=>E.all fun j=>d i !=d j||i==j)=A') (hnd:E.Nodup) (hN:(L0.size==ops.size&&L1.size==ops.size&&E.all (fun i=>decide (i<ops.size)))=A')
  (hL1:((List.range ops.size).all fun i=>L1.getD i A'==(L0.getD i A'||E.contains i))=A') (hE0:(E.all fun j=>!L0.getD j A')=A')
  (hpre:(E.all fun i=>match ops[i]? with|Y o=>(pre i).all (fun j=>E.contains j&&Oper.waitsFor o j)|O=>F')=A')
  (hord:((List.range ops.size).all fun i=>match ops[i]? with|Y o=>o.after.all (fun e=>decide (e.on<i))|O=>A')=A')
  (hz:((List.range ops.size).all fun z=>L0.getD z A'||E.contains z||(E.all fun j=>match ops[z]? with|Y o=>Oper.waitsFor o j|O=>F'))=A') (hfu:(fuel1+E.length==fuel)=A')
  (hmono:∀j v T T' w w',R j v T w->(∀k,Kp k T T' w w')->w.heap.size<=w'.heap.size->R j v T' w') (hBS:∀T w,Bs T w->S w)
  (hstep:∀i∈E,∀vs T w,Bs T w->(∀j∈pre i,R j (vs j) T w)->wpOp P ops Q i (fun a' w'=>∃v T',a'=(dV a0 d E vs).put (Y (d i)) v/\R i v T' w'/\(∀k,Kp k T T' w w')/\w.heap.size<=w'.heap.size/\Bs T' w') (dV a0 d E vs) w)
  (hlast:∀vs T w,Bs T w->(∀j∈E,R j (vs j) T w)->wpAnyH P .any ops Q S fuel1 L1 (dV a0 d E vs) w)
  (T:Nat->Nat) (hB:Bs T w):wpAnyH P .any ops Q S fuel L0 a0 w:=by
 have hinj':∀j∈E,∀k∈E,d j=d k->j=k:=by intro j hj k hk he;have:=List.all_eq_true.1 (List.all_eq_true.1 hinj j hj) k hk;simpa[he]using this
 simp only[Bool.and_eq_true,beq_iff_eq]at hN;obtain⟨⟨hN0,hN1⟩,hNE⟩:=hN;have hEs:∀j∈E,j<ops.size:=fun j hj=>by simpa using List.all_eq_true.1 hNE j hj
 have key:∀(n:Nat) (l:Array Bool) (w:World) (vs:Nat->Value) (T:Nat->Nat),l.size=ops.size->(∀i,i<ops.size->i∉E->l.getD i A'=L0.getD i A')->aP4 E l<=n->Bs T w->(∀j∈E,l.getD j A'=A'->R j (vs j) T w)->wpAnyH P .any ops Q S (fuel1+n) l (dV a0 d E vs) w:=by
  intro n;induction n with
  |zero=>
   intro l w vs T hs hout hn hBs hR;have hall:∀j∈E,l.getD j A'=A':=by
    intro j hj;cases hc:l.getD j A' with
    |true=>rfl
    |false=>have:=bR1 hj (by rw[hs];exact hEs j hj) hc;omega
   have hl:l=L1:=by
    apply Array.ext (by rw[hs,hN1]);intro i h1 h2;have h3:=List.all_eq_true.1 hL1 i (List.mem_range.2 (by omega));simp only[beq_iff_eq]at h3;have h4:L1.getD i A'=L1[i]:=by simp[Array.getD,h2]
    have h5:l.getD i A'=l[i]:=by simp[Array.getD,h1]
    rw[<-h4,<-h5,h3];by_cases hiE:i∈E
    .rw[hall i hiE];simp[hiE]
    .rw[hout i (by omega) hiE];simp[hiE]
   subst hl;exact hlast vs T w hBs fun j hj=>hR j hj (hall j hj)
  |succ n ih=>
   intro l w vs T hs hout hn hBs hR;by_cases hdone:aP4 E l<=n
   .exact bR6 _ _ _ _ (ih l w vs T hs hout hdone hBs hR)
   .refine⟨fun hr=>?_,fun i hi=>?_⟩
    .exfalso;have hall:∀i,i<ops.size->l.getD i A'=A':=by
      intro i;induction i using Nat.strongRecOn with
      |_ i ihi=>
       intro hi;cases hc:l.getD i A' with
       |true=>rfl
       |false=>
        have ho:ops[i]? =Y ops[i]:=Array.getElem?_eq_getElem hi;have h1:=List.all_eq_true.1 hord i (List.mem_range.2 hi);rw[ho]at h1;simp only[]at h1;rw[Array.all_eq_true']at h1;have hm:i∈Region.ready .any ops l:=by
         unfold Region.ready;rw[List.mem_filter];refine⟨List.mem_range.2 hi,?_⟩;rw[ho,hc];simp only[Option.map_some,Option.getD_some,Bool.not_false,Bool.true_and];rw[Array.all_eq_true'];intro e he;have h2:e.on<i:=by simpa using h1 e he
         have h3:=ihi e.on h2 (by omega);rw[aU6 (by omega) h3];simp
        rw[hr]at hm;cases hm
     have:aP4 E l=0:=by unfold aP4;rw[List.length_eq_zero_iff,List.filter_eq_nil_iff];intro j hj;rw[hall j (hEs j hj)];simp
     omega
    .obtain⟨o,ho,hi1,hi2,_⟩:=vB hi;have hsz:(l.setIfInBounds i A').size=ops.size:=by simpa using hs
     have hl':=fun j b=>rN l i j b (by omega:i<l.size);by_cases hiE:i∈E
     .have hun:aP4 E (l.setIfInBounds i A')<=n:=by have:=bR1 hiE (by omega) hi2;omega
      have hp:=List.all_eq_true.1 hpre i hiE;rw[ho]at hp;simp only[]at hp;have hpj:∀j∈pre i,R j (vs j) T w:=by intro j hj;have h1:=List.all_eq_true.1 hp j hj;simp only[Bool.and_eq_true]at h1;exact hR j (by simpa using h1.1) (rP (mS hi ho h1.2))
      refine wpOp_mono ?_ (hstep i hiE vs T w hBs hpj);rintro a' w'⟨v,T',rfl,hRi,hk,hsz',hB'⟩;refine⟨hBS _ _ hB',?_⟩;rw[aT9 d vs i v E a0 hinj' hnd hiE];refine ih _ _ _ T' hsz (fun j hj hjE=>?_) hun hB' (fun j hj hlj=>?_)
      .rw[hl',if_neg (fun e=>hjE (by rw[<-e];exact hiE))];exact hout j hj hjE
      .show R j (if j=i then v else vs j) T' w';rw[hl']at hlj;by_cases hji:j=i
       .subst hji;rw[if_pos rfl];exact hRi
       .rw[if_neg hji];rw[if_neg (fun e=>hji e.symm)]at hlj;exact hmono j _ T T' w w' (hR j hj hlj) hk hsz'
     .exfalso;have h1:=List.all_eq_true.1 hz i (List.mem_range.2 hi1);simp only[Bool.or_eq_true]at h1;rcases h1 with(h1|h1)|h1
      .rw[hout i hi1 hiE,h1]at hi2;cases hi2
      .exact hiE (by simpa using h1)
      .have:aP4 E l=0:=by unfold aP4;rw[List.length_eq_zero_iff,List.filter_eq_nil_iff];intro j hj;have h2:=List.all_eq_true.1 h1 j hj;rw[ho]at h2;rw[rP (mS hi ho h2)];simp
       omega
 have hfu':fuel=fuel1+E.length:=(show fuel1+E.length=fuel by simpa using hfu).symm;have h0:=key E.length L0 w (fun j=>a0.eval (.tmp (d j))) T hN0 (fun i _ _=>rfl) (by unfold aP4;exact List.length_filter_le _ _) hB (fun j hj hl=>by have:=List.all_eq_true.1 hE0 j hj;rw[hl]at this;cases this)
 rw[aT8 d a0 E]at h0;rw[hfu'];exact h0
end Go.Proofs.YtpbbokalojdooaaGreat
