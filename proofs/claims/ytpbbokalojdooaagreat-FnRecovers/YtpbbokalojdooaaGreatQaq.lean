import Derived.Test.YtpbbokalojdooaaGreatQan
import Derived.Test.YtpbbokalojdooaaGreatQao
namespace Go.Proofs.YtpbbokalojdooaaGreat
open Go.RowKit Ch Go.Proofs.Tryz
set_option linter.unusedSimpArgs false
set_option linter.unusedVariables false
set_option maxRecDepth 20000
set_option maxHeartbeats 8000000
open Value renaming int->I,slice->Z,bool->X,agg->U
open IntKind renaming i64->J
open Option renaming none->O,some->Y
open Obj renaming cells->M
open Ending renaming returned->R'
open Bool renaming true->A',false->F'
variable {e:Hold} {c:Int} {ls:List (List Row)} {vs vs':List (Value×Value)} {l ps:List Hold} {rs:List Row} {B i k n o q:Nat} {row:Option Nat} {T t:TypeId} {lv u v:Value} {p p':Value×Value} {W w w':World}
namespace Ch
def tR(ps:List Hold)(k:Nat):Int:=
 if !inB (ps.getD k Hold.zero).t 0 9999||!inB (ps.getD k Hold.zero).m 0 99 then 3 else if decide (0<k)&&!ltE (ps.getD (k-1) Hold.zero) (ps.getD k Hold.zero)then 1 else 0
def aM1(ps:List Hold):Nat->Nat->Int
 |0,_=>0
 |f+1,k=>if tR ps k !=0 then tR ps k else aM1 ps f (k+1)
def kK(ps:List Hold)(k:Nat):Int:=aM1 ps (ps.length-k) k
def mX(ps:List Hold):List Int:=ps.map (·.m)
def aD1(ps:List Hold):Bool:=!decide (mX ps).Nodup
def fZ(ps:List Hold):Int:=if 240<ps.length then 2 else if kK ps 0 !=0 then kK ps 0 else if aD1 ps then 7 else 0
theorem bK6(h:240<ps.length):fZ ps=2:=by rw[fZ,if_pos h]
theorem dF3(h:k<ps.length)(hf:(tR ps k !=0)=A'):kK ps k=tR ps k:=by unfold kK;rw[show ps.length-k=(ps.length-(k+1))+1 by omega,aM1,if_pos hf]
theorem dF4(h:k<ps.length)(hf:(tR ps k !=0)=F'):kK ps k=kK ps (k+1):=by unfold kK;rw[show ps.length-k=(ps.length-(k+1))+1 by omega,aM1,if_neg (by rw[hf];exact Bool.false_ne_true)]
theorem dA8(h:ps.length<=k):kK ps k=0:=by unfold kK;rw[show ps.length-k=0 by omega,aM1]
theorem cS5(h:ps.length<=240)(hr:kK ps 0=c)(hc:(c !=0)=A'):fZ ps=c:=by rw[fZ,if_neg (by omega),hr,if_pos hc]
theorem cI5(h:ps.length<=240)(hr:kK ps 0=0):fZ ps=if aD1 ps then 7 else 0:=by rw[fZ,if_neg (by omega),hr,if_neg (by decide)]
theorem cI6(h:ps.length<=240)(hr:kK ps 0=0)(hd:aD1 ps=A'):fZ ps=7:=by rw[cI5 h hr,hd];rfl
theorem cS6(h:ps.length<=240)(hr:kK ps 0=0)(hd:aD1 ps=F'):fZ ps=0:=by rw[cI5 h hr,hd];rfl
theorem bF5(h:(!inB (ps.getD k Hold.zero).t 0 9999||!inB (ps.getD k Hold.zero).m 0 99)=A'):tR ps k=3:=by rw[tR,if_pos h]
theorem bS5(h:(!inB (ps.getD k Hold.zero).t 0 9999||!inB (ps.getD k Hold.zero).m 0 99)=F')(h0:0<k)(hl:ltE (ps.getD (k-1) Hold.zero) (ps.getD k Hold.zero)=F'):tR ps k=1:=by rw[tR,if_neg (by rw[h];exact Bool.false_ne_true),if_pos (by rw[hl];simpa using h0)]
theorem bF4(h:(!inB (ps.getD k Hold.zero).t 0 9999||!inB (ps.getD k Hold.zero).m 0 99)=F')(h0:k=0):tR ps k=0:=by rw[tR,if_neg (by rw[h];exact Bool.false_ne_true),if_neg (by subst h0;simp)]
theorem bS4(h:(!inB (ps.getD k Hold.zero).t 0 9999||!inB (ps.getD k Hold.zero).m 0 99)=F')(hl:ltE (ps.getD (k-1) Hold.zero) (ps.getD k Hold.zero)=A'):tR ps k=0:=by rw[tR,if_neg (by rw[h];exact Bool.false_ne_true),if_neg (by rw[hl];simp)]
theorem cO3(hi:i<ps.length):mX (ps.take (i+1))=mX (ps.take i)++[(ps.getD i Hold.zero).m]:=by unfold mX;rw[bT ps Hold.zero i hi];simp
theorem cY0{x:Int}(hi:i<=ps.length):x∈mX (ps.take i)↔∃j,j<i/\(ps.getD j Hold.zero).m=x:=by
 unfold mX;rw[List.mem_map];constructor
 .rintro⟨p,hp,rfl⟩;obtain⟨j,hj,rfl⟩:=List.getElem_of_mem hp;have hj':j<i:=by simp at hj;omega
  exact⟨j,hj',by simp[List.getD,show j<ps.length by omega]⟩
 .rintro⟨j,hj,rfl⟩;refine⟨ps.getD j Hold.zero,?_,rfl⟩;rw[List.mem_iff_getElem];exact⟨j,by simp;omega,by simp[List.getD,show j<ps.length by omega]⟩
theorem bF8(hi:i<ps.length)(h:(mX (ps.take i)).Nodup)(hn:∀j,j<i->(ps.getD j Hold.zero).m≠(ps.getD i Hold.zero).m):(mX (ps.take (i+1))).Nodup:=by rw[cO3 hi,List.nodup_append];refine⟨h,by simp,fun a ha b hb=>?_⟩;rw[List.mem_singleton]at hb;obtain⟨j,hj,rfl⟩:=(cY0 (by omega)).1 ha;rw[hb];exact hn j hj
theorem bT1(hi:ps.length<=i)(h:(mX (ps.take i)).Nodup):aD1 ps=F':=by rw[List.take_of_length_le hi]at h;simpa[aD1]using h
theorem bS2(hk:k<i)(hi:i<ps.length)(h:(ps.getD k Hold.zero).m=(ps.getD i Hold.zero).m):aD1 ps=A':=by unfold aD1;simp only[Bool.not_eq_true',decide_eq_false_iff_not];intro hn;unfold mX at hn;have:=List.pairwise_iff_getElem.1 hn k i (by simp;omega) (by simpa using hi) hk;simp[List.getD,hi,show k<ps.length by omega]at h;simp at this;exact this h
def qS(ps:List Hold)(v:Int):List Int:=(ps.filter fun p=>p.t==v).map (·.m)
theorem bS8{v:Int}(h:k<ps.length)(hc:((ps.getD k Hold.zero).t==v)=A'):qS (ps.take (k+1)) v=qS (ps.take k) v++[(ps.getD k Hold.zero).m]:=by unfold qS;rw[bT ps Hold.zero k h,List.filter_append,List.map_append];generalize ps.getD k Hold.zero=x at*;rw[List.filter_cons_of_pos (p:=fun p:Hold=>p.t==v) hc];rfl
theorem cI9{v:Int}(h:k<ps.length)(hc:((ps.getD k Hold.zero).t==v)=F'):qS (ps.take (k+1)) v=qS (ps.take k) v:=by unfold qS;rw[bT ps Hold.zero k h,List.filter_append,List.map_append];generalize ps.getD k Hold.zero=x at*;rw[List.filter_cons_of_neg (p:=fun p:Hold=>p.t==v) (by rw[hc];simp)];simp
def aA2:List Hold->Hold->List Hold
 |[],e=>[e]
 |x::l,e=>if ltE x e then x::aA2 l e else e::x::l
theorem cS4(hk:k<=l.length)(h1:∀j,j<k->ltE (l.getD j Hold.zero) e=A')(h2:k<l.length->ltE (l.getD k Hold.zero) e=F'):
  aA2 l e=l.take k++[e]++l.drop k:=by
 induction l generalizing k with
 |nil=>
  have:k=0:=by simpa using hk
  subst this;simp[aA2]
 |cons x l ih=>
  cases k with
  |zero=>
   have hx:ltE x e=F':=by simpa using h2 (by simp)
   unfold aA2;rw[hx];simp
  |succ k=>
   have hx:ltE x e=A':=by simpa using h1 0 (by omega)
   unfold aA2;rw[hx,if_pos rfl,ih (k:=k) (by simpa using hk) (fun j hj=>by simpa using h1 (j+1) (by omega)) (fun hl=>by simpa using h2 (by simpa using hl))];simp
theorem aM0(h:e∉l):aA2 l e=oG l e:=by
 induction l with
 |nil=>rfl
 |cons x l ih=>
  unfold aA2 oG;have hx:iP x e=F':=by
   cases hs:iP x e
   .rfl
   .exact absurd (by rw[aB1.1 hs];simp) h
  rw[ih (fun hm=>h (List.mem_cons_of_mem _ hm)),hx];rfl
def kP(r:Row):Hold:=⟨r.v,r.k⟩
def qQ(ls:List (List Row)):List Hold:=eM ((cC ls.flatten).map kP)
theorem cB5(h:rs.Pairwise (fun a b=>a.k<b.k)):(rs.map kP).Nodup:=by
 unfold List.Nodup;rw[List.pairwise_map];exact h.imp fun{a b} hab he=>by
  have:a.k=b.k:=by have:=congrArg Hold.m he;simpa[kP]using this
  omega
theorem aX0(h:aL ls=0):((cC ls.flatten).map kP).Nodup:=by obtain⟨_,_,_,hp⟩:=(jW ls).1 h;exact cB5 (hp.filter _)
theorem cP8{d:Hold}(h:l.Nodup)(hk:k<l.length):l.getD k d∉l.take k:=by
 intro hm;obtain⟨j,hj,he⟩:=List.getElem_of_mem hm;have hj':j<k:=by simp at hj;omega
 have:=List.pairwise_iff_getElem.1 h j k (by omega) hk hj';simp[List.getD,hk]at he;exact this he
theorem bG5(h:l.Nodup)(hk:k<l.length):aA2 (eM (l.take k)) (l.getD k Hold.zero)=eM (l.take (k+1)):=by rw[bT l Hold.zero k hk,tW,aM0];rw[wI];exact cP8 h hk
def aX8(ps:List Hold)(key:Int)(now:Bf):List Hold:=if now.h then oG (ps.filter fun p=>p.m !=key) ⟨now.v,key⟩else ps.filter fun p=>p.m !=key
end Ch
def dM(rs:List Row):Int:=if dT rs !=0 then dT rs else if(cC rs).length<rs.length then 1 else 0
def gF(rs:List Row):Nat->List (List Row)
 |0=>[]
 |k+1=>Ch.put (gF rs k) (rs.getD k Row.zero)
def oD(rs:List Row)(k:Nat):Prop:=∀j,j<=k->(gF rs j).length<=60
def zP(rs:List Row)(k:Nat):Bool:=(List.range (k+1)).all (fun j=>decide ((gF rs j).length<=60))
theorem sY(rs:List Row)(k:Nat):zP rs k=A'↔oD rs k:=by unfold zP oD;simp only[List.all_eq_true,List.mem_range,decide_eq_true_eq];exact⟨fun h j hj=>h j (by omega),fun h j hj=>h j (by omega)⟩
def iK(rs:List Row):Int×List Row×List (List Row):=
 if dM rs !=0 then(dM rs,[],[])else if zP rs rs.length then(0,rs,gF rs rs.length)else(2,[],[])
theorem bM7(h:dM rs=c)(h0:(c !=0)=A'):iK rs=(c,[],[]):=by unfold iK;rw[h,if_pos h0]
theorem cA3(h:dM rs=0)(hr:oD rs rs.length):iK rs=(0,rs,gF rs rs.length):=by unfold iK;rw[h,if_neg (by simp),if_pos ((sY _ _).2 hr)]
theorem bB9(h:dM rs=0)(hk:k<rs.length)(hl:60<(gF rs (k+1)).length):iK rs=(2,[],[]):=by unfold iK;rw[h,if_neg (by simp),if_neg (fun hr=>by have:=(sY _ _).1 hr (k+1) (by omega);omega)]
theorem kY(h:dM rs=0):dT rs=0/\rs.length<=240/\∀k,k<rs.length->(rs.getD k Row.zero).fault=0:=by
 have h1:dT rs=0:=by
  unfold dM at h;by_cases h0:(dT rs !=0)=A'
  .rw[if_pos h0]at h;exact h
  .simpa using h0
 refine⟨h1,aD9 h1,fun k hk=>?_⟩;have h2:dB rs=0:=by
  unfold dT at h1;by_cases h3:240<rs.length
  .rw[if_pos h3]at h1;omega
  .rw[if_neg h3]at h1;by_cases h4:(dB rs !=0)=A'
   .rw[if_pos h4]at h1;exact h1
   .simpa using h4
 have:=yN h2 k hk;simpa using this
theorem aB5(h:dT rs=c)(h0:(c !=0)=A'):dM rs=c:=by unfold dM;rw[h,if_pos h0]
theorem qY(h:dT rs=0)(h1:(cC rs).length<rs.length):dM rs=1:=by unfold dM;rw[h,if_neg (by simp),if_pos h1]
theorem tZ(h:dT rs=0)(h1:¬(cC rs).length<rs.length):dM rs=0:=by unfold dM;rw[h,if_neg (by simp),if_neg h1]
theorem zL(h:dM rs=0):∀k,k<=rs.length->oD rs k->aL (gF rs k)=0:=by
 intro k;induction k with
 |zero=>intro _ _;rfl
 |succ k ih=>intro hk hr;have h1:=ih (by omega) (fun j hj=>hr j (by omega));exact xA h1 ((kY h).2.2 k (by omega)) (hr (k+1) z')
theorem bD2(rs:List Row):oD rs 0:=fun j hj=>by
 have:j=0:=by omega
 subst this;simp[gF]
theorem bD1(h:oD rs k)(hl:¬60<(gF rs (k+1)).length):oD rs (k+1):=fun j hj=>by
 by_cases he:j=k+1
 .subst he;omega
 .exact h j (by omega)
theorem nV(h:aL ls=0):aW ls<=1000:=by obtain⟨h1,h2,_⟩:=(jW ls).1 h;have:=cK2 ls 4 (fun x hx=>(h2 x hx).2);unfold aW;omega
structure Moved(v:Value)(vs vs':List (Value×Value))(w w':World):Prop where
 os:w'.os=w.os
 tape:w'.tape=w.tape
 output:w'.output=w.output
 size:w.heap.size<=w'.heap.size
 block:∀g,g<w.heap.size->g∉v.ownBlock.toList++vs.flatMap blks->w'.heap[g]? =w.heap[g]?
 new:∀g∈vs'.flatMap blks,g∈vs.flatMap blks\/w.heap.size<=g
theorem Moved.refl(v:Value)(vs:List (Value×Value))(w:World):Moved v vs vs w w:=⟨rfl,rfl,rfl,z',fun _ _ _=>rfl,fun _ h=>.inl h⟩
theorem Moved.trans{vs1 vs2:List (Value×Value)}{a b c:World}(h:Moved v vs vs1 a b)(k:Moved v vs1 vs2 b c):Moved v vs vs2 a c:=by
 refine⟨k.os.trans h.os,k.tape.trans h.tape,k.output.trans h.output,Nat.le_trans h.size k.size,fun g hg hn=>?_,fun g hg=>?_⟩
 .refine(k.block g (Nat.lt_of_lt_of_le hg h.size) fun hm=>?_).trans (h.block g hg hn);rw[List.mem_append]at hm hn;rcases hm with hm|hm
  .exact hn (.inl hm)
  .rcases h.new g hm with h1|h1
   .exact hn (.inr h1)
   .omega
 .rcases k.new g hg with h1|h1
  .exact h.new g h1
  .have:=h.size;exact .inr (by omega)
theorem Moved.below{ls:List Lock}(h:Moved v vs vs' w w')(own:OwnK T w B v n ls vs)(hB:B<=w.heap.size):Below B w w':=by
 refine⟨h.os,h.tape,h.output,h.size,fun g hg=>h.block g (by omega) fun hm=>?_⟩;rw[List.mem_append]at hm;rcases hm with hm|hm
 .have:=(aG own.row g (by simpa using hm)).1;omega
 .obtain⟨i,q,hq,hgq⟩:=mI hm;have:=(own.bd hq hgq).1;omega
theorem Moved.cell(h:Moved v vs vs' w w'){b:Nat}(hc:w.cell? ⟨b,o,O⟩=Y u)(ha:b∉v.ownBlock.toList++vs.flatMap blks):w'.cell? ⟨b,o,O⟩=Y u:=
 (World.cell?_of_block (a:=⟨b,o,O⟩) (h.block b (aD hc) ha)).trans hc
theorem aE0(hp:vs[k]? =Y p)(hvs:vs'=vs.set k p')(gr:w.grownBy w' row)(hrow:∀g,row=Y g->g∈v.ownBlock.toList++blks p)(hf:∀g∈blks p',g∈blks p\/w.heap.size<=g):Moved v vs vs' w w':=by
 have hin:∀g∈blks p,g∈vs.flatMap blks:=fun g hg=>List.mem_flatMap.2 ⟨p,List.mem_of_getElem? hp,hg⟩;refine⟨gr.os,gr.tape,gr.output,gr.size,fun g hg hn=>gr.block g hg fun e=>?_,fun g hg=>?_⟩
 .have:=hrow g e.symm;rw[List.mem_append]at this hn;rcases this with h1|h1
  .exact hn (.inl h1)
  .exact hn (.inr (hin g h1))
 .subst hvs;obtain⟨i,q,hq,hgq⟩:=mI hg;by_cases hik:k=i
  .subst hik;have hk:k<vs.length:=(List.getElem?_eq_some_iff.1 hp).1;rw[List.getElem?_set_self hk]at hq;cases hq;rcases hf g hgq with h1|h1
   .exact .inl (hin g h1)
   .exact .inr h1
  .rw[List.getElem?_set_ne hik]at hq;exact .inl (List.mem_flatMap.2 ⟨q,List.mem_of_getElem? hq,hgq⟩)
theorem OwnK.one{cap:Nat}{ls:List Lock}(h:OwnK T w B (Z (Y ⟨o,0,O⟩) n cap) n ls vs)(hk:k<n):
  ∃ah ch aq cq,vs[k]? =Y (Z ah (aH ls k).hs.length ch,Z aq (aH ls k).qs.length cq)/\w.cell? ⟨o,k*3,O⟩=Y (I J (aH ls k).r)/\w.cell? ⟨o,k*3+1,O⟩=Y (Z ah (aH ls k).hs.length ch)/\w.cell? ⟨o,k*3+2,O⟩=Y (Z aq (aH ls k).qs.length cq)/\
   w.frozen? ⟨o,k*3+1,O⟩=F'/\w.frozen? ⟨o,k*3+2,O⟩=F'/\w.ownsRow B 232 2 (Z ah (aH ls k).hs.length ch) (aH ls k).hs.length (hcells (aH ls k).hs)/\w.ownsRow B 232 2 (Z aq (aH ls k).qs.length cq) (aH ls k).qs.length (hcells (aH ls k).qs)/\
   (∀g,(Z ah (aH ls k).hs.length ch).ownBlock=Y g->(Z aq (aH ls k).qs.length cq).ownBlock≠Y g)/\o∉blks (Z ah (aH ls k).hs.length ch,Z aq (aH ls k).qs.length cq)/\B<=o/\o<w.heap.size:=by
 obtain⟨p,hp⟩:=h.got hk;have hat:=pC (ls:=ls) (by rw[h.len,h.vlen]) hp;have o1:=h.hs k p hp;have o2:=h.qs k p hp;have ne:=fun g hg=>cL1 h.apart hp (g:=g) hg;have nr:o∉blks p:=nG h.apart hp rfl;obtain⟨x,y⟩:=p;obtain⟨ah,ch,ex⟩:=dI o1;obtain⟨aq,cq,ey⟩:=dI o2;simp only at ex ey o1 o2 hat ne;subst ex ey;have ob:=aG h.row o rfl;exact⟨ah,ch,aq,cq,hp,(h.row.cellAt (k*3) (by omega)).trans hat.1,(h.row.cellAt (k*3+1) (by omega)).trans hat.2.1,(h.row.cellAt (k*3+2) (by omega)).trans hat.2.2,h.row.frozenAt _,h.row.frozenAt _,o1,o2,ne,nr,ob.1,ob.2⟩
theorem pE{w1:World}(hp:vs[k]? =Y p)(hvs:vs'=vs.set k p')(gr:w.grownBy w1 row)(g2:w1.grownBy w' (Y o))(hrow:∀g,row=Y g->g∈blks p)(hv:v.ownBlock=Y o)(hf:∀g∈blks p',g∈blks p\/w.heap.size<=g):Moved v vs vs' w w':=by have m1:Moved v vs (vs.set k p') w w1:=aE0 hp rfl gr (fun g hg=>List.mem_append.2 (.inr (hrow g hg))) hf;subst hvs;refine⟨g2.os.trans m1.os,g2.tape.trans m1.tape,g2.output.trans m1.output,Nat.le_trans m1.size g2.size,fun g hg hn=>?_,m1.new⟩;refine(g2.block g (Nat.lt_of_lt_of_le hg m1.size) fun e=>?_).trans (m1.block g hg hn);simp at e;subst e;exact hn (List.mem_append.2 (.inl (by simp[hv])))
section
open Go.Maps
theorem Tryz.info232:(prog.info? 232).map (fun i=>(i.zero,i.size,i.bytes))=Y (Y (U #[I J 0,I J 0]),2,16):=by kernel_rfl
theorem yL{ls:List Lock}(h:∀x,x<(aH ls i).qs.length->((List.range i).any fun j=>aV (aH ls j).qs ((aH ls i).qs.getD x Hold.zero).t)=F'):gH ls i=F':=by unfold gH;rw[List.any_eq_false];intro q hq;obtain⟨x,hx,rfl⟩:=List.getElem_of_mem hq;have:=h x hx;simpa[List.getD,hx]using this
theorem pY{p:Nat->Bool}(h:∀i,i<n->p i=F'):(List.range n).any p=F':=by rw[List.any_eq_false];intro x hx;rw[h x (by simpa using hx)];simp
theorem aZ1{ls:List Lock}{x j:Nat}(hi:i<ls.length)(hx:x<(aH ls i).qs.length)(hj:j<i)(h:aV (aH ls j).qs ((aH ls i).qs.getD x Hold.zero).t=A'):(List.range ls.length).any (gH ls)=A':=by rw[List.any_eq_true];refine⟨i,by simpa using hi,?_⟩;unfold gH;refine aT0 Hold.zero hx ?_;rw[List.any_eq_true];exact⟨j,by simpa using hj,h⟩
theorem bL2(a:Option Addr)(n cap:Nat)(ls:List Lock)(w:World)(h:LkAt w a n ls)(hs:dC ls<=1048576):
  Calls prog 143 #[Z a n cap] w fun e w'=>e=R' (I J (aS ls))/\Below w.heap.size w w':=by
 have HL:=h.len;have hn:n<=1048576:=by unfold dC at hs;have:=HL.out;omega
 go_enter func143,ntmps143
 go_wp2;go_loopw [3] (fun i wr=>∃k:Nat,k<=n/\i=I J k/\Hid (aS ls=oJ ls (n-k) k)/\Hid (∀j,j<k->jC ls j=0)/\Below w.heap.size w wr) (fun i _=>n-(intOf i).toNat)
 case atStart=>exact⟨0,Nat.zero_le _,rfl,(by have:=HL.out;subst this;rfl),(fun j hj=>by omega),u'⟩
 case round=>
  obtain⟨k,hk,rfl,HR,HA,hB⟩:=hrel;by_cases hlt:k<n
  .have HSz:=hid (iM hs k);have HBad:=hid (fun hb=>HR.out.trans (bS6 (ls:=ls) hlt hb));have HNext:=hid (fun hb=>HR.out.trans (bF6 (ls:=ls) hlt hb));have HRes:=hid (fun hb=>aM8 (ls:=ls) (k:=k) hb);have HLow:=hid (fun hb h0 h1=>aM7 (ls:=ls) (k:=k) hb h0 h1);have HOwn:=hid (fun hb h1=>xZ (ls:=ls) (k:=k) hb h1);obtain⟨b,off,ah,nh,ch,aq,nq,cq,rfl,hl⟩:=(h.below hB).lock hlt;have hH4:=hl.2.2.2.1.hlen;have hQ4:=hl.2.2.2.2.1.hlen;have hnh:nh<=1048576:=by have:=HSz.out;have:=hH4.out;omega
   have hnq:nq<=1048576:=by have:=HSz.out;have:=hQ4.out;omega
   have c0:=hl.1;have hbl:=aD c0;have IR:=fun W=>cO8 (aH ls k).r W;cases hr:inB (aH ls k).r 0 100;all_goals rw[hr]at IR
   .have H3:=hid (HRes.out hr);generalize(aH ls k).r=rk at*;go_wp2_with fail
    refine(IR _).mono ?_;rintro e w1⟨rfl,hw1⟩;obtain rfl:=hw1.symm;go_wp2;go_ret;exact⟨cK (by rw[HBad.out (by rw[H3.out];rfl),H3.out]),hB⟩
   .by_cases hlow:0<k/\(aH ls k).r<=(aH ls (k-1)).r
    .obtain⟨j,rfl⟩:∃j,k=j+1:=⟨k-1,by omega⟩
     have H3:=hid (HLow.out hr hlow.1 hlow.2);have hle:=hlow.2;rw[show j+1-1=j from rfl]at hle;obtain⟨b',off',_,_,_,_,_,_,hbo,hj⟩:=(h.below hB).lock (show j<n by omega);simp only[Option.some.injEq,Addr.mk.injEq,and_true]at hbo;obtain⟨rfl,rfl⟩:=hbo;have p0:=hj.1;clear hj hlow;generalize(aH ls (j+1)).r=rk at*;generalize(aH ls j).r=rj at*;have hd:decide ((0:Int)<((j+1:Nat):Int))=A':=by simp
     have hwj:IntKind.i64.wrap (j:Int)=(j:Int):=IntWalk.i64_in _ ⟨by omega,by omega⟩;have hj0:(0:Int)<=(j:Int):=by omega
     have hjn:(j:Int)<(n:Int):=by omega
     have hj1:(0:Int)<=(j:Int)+1:=by omega
     have hj2:(j:Int)+1<(n:Int):=by omega
     go_wp2_with fail
     refine(IR _).mono ?_;rintro e w1⟨rfl,hw1⟩;obtain rfl:=hw1.symm;go_wp2_with fail
     refine R0 (fun W'=>W'.cell? ⟨b,off+(j+1)*3,O⟩=Y (I J rk)/\W'.cell? ⟨b,off+j*3,O⟩=Y (I J rj)/\Below w.heap.size w W') (⟨c0,p0,hB.drew⟩) (fun hH=>?_);refine R5 0 1 2 3 4 ?_;refine R5 5 6 7 8 9 ?_;refine R5 10 11 12 13 14 ?_;refine R1 15 ?_;refine R7 ?_;go_wp2;go_ret;exact⟨cK (by rw[HBad.out (by rw[H3.out];rfl),H3.out]),hH.2.2⟩
    .have H3:=hid (HOwn.out hr hlow);have IL:=fun W hW=>bZ0 b (off+k*3) ah nh ch aq nq cq (aH ls k) W hW hnh hnq;rw[<-H3.out]at IL;cases hf:(jC ls k !=0)
     .have HN:=hid (HNext.out hf);have HZ:Hid (jC ls k=0):=by show _=_;simpa using hf
      have HA':Hid (∀j,j<k+1->jC ls j=0):=by
       intro j hj;by_cases e:j=k
       .subst e;exact HZ.out
       .exact HA.out j (by omega)
      rw[HZ.out]at IL;cases k with
      |zero=>
       have hd:decide ((0:Int)<((0:Nat):Int))=F':=by simp
       simp only[Nat.zero_mul,Nat.add_zero]at c0 IL hl;generalize(aH ls 0).r=rk at*;go_wp2_with fail
       refine(IR _).mono ?_;rintro e w1⟨rfl,hw1⟩;obtain rfl:=hw1.symm;go_wp2_with fail
       refine R0 (fun W'=>Below w.heap.size w W') (hB.drew) (fun hH=>?_);refine R8 0 (h:=R8 1 (h:=R8 2 (h:=R9 3 (h:=R9 4 (h:=J3 ?_)))));refine R9 5 (h:=R9 6 (h:=R9 7 (h:=R9 8 (h:=R9 9 (h:=J3 ?_)))));refine R9 10 (h:=R9 11 (h:=R9 12 (h:=R9 13 (h:=R9 14 (h:=J3 ?_)))));refine R1 15 ?_;refine R7 ?_;go_wp2_with fail
       refine(IL _ (hl.below u'.drew)).mono ?_;rintro e w2⟨rfl,b2⟩;go_wp2;go_roundw;case rel=>exact⟨1,by omega,by go_num,HN.out,HA'.out,hH.trans (b2.mono hH.size)⟩
       case measure=>simp[intOf];omega
      |succ j=>
       have hle:¬(aH ls (j+1)).r<=(aH ls j).r:=fun h=>hlow ⟨by omega,h⟩;obtain⟨b',off',_,_,_,_,_,_,hbo,hj⟩:=(h.below hB).lock (show j<n by omega);simp only[Option.some.injEq,Addr.mk.injEq,and_true]at hbo;obtain⟨rfl,rfl⟩:=hbo;have p0:=hj.1;clear hj hlow;generalize(aH ls (j+1)).r=rk at*;generalize(aH ls j).r=rj at*;have hd:decide ((0:Int)<((j+1:Nat):Int))=A':=by simp
       have hwj:IntKind.i64.wrap (j:Int)=(j:Int):=IntWalk.i64_in _ ⟨by omega,by omega⟩;have hj0:(0:Int)<=(j:Int):=by omega
       have hjn:(j:Int)<(n:Int):=by omega
       have hj1:(0:Int)<=(j:Int)+1:=by omega
       have hj2:(j:Int)+1<(n:Int):=by omega
       go_wp2_with fail
       refine(IR _).mono ?_;rintro e w1⟨rfl,hw1⟩;obtain rfl:=hw1.symm;go_wp2_with fail
       refine R0 (fun W'=>W'.cell? ⟨b,off+(j+1)*3,O⟩=Y (I J rk)/\W'.cell? ⟨b,off+j*3,O⟩=Y (I J rj)/\Below w.heap.size w W') (⟨c0,p0,hB.drew⟩) (fun hH=>?_);refine R5 0 1 2 3 4 ?_;refine R5 5 6 7 8 9 ?_;refine R5 10 11 12 13 14 ?_;refine R1 15 ?_;refine R7 ?_;go_wp2_with fail
       refine(IL _ (hl.below u'.drew)).mono ?_;rintro e w2⟨rfl,b2⟩;go_wp2;go_roundw;case rel=>exact⟨j+1+1,by omega,by go_num,HN.out,HA'.out,hH.2.2.trans (b2.mono hH.2.2.size)⟩
       case measure=>simp[intOf];omega
     .have HN:=hid (HBad.out hf);obtain⟨cf,HCF⟩:∃cf,Hid (jC ls k=cf):=⟨_,rfl⟩
      rw[HCF.out]at hf IL;have hf0:¬cf=0:=by simpa using hf
      cases k with
      |zero=>
       have hd:decide ((0:Int)<((0:Nat):Int))=F':=by simp
       simp only[Nat.zero_mul,Nat.add_zero]at c0 IL hl;generalize(aH ls 0).r=rk at*;go_wp2_with fail
       refine(IR _).mono ?_;rintro e w1⟨rfl,hw1⟩;obtain rfl:=hw1.symm;go_wp2_with fail
       refine R0 (fun W'=>Below w.heap.size w W') (hB.drew) (fun hH=>?_);refine R8 0 (h:=R8 1 (h:=R8 2 (h:=R9 3 (h:=R9 4 (h:=J3 ?_)))));refine R9 5 (h:=R9 6 (h:=R9 7 (h:=R9 8 (h:=R9 9 (h:=J3 ?_)))));refine R9 10 (h:=R9 11 (h:=R9 12 (h:=R9 13 (h:=R9 14 (h:=J3 ?_)))));refine R1 15 ?_;refine R7 ?_;go_wp2_with fail
       refine(IL _ (hl.below u'.drew)).mono ?_;rintro e w2⟨rfl,b2⟩;go_wp2;go_ret;exact⟨cK (by rw[HN.out,HCF.out]),hH.trans (b2.mono hH.size)⟩
      |succ j=>
       have hle:¬(aH ls (j+1)).r<=(aH ls j).r:=fun h=>hlow ⟨by omega,h⟩;obtain⟨b',off',_,_,_,_,_,_,hbo,hj⟩:=(h.below hB).lock (show j<n by omega);simp only[Option.some.injEq,Addr.mk.injEq,and_true]at hbo;obtain⟨rfl,rfl⟩:=hbo;have p0:=hj.1;clear hj hlow;generalize(aH ls (j+1)).r=rk at*;generalize(aH ls j).r=rj at*;have hd:decide ((0:Int)<((j+1:Nat):Int))=A':=by simp
       have hwj:IntKind.i64.wrap (j:Int)=(j:Int):=IntWalk.i64_in _ ⟨by omega,by omega⟩;have hj0:(0:Int)<=(j:Int):=by omega
       have hjn:(j:Int)<(n:Int):=by omega
       have hj1:(0:Int)<=(j:Int)+1:=by omega
       have hj2:(j:Int)+1<(n:Int):=by omega
       go_wp2_with fail
       refine(IR _).mono ?_;rintro e w1⟨rfl,hw1⟩;obtain rfl:=hw1.symm;go_wp2_with fail
       refine R0 (fun W'=>W'.cell? ⟨b,off+(j+1)*3,O⟩=Y (I J rk)/\W'.cell? ⟨b,off+j*3,O⟩=Y (I J rj)/\Below w.heap.size w W') (⟨c0,p0,hB.drew⟩) (fun hH=>?_);refine R5 0 1 2 3 4 ?_;refine R5 5 6 7 8 9 ?_;refine R5 10 11 12 13 14 ?_;refine R1 15 ?_;refine R7 ?_;go_wp2_with fail
       refine(IL _ (hl.below u'.drew)).mono ?_;rintro e w2⟨rfl,b2⟩;go_wp2;go_ret;exact⟨cK (by rw[HN.out,HCF.out]),hH.2.2.trans (b2.mono hH.2.2.size)⟩
  .obtain rfl:k=n:=by omega
   have HR2:=hid (HR.out.trans (bS7 rfl));have HAll:Hid (∀i,i<ls.length->dF (aH ls i)=0):=fun i hi=>(iI (HA.out i (by have:=HL.out;omega))).2.2.2;have HX:=hid (aU0 (ls:=ls) (fun i hi=>(fN (HAll.out i hi)).2.2.2.2.2.1));have HY:Hid ((List.range ls.length).any (gH ls)=A'->aS ls=10):=fun hx=>by rw[HR2.out,HX.out,hx];rfl
   have HZ:Hid ((List.range ls.length).any (gH ls)=F'->aS ls=0):=fun hx=>by rw[HR2.out,HX.out,hx];rfl
   clear HR HR2 HX;rename_i w0
   go_wp2;go_loopw [5] (fun i wr=>∃k':Nat,k'<=k/\i=I J k'/\Hid (∀j,j<k'->gH ls j=F')/\Below w.heap.size w wr) (fun i _=>k-(intOf i).toNat)
   case atStart=>exact⟨0,Nat.zero_le _,rfl,(fun j hj=>by omega),hB⟩
   case round=>
    clear hB;obtain⟨i,hi,rfl,HC,hB⟩:=hrel;by_cases hlti:i<k
    .obtain⟨b,off,ah,nh,ch,aq,nq,cq,rfl,hl⟩:=h.lock hlti;have hil:i<ls.length:=by have:=HL.out;omega
     have c2:=hl.2.2.1;have h4:=hl.2.2.2.2.1;have hQ4:=h4.hlen;have HSz:=hid (iM hs i);have hnq:nq<=1048576:=by have:=HSz.out;have:=hQ4.out;omega
     clear hl;rename_i w1
     go_wp2;go_loopw [6] (fun i2 wr=>∃x:Nat,x<=nq/\i2=I J x/\Hid (∀y,y<x->((List.range i).any fun j=>aV (aH ls j).qs ((aH ls i).qs.getD y Hold.zero).t)=F')/\Below w.heap.size w wr) (fun i2 _=>nq-(intOf i2).toNat)
     case atStart=>exact⟨0,Nat.zero_le _,rfl,(fun j hj=>by omega),hB⟩
     case round=>
      clear hB;obtain⟨x,hx,rfl,HD,hB⟩:=hrel;have c2:=aC hB c2;have hbl:=aD c2;by_cases hltx:x<nq
      .have hxl:x<(aH ls i).qs.length:=by have:=hQ4.out;omega
       have HHit:=hid (fun j hj he=>HY.out (aZ1 (j:=j) hil hxl hj he));have HND:=hid (fun he=>qJ (p:=fun y=>(List.range i).any fun j=>aV (aH ls j).qs ((aH ls i).qs.getD y Hold.zero).t) HD.out he);obtain⟨qb,qo,rfl,q0,_⟩:=h4.hold hltx;clear HD;generalize((aH ls i).qs.getD x Hold.zero).t=rt at*;rename_i w2
       go_wp2;go_loopw [7] (fun i3 wr=>∃j:Nat,j<=i/\i3=I J j/\Hid (∀y,y<j->aV (aH ls y).qs rt=F')/\Below w.heap.size w wr) (fun i3 _=>i-(intOf i3).toNat)
       case atStart=>exact⟨0,Nat.zero_le _,rfl,(fun j hj=>by omega),hB⟩
       case round=>
        clear hB c2;obtain⟨j,hj,rfl,HE,hB⟩:=hrel;by_cases hltj:j<i
        .have HNE:=hid (fun he=>qJ (p:=fun y=>aV (aH ls y).qs rt) HE.out he);obtain⟨b',off',_,_,_,aj,nj,cj,hbo,hlj⟩:=(h.below hB).lock (show j<k by omega);simp only[Option.some.injEq,Addr.mk.injEq,and_true]at hbo;obtain⟨rfl,rfl⟩:=hbo;have g2:=hlj.2.2.1;have g4:=hlj.2.2.2.2.1;have hJ4:=g4.hlen;have HSj:=hid (iM hs j);have hnj:nj<=1048576:=by have:=HSj.out;have:=hJ4.out;omega
         obtain⟨b',off',_,_,_,_,_,_,hbo,hli⟩:=h.lock hlti;simp only[Option.some.injEq,Addr.mk.injEq,and_true]at hbo;obtain⟨rfl,rfl⟩:=hbo;clear hlj hli HE;have hjk:j<k:=by omega
         have c2:=aC hB ‹w.cell? ⟨b,off+i*3+2,O⟩=Y (Z (Y ⟨qb,qo,O⟩) nq cq)›;have q0:=aC hB q0;rcases eA (aH ls j).qs rt with⟨he,HAT,_⟩|⟨p,hp,HAT,he,_⟩
         .have HN:=hid he;clear he;go_wp2_with fail
          refine R0 (fun W'=>W'.cell? ⟨b,off+j*3+2,O⟩=Y (Z aj nj cj)/\W'.cell? ⟨b,off+i*3+2,O⟩=Y (Z (Y ⟨qb,qo,O⟩) nq cq)/\W'.cell? ⟨qb,qo+x*2,O⟩=Y (I J rt)/\CellsAt W' aj (nj*2) (hcells (aH ls j).qs)/\Below w.heap.size w W') (⟨g2,c2,q0,g4.below u'.drew,hB.drew⟩) (fun hH=>?_);refine R5 0 1 2 3 4 ?_;refine R5 5 6 7 8 9 ?_;refine R4 10 11 12 13 ?_;refine R6 14 (fun K hK=>?_);go_simp;refine(fS aj nj cj rt (aH ls j).qs _ hH.2.2.2.1 hnj).mono ?_;rintro e w2⟨rfl,rfl⟩;rw[HAT];go_wp2_with fail
          refine hK.out _ _ ?_ (fun hH=>?_)
          .exact hH
          clear hK K;refine R1 15 ?_;refine R7 ?_;go_wp2;go_roundw;case rel=>exact⟨j+1,by omega,by go_num,HNE.out HN.out,hH.2.2.2.2⟩
          case measure=>simp[intOf];omega
         .have HN:=hid he;clear he;go_wp2_with fail
          refine R0 (fun W'=>W'.cell? ⟨b,off+j*3+2,O⟩=Y (Z aj nj cj)/\W'.cell? ⟨b,off+i*3+2,O⟩=Y (Z (Y ⟨qb,qo,O⟩) nq cq)/\W'.cell? ⟨qb,qo+x*2,O⟩=Y (I J rt)/\CellsAt W' aj (nj*2) (hcells (aH ls j).qs)/\Below w.heap.size w W') (⟨g2,c2,q0,g4.below u'.drew,hB.drew⟩) (fun hH=>?_);refine R5 0 1 2 3 4 ?_;refine R5 5 6 7 8 9 ?_;refine R4 10 11 12 13 ?_;refine R6 14 (fun K hK=>?_);go_simp;refine(fS aj nj cj rt (aH ls j).qs _ hH.2.2.2.1 hnj).mono ?_;rintro e w2⟨rfl,rfl⟩;rw[HAT];go_wp2_with fail
          refine hK.out _ _ ?_ (fun hH=>?_)
          .exact hH
          clear hK K;refine R1 15 ?_;refine R7 ?_;go_wp2;go_ret;exact⟨cK (HHit.out j hltj HN.out).symm,hH.2.2.2.2⟩
        .obtain rfl:j=i:=by omega
         go_wp2;go_roundw;case rel=>exact⟨x+1,by omega,by go_num,HND.out (pY HE.out),hB⟩
         case measure=>simp[intOf];omega
      .obtain rfl:x=nq:=by omega
       go_wp2;go_roundw;case rel=>exact⟨i+1,by omega,by go_num,qJ HC.out (yL (by have:=hQ4.out;rw[<-this];exact HD.out)),hB⟩
       case measure=>simp[intOf];omega
    .obtain rfl:i=k:=by omega
     go_wp2;go_ret;exact⟨cK (HZ.out (pY (by have:=HL.out;rw[<-this];exact HC.out))).symm,hB⟩
end
theorem mP{g:Nat}{u0 u1 u2 u3 u4 u5 u6:Value}(h:W.heap[g]? =Y (M #[u0,u1,u2,u3,u4,u5,u6] t (0,0))):
  (W.cell? ⟨g,0,O⟩=Y u0/\W.cell? ⟨g,1,O⟩=Y u1/\W.cell? ⟨g,2,O⟩=Y u2/\W.cell? ⟨g,3,O⟩=Y u3/\W.cell? ⟨g,4,O⟩=Y u4/\W.cell? ⟨g,5,O⟩=Y u5/\W.cell? ⟨g,6,O⟩=Y u6)/\∀o,W.frozen? ⟨g,o,O⟩=F':=
 ⟨⟨cell_of_row _ _ _ _ _ _ h,cell_of_row _ _ _ _ _ _ h,cell_of_row _ _ _ _ _ _ h,cell_of_row _ _ _ _ _ _ h,cell_of_row _ _ _ _ _ _ h,cell_of_row _ _ _ _ _ _ h,cell_of_row _ _ _ _ _ _ h⟩,fun o=>by simp[World.frozen?,h]⟩
theorem mG(h:Below B w w')(hq:B<=q)(v0 v1 v2 v3 v4 v5 v6:Value):Below B w (((((((w'.setCell ⟨q,0,O⟩ v0).setCell ⟨q,1,O⟩ v1).setCell ⟨q,2,O⟩ v2).setCell ⟨q,3,O⟩ v3).setCell ⟨q,4,O⟩ v4).setCell ⟨q,5,O⟩ v5).setCell ⟨q,6,O⟩ v6):=
 ((((((h.setCell (p:=⟨q,0,O⟩) hq v0).setCell (p:=⟨q,1,O⟩) hq v1).setCell (p:=⟨q,2,O⟩) hq v2).setCell (p:=⟨q,3,O⟩) hq v3).setCell (p:=⟨q,4,O⟩) hq v4).setCell (p:=⟨q,5,O⟩) hq v5).setCell (p:=⟨q,6,O⟩) hq v6
theorem OwnV.store7{m:Nat}{vs:List Value}(h:OwnV w B lv m vs ls)(hq:q<B)(v0 v1 v2 v3 v4 v5 v6:Value):OwnV (((((((w.setCell ⟨q,0,O⟩ v0).setCell ⟨q,1,O⟩ v1).setCell ⟨q,2,O⟩ v2).setCell ⟨q,3,O⟩ v3).setCell ⟨q,4,O⟩ v4).setCell ⟨q,5,O⟩ v5).setCell ⟨q,6,O⟩ v6) B lv m vs ls:=
 ((((((h.store3 hq v0).store3 hq v1).store3 hq v2).store3 hq v3).store3 hq v4).store3 hq v5).store3 hq v6
theorem aW1(a:Option Addr)(n cap:Nat)(tx key:Int)(has:Bool)(v:Int)(ls:List (List Row))(w:World)(h:LvAt w a n ls)(hg:aL ls=0)(hk:inB key 0 99=A'):
  Calls prog 219 #[Z a n cap,I J tx,I J key,X has,I J v] w fun e w'=>∃a' m c',e=R' (.tuple #[Z a' m c',U #[I J 2,I J tx,I J key,X (Ch.bf key (Ch.has ls key)).h,I J (Ch.bf key (Ch.has ls key)).v,X has,I J v],I J (dO ls key has v).1])/\OwnLv w' w.heap.size (Z a' m c') m (dO ls key has v).2/\Below w.heap.size w w':=by
 have hs:=iV hg;have ha:=bH5 hg hk;have hgl:=bJ6 (key:=key) h.len.out (by rw[ha];rfl);have BI:=fun W hW=>oS a n cap key ls W hW hs hgl;have kA:∀o,Below w.heap.size w (w.alloc o):=fun o=>u'.alloc z' o;generalize Ch.bf key (Ch.has ls key)=bb at*;obtain⟨bk,bh,bv⟩:=bb;cases has
 .have FI:=fun W hW=>tC a n cap key ls W hW hs hgl;have PI:=fun W hW=>vH a n cap ls key 0 A' W hW hs hg;have CI:=fun W hW=>oU a n cap ls W hW hs hgl;have HS1:=hid (fun hf=>(show dO ls key F' v=(0,Ch.put ls ⟨key,0,A'⟩)by unfold dO;rw[if_neg Bool.false_ne_true,if_pos hf]));have HS0:=hid (fun hf=>xE (ls:=ls) (key:=key) (v:=v) hf);generalize Ch.put ls ⟨key,0,A'⟩=P at*;generalize dO ls key F' v=X' at*;go_enter func219,ntmps219
  go_wp2_with fail
  refine(BI _ (h.below (kA _))).mono ?_;rintro e w1⟨rfl,b1⟩;have hR:=aR b1 (heap_alloc_new w _);have bE:=cL b1;clear b1 BI;have kB:∀o o',Below w1.heap.size w1 ((w1.alloc o).alloc o'):=fun o o'=>(u'.alloc z' o).alloc (by simp) o';go_wp2_with fail
  refine(FI _ (h.below (bE.trans ((kB _ _).mono bE.size)))).mono ?_;rintro e w2⟨⟨rk,rv,rg⟩,ok,rfl,his,b2⟩;have hT:=aR b2 (heap_alloc_new _ _);have hR2:=aR b2 (aR (kB _ _) hR);have bF:=(bE.trans ((kB _ _).mono bE.size)).trans (b2.mono (Nat.le_trans bE.size (kB _ _).size));have hz1:=(Array.getElem?_eq_some_iff.1 hR).1;have z2:=b2.size;simp at z2 hT;have kC:=f' w2 (M #[I J rk,I J rv,X rg] 86);replace hT:=aR kC hT;replace hR2:=aR kC hR2;replace bF:=bF.trans (kC.mono bF.size);clear kC hR b2 FI;simp only[cT2]at his;rcases his with⟨rfl,hf⟩|⟨rfl,hf⟩
  .have HX:=hid (HS1.out (by rw[hf];rfl));clear HS1 HS0 CI hf;have hzz:w.heap.size<(w2.alloc (M #[I J rk,I J rv,X rg] 86)).heap.size:=(Array.getElem?_eq_some_iff.1 hR2).1;obtain⟨⟨y0,y1,y2,y3,y4,y5,y6⟩,_⟩:=mP hT;go_wp2;go_region_with (go_at_call 103;refine(PI _ (h.below bF.drew)).mono ?_;rintro e w3⟨a3,m3,c3,rfl,own3,b3⟩;have b4:Below (w2.alloc (M #[I J rk,I J rv,X rg] 86)).heap.size (w2.alloc (M #[I J rk,I J rv,X rg] 86)) w3:=⟨b3.os,b3.tape,b3.output,b3.size,b3.block⟩;have hR3:=aR b4 hR2;have y0:=aC b4 y0;have y1:=aC b4 y1;have y2:=aC b4 y2;have y3:=aC b4 y3;have y4:=aC b4 y4;have y5:=aC b4 y5;have y6:=aC b4 y6;obtain⟨⟨x0,x1,x2,x3,x4,x5,x6⟩,fx⟩:=mP hR3;have f0:=fx 0;have f1:=fx 1;have f2:=fx 2;have f3:=fx 3;have f4:=fx 4;have f5:=fx 5;have f6:=fx 6;clear fx)
   all_goals
    have bG:=bF.trans (b4.mono bF.size);obtain⟨vs,own3⟩:=own3.told;have own4:=(own3.store7 (q:=w.heap.size) hzz (I J 2) (I J tx) (I J key) (X bh) (I J bv) (X F') (I J v)).base (B':=w.heap.size) (Nat.le_of_lt hzz);have bH:=mG bG (q:=w.heap.size) z' (I J 2) (I J tx) (I J key) (X bh) (I J bv) (X F') (I J v);go_wp2;exact bodyPost_ret (v:=.tuple #[Z a3 m3 c3,U #[I J 2,I J tx,I J key,X bh,I J bv,X F',I J v],I J 0]) (by simp[results,Tryz.results219,go_sem,x0,x1,x2,x3,x4,x5,x6]) rfl ⟨a3,m3,c3,by rw[HX.out],by rw[HX.out];exact own4.own,bH⟩
  .have HX:=hid (HS0.out hf);clear HS1 HS0 PI hf;have hzz:w.heap.size<(w2.alloc (M #[I J rk,I J rv,X rg] 86)).heap.size:=(Array.getElem?_eq_some_iff.1 hR2).1;obtain⟨⟨y0,y1,y2,y3,y4,y5,y6⟩,_⟩:=mP hT;go_wp2;go_region_with (go_at_call 141;refine(CI _ (h.below bF.drew)).mono ?_;rintro e w3⟨a3,c3,rfl,own3,b3⟩;have b4:Below (w2.alloc (M #[I J rk,I J rv,X rg] 86)).heap.size (w2.alloc (M #[I J rk,I J rv,X rg] 86)) w3:=⟨b3.os,b3.tape,b3.output,b3.size,b3.block⟩;have hR3:=aR b4 hR2;have y0:=aC b4 y0;have y1:=aC b4 y1;have y2:=aC b4 y2;have y3:=aC b4 y3;have y4:=aC b4 y4;have y5:=aC b4 y5;have y6:=aC b4 y6;obtain⟨⟨x0,x1,x2,x3,x4,x5,x6⟩,fx⟩:=mP hR3;have f0:=fx 0;have f1:=fx 1;have f2:=fx 2;have f3:=fx 3;have f4:=fx 4;have f5:=fx 5;have f6:=fx 6;clear fx)
   all_goals
    have bG:=bF.trans (b4.mono bF.size);obtain⟨vs,own3⟩:=own3.told;have own4:=(own3.store7 (q:=w.heap.size) hzz (I J 2) (I J tx) (I J key) (X bh) (I J bv) (X F') (I J v)).base (B':=w.heap.size) (Nat.le_of_lt hzz);have bH:=mG bG (q:=w.heap.size) z' (I J 2) (I J tx) (I J key) (X bh) (I J bv) (X F') (I J v);go_wp2;exact bodyPost_ret (v:=.tuple #[Z a3 n c3,U #[I J 2,I J tx,I J key,X bh,I J bv,X F',I J v],I J 0]) (by simp[results,Tryz.results219,go_sem,x0,x1,x2,x3,x4,x5,x6]) rfl ⟨a3,n,c3,by rw[HX.out],by rw[HX.out];exact own4.own,bH⟩
 .have PI:=fun W hW=>vH a n cap ls key v F' W hW hs hg;have HS:Hid (dO ls key A' v=if 60<(Ch.put ls ⟨key,v,F'⟩).length then(2,[])else(0,Ch.put ls ⟨key,v,F'⟩)):=rfl;generalize Ch.put ls ⟨key,v,F'⟩=P at*;generalize dO ls key A' v=X' at*;go_enter func219,ntmps219
  go_wp2_with fail
  refine(BI _ (h.below (kA _))).mono ?_;rintro e w1⟨rfl,b1⟩;have hR:=aR b1 (heap_alloc_new w _);have bE:=cL b1;clear b1 BI;have kB:∀o o',Below w1.heap.size w1 ((w1.alloc o).alloc o'):=fun o o'=>(u'.alloc z' o).alloc (by simp) o';go_wp2_with fail
  refine(PI _ (h.below (bE.trans ((kB _ _).mono bE.size)))).mono ?_;rintro e w2⟨a2,m2,c2,rfl,own2,b2⟩;have hT:=aR b2 (heap_alloc_new _ _);have hR2:=aR b2 (aR (kB _ _) hR);have bF:=(bE.trans ((kB _ _).mono bE.size)).trans (b2.mono (Nat.le_trans bE.size (kB _ _).size));have hz1:=(Array.getElem?_eq_some_iff.1 hR).1;have z2:=b2.size;simp at z2 hT;obtain⟨⟨x0,x1,x2,x3,x4,x5,x6⟩,fx⟩:=mP hR2;obtain⟨⟨y0,y1,y2,y3,y4,y5,y6⟩,fy⟩:=mP hT;have f0:=fx 0;have f1:=fx 1;have f2:=fx 2;have f3:=fx 3;have f4:=fx 4;have f5:=fx 5;have f6:=fx 6;clear fx fy hT hR2 hR PI;obtain⟨vs,own2⟩:=own2.told;have HM:Hid (m2=P.length):=own2.1.symm;have own3:=(own2.store7 (q:=w.heap.size) (by simp;omega) (I J 2) (I J tx) (I J key) (X bh) (I J bv) (X A') (I J v)).base (B':=w.heap.size) (by simp;omega);have bG:=mG bF (q:=w.heap.size) z' (I J 2) (I J tx) (I J key) (X bh) (I J bv) (X A') (I J v);by_cases h60:60<m2
  .rw[if_pos (by have:=HM.out;omega)]at HS;go_wp2;go_region
   all_goals
    go_wp2;exact bodyPost_ret (v:=.tuple #[Z O 0 0,U #[I J 2,I J tx,I J key,X bh,I J bv,X A',I J v],I J 2]) (by simp[results,Tryz.results219,go_sem,x0,x1,x2,x3,x4,x5,x6]) rfl ⟨O,0,0,by rw[HS.out],by rw[HS.out];exact OwnLv.nil _ _,bG.drew⟩
  .rw[if_neg (by have:=HM.out;omega)]at HS;go_wp2;go_region
   all_goals
    go_wp2;exact bodyPost_ret (v:=.tuple #[Z a2 m2 c2,U #[I J 2,I J tx,I J key,X bh,I J bv,X A',I J v],I J 0]) (by simp[results,Tryz.results219,go_sem,x0,x1,x2,x3,x4,x5,x6]) rfl ⟨a2,m2,c2,by rw[HS.out],by rw[HS.out];exact(own3.below u'.drew).own,bG.drew⟩
theorem aO7{tx:Int}{b:Bf}(h:aL ls=0)(ht:inB tx 1 999=A'):jQ ls tx [b]=b.fault:=by rw[jQ,h,ht,wM];rfl
theorem bA4(a:Option Addr)(n cap:Nat)(rs:List Row)(w:World)(h:CellsAt w a (n*3) (rcells rs))(hn:n<=1048576):
  Calls prog 39 #[Z a n cap] w fun e w'=>e=R' (I J (dM rs))/\Below w.heap.size w w':=by
 have HL:=h.rlen;have IM:=wT a n cap rs w h hn;obtain⟨c,HC⟩:∃c,Hid (dT rs=c):=⟨_,rfl⟩
 by_cases h0:c=0
 .subst h0;rw[oM HC.out]at IM;dsimp only at IM;by_cases hg:(cC rs).length<rs.length
  .rw[qY HC.out hg];go_enter func39,ntmps39
   go_wp2_with fail
   refine IM.mono ?_;rintro e w1⟨a1,m1,c1,rfl,hm1,o1,b1⟩;have hm:(m1:Int)<(n:Int):=by have:=(aJ o1).rlen.out;have:=HL.out;omega
   clear HC HL IM o1 hg;go_wp2;go_ret;exact⟨rfl,b1.alloc b1.size _⟩
  .rw[tZ HC.out hg];go_enter func39,ntmps39
   go_wp2_with fail
   refine IM.mono ?_;rintro e w1⟨a1,m1,c1,rfl,hm1,o1,b1⟩;have hm:¬(m1:Int)<(n:Int):=by have:=(aJ o1).rlen.out;have:=HL.out;omega
   clear HC HL IM o1 hg;go_wp2;go_ret;exact⟨rfl,b1.alloc b1.size _⟩
 .have hc:(c !=0)=A':=by simpa using h0
  rw[jH HC.out hc]at IM;rw[aB5 HC.out hc];dsimp only at IM;clear HC h0 HL;go_enter func39,ntmps39
  go_wp2_with fail
  refine IM.mono ?_;rintro e w1⟨a1,m1,c1,rfl,hm1,o1,b1⟩;clear IM o1;go_wp2;go_ret;exact⟨rfl,b1.alloc b1.size _⟩
theorem tB(a:Option Addr)(n cap:Nat)(rs:List Row)(w:World)(h:CellsAt w a (n*3) (rcells rs))(hn:n<=1048576):
  Calls prog 52 #[Z a n cap] w fun e w'=>e=R' (I J (dM rs))/\Below w.heap.size w w':=by
 have HL:=h.rlen;have IM:=aS3 a n cap rs w h hn;obtain⟨c,HC⟩:∃c,Hid (dT rs=c):=⟨_,rfl⟩
 by_cases h0:c=0
 .subst h0;rw[oM HC.out]at IM;dsimp only at IM;by_cases hg:(cC rs).length<rs.length
  .rw[qY HC.out hg];go_enter func52,ntmps52
   go_wp2_with fail
   refine IM.mono ?_;rintro e w1⟨a1,m1,c1,rfl,hm1,o1,b1⟩;have hm:((m1:Int) !=(n:Int))=A':=by have:=(aJ o1).rlen.out;have:=HL.out;simp;omega
   clear HC HL IM o1 hg;go_wp2;go_ret;exact⟨rfl,b1.alloc b1.size _⟩
  .rw[tZ HC.out hg];go_enter func52,ntmps52
   go_wp2_with fail
   refine IM.mono ?_;rintro e w1⟨a1,m1,c1,rfl,hm1,o1,b1⟩;have hm:((m1:Int) !=(n:Int))=F':=by have:=(aJ o1).rlen.out;have:=HL.out;have:=pU rs;simp;omega
   clear HC HL IM o1 hg;go_wp2;go_ret;exact⟨rfl,b1.alloc b1.size _⟩
 .have hc:(c !=0)=A':=by simpa using h0
  rw[jH HC.out hc]at IM;rw[aB5 HC.out hc];dsimp only at IM;clear HC h0 HL;go_enter func52,ntmps52
  go_wp2_with fail
  refine IM.mono ?_;rintro e w1⟨a1,m1,c1,rfl,hm1,o1,b1⟩;clear IM o1;go_wp2;go_ret;exact⟨rfl,b1.alloc b1.size _⟩
theorem cH1(c:Int)(w:World):
  Calls prog 102 #[I J c] w fun e w'=>e=R' (U #[I J c,X F',I J 0,Z O 0 0,Z O 0 0,Z O 0 0,Z O 0 0,Z O 0 0,Z O 0 0,Z O 0 0,Z O 0 0,Z O 0 0,X F',Z O 0 0,Z O 0 0])/\Below w.heap.size w w':=by
 go_enter func102,ntmps102
 go_wp2;exact bodyPost_ret (v:=U #[I J c,X F',I J 0,Z O 0 0,Z O 0 0,Z O 0 0,Z O 0 0,Z O 0 0,Z O 0 0,Z O 0 0,Z O 0 0,Z O 0 0,X F',Z O 0 0,Z O 0 0]) (by simp[results,Tryz.results102,go_sem]) rfl
  ⟨rfl,q'⟩
end Go.Proofs.YtpbbokalojdooaaGreat
