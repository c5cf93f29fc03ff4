import Derived.Test.YtpbbokalojdooaaGreatWaq
namespace Go.Proofs.YtpbbokalojdooaaGreat
open Go.RowKit Ch Go.Proofs.Tryz
set_option linter.unusedSimpArgs false
set_option linter.unusedVariables false
set_option maxRecDepth 20000
set_option maxHeartbeats 8000000
open Value renaming int->I,slice->Z,bool->X,agg->U
open IntKind renaming i64->J
open Option renaming none->O,some->Y
open Obj renaming cells->M
open Ending renaming returned->R'
open Bool renaming true->A',false->F'
variable {a a0:Act} {K:Act->World->Prop} {ops:Array Oper} {xs:Array Operand} {t:Array TypeId} {Q:Exit->Act->World->Prop} {f:FuncId} {e:Hold} {b c v:Int} {ls:List (List Row)} {ts:List Ac} {l ps:List Hold} {cs:List Int} {L:List Nat} {base rs:List Row} {B g i j k m q:Nat} {T d:Nat->Nat} {vs:Nat->Value} {o:Oper} {x y:Operand} {E:Prop} {r:Row} {S:Sl} {lv u:Value} {W w w':World}
namespace Ch
def uA(ps:List Hold)(k:Nat):Int:=
 if !inB (ps.getD k Hold.zero).t 0 9999||!inB (ps.getD k Hold.zero).m 0 99 then 3 else if decide (0<k)&&!ltE (ps.getD (k-1) Hold.zero) (ps.getD k Hold.zero)then 1 else 0
def aM9(ps:List Hold):Nat->Nat->Int
 |0,_=>0
 |f+1,k=>if uA ps k !=0 then uA ps k else aM9 ps f (k+1)
def lD(ps:List Hold)(k:Nat):Int:=aM9 ps (ps.length-k) k
def nN(ps:List Hold):List Int:=ps.map (·.m)
def aD7(ps:List Hold):Bool:=!decide (nN ps).Nodup
def gK(ps:List Hold):Int:=if 240<ps.length then 2 else if lD ps 0 !=0 then lD ps 0 else if aD7 ps then 7 else 0
theorem bO8(h:240<ps.length):gK ps=2:=by rw[gK,if_pos h]
theorem dN6(h:k<ps.length)(hf:(uA ps k !=0)=A'):lD ps k=uA ps k:=by unfold lD;rw[show ps.length-k=(ps.length-(k+1))+1 by omega,aM9,if_pos hf]
theorem dN7(h:k<ps.length)(hf:(uA ps k !=0)=F'):lD ps k=lD ps (k+1):=by unfold lD;rw[show ps.length-k=(ps.length-(k+1))+1 by omega,aM9,if_neg (by rw[hf];exact Da)]
theorem dJ0(h:ps.length<=k):lD ps k=0:=by unfold lD;rw[show ps.length-k=0 by omega,aM9]
theorem dA4(h:ps.length<=240)(hr:lD ps 0=c)(hc:(c !=0)=A'):gK ps=c:=by rw[gK,if_neg (by omega),hr,if_pos hc]
theorem cQ6(h:ps.length<=240)(hr:lD ps 0=0):gK ps=if aD7 ps then 7 else 0:=by rw[gK,if_neg (by omega),hr,if_neg (by decide)]
theorem cQ7(h:ps.length<=240)(hr:lD ps 0=0)(hd:aD7 ps=A'):gK ps=7:=by rw[cQ6 h hr,hd];rfl
theorem dA5(h:ps.length<=240)(hr:lD ps 0=0)(hd:aD7 ps=F'):gK ps=0:=by rw[cQ6 h hr,hd];rfl
theorem bJ4(h:(!inB (ps.getD k Hold.zero).t 0 9999||!inB (ps.getD k Hold.zero).m 0 99)=A'):uA ps k=3:=by rw[uA,if_pos h]
theorem bW6(h:(!inB (ps.getD k Hold.zero).t 0 9999||!inB (ps.getD k Hold.zero).m 0 99)=F')(h0:0<k)(hl:ltE (ps.getD (k-1) Hold.zero) (ps.getD k Hold.zero)=F'):uA ps k=1:=by rw[uA,if_neg (by rw[h];exact Da),if_pos (by rw[hl];simpa using h0)]
theorem bJ3(h:(!inB (ps.getD k Hold.zero).t 0 9999||!inB (ps.getD k Hold.zero).m 0 99)=F')(h0:k=0):uA ps k=0:=by rw[uA,if_neg (by rw[h];exact Da),if_neg (by subst h0;simp)]
theorem bW5(h:(!inB (ps.getD k Hold.zero).t 0 9999||!inB (ps.getD k Hold.zero).m 0 99)=F')(hl:ltE (ps.getD (k-1) Hold.zero) (ps.getD k Hold.zero)=A'):uA ps k=0:=by rw[uA,if_neg (by rw[h];exact Da),if_neg (by rw[hl];simp)]
theorem cW3(hi:i<ps.length):nN (ps.take (i+1))=nN (ps.take i)++[(ps.getD i Hold.zero).m]:=by unfold nN;rw[bZ ps Hold.zero i hi];simp
theorem dF7{x:Int}(hi:i<=ps.length):x∈nN (ps.take i)↔∃j,j<i/\(ps.getD j Hold.zero).m=x:=by
 unfold nN;rw[Db];constructor
 .rintro⟨p,hp,rfl⟩;obtain⟨j,hj,rfl⟩:=Co hp;have hj':j<i:=by simp at hj;omega
  exact⟨j,hj',by simp[List.getD,show j<ps.length by omega]⟩
 .rintro⟨j,hj,rfl⟩;refine⟨ps.getD j Hold.zero,?_,rfl⟩;rw[Cy];exact⟨j,by simp;omega,by simp[List.getD,show j<ps.length by omega]⟩
theorem bJ8(hi:i<ps.length)(h:(nN (ps.take i)).Nodup)(hn:∀j,j<i->(ps.getD j Hold.zero).m≠(ps.getD i Hold.zero).m):(nN (ps.take (i+1))).Nodup:=by rw[cW3 hi,Cx];refine⟨h,by simp,fun a ha b hb=>?_⟩;rw[Cp]at hb;obtain⟨j,hj,rfl⟩:=(dF7 (by omega)).1 ha;rw[hb];exact hn j hj
theorem bX1(hi:ps.length<=i)(h:(nN (ps.take i)).Nodup):aD7 ps=F':=by rw[Bb hi]at h;simpa[aD7]using h
theorem bW3(hk:k<i)(hi:i<ps.length)(h:(ps.getD k Hold.zero).m=(ps.getD i Hold.zero).m):aD7 ps=A':=by unfold aD7;simp only[Ec,Bp];intro hn;unfold nN at hn;have:=Cl.1 hn k i (by simp;omega) (by simpa using hi) hk;simp[List.getD,hi,show k<ps.length by omega]at h;simp at this;exact this h
def rG(ps:List Hold)(v:Int):List Int:=(ps.filter fun p=>p.t==v).map (·.m)
theorem bW9(h:k<ps.length)(hc:((ps.getD k Hold.zero).t==v)=A'):rG (ps.take (k+1)) v=rG (ps.take k) v++[(ps.getD k Hold.zero).m]:=by unfold rG;rw[bZ ps Hold.zero k h,Bl,Dp];generalize ps.getD k Hold.zero=x at*;rw[List.filter_cons_of_pos (p:=fun p:Hold=>p.t==v) hc];rfl
theorem cR0(h:k<ps.length)(hc:((ps.getD k Hold.zero).t==v)=F'):rG (ps.take (k+1)) v=rG (ps.take k) v:=by unfold rG;rw[bZ ps Hold.zero k h,Bl,Dp];generalize ps.getD k Hold.zero=x at*;rw[Fh (p:=fun p:Hold=>p.t==v) (by rw[hc];simp)];simp
def aB7:List Hold->Hold->List Hold
 |[],e=>[e]
 |x::l,e=>if ltE x e then x::aB7 l e else e::x::l
theorem dA3(hk:k<=l.length)(h1:∀j,j<k->ltE (l.getD j Hold.zero) e=A')(h2:k<l.length->ltE (l.getD k Hold.zero) e=F'):
  aB7 l e=l.take k++[e]++l.drop k:=by
 induction l generalizing k with
 |nil=>
  have:k=0:=by simpa using hk
  subst this;simp[aB7]
 |cons x l ih=>
  cases k with
  |zero=>
   have hx:ltE x e=F':=by simpa using h2 (by simp)
   unfold aB7;rw[hx];simp
  |succ k=>
   have hx:ltE x e=A':=by simpa using h1 0 (by omega)
   unfold aB7;rw[hx,if_pos rfl,ih (k:=k) (by simpa using hk) (fun j hj=>by simpa using h1 (j+1) (by omega)) (fun hl=>by simpa using h2 (by simpa using hl))];simp
theorem aM8(h:e∉l):aB7 l e=pC l e:=by
 induction l with
 |nil=>rfl
 |cons x l ih=>
  unfold aB7 pC;have hx:iV x e=F':=by
   cases hs:iV x e
   .rfl
   .exact absurd (by rw[aC1.1 hs];simp) h
  rw[ih (fun hm=>h (Ba _ hm)),hx];rfl
def lK(r:Row):Hold:=⟨r.v,r.k⟩
def rD(ls:List (List Row)):List Hold:=eW ((cG ls.flatten).map lK)
theorem cJ1(h:rs.Pairwise (fun a b=>a.k<b.k)):(rs.map lK).Nodup:=by
 unfold List.Nodup;rw[Gc];exact h.imp fun{a b} hab he=>by
  have:a.k=b.k:=by have:=congrArg Hold.m he;simpa[lK]using this
  omega
theorem aZ4(h:aL ls=0):((cG ls.flatten).map lK).Nodup:=by obtain⟨_,_,_,hp⟩:=(kI ls).1 h;exact cJ1 (hp.filter _)
theorem cX7{d:Hold}(h:l.Nodup)(hk:k<l.length):l.getD k d∉l.take k:=by
 intro hm;obtain⟨j,hj,he⟩:=Co hm;have hj':j<k:=by simp at hj;omega
 have:=Cl.1 h j k (by omega) hk hj';simp[List.getD,hk]at he;exact this he
theorem bK6(h:l.Nodup)(hk:k<l.length):aB7 (eW (l.take k)) (l.getD k Hold.zero)=eW (l.take (k+1)):=by rw[bZ l Hold.zero k hk,uC,aM8];rw[wQ];exact cX7 h hk
def bA0(ps:List Hold)(key:Int)(now:Bf):List Hold:=if now.h then pC (ps.filter fun p=>p.m !=key) ⟨now.v,key⟩else ps.filter fun p=>p.m !=key
end Ch
def cW(rs:List Row):Int:=if dY rs !=0 then dY rs else if(cG rs).length<rs.length then 1 else 0
def gM(rs:List Row):Nat->List (List Row)
 |0=>[]
 |k+1=>Ch.put (gM rs k) (rs.getD k Row.zero)
def pA(rs:List Row)(k:Nat):Prop:=∀j,j<=k->(gM rs j).length<=60
def zZ(rs:List Row)(k:Nat):Bool:=(List.range (k+1)).all (fun j=>decide ((gM rs j).length<=60))
theorem tH(rs:List Row)(k:Nat):zZ rs k=A'↔pA rs k:=by unfold zZ pA;simp only[Az,Dg,Cs];exact⟨fun h j hj=>h j (by omega),fun h j hj=>h j (by omega)⟩
def iQ(rs:List Row):Int×List Row×List (List Row):=
 if cW rs !=0 then(cW rs,[],[])else if zZ rs rs.length then(0,rs,gM rs rs.length)else(2,[],[])
theorem bQ8(h:cW rs=c)(h0:(c !=0)=A'):iQ rs=(c,[],[]):=by unfold iQ;rw[h,if_pos h0]
theorem cI1(h:cW rs=0)(hr:pA rs rs.length):iQ rs=(0,rs,gM rs rs.length):=by unfold iQ;rw[h,if_neg (by simp),if_pos ((tH _ _).2 hr)]
theorem bE8(h:cW rs=0)(hk:k<rs.length)(hl:60<(gM rs (k+1)).length):iQ rs=(2,[],[]):=by unfold iQ;rw[h,if_neg (by simp),if_neg (fun hr=>by have:=(tH _ _).1 hr (k+1) (by omega);omega)]
theorem mV(h:cW rs=0):dY rs=0/\rs.length<=240/\∀k,k<rs.length->(rs.getD k Row.zero).fault=0:=by
 have h1:dY rs=0:=by
  unfold cW at h;by_cases h0:(dY rs !=0)=A'
  .rw[if_pos h0]at h;exact h
  .simpa using h0
 refine⟨h1,aE4 h1,fun k hk=>?_⟩;have h2:dE rs=0:=by
  unfold dY at h1;by_cases h3:240<rs.length
  .rw[if_pos h3]at h1;omega
  .rw[if_neg h3]at h1;by_cases h4:(dE rs !=0)=A'
   .rw[if_pos h4]at h1;exact h1
   .simpa using h4
 have:=zD h2 k hk;simpa using this
theorem aC6(h:dY rs=c)(h0:(c !=0)=A'):cW rs=c:=by unfold cW;rw[h,if_pos h0]
theorem rU(h:dY rs=0)(h1:(cG rs).length<rs.length):cW rs=1:=by unfold cW;rw[h,if_neg (by simp),if_pos h1]
theorem uE(h:dY rs=0)(h1:¬(cG rs).length<rs.length):cW rs=0:=by unfold cW;rw[h,if_neg (by simp),if_neg h1]
theorem zT(h:cW rs=0):∀k,k<=rs.length->pA rs k->aL (gM rs k)=0:=by
 intro k;induction k with
 |zero=>intro _ _;rfl
 |succ k ih=>intro hk hr;have h1:=ih (by omega) (fun j hj=>hr j (by omega));exact xK h1 ((mV h).2.2 k (by omega)) (hr (k+1) z')
theorem bH2(rs:List Row):pA rs 0:=fun j hj=>by
 have:j=0:=by omega
 subst this;simp[gM]
theorem bH1(h:pA rs k)(hl:¬60<(gM rs (k+1)).length):pA rs (k+1):=fun j hj=>by
 by_cases he:j=k+1
 .subst he;omega
 .exact h j (by omega)
theorem oK(h:aL ls=0):aW ls<=1000:=by obtain⟨h1,h2,_⟩:=(kI ls).1 h;have:=cS4 ls 4 (fun x hx=>(h2 x hx).2);unfold aW;omega
theorem bD2(a:Option Addr)(n cap:Nat)(rs:List Row)(w:World)(h:CellsAt w a (n*3) (rcells rs))(hn:n<=1048576):
  Calls prog 39 #[Z a n cap] w fun e w'=>e=R' (I J (cW rs))/\V' w w':=by
 have HL:=h.rlen;have IM:=aT3 a n cap rs w h hn;obtain⟨c,HC⟩:∃c,Hid (dY rs=c):=⟨_,rfl⟩
 by_cases h0:c=0
 .subst h0;rw[rH HC.out]at IM;dsimp only at IM;by_cases hg:(cG rs).length<rs.length
  .rw[rU HC.out hg];go_enter func39,ntmps39
   go_wp2_with fail
   refine IM.mono ?_;rintro e w1⟨a1,m1,c1,rfl,hm1,o1,b1⟩;have hm:(m1:Int)<(n:Int):=by have:=(aO o1).rlen.out;have:=HL.out;omega
   clear HC HL IM o1 hg;go_wp2;go_ret;exact⟨rfl,b1.alloc b1.size _⟩
  .rw[uE HC.out hg];go_enter func39,ntmps39
   go_wp2_with fail
   refine IM.mono ?_;rintro e w1⟨a1,m1,c1,rfl,hm1,o1,b1⟩;have hm:¬(m1:Int)<(n:Int):=by have:=(aO o1).rlen.out;have:=HL.out;omega
   clear HC HL IM o1 hg;go_wp2;go_ret;exact⟨rfl,b1.alloc b1.size _⟩
 .have hc:(c !=0)=A':=by simpa using h0
  rw[jO HC.out hc]at IM;rw[aC6 HC.out hc];dsimp only at IM;clear HC h0 HL;go_enter func39,ntmps39
  go_wp2_with fail
  refine IM.mono ?_;rintro e w1⟨a1,m1,c1,rfl,hm1,o1,b1⟩;clear IM o1;go_wp2;go_ret;exact⟨rfl,b1.alloc b1.size _⟩
theorem tK(a:Option Addr)(n cap:Nat)(rs:List Row)(w:World)(h:CellsAt w a (n*3) (rcells rs))(hn:n<=1048576):
  Calls prog 52 #[Z a n cap] w fun e w'=>e=R' (I J (cW rs))/\V' w w':=by
 have HL:=h.rlen;have IM:=aU7 a n cap rs w h hn;obtain⟨c,HC⟩:∃c,Hid (dY rs=c):=⟨_,rfl⟩
 by_cases h0:c=0
 .subst h0;rw[rH HC.out]at IM;dsimp only at IM;by_cases hg:(cG rs).length<rs.length
  .rw[rU HC.out hg];go_enter func52,ntmps52
   go_wp2_with fail
   refine IM.mono ?_;rintro e w1⟨a1,m1,c1,rfl,hm1,o1,b1⟩;have hm:((m1:Int) !=(n:Int))=A':=by have:=(aO o1).rlen.out;have:=HL.out;simp;omega
   clear HC HL IM o1 hg;go_wp2;go_ret;exact⟨rfl,b1.alloc b1.size _⟩
  .rw[uE HC.out hg];go_enter func52,ntmps52
   go_wp2_with fail
   refine IM.mono ?_;rintro e w1⟨a1,m1,c1,rfl,hm1,o1,b1⟩;have hm:((m1:Int) !=(n:Int))=F':=by have:=(aO o1).rlen.out;have:=HL.out;have:=qI rs;simp;omega
   clear HC HL IM o1 hg;go_wp2;go_ret;exact⟨rfl,b1.alloc b1.size _⟩
 .have hc:(c !=0)=A':=by simpa using h0
  rw[jO HC.out hc]at IM;rw[aC6 HC.out hc];dsimp only at IM;clear HC h0 HL;go_enter func52,ntmps52
  go_wp2_with fail
  refine IM.mono ?_;rintro e w1⟨a1,m1,c1,rfl,hm1,o1,b1⟩;clear IM o1;go_wp2;go_ret;exact⟨rfl,b1.alloc b1.size _⟩
theorem cP3(c:Int)(w:World):
  Calls prog 102 #[I J c] w fun e w'=>e=R' (U #[I J c,X F',I J 0,Z O 0 0,Z O 0 0,Z O 0 0,Z O 0 0,Z O 0 0,Z O 0 0,Z O 0 0,Z O 0 0,Z O 0 0,X F',Z O 0 0,Z O 0 0])/\V' w w':=by
 go_enter func102,ntmps102
 go_wp2;exact Ae (v:=U #[I J c,X F',I J 0,Z O 0 0,Z O 0 0,Z O 0 0,Z O 0 0,Z O 0 0,Z O 0 0,Z O 0 0,Z O 0 0,Z O 0 0,X F',Z O 0 0,Z O 0 0]) (by simp[results,Tryz.results102,go_sem]) rfl
  ⟨rfl,(Aa _ _).alloc z' _⟩
theorem aD4:∀(l:List Row) (S:Sl) (q:Int),(∀r∈l,r.k≠q)->(l.foldl (fun S r=>S.set r.k (Y r.v)) S) q=S q:=by
 intro l;induction l with
 |nil=>intro S q _;rfl
 |cons a l ih=>intro S q h;rw[List.foldl_cons,ih _ _ (fun r hr=>h r (Ba _ hr))];simp only[Sl.set];rw[if_neg (fun e=>h a Bj e.symm)]
theorem cA9:∀(l:List Row) (S:Sl),l.Pairwise (fun a b=>a.k<b.k)->∀r∈l,(l.foldl (fun S r=>S.set r.k (Y r.v)) S) r.k=Y r.v:=by
 intro l;induction l with
 |nil=>intro S _ r hr;simp at hr
 |cons a l ih=>
  intro S hp r hr;have p1:=Cw.1 hp;rw[List.foldl_cons];rcases Am.1 hr with rfl|hr
  .rw[aD4 _ _ _ (fun x hx=>by have:=p1.1 x hx;omega)];simp[Sl.set]
  .exact ih _ p1.2 r hr
theorem aL3:∀(l:List Row),¬(cG l).length<l.length->∀r∈l,r.g=F':=by
 intro l;induction l with
 |nil=>intro _ r hr;simp at hr
 |cons a l ih=>
  intro h r hr;have hle:=qI l;unfold cG at h hle;rw[Dh]at h;cases hg:a.g
  .rw[hg]at h;simp only[El,Fl,List.length_cons]at h;rcases Am.1 hr with rfl|hr
   .exact hg
   .exact ih (by unfold cG;omega) r hr
  .rw[hg]at h;simp only[Fm,if_neg (by simp:¬F'=A'),List.length_cons]at h;exfalso;omega
theorem yX(h:cW base=0):Ch.rowsS (cX base base.length)=base:=by
 obtain⟨h1,h2,h3⟩:=mV h;have hri:iT base=0:=by
  have he:dE base=0:=aD0 (fun r hr=>by obtain⟨i,hi,rfl⟩:=Co hr;have:=h3 i hi;simpa[List.getD,hi]using this)
  rw[nP (by omega) he]at h1;exact h1
 have hp:=(aF3 base O).1 hri;have hg:∀r∈base,r.g=F':=aL3 base (fun hl=>by rw[rU h1 hl]at h;omega);refine aF6 _ _ (iA _ 100) hp.2.1 (fun r=>?_);rw[Ch.rowsS,iH];have hin:=cA9 base (fun _=>O) hp.2.1;constructor
 .rintro⟨i,hi,hk,hs,hgr⟩;unfold cX at hs;rw[Be]at hs;by_cases he:∃x∈base,x.k=(i:Int)
  .obtain⟨x,hx,hxk⟩:=he;have h5:=hin x hx;rw[hxk,hs]at h5;have:r=x:=by obtain⟨k,v,g⟩:=r;obtain⟨k',v',g'⟩:=x;have h6:=hg _ hx;simp only[Af]at hk hxk h5 hgr h6;rw[hk,hxk,h5,hgr,h6]
   rw[this];exact hx
  .rw[aD4 _ _ _ (fun x hx e=>he ⟨x,hx,e⟩)]at hs;simp at hs
 .intro hr;have hf:=aP0 (hp.1 r hr);refine⟨r.k.toNat,by omega,by omega,?_,hg r hr⟩;rw[show((r.k.toNat:Nat):Int)=r.k by omega];unfold cX;rw[Be];exact hin r hr
theorem pL(S:Sl){ky:Int}(h:0<=ky/\ky<=99)(hs:Bool)(v:Int):aH9 (Ch.rowsS S) ky hs v=Ch.rowsS (S.set ky (uH hs v)):=by
 cases hs
 .exact bK2 S ky
 .exact bK3 S h.1 h.2
theorem uJ(S:Sl):(Ch.rowsS S).length<=100:=bK4 S 100
def eV(k a b v:Int)(r:Row):List Int:=
 if k=1 then(if(r.k==a)=A' then [r.v]else [])else if k=4 then(if inB r.k a b=A' then [r.k,r.v]else [])else if k=5 then(if(r.v==v)=A' then [r.k]else [])else []
def cP(k a b v:Int)(rs:List Row):List Int:=rs.flatMap (eV k a b v)
theorem iD(k a b v:Int)(h:j<rs.length):cP k a b v (rs.take (j+1))=cP k a b v (rs.take j)++eV k a b v (rs.getD j Row.zero):=by unfold cP;rw[pY rs j h,Dc];simp
theorem xT(k:Int):k=1\/k=4\/k=5\/((k==1)=F'/\(k==4)=F'/\(k==5)=F'):=by
 by_cases h1:k=1
 .exact .inl h1
 .by_cases h4:k=4
  .exact .inr (.inl h4)
  .by_cases h5:k=5
   .exact .inr (.inr (.inl h5))
   .exact .inr (.inr (.inr ⟨by simpa using h1,by simpa using h4,by simpa using h5⟩))
theorem tX{k a:Int}(h:(k==1)=F'/\(k==4)=F'/\(k==5)=F'):eV k a b v r=[]:=by simp only[Cq,ne_eq]at h;unfold eV;rw[if_neg h.1,if_neg h.2.1,if_neg h.2.2]
theorem aQ0{a:Int}(h:(r.k==a)=A'):eV 1 a b v r=[r.v]:=by simp[eV,h]
theorem aP9{a:Int}(h:(r.k==a)=F'):eV 1 a b v r=[]:=by simp[eV,h]
theorem aQ1{a:Int}(h:inB r.k a b=A'):eV 4 a b v r=[r.k,r.v]:=by simp[eV,h]
theorem yN{a:Int}(h:inB r.k a b=F'):eV 4 a b v r=[]:=by simp[eV,h]
theorem aQ3{a:Int}(h:(r.v==v)=A'):eV 5 a b v r=[r.k]:=by simp[eV,h]
theorem aQ2{a:Int}(h:(r.v==v)=F'):eV 5 a b v r=[]:=by simp[eV,h]
structure Ch.Rp where
 s:Sl
 ok:Bool
def Ch.doS(S:Sl)(t:Ac):Sl:=if isW t.k=A' then S.set t.a (uH (t.k==2) t.v)else S
def rL(st:Rp)(t:Ac):Rp:=⟨doS st.s t,st.ok&&(t.an==cP t.k t.a t.b t.v (Ch.rowsS st.s))⟩
def fQ(ts:List Ac)(st:Rp)(is:List Nat):Rp:=is.foldl (fun st i=>rL st (aM ts i)) st
def eU(ts:List Ac)(cs:List Int)(st:Rp)(m:Nat):Rp:=(cs.take m).foldl (fun st c=>fQ ts st (cJ ts c ts.length)) st
theorem zU(ts:List Ac)(st:Rp)(is:List Nat)(i:Nat):fQ ts st (is++[i])=rL (fQ ts st is) (aM ts i):=by unfold fQ;rw[Em];rfl
theorem xN(ts:List Ac)(st:Rp)(h:m<cs.length):eU ts cs st (m+1)=fQ ts (eU ts cs st m) (cJ ts (cs.getD m 0) ts.length):=by unfold eU;rw[Du,Ao h,Em];simp[List.getD,h]
theorem cJ0{st:Rp}(h:((aM ts k).tx==c)=F'):fQ ts st (cJ ts c (k+1))=fQ ts st (cJ ts c k):=by rw[kF,h];simp
theorem bT3{st:Rp}(h:((aM ts k).tx==c)=A'):fQ ts st (cJ ts c (k+1))=rL (fQ ts st (cJ ts c k)) (aM ts k):=by rw[kF,if_pos h,zU]
def eS(base:List Row)(ts:List Ac)(cs:List Int):Int×Bool×List Row:=
 if cQ ts !=0 then(cQ ts,F',[])else if cW base !=0 then(cW base,F',[])else if 40<cs.length then(2,F',[])else
  (0,(eU ts cs ⟨cX base base.length,A'⟩ cs.length).ok,Ch.rowsS (eU ts cs ⟨cX base base.length,A'⟩ cs.length).s)
def fJ(base:List Row)(ts:List Ac)(cs:List Int):Int:=if cQ ts !=0 then cQ ts else if cW base !=0 then cW base else if 40<cs.length then 2 else 0
theorem rM(h:fJ base ts cs=c)(hc:(c !=0)=A'):eS base ts cs=(c,F',[]):=by
 unfold fJ at h;unfold eS;by_cases h1:(cQ ts !=0)=A'
 .rw[if_pos h1]at h⊢;rw[h]
 .rw[if_neg h1]at h⊢;by_cases h2:(cW base !=0)=A'
  .rw[if_pos h2]at h⊢;rw[h]
  .rw[if_neg h2]at h⊢;by_cases h3:40<cs.length
   .rw[if_pos h3]at h⊢;rw[h]
   .rw[if_neg h3]at h;subst h;simp at hc
theorem lI(h:fJ base ts cs=0):cQ ts=0/\cW base=0/\cs.length<=40:=by
 unfold fJ at h;by_cases h1:(cQ ts !=0)=A'
 .rw[if_pos h1]at h;rw[h]at h1;simp at h1
 .rw[if_neg h1]at h;by_cases h2:(cW base !=0)=A'
  .rw[if_pos h2]at h;rw[h]at h2;simp at h2
  .rw[if_neg h2]at h;by_cases h3:40<cs.length
   .rw[if_pos h3]at h;simp at h
   .exact⟨by simpa using h1,by simpa using h2,by omega⟩
theorem qO(h:fJ base ts cs=0):eS base ts cs=(0,(eU ts cs ⟨cX base base.length,A'⟩ cs.length).ok,Ch.rowsS (eU ts cs ⟨cX base base.length,A'⟩ cs.length).s):=by obtain⟨h1,h2,h3⟩:=lI h;unfold eS;rw[h1,h2,if_neg (by decide),if_neg (by decide),if_neg (by omega)]
theorem aG3(hf:∀k,k<ts.length->(aM ts k).fault=0)(i:Nat)(hw:isW (aM ts i).k=A'):0<=(aM ts i).a/\(aM ts i).a<=99:=by
 by_cases hi:i<ts.length
 .have:=pN (hf i hi) hw;unfold inB at this;simpa using this
 .have e:aM ts i=Ac.zero:=by simp[aM,List.getD,Bk (show ts.length<=i by omega)]
  rw[e]at hw;cases hw
theorem nG{t:TypeId}{u0 u1 u2 u3 u4 u5 u6:Value}(h:W.heap[g]? =Y (M #[u0,u1,u2,u3,u4,u5,u6] t (0,0))):
  (W.cell? ⟨g,0,O⟩=Y u0/\W.cell? ⟨g,1,O⟩=Y u1/\W.cell? ⟨g,2,O⟩=Y u2/\W.cell? ⟨g,3,O⟩=Y u3/\W.cell? ⟨g,4,O⟩=Y u4/\W.cell? ⟨g,5,O⟩=Y u5/\W.cell? ⟨g,6,O⟩=Y u6)/\∀o,W.frozen? ⟨g,o,O⟩=F':=
 ⟨⟨C' h,C' h,C' h,C' h,C' h,C' h,C' h⟩,fun o=>by simp[World.frozen?,h]⟩
theorem mW(h:Below B w w')(hq:B<=q)(v0 v1 v2 v3 v4 v5 v6:Value):Below B w (((((((w'.setCell ⟨q,0,O⟩ v0).setCell ⟨q,1,O⟩ v1).setCell ⟨q,2,O⟩ v2).setCell ⟨q,3,O⟩ v3).setCell ⟨q,4,O⟩ v4).setCell ⟨q,5,O⟩ v5).setCell ⟨q,6,O⟩ v6):=
 ((((((h.setCell (p:=⟨q,0,O⟩) hq v0).setCell (p:=⟨q,1,O⟩) hq v1).setCell (p:=⟨q,2,O⟩) hq v2).setCell (p:=⟨q,3,O⟩) hq v3).setCell (p:=⟨q,4,O⟩) hq v4).setCell (p:=⟨q,5,O⟩) hq v5).setCell (p:=⟨q,6,O⟩) hq v6
theorem OwnV.store7{vs:List Value}(h:OwnV w B lv m vs ls)(hq:q<B)(v0 v1 v2 v3 v4 v5 v6:Value):OwnV (((((((w.setCell ⟨q,0,O⟩ v0).setCell ⟨q,1,O⟩ v1).setCell ⟨q,2,O⟩ v2).setCell ⟨q,3,O⟩ v3).setCell ⟨q,4,O⟩ v4).setCell ⟨q,5,O⟩ v5).setCell ⟨q,6,O⟩ v6) B lv m vs ls:=
 ((((((h.store3 hq v0).store3 hq v1).store3 hq v2).store3 hq v3).store3 hq v4).store3 hq v5).store3 hq v6
theorem aY5(a:Option Addr)(n cap:Nat)(tx key:Int)(has:Bool)(v:Int)(ls:List (List Row))(w:World)(h:LvAt w a n ls)(hg:aL ls=0)(hk:inB key 0 99=A'):
  Calls prog 219 #[Z a n cap,I J tx,I J key,X has,I J v] w fun e w'=>∃a' m c',e=R' (.tuple #[Z a' m c',U #[I J 2,I J tx,I J key,X (Ch.bf key (Ch.has ls key)).h,I J (Ch.bf key (Ch.has ls key)).v,X has,I J v],I J (dU ls key has v).1])/\OwnLv w' w.heap.size (Z a' m c') m (dU ls key has v).2/\V' w w':=by
 have hs:=jC hg;have ha:=bL5 hg hk;have hgl:=bN5 (key:=key) h.len.out (by rw[ha];rfl);have BI:=fun W hW=>pK a n cap key ls W hW hs hgl;have kA:∀o,V' w (w.alloc o):=fun o=>(Aa _ _).alloc z' o;generalize Ch.bf key (Ch.has ls key)=bb at*;obtain⟨bk,bh,bv⟩:=bb;cases has
 .have FI:=fun W hW=>tL a n cap key ls W hW hs hgl;have PI:=fun W hW=>vN a n cap ls key 0 A' W hW hs hg;have CI:=fun W hW=>pM a n cap ls W hW hs hgl;have HS1:=hid (fun hf=>(show dU ls key F' v=(0,Ch.put ls ⟨key,0,A'⟩)by unfold dU;rw[if_neg Da,if_pos hf]));have HS0:=hid (fun hf=>xO (ls:=ls) (key:=key) (v:=v) hf);generalize Ch.put ls ⟨key,0,A'⟩=P at*;generalize dU ls key F' v=X' at*;go_enter func219,ntmps219
  go_wp2_with fail
  refine(BI _ (h.below (kA _))).mono ?_;rintro e w1⟨rfl,b1⟩;have hR:=aR b1 (Ar w _);have bE:=aZ b1;clear b1 BI;have kB:∀o o',V' w1 ((w1.alloc o).alloc o'):=fun o o'=>((Aa _ _).alloc z' o).alloc (by simp) o';go_wp2_with fail
  refine(FI _ (h.below (bE.trans ((kB _ _).mono bE.size)))).mono ?_;rintro e w2⟨⟨rk,rv,rg⟩,ok,rfl,his,b2⟩;have hT:=aR b2 (Ar _ _);have hR2:=aR b2 (aR (kB _ _) hR);have bF:=(bE.trans ((kB _ _).mono bE.size)).trans (b2.mono (Ak bE.size (kB _ _).size));have hz1:=(Ab.1 hR).1;have z2:=b2.size;simp at z2 hT;have kC:V' w2 (w2.alloc (M #[I J rk,I J rv,X rg] 86)):=(Aa _ _).alloc z' _;replace hT:=aR kC hT;replace hR2:=aR kC hR2;replace bF:=bF.trans (kC.mono bF.size);clear kC hR b2 FI;simp only[dB0]at his;rcases his with⟨rfl,hf⟩|⟨rfl,hf⟩
  .have HX:=hid (HS1.out (by rw[hf];rfl));clear HS1 HS0 CI hf;have hzz:w.heap.size<(w2.alloc (M #[I J rk,I J rv,X rg] 86)).heap.size:=(Ab.1 hR2).1;obtain⟨⟨y0,y1,y2,y3,y4,y5,y6⟩,_⟩:=nG hT;go_wp2;go_region_with (go_at_call 103;refine(PI _ (h.below bF.drew)).mono ?_;rintro e w3⟨a3,m3,c3,rfl,own3,b3⟩;have b4:Below (w2.alloc (M #[I J rk,I J rv,X rg] 86)).heap.size (w2.alloc (M #[I J rk,I J rv,X rg] 86)) w3:=⟨b3.os,b3.tape,b3.output,b3.size,b3.block⟩;have hR3:=aR b4 hR2;have y0:=keep_cell b4 y0;have y1:=keep_cell b4 y1;have y2:=keep_cell b4 y2;have y3:=keep_cell b4 y3;have y4:=keep_cell b4 y4;have y5:=keep_cell b4 y5;have y6:=keep_cell b4 y6;obtain⟨⟨x0,x1,x2,x3,x4,x5,x6⟩,fx⟩:=nG hR3;have f0:=fx 0;have f1:=fx 1;have f2:=fx 2;have f3:=fx 3;have f4:=fx 4;have f5:=fx 5;have f6:=fx 6;clear fx)
   all_goals
    have bG:=bF.trans (b4.mono bF.size);obtain⟨vs,own3⟩:=own3.told;have own4:=(own3.store7 (q:=w.heap.size) hzz (I J 2) (I J tx) (I J key) (X bh) (I J bv) (X F') (I J v)).base (B':=w.heap.size) (Nat.le_of_lt hzz);have bH:=mW bG (q:=w.heap.size) z' (I J 2) (I J tx) (I J key) (X bh) (I J bv) (X F') (I J v);go_wp2;exact Ae (v:=.tuple #[Z a3 m3 c3,U #[I J 2,I J tx,I J key,X bh,I J bv,X F',I J v],I J 0]) (by simp[results,Tryz.results219,go_sem,x0,x1,x2,x3,x4,x5,x6]) rfl ⟨a3,m3,c3,by rw[HX.out],by rw[HX.out];exact own4.own,bH⟩
  .have HX:=hid (HS0.out hf);clear HS1 HS0 PI hf;have hzz:w.heap.size<(w2.alloc (M #[I J rk,I J rv,X rg] 86)).heap.size:=(Ab.1 hR2).1;obtain⟨⟨y0,y1,y2,y3,y4,y5,y6⟩,_⟩:=nG hT;go_wp2;go_region_with (go_at_call 141;refine(CI _ (h.below bF.drew)).mono ?_;rintro e w3⟨a3,c3,rfl,own3,b3⟩;have b4:Below (w2.alloc (M #[I J rk,I J rv,X rg] 86)).heap.size (w2.alloc (M #[I J rk,I J rv,X rg] 86)) w3:=⟨b3.os,b3.tape,b3.output,b3.size,b3.block⟩;have hR3:=aR b4 hR2;have y0:=keep_cell b4 y0;have y1:=keep_cell b4 y1;have y2:=keep_cell b4 y2;have y3:=keep_cell b4 y3;have y4:=keep_cell b4 y4;have y5:=keep_cell b4 y5;have y6:=keep_cell b4 y6;obtain⟨⟨x0,x1,x2,x3,x4,x5,x6⟩,fx⟩:=nG hR3;have f0:=fx 0;have f1:=fx 1;have f2:=fx 2;have f3:=fx 3;have f4:=fx 4;have f5:=fx 5;have f6:=fx 6;clear fx)
   all_goals
    have bG:=bF.trans (b4.mono bF.size);obtain⟨vs,own3⟩:=own3.told;have own4:=(own3.store7 (q:=w.heap.size) hzz (I J 2) (I J tx) (I J key) (X bh) (I J bv) (X F') (I J v)).base (B':=w.heap.size) (Nat.le_of_lt hzz);have bH:=mW bG (q:=w.heap.size) z' (I J 2) (I J tx) (I J key) (X bh) (I J bv) (X F') (I J v);go_wp2;exact Ae (v:=.tuple #[Z a3 n c3,U #[I J 2,I J tx,I J key,X bh,I J bv,X F',I J v],I J 0]) (by simp[results,Tryz.results219,go_sem,x0,x1,x2,x3,x4,x5,x6]) rfl ⟨a3,n,c3,by rw[HX.out],by rw[HX.out];exact own4.own,bH⟩
 .have PI:=fun W hW=>vN a n cap ls key v F' W hW hs hg;have HS:Hid (dU ls key A' v=if 60<(Ch.put ls ⟨key,v,F'⟩).length then(2,[])else(0,Ch.put ls ⟨key,v,F'⟩)):=rfl;generalize Ch.put ls ⟨key,v,F'⟩=P at*;generalize dU ls key A' v=X' at*;go_enter func219,ntmps219
  go_wp2_with fail
  refine(BI _ (h.below (kA _))).mono ?_;rintro e w1⟨rfl,b1⟩;have hR:=aR b1 (Ar w _);have bE:=aZ b1;clear b1 BI;have kB:∀o o',V' w1 ((w1.alloc o).alloc o'):=fun o o'=>((Aa _ _).alloc z' o).alloc (by simp) o';go_wp2_with fail
  refine(PI _ (h.below (bE.trans ((kB _ _).mono bE.size)))).mono ?_;rintro e w2⟨a2,m2,c2,rfl,own2,b2⟩;have hT:=aR b2 (Ar _ _);have hR2:=aR b2 (aR (kB _ _) hR);have bF:=(bE.trans ((kB _ _).mono bE.size)).trans (b2.mono (Ak bE.size (kB _ _).size));have hz1:=(Ab.1 hR).1;have z2:=b2.size;simp at z2 hT;obtain⟨⟨x0,x1,x2,x3,x4,x5,x6⟩,fx⟩:=nG hR2;obtain⟨⟨y0,y1,y2,y3,y4,y5,y6⟩,fy⟩:=nG hT;have f0:=fx 0;have f1:=fx 1;have f2:=fx 2;have f3:=fx 3;have f4:=fx 4;have f5:=fx 5;have f6:=fx 6;clear fx fy hT hR2 hR PI;obtain⟨vs,own2⟩:=own2.told;have HM:Hid (m2=P.length):=own2.1.symm;have own3:=(own2.store7 (q:=w.heap.size) (by simp;omega) (I J 2) (I J tx) (I J key) (X bh) (I J bv) (X A') (I J v)).base (B':=w.heap.size) (by simp;omega);have bG:=mW bF (q:=w.heap.size) z' (I J 2) (I J tx) (I J key) (X bh) (I J bv) (X A') (I J v);by_cases h60:60<m2
  .rw[if_pos (by have:=HM.out;omega)]at HS;go_wp2;go_region
   all_goals
    go_wp2;exact Ae (v:=.tuple #[Z O 0 0,U #[I J 2,I J tx,I J key,X bh,I J bv,X A',I J v],I J 2]) (by simp[results,Tryz.results219,go_sem,x0,x1,x2,x3,x4,x5,x6]) rfl ⟨O,0,0,by rw[HS.out],by rw[HS.out];exact OwnLv.nil _ _,bG.drew⟩
  .rw[if_neg (by have:=HM.out;omega)]at HS;go_wp2;go_region
   all_goals
    go_wp2;exact Ae (v:=.tuple #[Z a2 m2 c2,U #[I J 2,I J tx,I J key,X bh,I J bv,X A',I J v],I J 0]) (by simp[results,Tryz.results219,go_sem,x0,x1,x2,x3,x4,x5,x6]) rfl ⟨a2,m2,c2,by rw[HS.out],by rw[HS.out];exact(own3.below (Aa _ _).drew).own,bG.drew⟩
theorem aP3{tx:Int}{b:Bf}(h:aL ls=0)(ht:inB tx 1 999=A'):jU ls tx [b]=b.fault:=by rw[jU,h,ht,wW];rfl
namespace Ch
def Vals(S:Sl):Prop:=∀k v,S k=Y v->0<=v/\v<=9999
theorem Vals.set(h:Vals S)(k:Int){o:Option Int}(ho:∀v,o=Y v->0<=v/\v<=9999):Vals (S.set k o):=by
 intro q v hv;simp only[Sl.set]at hv;split at hv
 .exact ho v hv
 .exact h q v hv
theorem bX7(h:∀r∈base,r.fault=0):∀(l:List Row),(∀r∈l,r∈base)->∀S,Vals S->Vals (l.foldl (fun S r=>S.set r.k (Y r.v)) S):=by
 intro l;induction l with
 |nil=>intro _ S hS;exact hS
 |cons a l ih=>intro hl S hS;refine ih (fun r hr=>hl r (Ba _ hr)) _ (hS.set _ (fun v hv=>?_));have:=qU (h a (hl a Bj));unfold Row.fits at this;simp at hv;omega
theorem aP1(h:Vals S):∀r∈rowsS S,r.fault=0:=by intro r hr;rw[rowsS,iH]at hr;obtain⟨i,hi,hk,hs,hg⟩:=hr;have hv:=h _ _ hs;obtain⟨k,v,g⟩:=r;simp only at hk hv hg;subst hk hg;unfold Row.fault dQ inB;simp;omega
theorem cJ4(S:Sl):cG (rowsS S)=rowsS S:=by unfold cG;rw[List.filter_eq_self];intro r hr;rw[rowsS,iH]at hr;obtain⟨i,_,_,_,hg⟩:=hr;rw[hg];rfl
theorem dG8(h:Vals S):dY (rowsS S)=0:=by have hl:=uJ S;rw[nP (by omega) (aD0 (aP1 h))];exact(aF3 _ O).2 ⟨aP1 h,iA S 100,fun q hq=>by cases hq⟩
theorem bX3(h:Vals S):cW (rowsS S)=0:=uE (dG8 h) (by rw[cJ4];omega)
end Ch
theorem eG(d:Nat->Nat)(vs:Nat->Value)(x:Nat):∀(E:List Nat) (a0:Act),(E.all fun j=>d j !=x)=A'->(eB a0 d E vs).eval (.tmp x)=a0.eval (.tmp x):=by
 intro E;induction E with
 |nil=>intro a0 _;rfl
 |cons j E ih=>intro a0 h;simp only[List.all_cons,Bq]at h;show(eB (a0.put (Y (d j)) (vs j)) d E vs).eval (.tmp x)=_;rw[ih _ h.2];exact Act.eval_put_ne a0 (d j) x (vs j) (by simpa using h.1)
theorem mX(d:Nat->Nat)(vs:Nat->Value)(i:Nat):∀(E:List Nat) (a0:Act),(E.all fun j=>E.all fun k=>d j !=d k||j==k)=A'->E.Nodup->i∈E->(decide (d i<a0.tmps.size))=A'->(eB a0 d E vs).eval (.tmp (d i))=vs i:=by
 intro E;induction E with
 |nil=>intro a0 _ _ h;cases h
 |cons j E ih=>
  intro a0 hd hn hi hs;have hn':=Eb.1 hn;have hd':∀k∈E,d j≠d k:=by intro k hk he;have:=Az.1 (Az.1 hd j Bj) k (Ba _ hk);simp only[he,bne_self_eq_false,Bool.false_or,Dx]at this;subst this;exact hn'.1 hk
  show(eB (a0.put (Y (d j)) (vs j)) d E vs).eval (.tmp (d i))=vs i;by_cases hij:j=i
  .subst hij;rw[eG d vs (d j) E _ (Az.2 fun k hk=>by simpa using fun he=>hd' k hk he.symm)];exact Act.eval_put_same _ _ _ (by simpa using hs)
  .rcases Am.1 hi with h|h
   .exact absurd h.symm hij
   .refine ih _ ?_ hn'.2 h (by rw[Act.size_put];exact hs);refine Az.2 fun a ha=>Az.2 fun b hb=>?_;exact Az.1 (Az.1 hd a (Ba _ ha)) b (Ba _ hb)
theorem tO{v:Value}
  (ho:o.op= .call {callee:=.value (.func f),args:=#[x],argTypes:=t}) (hgd:o.guard=O) (hx:a.eval x=v) (hcf:(callFunc f #[v]).run prog w= .ok (.enter f #[v]) w)
  (hc:Calls prog f #[v] w fun e w'=>∃u,e=R' u/\K (a.put o.dst u) w'):
  if Region.wanted o (yielded ops a.tmps)=A' then Oper.wp prog o a w K Q else E:=by
 have hw:Region.wanted o (yielded ops a.tmps)=A':=by simp[Region.wanted,hgd]
 rw[if_pos hw];unfold Oper.wp;have hf:a.eval (.func f)= .func (.func f) #[] #[]:=rfl;simp[execOp,ho,resolve,invoke,hx,hf,Deferred.ofValue,hcf,Oper.upon];refine hc.mono ?_;rintro e w'⟨u,rfl,h⟩;exact h
theorem qP{vs:Array Value}
  (ho:o.op= .call {callee:=.value (.func f),args:=xs,argTypes:=t}) (hgd:o.guard=O) (hx:xs.map a.eval=vs) (hcf:(callFunc f vs).run prog w= .ok (.enter f vs) w)
  (hc:Calls prog f vs w fun e w'=>∃u,e=R' u/\K (a.put o.dst u) w'):
  if Region.wanted o (yielded ops a.tmps)=A' then Oper.wp prog o a w K Q else E:=by
 have hw:Region.wanted o (yielded ops a.tmps)=A':=by simp[Region.wanted,hgd]
 rw[if_pos hw];unfold Oper.wp;have hf:a.eval (.func f)= .func (.func f) #[] #[]:=rfl;simp[execOp,ho,resolve,invoke,hx,hf,Deferred.ofValue,hcf,Oper.upon];refine hc.mono ?_;rintro e w'⟨u,rfl,h⟩;exact h
theorem dP1{v:Value}(h1:a.eval x=u)(h2:a.eval y=v):(#[x,y]:Array Operand).map a.eval=#[u,v]:=by simp[h1,h2]
theorem dQ6{z:Operand}{v r:Value}(h1:a.eval x=u)(h2:a.eval y=v)(h3:a.eval z=r):(#[x,y,z]:Array Operand).map a.eval=#[u,v,r]:=by simp[h1,h2,h3]
theorem vQ{v:Value}(hinj:(L.all fun j=>L.all fun k=>d j !=d k||j==k)=A')(hnd:L.Nodup)
  (hsz:(L.all fun i=>decide (d i<a0.tmps.size))=A') (hgd:o.guard=O)
  (hr:∀ev:Operand->Value,(∀i,L.contains i=A'->ev (.tmp (d i))=vs i)->(∀x,(L.all fun j=>d j !=x)=A'->ev (.tmp x)=a0.eval (.tmp x))->(execOp ev o).run prog w= .ok (.value v) w)
  (hK:K ((eB a0 d L vs).put o.dst v) w):
  if Region.wanted o (yielded ops (eB a0 d L vs).tmps)=A' then Oper.wp prog o (eB a0 d L vs) w K Q else E:=by
 have hw:Region.wanted o (yielded ops (eB a0 d L vs).tmps)=A':=by simp[Region.wanted,hgd]
 rw[if_pos hw];unfold Oper.wp;rw[hr _ (fun i hi=>mX d vs i L a0 hinj hnd (by simpa using hi) (Az.1 hsz i (by simpa using hi))) (fun x hx=>eG d vs x L a0 hx)];exact hK
theorem cO0(hinj:(L.all fun j=>L.all fun k=>d j !=d k||j==k)=A')(hnd:L.Nodup)
  (hsz:(L.all fun i=>decide (d i<a0.tmps.size))=A') (hgd:o.guard=O)
  (hr:∀ev:Operand->Value,(∀i,L.contains i=A'->ev (.tmp (d i))=vs i)->(∀x,(L.all fun j=>d j !=x)=A'->ev (.tmp x)=a0.eval (.tmp x))->(execOp ev o).run prog w= .ok .skip w')
  (hK:K ((eB a0 d L vs).put o.dst undef) w'):
  if Region.wanted o (yielded ops (eB a0 d L vs).tmps)=A' then Oper.wp prog o (eB a0 d L vs) w K Q else E:=by
 have hw:Region.wanted o (yielded ops (eB a0 d L vs).tmps)=A':=by simp[Region.wanted,hgd]
 rw[if_pos hw];unfold Oper.wp;rw[hr _ (fun i hi=>mX d vs i L a0 hinj hnd (by simpa using hi) (Az.1 hsz i (by simpa using hi))) (fun x hx=>eG d vs x L a0 hx)];exact hK
theorem kP(o:Oper)(v:Value)(ho:ops[i]? =Y o)(hinj:(L.all fun j=>L.all fun k=>d j !=d k||j==k)=A')(hnd:L.Nodup)
  (hsz:(L.all fun i=>decide (d i<a0.tmps.size))=A') (hgd:o.guard=O)
  (hr:∀ev:Operand->Value,(∀i,L.contains i=A'->ev (.tmp (d i))=vs i)->(∀x,(L.all fun j=>d j !=x)=A'->ev (.tmp x)=a0.eval (.tmp x))->(execOp ev o).run prog w= .ok (.value v) w)
  (hK:K ((eB a0 d L vs).put o.dst v) w):wpOp prog ops Q i K (eB a0 d L vs) w:=
 Dq ho fun _ hK'=>vQ hinj hnd hsz hgd hr (hK' _ _ hK)
theorem wJ(o:Oper)(v:Value)(w':World)(ho:ops[i]? =Y o)(hinj:(L.all fun j=>L.all fun k=>d j !=d k||j==k)=A')(hnd:L.Nodup)
  (hsz:(L.all fun i=>decide (d i<a0.tmps.size))=A') (hgd:o.guard=O)
  (hr:∀ev:Operand->Value,(∀i,L.contains i=A'->ev (.tmp (d i))=vs i)->(∀x,(L.all fun j=>d j !=x)=A'->ev (.tmp x)=a0.eval (.tmp x))->(execOp ev o).run prog w= .ok (.value v) w')
  (hK:K ((eB a0 d L vs).put o.dst v) w'):wpOp prog ops Q i K (eB a0 d L vs) w:=by
 refine Dq ho fun K' hK'=>?_;have hw:Region.wanted o (yielded ops (eB a0 d L vs).tmps)=A':=by simp[Region.wanted,hgd]
 rw[if_pos hw];unfold Oper.wp;rw[hr _ (fun i hi=>mX d vs i L a0 hinj hnd (by simpa using hi) (Az.1 hsz i (by simpa using hi))) (fun x hx=>eG d vs x L a0 hx)];exact hK' _ _ hK
theorem tR(o:Oper)(w':World)(ho:ops[i]? =Y o)(hinj:(L.all fun j=>L.all fun k=>d j !=d k||j==k)=A')(hnd:L.Nodup)
  (hsz:(L.all fun i=>decide (d i<a0.tmps.size))=A') (hgd:o.guard=O)
  (hr:∀ev:Operand->Value,(∀i,L.contains i=A'->ev (.tmp (d i))=vs i)->(∀x,(L.all fun j=>d j !=x)=A'->ev (.tmp x)=a0.eval (.tmp x))->(execOp ev o).run prog w= .ok .skip w')
  (hK:K ((eB a0 d L vs).put o.dst undef) w'):wpOp prog ops Q i K (eB a0 d L vs) w:=
 Dq ho fun _ hK'=>cO0 hinj hnd hsz hgd hr (hK' _ _ hK)
theorem aO4{t:TypeId}{u0 u1 u2 u3 u4 u5 u6 u7 u8 u9:Value}(v0 v1 v2 v3 v4 v5 v6 v7 v8 v9:Value)(h:W.heap[g]? =Y (M #[u0,u1,u2,u3,u4,u5,u6,u7,u8,u9] t (0,0))):
  ((((((((((W.setCell ⟨g,0,O⟩ v0).setCell ⟨g,1,O⟩ v1).setCell ⟨g,2,O⟩ v2).setCell ⟨g,3,O⟩ v3).setCell ⟨g,4,O⟩ v4).setCell ⟨g,5,O⟩ v5).setCell ⟨g,6,O⟩ v6).setCell ⟨g,7,O⟩ v7).setCell ⟨g,8,O⟩ v8).setCell ⟨g,9,O⟩ v9).heap[g]? =Y (M #[v0,v1,v2,v3,v4,v5,v6,v7,v8,v9] t (0,0))/\W.grownBy ((((((((((W.setCell ⟨g,0,O⟩ v0).setCell ⟨g,1,O⟩ v1).setCell ⟨g,2,O⟩ v2).setCell ⟨g,3,O⟩ v3).setCell ⟨g,4,O⟩ v4).setCell ⟨g,5,O⟩ v5).setCell ⟨g,6,O⟩ v6).setCell ⟨g,7,O⟩ v7).setCell ⟨g,8,O⟩ v8).setCell ⟨g,9,O⟩ v9) (Y g):=by
 have h0:=Ag _ g 0 _ t v0 h;rw[show(#[u0,u1,u2,u3,u4,u5,u6,u7,u8,u9]:Array Value).setIfInBounds 0 v0=#[v0,u1,u2,u3,u4,u5,u6,u7,u8,u9]from rfl]at h0;have h1:=Ag _ g 1 _ t v1 h0;rw[show(#[v0,u1,u2,u3,u4,u5,u6,u7,u8,u9]:Array Value).setIfInBounds 1 v1=#[v0,v1,u2,u3,u4,u5,u6,u7,u8,u9]from rfl]at h1;have h2:=Ag _ g 2 _ t v2 h1;rw[show(#[v0,v1,u2,u3,u4,u5,u6,u7,u8,u9]:Array Value).setIfInBounds 2 v2=#[v0,v1,v2,u3,u4,u5,u6,u7,u8,u9]from rfl]at h2;have h3:=Ag _ g 3 _ t v3 h2;rw[show(#[v0,v1,v2,u3,u4,u5,u6,u7,u8,u9]:Array Value).setIfInBounds 3 v3=#[v0,v1,v2,v3,u4,u5,u6,u7,u8,u9]from rfl]at h3;have h4:=Ag _ g 4 _ t v4 h3;rw[show(#[v0,v1,v2,v3,u4,u5,u6,u7,u8,u9]:Array Value).setIfInBounds 4 v4=#[v0,v1,v2,v3,v4,u5,u6,u7,u8,u9]from rfl]at h4;have h5:=Ag _ g 5 _ t v5 h4;rw[show(#[v0,v1,v2,v3,v4,u5,u6,u7,u8,u9]:Array Value).setIfInBounds 5 v5=#[v0,v1,v2,v3,v4,v5,u6,u7,u8,u9]from rfl]at h5;have h6:=Ag _ g 6 _ t v6 h5;rw[show(#[v0,v1,v2,v3,v4,v5,u6,u7,u8,u9]:Array Value).setIfInBounds 6 v6=#[v0,v1,v2,v3,v4,v5,v6,u7,u8,u9]from rfl]at h6;have h7:=Ag _ g 7 _ t v7 h6;rw[show(#[v0,v1,v2,v3,v4,v5,v6,u7,u8,u9]:Array Value).setIfInBounds 7 v7=#[v0,v1,v2,v3,v4,v5,v6,v7,u8,u9]from rfl]at h7;have h8:=Ag _ g 8 _ t v8 h7;rw[show(#[v0,v1,v2,v3,v4,v5,v6,v7,u8,u9]:Array Value).setIfInBounds 8 v8=#[v0,v1,v2,v3,v4,v5,v6,v7,v8,u9]from rfl]at h8;have h9:=Ag _ g 9 _ t v9 h8;rw[show(#[v0,v1,v2,v3,v4,v5,v6,v7,v8,u9]:Array Value).setIfInBounds 9 v9=#[v0,v1,v2,v3,v4,v5,v6,v7,v8,v9]from rfl]at h9;exact⟨h9,cM (cM (cM (cM (cM (cM (cM (cM (cM iI))))))))⟩
theorem gC(hg:w.grownBy w' (Y g))(hr:T g=j)(hk:k≠j):Kp k T T w w':=by intro x hx ht;refine⟨hg.block x hx fun he=>hk ?_,ht⟩;simp only[Af]at he;subst he;omega
end Go.Proofs.YtpbbokalojdooaaGreat
