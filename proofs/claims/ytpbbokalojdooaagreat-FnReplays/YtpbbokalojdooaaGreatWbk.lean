import Derived.Test.YtpbbokalojdooaaGreatWbj
namespace Go.Proofs.YtpbbokalojdooaaGreat
open Go.RowKit Ch Go.Proofs.Tryz
set_option linter.unusedSimpArgs false
set_option linter.unusedVariables false
set_option maxRecDepth 20000
set_option maxHeartbeats 8000000
open Value renaming int->I,slice->Z,bool->X,agg->U
open IntKind renaming i64->J
open Option renaming none->O,some->Y
open Obj renaming cells->M
open Ending renaming returned->R'
open Bool renaming true->A',false->F'
variable {zs:List Int} {g s:Nat} {a:Option Addr} {row:Option Nat} {t:TypeId} {W w:World}
theorem zS{u0 u1 u2 u3:Value}(v0 v1 v2 v3:Value)(h:W.heap[g]? =Y (M #[u0,u1,u2,u3] t (0,0))):
  ((((W.setCell ⟨g,0,O⟩ v0).setCell ⟨g,1,O⟩ v1).setCell ⟨g,2,O⟩ v2).setCell ⟨g,3,O⟩ v3).heap[g]? =Y (M #[v0,v1,v2,v3] t (0,0))/\W.grownBy ((((W.setCell ⟨g,0,O⟩ v0).setCell ⟨g,1,O⟩ v1).setCell ⟨g,2,O⟩ v2).setCell ⟨g,3,O⟩ v3) (Y g):=by
 have h0:=Ag _ g 0 _ t v0 h;have h1:=Ag _ g 1 _ t v1 h0;have h2:=Ag _ g 2 _ t v2 h1;exact⟨Ag _ g 3 _ t v3 h2,cM (cM (cM iI))⟩
theorem dM{w':World}{n cap k:Nat}(h:Src w s a n cap k zs)(hg:w.grownBy w' row)(hr:∀r,row=Y r->s<r):Src w' s a n cap k zs:=by
 refine⟨?_,h.far,h.bytes.1,fun hm=>?_⟩
 .rw[hg.block s h.lt (fun e=>by have:=hr s e.symm;omega)];exact h.box
 .obtain⟨b,off,ha,hc⟩:=h.bytes.2 hm;have hbs:=h.far hm b off ha;refine⟨b,off,ha,fun i hi=>?_⟩;rw[<-hc i hi];exact World.grownBy.cell_far hg ⟨b,off+i,O⟩ (Nat.lt_trans hbs h.lt) (fun e=>by have:=hr b e.symm;omega)
theorem eP{W':World}(h:w.grownBy W (Y s))(hg:W.grownBy W' (Y g))(hb:w.heap.size<=g):w.grownBy W' (Y s):=
 ⟨hg.os.trans h.os,hg.tape.trans h.tape,hg.output.trans h.output,Ak h.size hg.size,fun k hk hne=>(hg.block k (At hk h.size) (fun e=>by have:=Option.some.inj e;omega)).trans (h.block k hk hne)⟩
def OpD(d s:Nat)(a:Option Addr)(n cap k:Nat)(zs:List Int)(w:World)(e:Ending)(w':World):Prop:=
 ∃o p q v k',e=R' (U #[I J o,I J p,I J q,I J v])/\k'<=k+d/\Src w' s a n cap k' zs/\w.grownBy w' (Y s)
theorem aY1(sy:Bool)(s:Nat)(a:Option Addr)(n cap k:Nat)(zs:List Int)(w:World)(h:Src w s a n cap k zs)(hb:IsB zs)(hn:n<=1048580)(hk:k<=900):
  Calls prog 109 #[.pointer (Y ⟨s,0,O⟩),X sy] w (OpD 4 s a n cap k zs w):=by
 have hsl:=h.lt;have S:=h.new (o:=M #[I J 0,I J 0,I J 0,I J 0] 54);have hR:(w.alloc (M #[I J 0,I J 0,I J 0,I J 0] 54)).heap[w.heap.size]? =Y (M #[I J 0,I J 0,I J 0,I J 0] 54 (0,0)):=aP rfl;have G:w.grownBy (w.alloc (M #[I J 0,I J 0,I J 0,I J 0] 54)) (Y s):=bC8 ⟨rfl,rfl,rfl,z',fun _ _ _=>rfl⟩;clear h;go_enter func109,ntmps109
 cases sy
 .skip
  go_wp2_with fail
  refine(eD 12 s a n cap k zs _ S hb hn (by omega) (by omega) (by omega)).mono ?_;rintro e W⟨⟨x,x0,x1,rfl⟩,S',g'⟩;replace hR:=bS g' hR (by simp;omega);replace G:=cC G g';replace S:=S';clear S' g';by_cases h0:x=0
  .subst h0;go_wp2_with fail
   refine(eD 6 s a n cap (k+1) zs _ S hb hn (by omega) (by omega) (by omega)).mono ?_;rintro e W⟨⟨y,y0,y1,rfl⟩,S',g'⟩;replace hR:=bS g' hR (by simp;omega);replace G:=cC G g';replace S:=S';clear S' g';obtain⟨⟨r0,r1,r2,r3⟩,f0,f1,f2,f3⟩:=iO hR;have hput:=zS (I J (1)) (I J (y)) (I J (0)) (I J (0)) hR;have lR:=aD r0;clear hR;go_wp2;exact Ae (v:=U #[I J (1),I J (y),I J (0),I J (0)]) (As Tryz.results109 _ _ w.heap.size 54 #[I J (1),I J (y),I J (0),I J (0)] (0,0) _ rfl hput.1 underlying54 rfl (by kernel_rfl)) rfl ⟨_,_,_,_,k+1+1,rfl,by omega,dM S hput.2 (fun j hj=>by cases hj;exact hsl),eP G hput.2 z'⟩
  have n0:(x==0)=F':=by simpa using h0
  by_cases h1:x=1
  .subst h1;go_wp2_with fail
   refine(eD 6 s a n cap (k+1) zs _ S hb hn (by omega) (by omega) (by omega)).mono ?_;rintro e W⟨⟨y,y0,y1,rfl⟩,S',g'⟩;replace hR:=bS g' hR (by simp;omega);replace G:=cC G g';replace S:=S';clear S' g';obtain⟨⟨r0,r1,r2,r3⟩,f0,f1,f2,f3⟩:=iO hR;have hput:=zS (I J (1)) (I J (y)) (I J (0)) (I J (0)) hR;have lR:=aD r0;clear hR;go_wp2;exact Ae (v:=U #[I J (1),I J (y),I J (0),I J (0)]) (As Tryz.results109 _ _ w.heap.size 54 #[I J (1),I J (y),I J (0),I J (0)] (0,0) _ rfl hput.1 underlying54 rfl (by kernel_rfl)) rfl ⟨_,_,_,_,k+1+1,rfl,by omega,dM S hput.2 (fun j hj=>by cases hj;exact hsl),eP G hput.2 z'⟩
  have n1:(x==1)=F':=by simpa using h1
  by_cases h2:x=2
  .subst h2;go_wp2_with fail
   refine(eD 6 s a n cap (k+1) zs _ S hb hn (by omega) (by omega) (by omega)).mono ?_;rintro e W⟨⟨y,y0,y1,rfl⟩,S',g'⟩;replace hR:=bS g' hR (by simp;omega);replace G:=cC G g';replace S:=S';clear S' g';obtain⟨⟨r0,r1,r2,r3⟩,f0,f1,f2,f3⟩:=iO hR;have hput:=zS (I J (3)) (I J (y)) (I J (0)) (I J (0)) hR;have lR:=aD r0;clear hR;go_wp2;exact Ae (v:=U #[I J (3),I J (y),I J (0),I J (0)]) (As Tryz.results109 _ _ w.heap.size 54 #[I J (3),I J (y),I J (0),I J (0)] (0,0) _ rfl hput.1 underlying54 rfl (by kernel_rfl)) rfl ⟨_,_,_,_,k+1+1,rfl,by omega,dM S hput.2 (fun j hj=>by cases hj;exact hsl),eP G hput.2 z'⟩
  have n2:(x==2)=F':=by simpa using h2
  by_cases h3:x=3
  .subst h3;go_wp2_with fail
   refine(eD 4 s a n cap (k+1) zs _ S hb hn (by omega) (by omega) (by omega)).mono ?_;rintro e W⟨⟨y,y0,y1,rfl⟩,S',g'⟩;replace hR:=bS g' hR (by simp;omega);replace G:=cC G g';replace S:=S';clear S' g';go_wp2_with fail
   refine(eD 9 s a n cap (k+1+1) zs _ S hb hn (by omega) (by omega) (by omega)).mono ?_;rintro e W⟨⟨z,z0,z1,rfl⟩,S',g'⟩;replace hR:=bS g' hR (by simp;omega);replace G:=cC G g';replace S:=S';clear S' g';have hw:IntKind.i64.wrap (2+z)=2+z:=Br _ ⟨by omega,by omega⟩;obtain⟨⟨r0,r1,r2,r3⟩,f0,f1,f2,f3⟩:=iO hR;have hput:=zS (I J (4)) (I J (y)) (I J (2+z)) (I J (0)) hR;have lR:=aD r0;clear hR;go_wp2;exact Ae (v:=U #[I J (4),I J (y),I J (2+z),I J (0)]) (As Tryz.results109 _ _ w.heap.size 54 #[I J (4),I J (y),I J (2+z),I J (0)] (0,0) _ rfl hput.1 underlying54 rfl (by kernel_rfl)) rfl ⟨_,_,_,_,k+1+1+1,rfl,by omega,dM S hput.2 (fun j hj=>by cases hj;exact hsl),eP G hput.2 z'⟩
  have n3:(x==3)=F':=by simpa using h3
  by_cases h4:x=4
  .subst h4;go_wp2_with fail
   refine(eD 5 s a n cap (k+1) zs _ S hb hn (by omega) (by omega) (by omega)).mono ?_;rintro e W⟨⟨y,y0,y1,rfl⟩,S',g'⟩;replace hR:=bS g' hR (by simp;omega);replace G:=cC G g';replace S:=S';clear S' g';obtain⟨⟨r0,r1,r2,r3⟩,f0,f1,f2,f3⟩:=iO hR;have hput:=zS (I J (5)) (I J (0)) (I J (0)) (I J (y)) hR;have lR:=aD r0;clear hR;go_wp2;exact Ae (v:=U #[I J (5),I J (0),I J (0),I J (y)]) (As Tryz.results109 _ _ w.heap.size 54 #[I J (5),I J (0),I J (0),I J (y)] (0,0) _ rfl hput.1 underlying54 rfl (by kernel_rfl)) rfl ⟨_,_,_,_,k+1+1,rfl,by omega,dM S hput.2 (fun j hj=>by cases hj;exact hsl),eP G hput.2 z'⟩
  have n4:(x==4)=F':=by simpa using h4
  by_cases h5:x=5
  .subst h5;obtain⟨⟨r0,r1,r2,r3⟩,f0,f1,f2,f3⟩:=iO hR;have hput:=zS (I J (6)) (I J (0)) (I J (0)) (I J (0)) hR;have lR:=aD r0;clear hR;go_wp2;exact Ae (v:=U #[I J (6),I J (0),I J (0),I J (0)]) (As Tryz.results109 _ _ w.heap.size 54 #[I J (6),I J (0),I J (0),I J (0)] (0,0) _ rfl hput.1 underlying54 rfl (by kernel_rfl)) rfl ⟨_,_,_,_,k+1,rfl,by omega,dM S hput.2 (fun j hj=>by cases hj;exact hsl),eP G hput.2 z'⟩
  have n5:(x==5)=F':=by simpa using h5
  by_cases h6:x=6
  .subst h6;obtain⟨⟨r0,r1,r2,r3⟩,f0,f1,f2,f3⟩:=iO hR;have hput:=zS (I J (6)) (I J (0)) (I J (0)) (I J (0)) hR;have lR:=aD r0;clear hR;go_wp2;exact Ae (v:=U #[I J (6),I J (0),I J (0),I J (0)]) (As Tryz.results109 _ _ w.heap.size 54 #[I J (6),I J (0),I J (0),I J (0)] (0,0) _ rfl hput.1 underlying54 rfl (by kernel_rfl)) rfl ⟨_,_,_,_,k+1,rfl,by omega,dM S hput.2 (fun j hj=>by cases hj;exact hsl),eP G hput.2 z'⟩
  have n6:(x==6)=F':=by simpa using h6
  by_cases h7:x=7
  .subst h7;go_wp2_with fail
   have S1:=S.new (o:=M #[I J 7,I J 6] 2);have hR1:=(cN (o:=M #[I J 7,I J 6] 2) (Ab.1 hR).1).trans hR;refine(qL W.heap.size 2 [7,6] s a n cap (k+1) zs _ S1 hb hn (by omega) (aP rfl) (by have:=S.lt;omega) rfl (by omega) (by omega)).mono ?_;rintro e W3⟨⟨y,_,rfl⟩,S',g'⟩;replace hR:=bS g' hR1 (by simp;omega);replace G:=cC G (kJ g');replace S:=S';clear S' g' S1 hR1;obtain⟨⟨r0,r1,r2,r3⟩,f0,f1,f2,f3⟩:=iO hR;have hput:=zS (I J (y)) (I J (0)) (I J (0)) (I J (0)) hR;have lR:=aD r0;clear hR;go_wp2;exact Ae (v:=U #[I J (y),I J (0),I J (0),I J (0)]) (As Tryz.results109 _ _ w.heap.size 54 #[I J (y),I J (0),I J (0),I J (0)] (0,0) _ rfl hput.1 underlying54 rfl (by kernel_rfl)) rfl ⟨_,_,_,_,k+1+1,rfl,by omega,dM S hput.2 (fun j hj=>by cases hj;exact hsl),eP G hput.2 z'⟩
  have n7:(x==7)=F':=by simpa using h7
  go_wp2_with fail
  refine(eD 6 s a n cap (k+1) zs _ S hb hn (by omega) (by omega) (by omega)).mono ?_;rintro e W⟨⟨y,y0,y1,rfl⟩,S',g'⟩;replace hR:=bS g' hR (by simp;omega);replace G:=cC G g';replace S:=S';clear S' g';go_wp2_with fail
  refine(eD 5 s a n cap (k+1+1) zs _ S hb hn (by omega) (by omega) (by omega)).mono ?_;rintro e W⟨⟨z,z0,z1,rfl⟩,S',g'⟩;replace hR:=bS g' hR (by simp;omega);replace G:=cC G g';replace S:=S';clear S' g';obtain⟨⟨r0,r1,r2,r3⟩,f0,f1,f2,f3⟩:=iO hR;have hput:=zS (I J (2)) (I J (y)) (I J (0)) (I J (z)) hR;have lR:=aD r0;clear hR;go_wp2;exact Ae (v:=U #[I J (2),I J (y),I J (0),I J (z)]) (As Tryz.results109 _ _ w.heap.size 54 #[I J (2),I J (y),I J (0),I J (z)] (0,0) _ rfl hput.1 underlying54 rfl (by kernel_rfl)) rfl ⟨_,_,_,_,k+1+1+1,rfl,by omega,dM S hput.2 (fun j hj=>by cases hj;exact hsl),eP G hput.2 z'⟩
 .skip
  go_wp2_with fail
  refine(eD 5 s a n cap k zs _ S hb hn (by omega) (by omega) (by omega)).mono ?_;rintro e W⟨⟨x,x0,x1,rfl⟩,S',g'⟩;replace hR:=bS g' hR (by simp;omega);replace G:=cC G g';replace S:=S';clear S' g';by_cases h0:x=0
  .subst h0;obtain⟨⟨r0,r1,r2,r3⟩,f0,f1,f2,f3⟩:=iO hR;have hput:=zS (I J (9)) (I J (0)) (I J (0)) (I J (0)) hR;have lR:=aD r0;clear hR;go_wp2;exact Ae (v:=U #[I J (9),I J (0),I J (0),I J (0)]) (As Tryz.results109 _ _ w.heap.size 54 #[I J (9),I J (0),I J (0),I J (0)] (0,0) _ rfl hput.1 underlying54 rfl (by kernel_rfl)) rfl ⟨_,_,_,_,k+1,rfl,by omega,dM S hput.2 (fun j hj=>by cases hj;exact hsl),eP G hput.2 z'⟩
  have n0:(x==0)=F':=by simpa using h0
  by_cases h1:x=1
  .subst h1;obtain⟨⟨r0,r1,r2,r3⟩,f0,f1,f2,f3⟩:=iO hR;have hput:=zS (I J (10)) (I J (0)) (I J (0)) (I J (0)) hR;have lR:=aD r0;clear hR;go_wp2;exact Ae (v:=U #[I J (10),I J (0),I J (0),I J (0)]) (As Tryz.results109 _ _ w.heap.size 54 #[I J (10),I J (0),I J (0),I J (0)] (0,0) _ rfl hput.1 underlying54 rfl (by kernel_rfl)) rfl ⟨_,_,_,_,k+1,rfl,by omega,dM S hput.2 (fun j hj=>by cases hj;exact hsl),eP G hput.2 z'⟩
  have n1:(x==1)=F':=by simpa using h1
  by_cases h2:x=2
  .subst h2;obtain⟨⟨r0,r1,r2,r3⟩,f0,f1,f2,f3⟩:=iO hR;have hput:=zS (I J (6)) (I J (0)) (I J (0)) (I J (0)) hR;have lR:=aD r0;clear hR;go_wp2;exact Ae (v:=U #[I J (6),I J (0),I J (0),I J (0)]) (As Tryz.results109 _ _ w.heap.size 54 #[I J (6),I J (0),I J (0),I J (0)] (0,0) _ rfl hput.1 underlying54 rfl (by kernel_rfl)) rfl ⟨_,_,_,_,k+1,rfl,by omega,dM S hput.2 (fun j hj=>by cases hj;exact hsl),eP G hput.2 z'⟩
  have n2:(x==2)=F':=by simpa using h2
  go_wp2_with fail
  refine(eD 6 s a n cap (k+1) zs _ S hb hn (by omega) (by omega) (by omega)).mono ?_;rintro e W⟨⟨y,y0,y1,rfl⟩,S',g'⟩;replace hR:=bS g' hR (by simp;omega);replace G:=cC G g';replace S:=S';clear S' g';obtain⟨⟨r0,r1,r2,r3⟩,f0,f1,f2,f3⟩:=iO hR;have hput:=zS (I J (8)) (I J (y)) (I J (0)) (I J (0)) hR;have lR:=aD r0;clear hR;go_wp2;exact Ae (v:=U #[I J (8),I J (y),I J (0),I J (0)]) (As Tryz.results109 _ _ w.heap.size 54 #[I J (8),I J (y),I J (0),I J (0)] (0,0) _ rfl hput.1 underlying54 rfl (by kernel_rfl)) rfl ⟨_,_,_,_,k+1+1,rfl,by omega,dM S hput.2 (fun j hj=>by cases hj;exact hsl),eP G hput.2 z'⟩
end Go.Proofs.YtpbbokalojdooaaGreat
