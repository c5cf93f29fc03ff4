import Derived.Test.YtpbbokalojdooaaGreatWak
namespace Go.Proofs.YtpbbokalojdooaaGreat
open Go.RowKit Ch Go.Proofs.Tryz
set_option linter.unusedSimpArgs false
set_option linter.unusedVariables false
set_option maxRecDepth 20000
set_option maxHeartbeats 8000000
open Value renaming int->I,slice->Z,bool->X,agg->U
open IntKind renaming i64->J
open Option renaming none->O,some->Y
open Obj renaming cells->M
open Ending renaming returned->R'
open Bool renaming true->A',false->F'
variable {e:Eng} {tx:Int} {f:Int->Int} {ls:List (List Row)} {bs:List Bf} {hs:List Hold} {rs:List Row} {vs xs:List Value} {B b g k n q:Nat} {o:Obj} {p:Option Int} {row:Option Nat} {t:TypeId} {lv u0 u1 u2 v:Value} {W w w':World}
def dE:List Row->Int
 |[]=>0
 |r::rs=>if r.fault !=0 then r.fault else dE rs
def dY(rs:List Row):Int:=if 240<rs.length then 2 else if dE rs !=0 then dE rs else iT rs
def cG(rs:List Row):List Row:=rs.filter (fun r=>!r.g)
def jI(rs:List Row):Int×List Row:=if dY rs !=0 then(dY rs,[])else(0,cG rs)
theorem aF4(h:k<rs.length):rs.drop k=rs.getD k Row.zero::rs.drop (k+1):=by rw[Ck h];simp[List.getD,h]
theorem aK0(h:k<rs.length)(hf:((rs.getD k Row.zero).fault !=0)=A'):dE (rs.drop k)=(rs.getD k Row.zero).fault:=by rw[aF4 h,dE,if_pos hf]
theorem aK2(h:k<rs.length)(hf:((rs.getD k Row.zero).fault !=0)=F'):dE (rs.drop k)=dE (rs.drop (k+1)):=by rw[aF4 h,dE,if_neg (by rw[hf];exact Da)]
theorem aC9(h:rs.length<=k):dE (rs.drop k)=0:=by rw[Cb h];rfl
theorem aK1(h:dE rs=0):∀r∈rs,r.fault=0:=by
 induction rs with
 |nil=>intro b hb;cases hb
 |cons c bs ih=>
  rw[dE]at h;by_cases hc:(c.fault !=0)=A'
  .rw[if_pos hc]at h;simp[h]at hc
  .rw[if_neg hc]at h;intro b hb;rcases Am.1 hb with rfl|hb
   .simpa using hc
   .exact ih h b hb
theorem aD0(h:∀r∈rs,r.fault=0):dE rs=0:=by
 induction rs with
 |nil=>rfl
 |cons c bs ih=>rw[dE,h c (Bj ..)];exact ih (fun r hr=>h r (Ba _ hr))
theorem zD(h:dE rs=0)(k:Nat)(hk:k<rs.length):((rs.getD k Row.zero).fault !=0)=F':=by
 have:rs.getD k Row.zero∈rs:=by simp[List.getD,hk]
 rw[aK1 h _ this];rfl
theorem bT7(h:∀r∈rs,r.fault=0):iU p rs=0\/iU p rs=1:=by
 induction rs generalizing p with
 |nil=>left;cases p<;>rfl
 |cons r rs ih=>
  rw[gJ,h r (Bj ..)];by_cases hl:Ch.low p r.k=A'
  .right;simp[hl]
  .simp only[hl];exact ih (fun x hx=>h x (Ba _ hx))
theorem zP(h:240<rs.length):dY rs=2:=by rw[dY,if_pos h]
theorem zO(h:¬240<rs.length)(hf:(dE rs !=0)=A'):dY rs=dE rs:=by rw[dY,if_neg h,if_pos hf]
theorem nP(h:¬240<rs.length)(hf:dE rs=0):dY rs=iT rs:=by rw[dY,if_neg h,hf];rfl
theorem jO{c:Int}(h:dY rs=c)(hc:(c !=0)=A'):jI rs=(c,[]):=by rw[jI,h,if_pos hc]
theorem rH(h:dY rs=0):jI rs=(0,cG rs):=by rw[jI,h];rfl
theorem qJ(h:k<rs.length)(hin:(rs.getD k Row.zero).g=F'):cG (rs.take (k+1))=cG (rs.take k)++[rs.getD k Row.zero]:=by rw[bZ rs Row.zero k h];generalize rs.getD k Row.zero=r at*;unfold cG;rw[Bl];simp[hin]
theorem rZ(h:k<rs.length)(hin:(rs.getD k Row.zero).g=A'):cG (rs.take (k+1))=cG (rs.take k):=by rw[bZ rs Row.zero k h];generalize rs.getD k Row.zero=r at*;unfold cG;rw[Bl];simp[hin]
theorem qI(rs:List Row):(cG rs).length<=rs.length:=Dt _ _
theorem aE4(h:dY rs=0):rs.length<=240:=by
 unfold dY at h;by_cases hb:240<rs.length
 .rw[if_pos hb]at h;omega
 .omega
theorem sA(h:W.heap[g]? =Y (M #[u0,u1] t (0,0))):
  W.cell? ⟨g,0,O⟩=Y u0/\W.cell? ⟨g,1,O⟩=Y u1/\W.frozen? ⟨g,0,O⟩=F'/\W.frozen? ⟨g,1,O⟩=F':=
 ⟨C' h,C' h,by simp[World.frozen?,h],by simp[World.frozen?,h]⟩
theorem wD{base:Nat}{e:TypeId}{size:Nat}(h:w.ownsRow base e size v n xs)(hb:b<base):v.ownBlock≠Y b:=fun e=>by have:=(aH h b e).1;omega
theorem aR(hb:V' w w')(h:w.heap[b]? =Y o):w'.heap[b]? =Y o:=
 (hb.block b (Ab.1 h).1).trans h
theorem mJ(hg:w.grownBy w' row)(h:w.heap[b]? =Y o)(hne:row≠Y b):w'.heap[b]? =Y o:=
 (hg.block b (Ab.1 h).1 (fun e=>hne e.symm)).trans h
theorem bE5(a:Option Addr)(n cap:Nat)(rs:List Row)(w:World)(h:CellsAt w a (n*3) (rcells rs))(hn:n<=1048576):
  Calls prog 38 #[Z a n cap] w fun e w'=>e=R' (I J (dY rs))/\V' w w':=by
 have HL:=h.rlen;by_cases hbig:240<n
 .have HF:Hid (dY rs=2):=zP (by have:=HL.out;omega);go_enter func38,ntmps38
  go_wp2;go_ret;exact⟨cH HF.out.symm,Aa _ _⟩
 have hn4:n<=240:=by omega
 have HA:Hid ((dE rs !=0)=A'->dY rs=dE rs):=fun hf=>zO (by have:=HL.out;omega) hf;have HB:Hid (dE rs=0->dY rs=iT rs):=fun hf=>nP (by have:=HL.out;omega) hf;clear hbig;go_enter func38,ntmps38
 go_wp2;go_loopw [13] (fun i wr=>∃k:Nat,k<=n/\i=I J k/\Hid (dE rs=dE (rs.drop k))/\V' w wr) (fun i _=>n-(intOf i).toNat)
 case atStart=>exact⟨0,Ad _,rfl,rfl,Aa _ _⟩
 case round=>
  obtain⟨k,hk,rfl,HH,hB⟩:=hrel;by_cases hlt:k<n
  .have hkl:k<rs.length:=by have:=HL.out;omega
   have HS:=hid (fun he=>HH.out.trans (aK0 hkl he));have HN:=hid (fun he=>HH.out.trans (aK2 hkl he));obtain⟨b,off,rfl,q0,q1,q2⟩:=(h.below hB).row hlt;have hbl:=aD q0;generalize rs.getD k Row.zero=r at*;obtain⟨rk,rv,rg⟩:=r;simp only[Row.fault]at q0 q1 q2 HS HN;have IF:=fun W=>bO4 rk rv rg W;cases hf:(dQ rk rv rg !=0)
   .replace HN:=hid (HN.out hf);clear HS;generalize dQ rk rv rg=c at*;go_wp2_with fail
    refine(IF _).mono ?_;rintro e w1⟨rfl,b1⟩;have bE:=hB.trans ((aZ b1).mono hB.size);go_wp2;go_roundw;case rel=>exact⟨k+1,by omega,by go_num,HN.out,bE⟩
    case measure=>simp[intOf];omega
   .replace HS:=hid (HS.out hf);have HZ:=hid (HA.out (by rw[HS.out];exact hf));replace HZ:=hid (HZ.out.trans HS.out);clear HN HS;generalize dQ rk rv rg=c at*;go_wp2_with fail
    refine(IF _).mono ?_;rintro e w1⟨rfl,b1⟩;have bE:=hB.trans ((aZ b1).mono hB.size);go_wp2;go_ret;exact⟨cH HZ.out.symm,bE⟩
  .obtain rfl:k=n:=by omega
   have HZ:=hid (HH.out.trans (aC9 (by have:=HL.out;omega)));have HM:=hid (HB.out HZ.out);clear HA HB HH;go_wp2;go_loopw [25] (fun i wr=>∃j:Nat,j<=k/\i=I J j/\Hid (dY rs=iN rs j)/\V' w wr) (fun i _=>k-(intOf i).toNat)
   case atStart=>exact⟨0,Ad _,rfl,HM.out,hB⟩
   case round=>
    clear HM hB;obtain⟨j,hj,rfl,HR,hB⟩:=hrel;by_cases hlt:j<k
    .have hjl:j<rs.length:=by have:=HL.out;omega
     have hff:=hid (zD HZ.out j hjl);obtain⟨b,off,rfl,q0,q1,q2⟩:=(h.below hB).row hlt;have hbl:=aD q0;have bE:=hB.alloc hB.size (M #[I J (rs.getD j Row.zero).k,I J (rs.getD j Row.zero).v,X (rs.getD j Row.zero).g] 86);cases j with
     |zero=>
      have HN:=hid (HR.out.trans (vJ rs hjl hff.out));clear hff;generalize rs.getD 0 Row.zero=r at*;obtain⟨rk,rv,rg⟩:=r;simp only[Ep,Nat.add_zero]at q0 q1 q2 bE;have hd:decide ((0:Int)<((0:Nat):Int))=F':=by simp
      go_wp2;go_quiet (fail)
      go_wp2;go_roundw;case rel=>exact⟨1,by omega,by go_num,HN.out,Cj bE _⟩
      case measure=>simp[intOf];omega
     |succ i=>
      have HN:Hid (¬(rs.getD (i+1) Row.zero).k<=(rs.getD i Row.zero).k->dY rs=iN rs (i+1+1)):=fun hl=>HR.out.trans (aF2 rs i hjl hff.out hl);have HM:Hid ((rs.getD (i+1) Row.zero).k<=(rs.getD i Row.zero).k->dY rs=1):=fun hl=>HR.out.trans (zY rs i hjl hff.out hl);obtain⟨b',off',hbo,hp0,_,_⟩:=(h.below hB).row (show i<k by omega);simp only[Af,Ap,Cn]at hbo;obtain⟨rfl,rfl⟩:=hbo;clear hff HR;generalize rs.getD (i+1) Row.zero=r at*;generalize(rs.getD i Row.zero).k=pk at*;obtain⟨rk,rv,rg⟩:=r;simp only at q0 q1 q2 bE HN HM;have hd:(0:Int)<((i+1:Nat):Int):=by omega
      by_cases hle:rk<=pk
      .replace HM:=hid (HM.out hle);clear HN;go_wp2;go_quiet (fail)
       go_wp2;go_ret;exact⟨cH HM.out.symm,Cj bE _⟩
      .replace HN:=hid (HN.out hle);clear HM;go_wp2;go_quiet (fail)
       go_wp2;go_roundw;case rel=>exact⟨i+1+1,by omega,by go_num,HN.out,Cj bE _⟩
       case measure=>simp[intOf];omega
    .obtain rfl:j=k:=by omega
     have HE:=hid (HR.out.trans (zX _ _ (by have:=HL.out;omega)));go_wp2;go_ret;exact⟨cH HE.out.symm,hB⟩
theorem aT3(a:Option Addr)(n cap:Nat)(rs:List Row)(w:World)(h:CellsAt w a (n*3) (rcells rs))(hn:n<=1048576):
  Calls prog 13 #[Z a n cap] w fun e w'=>∃a' m c',e=R' (U #[I J (jI rs).1,Z a' m c'])/\m<=1048576/\w'.ownsRow w.heap.size 86 3 (Z a' m c') m (rcells (jI rs).2)/\V' w w':=by
 have IA:=fun W hW=>bE5 a n cap rs W hW hn;have kA:∀o,V' w (w.alloc o):=fun o=>(Aa _ _).alloc z' o;have HL:=h.rlen;obtain⟨c,HC⟩:∃c,Hid (dY rs=c):=⟨_,rfl⟩
 rw[HC.out]at IA;by_cases h0:c=0
 .subst h0;rw[rH HC.out];have hn4:n<=240:=by have:=aE4 HC.out;have:=HL.out;omega
  clear HC;go_enter func13,ntmps13
  go_wp2_with fail
  refine(IA _ (h.below (kA _))).mono ?_;rintro e w1⟨rfl,b1⟩;have hR:=aR b1 (Ar w _);have b1:=aZ b1;have lz:=(Ab.1 hR).1;obtain⟨x0,x1,f0,f1⟩:=sA hR;clear IA;go_wp2;go_loopw [15] (fun i wr=>∃(k m:Nat) (a':Option Addr) (c':Nat),k<=n/\m<=k/\i=I J k/\wr.heap[w.heap.size]? =Y (M #[I J 0,Z O 0 0] 40 (0,0))/\wr.heap[w1.heap.size]? =Y (M #[I J 0,Z a' m c'] 40 (0,0))/\wr.ownsRow (w1.heap.size+1) 86 3 (Z a' m c') m (rcells (cG (rs.take k)))/\w1.heap.size<wr.heap.size/\V' w wr) (fun i _=>n-(intOf i).toNat)
  case atStart=>exact⟨0,0,O,0,Ad _,z',rfl,(Ex w1 _ _ lz).trans hR,Ar w1 _,Aw _ _ _ _,by simp,b1.alloc b1.size _⟩
  case round=>
   clear hR x0 x1 f0 f1;obtain⟨k,m,a',c',hk,hmk,rfl,hR,hX,own,hsz,hB⟩:=hrel;obtain⟨x0,x1,f0,f1⟩:=sA hR;obtain⟨y0,y1,g0,g1⟩:=sA hX;have lr:=(Ab.1 hR).1;by_cases hlt:k<n
   .have hkl:k<rs.length:=by have:=HL.out;omega
    have HY:=hid (fun he=>qJ hkl he);have HN:=hid (fun he=>rZ hkl he);obtain⟨b,off,rfl,q0,q1,q2⟩:=(h.below hB).row hlt;have hbl:=aD q0;generalize rs.getD k Row.zero=r at*;obtain⟨rk,rv,rg⟩:=r;simp only at q0 q1 q2 HY HN;generalize cG (rs.take k)=zs at*;have hsum:m+1<=2097152:=by omega
    cases rg
    .replace HY:=hid (HY.out rfl);clear HN;have kQ:V' wr ((wr.alloc (M #[I J rk,I J rv,X F'] 86)).alloc (M #[I J rk,I J rv,X F'] 86)):=((Aa _ _).alloc z' _).alloc (by simp) _;have own3:=aG own kQ;have hX3:=aR kQ hX;have hR3:=aR kQ hR;have hC3:=lG (w:=wr.alloc (M #[I J rk,I J rv,X F'] 86)) (r:=⟨rk,rv,F'⟩) (t:=86) (H:=wr.heap.size+1) (by simp);have hb3:w1.heap.size+1<=((wr.alloc (M #[I J rk,I J rv,X F'] 86)).alloc (M #[I J rk,I J rv,X F'] 86)).heap.size:=by simp;omega
     go_wp2_with(at_builtin;go_must (refine rP (.tmp 23) (.tmp 25) (w1.heap.size+1) (Z a' m c') m zs 1 [⟨rk,rv,F'⟩] hsum (by omega) ?_ ?_ ?_ ?_ own3 hb3 ?_;exact rfl;exact rfl;exact rfl;exact⟨_,_,rfl,hC3⟩;intro a5 c5 w5 own5 gr5 at5;have hX5:=mJ gr5 hX3 (wD own3 (by omega));have hR5:=mJ gr5 hR3 (wD own3 (by omega));obtain⟨v0,v1,e0,e1⟩:=sA hX5;have lv:=aD v0))
     go_roundw;case rel=>
      rw[<-HY.out]at own5;have b3:=(hB.alloc hB.size (M #[I J rk,I J rv,X F'] 86)).alloc (by simp;exact Ak hB.size (by omega)) (M #[I J rk,I J rv,X F'] 86);have b5:=b3.grown gr5 b3.size (fun g hg=>by have:=(aH own3 g hg).1;omega);refine⟨k+1,m+1,a5,c5,by omega,by omega,by go_num,?_,?_,?_,?_,b5.setCell (p:=⟨w1.heap.size,1,O⟩) (by show w.heap.size<=w1.heap.size;omega) _⟩
      .exact(Bu _ _ _ _ (by show w.heap.size≠w1.heap.size;omega)).trans hR5
      .have:=Ah (i:=1) hX5 (Z a5 (m+1) c5);simpa using this
      .exact Bd own5 (by show w1.heap.size<w1.heap.size+1;omega) _
      .have:=gr5.size;simp at this⊢;omega
     case measure=>simp[intOf];omega
    .replace HN:=hid (HN.out rfl);clear HY;have kE:V' wr (wr.alloc (M #[I J rk,I J rv,X A'] 86)):=(Aa _ _).alloc z' _;go_wp2;go_roundw;case rel=>exact⟨k+1,m,a',c',by omega,by omega,by go_num,aR kE hR,aR kE hX,by rw[HN.out];exact aG own kE,At hsz kE.size,hB.trans (kE.mono hB.size)⟩
     case measure=>simp[intOf];omega
   .obtain rfl:k=n:=by omega
    have HWF:Hid (rs.take k=rs):=by have:=HL.out;show _=_;rw[this];exact Be
    rw[HWF.out]at own;go_wp2;refine Ae (v:=U #[I J 0,Z a' m c']) (by simp[results,Tryz.results13,go_sem,x0,x1]) rfl ⟨a',m,c',rfl,by omega,?_,?_⟩
    .refine aQ (base:=w1.heap.size+1) (Bd (Bd own ?_ _) ?_ _) (by omega)
     .show w.heap.size<w1.heap.size+1;omega
     .show w.heap.size<w1.heap.size+1;omega
    .exact(hB.setCell (p:=⟨w.heap.size,0,O⟩) z' _).setCell (p:=⟨w.heap.size,1,O⟩) z' _
 .rw[jO HC.out (by simpa using h0)];clear HC;go_enter func13,ntmps13
  go_wp2_with fail
  refine(IA _ (h.below (kA _))).mono ?_;rintro e w1⟨rfl,b1⟩;have hR:=aR b1 (Ar w _);have b1:=aZ b1;have lz:=(Ab.1 hR).1;obtain⟨x0,x1,f0,f1⟩:=sA hR;go_wp2;exact Ae (v:=U #[I J c,Z O 0 0]) (by simp[results,Tryz.results13,go_sem,x0,x1]) rfl ⟨O,0,0,rfl,by omega,Aw _ _ _ _,(b1.setCell (p:=⟨w.heap.size,0,O⟩) z' _).setCell (p:=⟨w.heap.size,1,O⟩) z' _⟩
theorem aY4(a:Option Addr)(n cap:Nat)(rs:List Row)(w:World)(h:CellsAt w a (n*3) (rcells rs))(hn:n<=240):
  Calls prog 66 #[Z a n cap] w fun e w'=>∃a' m c',e=R' (Z a' m c')/\m<=240/\w'.ownsRow w.heap.size 86 3 (Z a' m c') m (rcells (cG rs))/\V' w w':=by
 have HL:=h.rlen;have o0:=kH w w.heap.size z';have b0:V' w (w.alloc (M #[] 86)):=(Aa _ _).alloc z' _;go_enter func66,ntmps66
 go_wp2;go_loopw [3,4] (fun q i wr=>∃(k m:Nat) (a':Option Addr) (c':Nat),k<=n/\m<=k/\i=I J k/\q=Z a' m c'/\wr.ownsRow w.heap.size 86 3 (Z a' m c') m (rcells (cG (rs.take k)))/\V' w wr) (fun _ i _=>n-(intOf i).toNat)
 case atStart=>exact⟨0,0,_,_,Ad _,z',rfl,rfl,by simpa[cG]using o0,b0⟩
 case round=>
  obtain⟨k,m,a',c',hk,hmk,rfl,rfl,own,hB⟩:=hrel;by_cases hlt:k<n
  .have hkl:k<rs.length:=by have:=HL.out;omega
   have HY:=hid (fun he=>qJ hkl he);have HN:=hid (fun he=>rZ hkl he);obtain⟨b,off,rfl,q0,q1,q2⟩:=(h.below hB).row hlt;have hbl:=aD q0;generalize rs.getD k Row.zero=r at*;obtain⟨rk,rv,rg⟩:=r;simp only at q0 q1 q2 HY HN;generalize cG (rs.take k)=zs at*;have hsum:m+1<=2097152:=by omega
   cases rg
   .replace HY:=hid (HY.out rfl);clear HN;have bA:∀o,V' wr (wr.alloc o):=fun o=>(Aa _ _).alloc z' _;have hwB:=hB.size;go_wp2_with(at_builtin;go_must (refine rP (.tmp 18) (.tmp 23) w.heap.size (Z a' m c') m zs 1 [⟨rk,rv,F'⟩] hsum (by omega) ?_ ?_ ?_ ?_ ?_ ?_ ?_;exact rfl;exact rfl;exact rfl;exact⟨_,_,rfl,lG (r:=⟨rk,rv,F'⟩) rfl⟩;exact aG own (bA _);(focus(simp;omega));intro a3 c3 w3 own3 gr3 at3))
    go_roundw;case rel=>refine⟨k+1,m+1,a3,c3,by omega,by omega,by go_num,rfl,by rw[HY.out];exact own3,?_⟩;exact(hB.alloc hB.size _).grown gr3 (by simp;omega) (fun g hg=>(aH own g hg).1)
    case measure=>simp[intOf];omega
   .replace HN:=hid (HN.out rfl);clear HY;go_wp2;go_roundw;case rel=>exact⟨k+1,m,a',c',by omega,by omega,by go_num,rfl,by rw[HN.out];exact own,hB⟩
    case measure=>simp[intOf];omega
  .obtain rfl:k=n:=by omega
   have HWF:Hid (rs.take k=rs):=by have:=HL.out;show _=_;rw[this];exact Be
   rw[HWF.out]at own;go_wp2;go_ret;exact⟨a',m,c',rfl,by omega,own,hB⟩
theorem aU7(a:Option Addr)(n cap:Nat)(rs:List Row)(w:World)(h:CellsAt w a (n*3) (rcells rs))(hn:n<=1048576):
  Calls prog 88 #[Z a n cap] w fun e w'=>∃a' m c',e=R' (U #[I J (jI rs).1,Z a' m c'])/\m<=1048576/\w'.ownsRow w.heap.size 86 3 (Z a' m c') m (rcells (jI rs).2)/\V' w w':=by
 have HL:=h.rlen;have kA:∀o,V' w (w.alloc o):=fun o=>(Aa _ _).alloc z' o;by_cases hbig:240<n
 .rw[jO (zP (by have:=HL.out;omega)) rfl];go_enter func88,ntmps88
  go_wp2;exact Ae (v:=U #[I J 2,Z O 0 0]) (by simp[results,Tryz.results88,go_sem]) rfl ⟨O,0,0,rfl,by omega,Aw _ _ _ _,kA _⟩
 have hn4:n<=240:=by omega
 have RI:=fun W hW=>bT6 a n cap rs W hW (by omega);have MI:=fun W hW=>aY4 a n cap rs W hW hn4;have HA:Hid ((dE rs !=0)=A'->jI rs=(dE rs,[])):=fun hf=>jO (zO (by have:=HL.out;omega) hf) hf;have HB:Hid (dE rs=0->(iT rs !=0)=A'->jI rs=(1,[])):=fun hf hr=>by
  refine jO ((nP (by have:=HL.out;omega) hf).trans ?_) rfl;rcases bT7 (p:=O) (aK1 hf)with h0|h0
  .have:iT rs=0:=h0;rw[this]at hr;cases hr
  .exact h0
 have HC:Hid (dE rs=0->(iT rs !=0)=F'->jI rs=(0,cG rs)):=fun hf hr=>by refine rH ((nP (by have:=HL.out;omega) hf).trans (by simpa using hr))
 clear hbig;generalize jI rs=X' at*;go_enter func88,ntmps88
 go_wp2;go_loopw [3] (fun i wr=>∃k:Nat,k<=n/\i=I J k/\Hid (dE rs=dE (rs.drop k))/\wr.heap[w.heap.size]? =Y (M #[I J 0,Z O 0 0] 40 (0,0))/\V' w wr) (fun i _=>n-(intOf i).toNat)
 case atStart=>exact⟨0,Ad _,rfl,rfl,Ar w _,kA _⟩
 case round=>
  obtain⟨k,hk,rfl,HH,hR,hB⟩:=hrel;obtain⟨x0,x1,f0,f1⟩:=sA hR;have hz:=aD x0;by_cases hlt:k<n
  .have hkl:k<rs.length:=by have:=HL.out;omega
   have HS:=hid (fun he=>HH.out.trans (aK0 hkl he));have HN:=hid (fun he=>HH.out.trans (aK2 hkl he));obtain⟨b,off,rfl,q0,q1,q2⟩:=(h.below hB).row hlt;have hbl:=aD q0;generalize rs.getD k Row.zero=r at*;obtain⟨rk,rv,rg⟩:=r;simp only[Row.fault]at q0 q1 q2 HS HN;have IF:=fun W=>mT rk rv rg W;cases hf:(dQ rk rv rg !=0)
   .replace HN:=hid (HN.out hf);clear HS HA HB HC;generalize dQ rk rv rg=c at*;go_wp2_with fail
    refine(IF _).mono ?_;rintro e w1⟨rfl,b1⟩;have hR1:=aR b1 hR;have bE:=hB.trans (b1.mono hB.size);go_wp2;go_roundw;case rel=>exact⟨k+1,by omega,by go_num,HN.out,hR1,bE⟩
    case measure=>simp[intOf];omega
   .replace HS:=hid (HS.out hf);have HZ:=hid (HA.out (by rw[HS.out];exact hf));rw[HS.out]at HZ;clear HN HS HA HB HC;generalize dQ rk rv rg=c at*;go_wp2_with fail
    refine(IF _).mono ?_;rintro e w1⟨rfl,b1⟩;have hR1:=aR b1 hR;obtain⟨x0,x1,f0,f1⟩:=sA hR1;have bE:=hB.trans (b1.mono hB.size);go_wp2;exact Ae (v:=U #[I J c,Z O 0 0]) (by simp[results,Tryz.results88,go_sem,x0,x1]) rfl ⟨O,0,0,by rw[HZ.out],by omega,by rw[HZ.out];exact Aw _ _ _ _,(bE.setCell (p:=⟨w.heap.size,0,O⟩) z' _).setCell (p:=⟨w.heap.size,1,O⟩) z' _⟩
  .obtain rfl:k=n:=by omega
   have HZ:=hid (HH.out.trans (aC9 (by have:=HL.out;omega)));cases hr:(iT rs !=0)
   .have HX:=hid (HC.out HZ.out hr);clear HA HB HC HH;generalize iT rs=c at*;go_wp2_with fail
    refine(RI _ (h.below hB)).mono ?_;rintro e w1⟨rfl,b1⟩;have hR1:=aR b1 hR;have bE:=hB.trans (b1.mono hB.size);go_wp2_with fail
    refine(MI _ (h.below bE)).mono ?_;rintro e w2⟨a2,m2,c2,rfl,hm2,own2,b2⟩;have hR2:=aR b2 hR1;obtain⟨x0,x1,f0,f1⟩:=sA hR2;have lz:=aD (sA hR1).1;have bF:=bE.trans (b2.mono bE.size);go_wp2;refine Ae (v:=U #[I J 0,Z a2 m2 c2]) (by simp[results,Tryz.results88,go_sem,x0,x1]) rfl ⟨a2,m2,c2,by rw[HX.out],by omega,?_,(bF.setCell (p:=⟨w.heap.size,0,O⟩) z' _).setCell (p:=⟨w.heap.size,1,O⟩) z' _⟩;rw[HX.out];exact aQ (Bd (Bd own2 lz _) lz _) (Nat.le_of_lt lz)
   .have HX:=hid (HB.out HZ.out hr);clear HA HB HC HH;generalize iT rs=c at*;go_wp2_with fail
    refine(RI _ (h.below hB)).mono ?_;rintro e w1⟨rfl,b1⟩;have hR1:=aR b1 hR;obtain⟨x0,x1,f0,f1⟩:=sA hR1;have bE:=hB.trans (b1.mono hB.size);go_wp2;exact Ae (v:=U #[I J 1,Z O 0 0]) (by simp[results,Tryz.results88,go_sem,x0,x1]) rfl ⟨O,0,0,by rw[HX.out],by omega,by rw[HX.out];exact Aw _ _ _ _,(bE.setCell (p:=⟨w.heap.size,0,O⟩) z' _).setCell (p:=⟨w.heap.size,1,O⟩) z' _⟩
theorem cJ8{t r:Int}(hf:∀x,f x<=r):∀(es:List (Int×Int)) (s:Int),s<=r->es.foldl (nH f t) s<=r:=by
 intro es;induction es with
 |nil=>exact fun s h=>h
 |cons e es ih=>
  intro s h;rw[List.foldl_cons];apply ih;unfold nH;split
  .exact hf _
  .exact h
theorem aG0(es:List (Int×Int))(f:Int->Int):∀k x,(fR es f k x).length=k:=by
 intro k;induction k with
 |zero=>intro x;rfl
 |succ k ih=>intro x;show(_::_).length=_;rw[List.length_cons,ih]
theorem bP9(a:Option Addr)(n cap:Nat)(es:List Hold)(t:Int)(w:World)(h:CellsAt w a (n*2) (hcells es))(hn:n<=400)(hin:∀k,k<n->1<=(es.getD k Hold.zero).t/\(es.getD k Hold.zero).t<=999/\1<=(es.getD k Hold.zero).m/\(es.getD k Hold.zero).m<=999)(ht:1<=t/\t<=999):
  Calls prog 182 #[Z a n cap,I J t] w fun e w'=>∃a' m c',e=R' (Z a' m c')/\m<=401/\m=(fP (prE es) t).length/\w'.ownsRow w.heap.size 2 1 (Z a' m c') m (icells (fP (prE es) t))/\V' w w':=by
 have HL:=h.hlen;have HLp:Hid ((prE es).length=n):=by show _=_;simp[prE];exact HL.out.symm
 have IF:=cW9 a n cap es t w h hn hin ht;obtain⟨f,HF⟩:∃f,Hid (dD (prE es) t n=f):=⟨_,rfl⟩
 have HC:Hid (fP (prE es) t=if(prE es).foldl (nH f t) (-1)<0 then []else t::fR (prE es) f ((prE es).foldl (nH f t) (-1)).toNat t):=by show _=_;unfold fP;rw[HLp.out,HF.out];rfl
 have HI:Hid (∀x,f x<=(n:Int)):=by intro x;have:=(aL0 (prE es) t n).high x;rw[HF.out]at this;exact this
 rw[HF.out]at IF;clear HF;have HW:=hid (aG0 (prE es) f);obtain⟨i0,hi0,hz0,hz1,hz2⟩:=Bz Tryz.info2;go_enter func182,ntmps182
 go_wp2_with fail
 refine IF.mono ?_;rintro e w1⟨g,c1,rfl,own1,b1⟩;have hF:=aO own1;have hb:=h.below b1;clear IF own1;go_wp2;go_loop [6,7] (fun q i=>∃k:Nat,k<=n/\i=I J k/\q=I J (((prE es).take k).foldl (nH f t) (-1))) (fun _ i=>n-(intOf i).toNat)
 case atStart=>exact⟨0,Ad _,rfl,rfl⟩
 case round=>
  obtain⟨k,hk,rfl,rfl⟩:=hrel;by_cases hlt:k<n
  .have hkl:k<es.length:=by have:=HL.out;omega
   have HT:=hid (zI hkl (nH f t) (-1));have hb4:=hin k hlt;obtain⟨b,off,rfl,q0,q1⟩:=hb.hold hlt;have hbl:=aD q0;generalize es.getD k Hold.zero=ed at*;obtain⟨rt,rm⟩:=ed;simp only at q0 q1 HT hb4;obtain⟨xm,rfl⟩:∃y:Nat,rm=(y:Int):=⟨rm.toNat,by omega⟩
   have hxm:xm<1000:=by omega
   obtain⟨b2,o2,e2,m0⟩:=hF.int (k:=xm) (by omega);cases e2;rw[Al,tE f hxm]at m0;have hgz:=aD m0;generalize((prE es).take k).foldl (nH f t) (-1)=B at*;have HS:Hid (nH f t B (rt,(xm:Int))=if rt=t/\0<=f xm/\(B<0\/f xm<B)then f xm else B):=rfl;generalize f xm=fm at*;clear hb4 HW HI HC;by_cases h1:rt=t
   .have d1:(rt==t)=A':=by simpa using h1
    by_cases h2:0<=fm
    .by_cases h3:B<0
     .rw[if_pos ⟨h1,h2,.inl h3⟩]at HS;clear h1;go_wp2;go_round
      case rel=>exact⟨k+1,by omega,by go_num,by rw[HT.out,HS.out]⟩
      case measure=>simp[intOf];omega
     .by_cases h4:fm<B
      .rw[if_pos ⟨h1,h2,.inr h4⟩]at HS;clear h1;go_wp2;go_round
       case rel=>exact⟨k+1,by omega,by go_num,by rw[HT.out,HS.out]⟩
       case measure=>simp[intOf];omega
      .rw[if_neg (fun hh=>hh.2.2.elim h3 h4)]at HS;clear h1;go_wp2;go_round
       case rel=>exact⟨k+1,by omega,by go_num,by rw[HT.out,HS.out]⟩
       case measure=>simp[intOf];omega
    .rw[if_neg (fun hh=>h2 hh.2.1)]at HS;clear h1;go_wp2;go_round
     case rel=>exact⟨k+1,by omega,by go_num,by rw[HT.out,HS.out]⟩
     case measure=>simp[intOf];omega
   .have d1:(rt==t)=F':=by simpa using h1
    rw[if_neg (fun hh=>h1 hh.1)]at HS;clear h1;go_wp2;go_round
    case rel=>exact⟨k+1,by omega,by go_num,by rw[HT.out,HS.out]⟩
    case measure=>simp[intOf];omega
  .obtain rfl:k=n:=by omega
   rw[Bb (by have:=HLp.out;omega)];have hsz:=cJ8 (t:=t) HI.out (prE es) (-1) (by omega);generalize(prE es).foldl (nH f t) (-1)=sz at*;by_cases hneg:sz<0
   .rw[if_pos hneg]at HC;go_wp2;go_ret;exact⟨O,0,0,rfl,by omega,by rw[HC.out];rfl,by rw[HC.out];exact Aw _ _ _ _,b1⟩
   .obtain⟨s,rfl⟩:∃s:Nat,sz=(s:Int):=⟨sz.toNat,by omega⟩
    rw[if_neg hneg,Int.toNat_natCast]at HC;have hs4:s<=400:=by omega
    clear hsz HI;have oL:(w1.alloc (M #[I J t] 2)).ownsRow w1.heap.size 2 1 (Z (Y ⟨w1.heap.size,0,O⟩) 1 1) 1 (icells [t]):=Cr w1 #[I J t] 1 z' (by unfold maxLen;omega) rfl;have bL:V' w1 (w1.alloc (M #[I J t] 2)):=(Aa _ _).alloc z' _;go_wp2;go_loopw [9,10,11] (fun q at_ kk wx=>∃(j:Nat) (x:Int) (a':Option Addr) (c' m:Nat) (pre:List Int),j+m=s+1/\q=Z a' m c'/\at_=I J x/\kk=I J j/\wx.ownsRow w1.heap.size 2 1 (Z a' m c') m (icells pre)/\Hid (pre++fR (prE es) f j x=t::fR (prE es) f s t)/\V' w1 wx) (fun _ _ kk _=>(intOf kk).toNat)
    case atStart=>exact⟨s,t,_,_,1,[t],by omega,rfl,rfl,rfl,oL,rfl,bL⟩
    case round=>
     clear oL bL;obtain⟨j,x,a',c',m,pre,hjm,rfl,rfl,rfl,own2,HP,hB2⟩:=hrel;cases j with
     |zero=>
      have HP':Hid (pre=t::fR (prE es) f s t):=by have:=HP.out;rw[show fR (prE es) f 0 x=[]from rfl,Dz]at this;exact this
      go_wp2;go_ret;refine⟨a',m,c',rfl,by omega,?_,?_,b1.trans (hB2.mono b1.size)⟩
      .rw[HC.out,List.length_cons,HW.out];omega
      .rw[HC.out,<-HP'.out];exact aQ own2 b1.size
     |succ j=>
      have IN:=cG8 a k cap es x ((j:Int)+1) g c1 f wr (hb.below hB2) hn hin (hF.below hB2);have HP':Hid ((pre++[jJ (prE es) f x ((j:Int)+1)])++fR (prE es) f j (jJ (prE es) f x ((j:Int)+1))=t::fR (prE es) f s t):=by have:=HP.out;rw[show fR (prE es) f (j+1) x=jJ (prE es) f x ((j:Int)+1)::fR (prE es) f j (jJ (prE es) f x ((j:Int)+1))from rfl]at this;show _=_;rw[Bw];exact this
      clear HP;generalize jJ (prE es) f x ((j:Int)+1)=y at*;have hj4:j<=400:=by omega
      go_wp2_with fail
      refine IN.mono ?_;rintro e w2⟨rfl,rfl⟩;clear IN;have kN:V' w2 (w2.alloc (M #[I J y] 2)):=(Aa _ _).alloc z' _;have oN:=aG own2 kN;have hb3:w1.heap.size<=(w2.alloc (M #[I J y] 2)).heap.size:=by have:=hB2.size;simp;omega
      have hsum:m+1<=4194304:=by omega
      go_wp2_with(at_builtin;go_must (refine bM underlying27 underlying27 hi0 hz0 hz1 hz2 rfl (by omega) (by omega) (.tmp 65) (.tmp 67) ?_ ?_ w1.heap.size (Z a' m c') m (icells pre) _ 1 1 (icells [y]) ?_ ?_ oN (cR3 w2 y 2) (dC [y]) hsum hb3 ?_;exact rfl;exact rfl;exact rfl;exact rfl;intro a5 c5 w5 own5 gr5 at5))
      go_roundw;case rel=>rw[<-dW]at own5;have bN:=hB2.trans (kN.mono hB2.size);exact⟨j,y,a5,c5,m+1,pre++[y],by omega,rfl,rfl,by go_num,own5,HP'.out,bN.grown gr5 bN.size (fun g hg=>(aH own2 g hg).1)⟩
      case measure=>simp[intOf]
theorem OwnV.store3{m:Nat}(h:OwnV w B lv m vs ls){o:Nat}(hq:q<B)(u:Value):OwnV (w.setCell ⟨q,o,O⟩ u) B lv m vs ls:=
 h.store (fun g hg=>by have:=(aH h.2.1 g hg).1;omega) (fun i x g hx hg=>by have:=(h.lt i x g hx hg).1;omega)
theorem OwnU.low{m p:Nat}{rv:Value}{rs:List Rec}(h:OwnU w B lv m ls rv p rs){o:Nat}(hq:q<B)(u:Value):OwnU (w.setCell ⟨q,o,O⟩ u) B lv m ls rv p rs:=by obtain⟨vs,lo,hi,h1,h2,h3,h4,h5⟩:=h;exact⟨vs,lo,hi,h1.store3 hq u,Bd h2 (a:=⟨q,o,O⟩) hq u,h3,by simpa using h4,h5⟩
theorem dD7{R:Nat}(h:w.heap[R]? =Y (M #[u0,u1,u2] t (0,0)))(v1:Value):(w.setCell ⟨R,1,O⟩ v1).heap[R]? =Y (M #[u0,v1,u2] t (0,0)):=by have h1:=Ah (i:=1) h v1;simpa using h1
theorem aC7(h:cY bs=0):bs.length<=40/\eN bs=0:=by
 unfold cY at h;split at h
 .cases h
 .exact⟨by omega,h⟩
theorem bB0{b:Bf}(h:eN (b::bs)=0):b.fault=0/\eN bs=0:=by
 unfold eN at h;split at h
 .rename_i hc;rw[h]at hc;simp at hc
 .rename_i hc;exact⟨by simpa using hc,h⟩
theorem rV{b:Bf}(h:b.fault=0):inB b.k 0 99=A'/\inB b.v 0 9999=A':=by
 unfold Bf.fault at h;split at h
 .cases h
 .rename_i hc
  simpa using hc
theorem fT{x lo hi:Int}(h:inB x lo hi=A'):lo<=x/\x<=hi:=by unfold inB at h;simpa using h
theorem vL{kd:Int}{b:Bf}(hkd:kd=2\/kd=3)(hg:aL ls=0)(ht:inB tx 1 999=A')(hb:b.fault=0):(oG kd ls tx b.k b.h b.v).Fit:=by
 obtain⟨h1,h2⟩:=rV hb;have h3:=(rV (cP4 hg h1)).2;refine⟨?_,fT ht,fT h1,fT h3,fT h2,fun hs=>?_⟩
 .show 1<=kd/\kd<=5;omega
 .have:lL kd=A':=by rcases hkd with rfl|rfl<;>rfl
  rw[show(oG kd ls tx b.k b.h b.v).kd=kd from rfl,this]at hs;cases hs
theorem bA8(hg:aL ls=0)(ht:inB tx 1 999=A'):∀(bs:List Bf),eN bs=0->∀r∈(cZ tx ls bs).2.2,r.Fit:=by
 intro bs;induction bs with
 |nil=>intro _ r hr;cases hr
 |cons b bs ih=>
  intro hb r hr;obtain⟨h1,h2⟩:=bB0 hb;have hk:=(rT (tx:=tx) hg bs).2.2;have hi:=ih h2;have e:cZ tx ls (b::bs)=fS tx (cZ tx ls bs) b:=rfl;rw[e]at hr;generalize cZ tx ls bs=st at*;obtain⟨c,ls',rs⟩:=st;unfold fS at hr;simp only at hr hk hi;split at hr
  .exact hi r hr
  .rename_i hc
   have hc0:c=0:=by simpa using hc
   split at hr
   .cases hr
   .rcases Aj.1 hr with h|h
    .exact hi r h
    .rw[Cp.1 h];exact vL (.inr rfl) (hk hc0) ht h1
theorem xP{ls:List Lock}{N:Nat}(h:∀l∈ls,l.hs.length+l.qs.length<=N):dS ls<=(N+1)*ls.length:=by
 induction ls with
 |nil=>simp[dS,nE]
 |cons l ls ih=>have h1:=ih (fun x hx=>h x (by simp[hx]));have h2:=h l (by simp);unfold dS nE at*;simp only[Ef,List.sum_cons,List.length_cons,Nat.mul_add,Fb];omega
theorem qZ{ls:List Lock}(h:aT ls=0){i:Nat}(hi:i<ls.length):(aI ls i).hs.length<=20/\(aI ls i).qs.length<=20/\bO (aI ls i).hs=A'/\bO (aI ls i).qs=A'/\cS (aI ls i).qs=F':=by have:=fU (iM ((eT h).1 i hi)).2.2.2;exact⟨this.1,this.2.1,this.2.2.1,this.2.2.2.1,this.2.2.2.2.2.1⟩
theorem aL9(l:Lock)(t:Int):(fX l t).hs.length+(fX l t).qs.length<=l.hs.length+l.qs.length:=by have h1:=(bV9 (aJ l.hs t) (aJ l.qs t)).1;have h2:=jV l.hs t;have h3:=jV l.qs t;unfold fX;simp only;omega
theorem aL8{ls:List Lock}(h:aT ls=0)(t:Int):∀l∈dN ls t,l.hs.length+l.qs.length<=40:=by
 intro l hl;unfold dN at hl;rw[Db]at hl;obtain⟨l0,hl0,rfl⟩:=hl;obtain⟨i,hi,rfl⟩:=Co hl0;have h1:=qZ h hi;have e:aI ls i=ls[i]:=by simp[aI,List.getD,hi]
 rw[e]at h1;have:=aL9 ls[i] t;omega
theorem tD{ls:List Lock}(h:aT ls=0)(t:Int):dS ((dN ls t).filter iF)<=5000:=by
 have h1:=xP (ls:=(dN ls t).filter iF) (N:=40) (fun l hl=>aL8 h t l (By.1 hl).1);have h2:=nC h;have h3:(dN ls t).length=ls.length:=by simp[dN]
 have h4:=Dt iF (dN ls t);omega
theorem iO{u3:Value}(h:W.heap[g]? =Y (M #[u0,u1,u2,u3] t (0,0))):
  (W.cell? ⟨g,0,O⟩=Y u0/\W.cell? ⟨g,1,O⟩=Y u1/\W.cell? ⟨g,2,O⟩=Y u2/\W.cell? ⟨g,3,O⟩=Y u3)/\(W.frozen? ⟨g,0,O⟩=F'/\W.frozen? ⟨g,1,O⟩=F'/\W.frozen? ⟨g,2,O⟩=F'/\W.frozen? ⟨g,3,O⟩=F'):=
 ⟨⟨C' h,C' h,C' h,C' h⟩,qD h,qD h,qD h,qD h⟩
theorem iK(hb:Below B w w')(hB:b<B)(h:w.heap[b]? =Y o):w'.heap[b]? =Y o:=(hb.block b hB).trans h
theorem xZ(a:Option Addr)(n cap:Nat)(t:Int)(ls:List Lock)(w:World)(h:LkAt w a n ls)(hs:dS ls<=1048576):
  Calls prog 173 #[Z a n cap,I J t] w fun e w'=>e=R' (X (gQ ls t ls.length))/\V' w w':=by
 have HL:=h.len;have hn:n<=1048576:=by unfold dS at hs;have:=HL.out;omega
 go_enter func173,ntmps173
 go_wp2;go_loopw [5] (fun i wr=>∃k:Nat,k<=n/\i=I J k/\Hid (gQ ls t k=F')/\V' w wr) (fun i _=>n-(intOf i).toNat)
 case atStart=>exact⟨0,Ad _,rfl,rfl,Aa _ _⟩
 case round=>
  obtain⟨k,hk,rfl,HA,hB⟩:=hrel;by_cases hlt:k<n
  .have hkl:k<ls.length:=by have:=HL.out;omega
   have HSz:=hid (lF hs k);have HS:=hid (aM2 (t:=t) hkl);have HZ:=hid (fun he=>aH0 (ls:=ls) (t:=t) (k:=k+1) he);obtain⟨b,off,ah,nh,ch,aq,nq,cq,rfl,c0,c1,c2,h3,h4,_,_,_,_⟩:=(h.below hB).lock hlt;have hQ3:=h3.hlen;have hQ4:=h4.hlen;have hnq:nq<=1048576:=by have:=HSz.out;have:=hQ4.out;omega
   have hnh:nh<=1048576:=by have:=HSz.out;have:=hQ3.out;omega
   have hbl:=aD c0;have I1:=fun W hW=>fZ ah nh ch t (aI ls k).hs W hW hnh;have I2:=fun W hW=>fZ aq nq cq t (aI ls k).qs W hW hnq;clear HSz hQ4 hQ3;generalize aI ls k=l at*;obtain⟨r,lhs,lqs⟩:=l;simp only at c0 h3 h4 I1 I2 HS;have HA0:=HA.out;rcases eI lhs t with⟨_,HAT,_⟩|⟨j,hj,HAT,_,_⟩
   .rw[HAT]at I1;rcases eI lqs t with⟨_,HQT,_⟩|⟨j,hj,HQT,_,_⟩
    .rw[HQT]at I2;have HN:Hid (gQ ls t (k+1)=F'):=by show _=_;rw[HS.out,HA0,HAT,HQT];rfl
     clear HS HZ HAT HQT HA0 HA;go_wp2_with fail
     refine(I1 _ h3).mono ?_;rintro e w9⟨rfl,hw9⟩;obtain rfl:=hw9.symm;go_wp2_with fail
     refine(I2 _ h4).mono ?_;rintro e w9⟨rfl,hw9⟩;obtain rfl:=hw9.symm;go_wp2;go_round
     case rel=>exact⟨k+1,by omega,by go_num,HN,hB⟩
     case measure=>simp[intOf];omega
    .rw[HQT]at I2;have HY:Hid (gQ ls t ls.length=A'):=HZ.out (by rw[HS.out,HA0,HAT,HQT];simp);clear HS HZ HAT HQT HA0 HA;go_wp2_with fail
     refine(I1 _ h3).mono ?_;rintro e w9⟨rfl,hw9⟩;obtain rfl:=hw9.symm;go_wp2_with fail
     refine(I2 _ h4).mono ?_;rintro e w9⟨rfl,hw9⟩;obtain rfl:=hw9.symm;go_wp2;go_ret;exact⟨by(rw[HY.out]);(try rfl),hB⟩
   .rw[HAT]at I1;have HY:Hid (gQ ls t ls.length=A'):=HZ.out (by rw[HS.out,HA0,HAT];simp);clear HS HZ HAT HA0 HA I2;go_wp2_with fail
    refine(I1 _ h3).mono ?_;rintro e w9⟨rfl,hw9⟩;obtain rfl:=hw9.symm;go_wp2;go_ret;exact⟨by(rw[HY.out]);(try rfl),hB⟩
  .obtain rfl:k=n:=by omega
   have HE:Hid (gQ ls t ls.length=F'):=by rw[<-HL.out];exact HA
   go_wp2;go_ret;exact⟨by(rw[HE.out]);(try rfl),hB⟩
def aH5(t:Tx):Int:=if t.st<3 then 5+11*(t.un.length:Int)else 0
def gF(e:Eng)(k:Nat):Int:=4000-((e.su.length:Int)+(e.lo.length:Int))-((e.tx.take k).map aH5).sum
def vK(e:Eng):Int:=gF e e.tx.length
theorem aO7(h:k<e.tx.length):gF e (k+1)=gF e k-aH5 (aS e.tx k):=by unfold gF;rw[Du,Ao h,Dp,List.sum_append];simp[aS,List.getD,h];omega
theorem bZ9(t:Tx)(n:Nat)(h:n=t.un.length):aH5 t=if t.st<3 then 5+11*(n:Int)else 0:=by subst h;rfl
theorem yB(b:Nat)(s:EgS)(e:Eng)(w:World)(h:EgP w b s e):
  Calls prog 105 #[.pointer (Y ⟨b,0,O⟩)] w fun r w'=>r=R' (I J (vK e))/\V' w w':=by
 have HL:=h.2.tx.len;have h1:=h.2.n5;have h2:=h.2.n6;have hn:=h.2.n4;have HR0:Hid (gF e 0=4000-((s.sn:Int)+(s.on:Int))):=by show _=_;unfold gF;have e1:=h.2.su.len;have e2:=h.2.lo.len;simp[<-e1.out,<-e2.out]
 obtain⟨x0,x1,x2,x3,x4,x5,x6,x7,x8,x9⟩:=h.all;have hbl:=h.lt;have hw1:IntKind.i64.wrap ((s.sn:Int)+(s.on:Int))=(s.sn:Int)+(s.on:Int):=Br _ ⟨by omega,by omega⟩;have hw2:IntKind.i64.wrap (4000-((s.sn:Int)+(s.on:Int)))=4000-((s.sn:Int)+(s.on:Int)):=Br _ ⟨by omega,by omega⟩;go_enter func105,ntmps105
 go_wp2;go_quiet (fail)
 go_wp2;go_loopw [3,4] (fun q i wr=>∃k:Nat,k<=s.tn/\i=I J k/\q=I J (gF e k)/\Hid (-8388608-(k:Int)*12582912<=gF e k/\gF e k<=4000)/\V' w wr) (fun _ i _=>s.tn-(intOf i).toNat)
 case atStart=>exact⟨0,Ad _,rfl,by rw[HR0.out];(try rfl),hid (by rw[HR0.out];constructor<;>omega),Cj (Aa _ _) _⟩
 case round=>
  obtain⟨k,hk,rfl,rfl,HA,hB⟩:=hrel;have x3:=keep_cell hB x3;have hbl:b<wr.heap.size:=aD x3;by_cases hlt:k<s.tn
  .have hkl:k<e.tx.length:=by have:=HL.out;omega
   have HS:=hid (aO7 hkl);obtain⟨g,off,au,nu,cu,hta,t0,t1,t2,t3,t4,t5,t6,t7,hU,hnu⟩:=(h.2.tx.below hB).txn hlt;have HU:=hU.bflen;rw[hta]at x3;have hg:=aD t0;have HC:=hid (bZ9 (aS e.tx k) nu HU.out);generalize hc:aH5 (aS e.tx k)=cst at*;generalize aS e.tx k=tt at*;obtain⟨tid,tsy,tst,tun,twk,twa,twb,twv⟩:=tt;simp only at t0 t1 t2 t3 t4 t5 t6 t7 HC;have hA1:=HA.out.1;have hA2:=HA.out.2;by_cases hst:tst<3
   .have HC':Hid (cst=5+11*(nu:Int)):=by show _=_;rw[HC.out,if_pos hst]
    have hw3:IntKind.i64.wrap (gF e k-5)=gF e k-5:=Br _ ⟨by omega,by omega⟩;have hw4:IntKind.i64.wrap (11*(nu:Int))=11*(nu:Int):=Br _ ⟨by omega,by omega⟩;have hw5:IntKind.i64.wrap (gF e k-5-11*(nu:Int))=gF e k-5-11*(nu:Int):=Br _ ⟨by omega,by omega⟩;clear HC;go_wp2;go_round
    case rel=>exact⟨k+1,by omega,by go_num,by rw[HS.out,HC'.out];congr 1;omega,hid (by rw[HS.out,HC'.out];constructor<;>omega),hB⟩
    case measure=>simp[intOf];omega
   .have HC':Hid (cst=0):=by show _=_;rw[HC.out,if_neg hst]
    clear HC;go_wp2;go_round
    case rel=>exact⟨k+1,by omega,by go_num,by rw[HS.out,HC'.out];congr 1;omega,hid (by rw[HS.out,HC'.out];constructor<;>omega),hB⟩
    case measure=>simp[intOf];omega
  .obtain rfl:k=s.tn:=by omega
   have HE:Hid (vK e=gF e s.tn):=by show _=_;unfold vK;rw[<-HL.out]
   go_wp2;go_ret;exact⟨by rw[HE.out];(try rfl),hB⟩
def Ch.KnownH(e:Eng)(hs:List Hold)(n:Nat):Prop:=∀i,i<n->isT e (hs.getD i Hold.zero).t=A'
def Ch.KnownL(e:Eng)(k:Nat):Prop:=∀j,j<k->KnownH e (aI e.lk j).hs (aI e.lk j).hs.length/\KnownH e (aI e.lk j).qs (aI e.lk j).qs.length
theorem Ch.KnownH.step(h:KnownH e hs n)(h1:isT e (hs.getD n Hold.zero).t=A'):KnownH e hs (n+1):=by
 intro i hi;rcases Nat.lt_or_eq_of_le (Nat.le_of_lt_succ hi)with h2|rfl
 .exact h i h2
 .exact h1
theorem Ch.KnownL.step(h:KnownL e k)(h1:KnownH e (aI e.lk k).hs (aI e.lk k).hs.length)(h2:KnownH e (aI e.lk k).qs (aI e.lk k).qs.length):KnownL e (k+1):=by
 intro i hi;rcases Nat.lt_or_eq_of_le (Nat.le_of_lt_succ hi)with h3|rfl
 .exact h i h3
 .exact⟨h1,h2⟩
theorem bM6(b:Nat)(s:EgS)(e:Eng)(w:World)(h:EgP w b s e):
  Calls prog 145 #[.pointer (Y ⟨b,0,O⟩)] w fun r w'=>(∃v,r=R' (X v)/\(v=A'->KnownL e e.lk.length))/\w'=w:=by
 have HL:=h.2.lk.len;have hz:=h.2.n3;have hn:s.kn<=1048576:=by unfold dS at hz;have:=HL.out;omega
 obtain⟨x0,x1,x2,x3,x4,x5,x6,x7,x8,x9⟩:=h.all;have hbl:=h.lt;clear x0 x1 x3 x4 x5 x6 x7 x8 x9;go_enter func145,ntmps145
 go_wp2;go_loop [3] (fun i=>∃k:Nat,k<=s.kn/\i=I J k/\Hid (KnownL e k)) (fun i=>s.kn-(intOf i).toNat)
 case atStart=>exact⟨0,Ad _,rfl,hid (fun j hj=>by omega)⟩
 case round=>
  obtain⟨k,hk,rfl,HA⟩:=hrel;by_cases hlt:k<s.kn
  .have hkl:k<e.lk.length:=by have:=HL.out;omega
   have HSz:=hid (lF hz k);have HN:=hid (fun a b=>KnownL.step HA.out a b);obtain⟨g,off,ah,nh,ch,aq,nq,cq,hka,c0,c1,c2,h3,h4,_,_,_,_⟩:=h.2.lk.lock hlt;have x2':=x2;rw[hka]at x2';have hQ3:=h3.hlen;have hQ4:=h4.hlen;have hnq:nq<=1048576:=by have:=HSz.out;have:=hQ4.out;omega
   have hnh:nh<=1048576:=by have:=HSz.out;have:=hQ3.out;omega
   have hgl:=aD c0;clear HSz x2;generalize hl:aI e.lk k=l at*;obtain⟨r,lhs,lqs⟩:=l;simp only at c0 h3 h4 HN hQ3 hQ4;clear hl;go_wp2;go_loop [4] (fun i=>∃j:Nat,j<=nh/\i=I J j/\Hid (KnownH e lhs j)) (fun i=>nh-(intOf i).toNat)
   case atStart=>exact⟨0,Ad _,rfl,hid (fun i' hi'=>by omega)⟩
   case round=>
    obtain⟨j,hj,rfl,HJ⟩:=hrel;by_cases hjt:j<nh
    .obtain⟨o,of,hao,q0,q1⟩:=h3.hold hjt;have hol:=aD q0;have II:=fun W hW=>oP b s e (lhs.getD j Hold.zero).t W hW;have HP:=hid (fun h1=>KnownH.step HJ.out h1);generalize lhs.getD j Hold.zero=p at*;obtain⟨pt,pm⟩:=p;simp only at q0 q1 II HP;rw[hao]at c1;cases hv:isT e pt
     .rw[hv]at II;go_wp2_with fail
      refine(II _ h).mono ?_;rintro r' w1⟨rfl,hw1⟩;obtain rfl:=hw1.symm;go_wp2;go_ret;exact⟨⟨_,rfl,fun hh=>absurd hh (by simp)⟩,rfl⟩
     .rw[hv]at II;go_wp2_with fail
      refine(II _ h).mono ?_;rintro r' w1⟨rfl,hw1⟩;obtain rfl:=hw1.symm;go_wp2;go_round
      case rel=>exact⟨j+1,by omega,by go_num,hid (HP.out hv)⟩
      case measure=>simp[intOf];omega
    .obtain rfl:j=nh:=by omega
     have HJ1:=HJ;clear HJ;go_wp2;go_loop [5] (fun i=>∃j:Nat,j<=nq/\i=I J j/\Hid (KnownH e lqs j)) (fun i=>nq-(intOf i).toNat)
     case atStart=>exact⟨0,Ad _,rfl,hid (fun i' hi'=>by omega)⟩
     case round=>
      obtain⟨j,hj,rfl,HJ⟩:=hrel;by_cases hjt:j<nq
      .obtain⟨o,of,hao,q0,q1⟩:=h4.hold hjt;have hol:=aD q0;have II:=fun W hW=>oP b s e (lqs.getD j Hold.zero).t W hW;have HP:=hid (fun h1=>KnownH.step HJ.out h1);generalize lqs.getD j Hold.zero=p at*;obtain⟨pt,pm⟩:=p;simp only at q0 q1 II HP;rw[hao]at c2;cases hv:isT e pt
       .rw[hv]at II;go_wp2_with fail
        refine(II _ h).mono ?_;rintro r' w1⟨rfl,hw1⟩;obtain rfl:=hw1.symm;go_wp2;go_ret;exact⟨⟨_,rfl,fun hh=>absurd hh (by simp)⟩,rfl⟩
       .rw[hv]at II;go_wp2_with fail
        refine(II _ h).mono ?_;rintro r' w1⟨rfl,hw1⟩;obtain rfl:=hw1.symm;go_wp2;go_round
        case rel=>exact⟨j+1,by omega,by go_num,hid (HP.out hv)⟩
        case measure=>simp[intOf];omega
      .obtain rfl:j=nq:=by omega
       have HJ2:=HJ;go_wp2;go_round
       case rel=>exact⟨k+1,by omega,by go_num,hid (HN.out (by rw[<-hQ3.out];exact HJ1.out) (by rw[<-hQ4.out];exact HJ2.out))⟩
       case measure=>simp[intOf];omega
  .obtain rfl:k=s.kn:=by omega
   have HE:Hid (KnownL e e.lk.length):=by rw[<-HL.out];exact HA
   go_wp2;go_ret;exact⟨Or.inr ⟨rfl,HE.out⟩,rfl⟩
end Go.Proofs.YtpbbokalojdooaaGreat
