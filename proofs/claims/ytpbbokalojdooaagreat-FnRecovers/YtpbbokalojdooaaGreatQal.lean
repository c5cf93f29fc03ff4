import Derived.Test.YtpbbokalojdooaaGreatQak
namespace Go.Proofs.YtpbbokalojdooaaGreat
open Go.RowKit Ch Go.Proofs.Tryz
set_option linter.unusedSimpArgs false
set_option linter.unusedVariables false
set_option maxRecDepth 20000
set_option maxHeartbeats 8000000
open Value renaming int->I,slice->Z,bool->X,agg->U
open IntKind renaming i64->J
open Option renaming none->O,some->Y
open Obj renaming cells->M
open Ending renaming returned->R'
open Bool renaming true->A',false->F'
variable {v:Int} {ls:List (List Row)} {es:List Hold} {zs:List Int} {rs:List Row} {vs xs:List Value} {B b k m q:Nat} {o:Obj} {a:Option Addr} {p:Option Int} {row:Option Nat} {e t:TypeId} {lv u0 u1:Value} {W w w':World}
def dB:List Row->Int
 |[]=>0
 |r::rs=>if r.fault !=0 then r.fault else dB rs
def dT(rs:List Row):Int:=if 240<rs.length then 2 else if dB rs !=0 then dB rs else iN rs
def cC(rs:List Row):List Row:=rs.filter (fun r=>!r.g)
def iR(rs:List Row):Int×List Row:=if dT rs !=0 then(dT rs,[])else(0,cC rs)
theorem aE9(h:k<rs.length):rs.drop k=rs.getD k Row.zero::rs.drop (k+1):=by rw[List.drop_eq_getElem_cons h];simp[List.getD,h]
theorem aJ4(h:k<rs.length)(hf:((rs.getD k Row.zero).fault !=0)=A'):dB (rs.drop k)=(rs.getD k Row.zero).fault:=by rw[aE9 h,dB,if_pos hf]
theorem aJ6(h:k<rs.length)(hf:((rs.getD k Row.zero).fault !=0)=F'):dB (rs.drop k)=dB (rs.drop (k+1)):=by rw[aE9 h,dB,if_neg (by rw[hf];exact Bool.false_ne_true)]
theorem aC1(h:rs.length<=k):dB (rs.drop k)=0:=by rw[List.drop_of_length_le h];rfl
theorem aJ5(h:dB rs=0):∀r∈rs,r.fault=0:=by
 induction rs with
 |nil=>intro b hb;cases hb
 |cons c bs ih=>
  rw[dB]at h;by_cases hc:(c.fault !=0)=A'
  .rw[if_pos hc]at h;simp[h]at hc
  .rw[if_neg hc]at h;intro b hb;rcases List.mem_cons.1 hb with rfl|hb
   .simpa using hc
   .exact ih h b hb
theorem aC2(h:∀r∈rs,r.fault=0):dB rs=0:=by
 induction rs with
 |nil=>rfl
 |cons c bs ih=>rw[dB,h c (List.mem_cons_self ..)];exact ih (fun r hr=>h r (List.mem_cons_of_mem _ hr))
theorem yN(h:dB rs=0)(k:Nat)(hk:k<rs.length):((rs.getD k Row.zero).fault !=0)=F':=by
 have:rs.getD k Row.zero∈rs:=by simp[List.getD,hk]
 rw[aJ5 h _ this];rfl
theorem bP3(h:∀r∈rs,r.fault=0):iO p rs=0\/iO p rs=1:=by
 induction rs generalizing p with
 |nil=>left;cases p<;>rfl
 |cons r rs ih=>
  rw[fY,h r (List.mem_cons_self ..)];by_cases hl:Ch.low p r.k=A'
  .right;simp[hl]
  .simp only[hl];exact ih (fun x hx=>h x (List.mem_cons_of_mem _ hx))
theorem zI(h:240<rs.length):dT rs=2:=by rw[dT,if_pos h]
theorem zH(h:¬240<rs.length)(hf:(dB rs !=0)=A'):dT rs=dB rs:=by rw[dT,if_neg h,if_pos hf]
theorem nA(h:¬240<rs.length)(hf:dB rs=0):dT rs=iN rs:=by rw[dT,if_neg h,hf];rfl
theorem jH{c:Int}(h:dT rs=c)(hc:(c !=0)=A'):iR rs=(c,[]):=by rw[iR,h,if_pos hc]
theorem oM(h:dT rs=0):iR rs=(0,cC rs):=by rw[iR,h];rfl
theorem pV(h:k<rs.length)(hin:(rs.getD k Row.zero).g=F'):cC (rs.take (k+1))=cC (rs.take k)++[rs.getD k Row.zero]:=by rw[bT rs Row.zero k h];generalize rs.getD k Row.zero=r at*;unfold cC;rw[List.filter_append];simp[hin]
theorem rD(h:k<rs.length)(hin:(rs.getD k Row.zero).g=A'):cC (rs.take (k+1))=cC (rs.take k):=by rw[bT rs Row.zero k h];generalize rs.getD k Row.zero=r at*;unfold cC;rw[List.filter_append];simp[hin]
theorem pU(rs:List Row):(cC rs).length<=rs.length:=List.length_filter_le _ _
theorem aD9(h:dT rs=0):rs.length<=240:=by
 unfold dT at h;by_cases hb:240<rs.length
 .rw[if_pos hb]at h;omega
 .omega
theorem rG{g:Nat}(h:W.heap[g]? =Y (M #[u0,u1] t (0,0))):
  W.cell? ⟨g,0,O⟩=Y u0/\W.cell? ⟨g,1,O⟩=Y u1/\W.frozen? ⟨g,0,O⟩=F'/\W.frozen? ⟨g,1,O⟩=F':=
 ⟨cell_of_row _ _ _ _ _ _ h,cell_of_row _ _ _ _ _ _ h,by simp[World.frozen?,h],by simp[World.frozen?,h]⟩
theorem vU{base:Nat}{size:Nat}{v:Value}{n:Nat}(h:w.ownsRow base e size v n xs)(hb:b<base):v.ownBlock≠Y b:=fun e=>by have:=(aG h b e).1;omega
theorem aR(hb:Below w.heap.size w w')(h:w.heap[b]? =Y o):w'.heap[b]? =Y o:=
 (hb.block b (Array.getElem?_eq_some_iff.1 h).1).trans h
theorem lQ(hg:w.grownBy w' row)(h:w.heap[b]? =Y o)(hne:row≠Y b):w'.heap[b]? =Y o:=
 (hg.block b (Array.getElem?_eq_some_iff.1 h).1 (fun e=>hne e.symm)).trans h
theorem bB6(a:Option Addr)(n cap:Nat)(rs:List Row)(w:World)(h:CellsAt w a (n*3) (rcells rs))(hn:n<=1048576):
  Calls prog 38 #[Z a n cap] w fun e w'=>e=R' (I J (dT rs))/\Below w.heap.size w w':=by
 have HL:=h.rlen;by_cases hbig:240<n
 .have HF:Hid (dT rs=2):=zI (by have:=HL.out;omega);go_enter func38,ntmps38
  go_wp2;go_ret;exact⟨cK HF.out.symm,u'⟩
 have hn4:n<=240:=by omega
 have HA:Hid ((dB rs !=0)=A'->dT rs=dB rs):=fun hf=>zH (by have:=HL.out;omega) hf;have HB:Hid (dB rs=0->dT rs=iN rs):=fun hf=>nA (by have:=HL.out;omega) hf;clear hbig;go_enter func38,ntmps38
 go_wp2;go_loopw [13] (fun i wr=>∃k:Nat,k<=n/\i=I J k/\Hid (dB rs=dB (rs.drop k))/\Below w.heap.size w wr) (fun i _=>n-(intOf i).toNat)
 case atStart=>exact⟨0,Nat.zero_le _,rfl,rfl,u'⟩
 case round=>
  obtain⟨k,hk,rfl,HH,hB⟩:=hrel;by_cases hlt:k<n
  .have hkl:k<rs.length:=by have:=HL.out;omega
   have HS:=hid (fun he=>HH.out.trans (aJ4 hkl he));have HN:=hid (fun he=>HH.out.trans (aJ6 hkl he));obtain⟨b,off,rfl,q0,q1,q2⟩:=(h.below hB).row hlt;have hbl:=aD q0;generalize rs.getD k Row.zero=r at*;obtain⟨rk,rv,rg⟩:=r;simp only[Row.fault]at q0 q1 q2 HS HN;have IF:=fun W=>bK1 rk rv rg W;cases hf:(dL rk rv rg !=0)
   .replace HN:=hid (HN.out hf);clear HS;generalize dL rk rv rg=c at*;go_wp2_with fail
    refine(IF _).mono ?_;rintro e w1⟨rfl,b1⟩;have bE:=hB.trans ((cL b1).mono hB.size);go_wp2;go_roundw;case rel=>exact⟨k+1,by omega,by go_num,HN.out,bE⟩
    case measure=>simp[intOf];omega
   .replace HS:=hid (HS.out hf);have HZ:=hid (HA.out (by rw[HS.out];exact hf));replace HZ:=hid (HZ.out.trans HS.out);clear HN HS;generalize dL rk rv rg=c at*;go_wp2_with fail
    refine(IF _).mono ?_;rintro e w1⟨rfl,b1⟩;have bE:=hB.trans ((cL b1).mono hB.size);go_wp2;go_ret;exact⟨cK HZ.out.symm,bE⟩
  .obtain rfl:k=n:=by omega
   have HZ:=hid (HH.out.trans (aC1 (by have:=HL.out;omega)));have HM:=hid (HB.out HZ.out);clear HA HB HH;go_wp2;go_loopw [25] (fun i wr=>∃j:Nat,j<=k/\i=I J j/\Hid (dT rs=iJ rs j)/\Below w.heap.size w wr) (fun i _=>k-(intOf i).toNat)
   case atStart=>exact⟨0,Nat.zero_le _,rfl,HM.out,hB⟩
   case round=>
    clear HM hB;obtain⟨j,hj,rfl,HR,hB⟩:=hrel;by_cases hlt:j<k
    .have hjl:j<rs.length:=by have:=HL.out;omega
     have hff:=hid (yN HZ.out j hjl);obtain⟨b,off,rfl,q0,q1,q2⟩:=(h.below hB).row hlt;have hbl:=aD q0;have bE:=hB.alloc hB.size (M #[I J (rs.getD j Row.zero).k,I J (rs.getD j Row.zero).v,X (rs.getD j Row.zero).g] 86);cases j with
     |zero=>
      have HN:=hid (HR.out.trans (vD rs hjl hff.out));clear hff;generalize rs.getD 0 Row.zero=r at*;obtain⟨rk,rv,rg⟩:=r;simp only[Nat.zero_mul,Nat.add_zero]at q0 q1 q2 bE;have hd:decide ((0:Int)<((0:Nat):Int))=F':=by simp
      go_wp2;go_quiet (fail)
      go_wp2;go_roundw;case rel=>exact⟨1,by omega,by go_num,HN.out,Go.below_drewN bE _⟩
      case measure=>simp[intOf];omega
     |succ i=>
      have HN:Hid (¬(rs.getD (i+1) Row.zero).k<=(rs.getD i Row.zero).k->dT rs=iJ rs (i+1+1)):=fun hl=>HR.out.trans (aE7 rs i hjl hff.out hl);have HM:Hid ((rs.getD (i+1) Row.zero).k<=(rs.getD i Row.zero).k->dT rs=1):=fun hl=>HR.out.trans (zO rs i hjl hff.out hl);obtain⟨b',off',hbo,hp0,_,_⟩:=(h.below hB).row (show i<k by omega);simp only[Option.some.injEq,Addr.mk.injEq,and_true]at hbo;obtain⟨rfl,rfl⟩:=hbo;clear hff HR;generalize rs.getD (i+1) Row.zero=r at*;generalize(rs.getD i Row.zero).k=pk at*;obtain⟨rk,rv,rg⟩:=r;simp only at q0 q1 q2 bE HN HM;have hd:(0:Int)<((i+1:Nat):Int):=by omega
      by_cases hle:rk<=pk
      .replace HM:=hid (HM.out hle);clear HN;go_wp2;go_quiet (fail)
       go_wp2;go_ret;exact⟨cK HM.out.symm,Go.below_drewN bE _⟩
      .replace HN:=hid (HN.out hle);clear HM;go_wp2;go_quiet (fail)
       go_wp2;go_roundw;case rel=>exact⟨i+1+1,by omega,by go_num,HN.out,Go.below_drewN bE _⟩
       case measure=>simp[intOf];omega
    .obtain rfl:j=k:=by omega
     have HE:=hid (HR.out.trans (zN _ _ (by have:=HL.out;omega)));go_wp2;go_ret;exact⟨cK HE.out.symm,hB⟩
theorem wT(a:Option Addr)(n cap:Nat)(rs:List Row)(w:World)(h:CellsAt w a (n*3) (rcells rs))(hn:n<=1048576):
  Calls prog 13 #[Z a n cap] w fun e w'=>∃a' m c',e=R' (U #[I J (iR rs).1,Z a' m c'])/\m<=1048576/\w'.ownsRow w.heap.size 86 3 (Z a' m c') m (rcells (iR rs).2)/\Below w.heap.size w w':=by
 have IA:=fun W hW=>bB6 a n cap rs W hW hn;have kA:∀o,Below w.heap.size w (w.alloc o):=fun o=>u'.alloc z' o;have HL:=h.rlen;obtain⟨c,HC⟩:∃c,Hid (dT rs=c):=⟨_,rfl⟩
 rw[HC.out]at IA;by_cases h0:c=0
 .subst h0;rw[oM HC.out];have hn4:n<=240:=by have:=aD9 HC.out;have:=HL.out;omega
  clear HC;go_enter func13,ntmps13
  go_wp2_with fail
  refine(IA _ (h.below (kA _))).mono ?_;rintro e w1⟨rfl,b1⟩;have hR:=aR b1 (heap_alloc_new w _);have b1:=cL b1;have lz:=(Array.getElem?_eq_some_iff.1 hR).1;obtain⟨x0,x1,f0,f1⟩:=rG hR;clear IA;go_wp2;go_loopw [15] (fun i wr=>∃(k m:Nat) (a':Option Addr) (c':Nat),k<=n/\m<=k/\i=I J k/\wr.heap[w.heap.size]? =Y (M #[I J 0,Z O 0 0] 40 (0,0))/\wr.heap[w1.heap.size]? =Y (M #[I J 0,Z a' m c'] 40 (0,0))/\wr.ownsRow (w1.heap.size+1) 86 3 (Z a' m c') m (rcells (cC (rs.take k)))/\w1.heap.size<wr.heap.size/\Below w.heap.size w wr) (fun i _=>n-(intOf i).toNat)
  case atStart=>exact⟨0,0,O,0,Nat.zero_le _,z',rfl,(Below.heap_alloc w1 _ _ lz).trans hR,heap_alloc_new w1 _,World.ownsRow_nil _ _ _ _,by simp,b1.alloc b1.size _⟩
  case round=>
   clear hR x0 x1 f0 f1;obtain⟨k,m,a',c',hk,hmk,rfl,hR,hX,own,hsz,hB⟩:=hrel;obtain⟨x0,x1,f0,f1⟩:=rG hR;obtain⟨y0,y1,g0,g1⟩:=rG hX;have lr:=(Array.getElem?_eq_some_iff.1 hR).1;by_cases hlt:k<n
   .have hkl:k<rs.length:=by have:=HL.out;omega
    have HY:=hid (fun he=>pV hkl he);have HN:=hid (fun he=>rD hkl he);obtain⟨b,off,rfl,q0,q1,q2⟩:=(h.below hB).row hlt;have hbl:=aD q0;generalize rs.getD k Row.zero=r at*;obtain⟨rk,rv,rg⟩:=r;simp only at q0 q1 q2 HY HN;generalize cC (rs.take k)=zs at*;have hsum:m+1<=2097152:=by omega
    cases rg
    .replace HY:=hid (HY.out rfl);clear HN;have kQ:Below wr.heap.size wr ((wr.alloc (M #[I J rk,I J rv,X F'] 86)).alloc (M #[I J rk,I J rv,X F'] 86)):=(q').alloc (by simp) _;have own3:=aF own kQ;have hX3:=aR kQ hX;have hR3:=aR kQ hR;have hC3:=lK (w:=wr.alloc (M #[I J rk,I J rv,X F'] 86)) (r:=⟨rk,rv,F'⟩) (t:=86) (H:=wr.heap.size+1) (by simp);have hb3:w1.heap.size+1<=((wr.alloc (M #[I J rk,I J rv,X F'] 86)).alloc (M #[I J rk,I J rv,X F'] 86)).heap.size:=by simp;omega
     go_wp2_with(at_builtin;go_must (refine qU (.tmp 23) (.tmp 25) (w1.heap.size+1) (Z a' m c') m zs 1 [⟨rk,rv,F'⟩] hsum (by omega) ?_ ?_ ?_ ?_ own3 hb3 ?_;exact rfl;exact rfl;exact rfl;exact⟨_,_,rfl,hC3⟩;intro a5 c5 w5 own5 gr5 at5;have hX5:=lQ gr5 hX3 (vU own3 (by omega));have hR5:=lQ gr5 hR3 (vU own3 (by omega));obtain⟨v0,v1,e0,e1⟩:=rG hX5;have lv:=aD v0))
     go_roundw;case rel=>
      rw[<-HY.out]at own5;have b3:=(hB.alloc hB.size (M #[I J rk,I J rv,X F'] 86)).alloc (by simp;exact Nat.le_trans hB.size (by omega)) (M #[I J rk,I J rv,X F'] 86);have b5:=b3.grown gr5 b3.size (fun g hg=>by have:=(aG own3 g hg).1;omega);refine⟨k+1,m+1,a5,c5,by omega,by omega,by go_num,?_,?_,?_,?_,b5.setCell (p:=⟨w1.heap.size,1,O⟩) (by show w.heap.size<=w1.heap.size;omega) _⟩
      .exact(Below.heap_setCell _ _ _ _ (by show w.heap.size≠w1.heap.size;omega)).trans hR5
      .have:=Joins.block_setCell (i:=1) hX5 (Z a5 (m+1) c5);simpa using this
      .exact ownsRow_setCell_below own5 (by show w1.heap.size<w1.heap.size+1;omega) _
      .have:=gr5.size;simp at this⊢;omega
     case measure=>simp[intOf];omega
    .replace HN:=hid (HN.out rfl);clear HY;have kE:=f' wr (M #[I J rk,I J rv,X A'] 86);go_wp2;go_roundw;case rel=>exact⟨k+1,m,a',c',by omega,by omega,by go_num,aR kE hR,aR kE hX,by rw[HN.out];exact aF own kE,Nat.lt_of_lt_of_le hsz kE.size,hB.trans (kE.mono hB.size)⟩
     case measure=>simp[intOf];omega
   .obtain rfl:k=n:=by omega
    have HWF:Hid (rs.take k=rs):=by have:=HL.out;show _=_;rw[this];exact List.take_length
    rw[HWF.out]at own;go_wp2;refine bodyPost_ret (v:=U #[I J 0,Z a' m c']) (by simp[results,Tryz.results13,go_sem,x0,x1]) rfl ⟨a',m,c',rfl,by omega,?_,?_⟩
    .refine aP (base:=w1.heap.size+1) (ownsRow_setCell_below (ownsRow_setCell_below own ?_ _) ?_ _) (by omega)
     .show w.heap.size<w1.heap.size+1;omega
     .show w.heap.size<w1.heap.size+1;omega
    .exact(hB.setCell (p:=⟨w.heap.size,0,O⟩) z' _).setCell (p:=⟨w.heap.size,1,O⟩) z' _
 .rw[jH HC.out (by simpa using h0)];clear HC;go_enter func13,ntmps13
  go_wp2_with fail
  refine(IA _ (h.below (kA _))).mono ?_;rintro e w1⟨rfl,b1⟩;have hR:=aR b1 (heap_alloc_new w _);have b1:=cL b1;have lz:=(Array.getElem?_eq_some_iff.1 hR).1;obtain⟨x0,x1,f0,f1⟩:=rG hR;go_wp2;exact bodyPost_ret (v:=U #[I J c,Z O 0 0]) (by simp[results,Tryz.results13,go_sem,x0,x1]) rfl ⟨O,0,0,rfl,by omega,World.ownsRow_nil _ _ _ _,(b1.setCell (p:=⟨w.heap.size,0,O⟩) z' _).setCell (p:=⟨w.heap.size,1,O⟩) z' _⟩
theorem aW0(a:Option Addr)(n cap:Nat)(rs:List Row)(w:World)(h:CellsAt w a (n*3) (rcells rs))(hn:n<=240):
  Calls prog 66 #[Z a n cap] w fun e w'=>∃a' m c',e=R' (Z a' m c')/\m<=240/\w'.ownsRow w.heap.size 86 3 (Z a' m c') m (rcells (cC rs))/\Below w.heap.size w w':=by
 have HL:=h.rlen;have o0:=jV w w.heap.size z';have b0:=f' w (M #[] 86);go_enter func66,ntmps66
 go_wp2;go_loopw [3,4] (fun q i wr=>∃(k m:Nat) (a':Option Addr) (c':Nat),k<=n/\m<=k/\i=I J k/\q=Z a' m c'/\wr.ownsRow w.heap.size 86 3 (Z a' m c') m (rcells (cC (rs.take k)))/\Below w.heap.size w wr) (fun _ i _=>n-(intOf i).toNat)
 case atStart=>exact⟨0,0,_,_,Nat.zero_le _,z',rfl,rfl,by simpa[cC]using o0,b0⟩
 case round=>
  obtain⟨k,m,a',c',hk,hmk,rfl,rfl,own,hB⟩:=hrel;by_cases hlt:k<n
  .have hkl:k<rs.length:=by have:=HL.out;omega
   have HY:=hid (fun he=>pV hkl he);have HN:=hid (fun he=>rD hkl he);obtain⟨b,off,rfl,q0,q1,q2⟩:=(h.below hB).row hlt;have hbl:=aD q0;generalize rs.getD k Row.zero=r at*;obtain⟨rk,rv,rg⟩:=r;simp only at q0 q1 q2 HY HN;generalize cC (rs.take k)=zs at*;have hsum:m+1<=2097152:=by omega
   cases rg
   .replace HY:=hid (HY.out rfl);clear HN;have bA:∀o,Below wr.heap.size wr (wr.alloc o):=fun o=>q';have hwB:=hB.size;go_wp2_with(at_builtin;go_must (refine qU (.tmp 18) (.tmp 23) w.heap.size (Z a' m c') m zs 1 [⟨rk,rv,F'⟩] hsum (by omega) ?_ ?_ ?_ ?_ ?_ ?_ ?_;exact rfl;exact rfl;exact rfl;exact⟨_,_,rfl,lK (r:=⟨rk,rv,F'⟩) rfl⟩;exact aF own (bA _);(focus(simp;omega));intro a3 c3 w3 own3 gr3 at3))
    go_roundw;case rel=>refine⟨k+1,m+1,a3,c3,by omega,by omega,by go_num,rfl,by rw[HY.out];exact own3,?_⟩;exact(hB.alloc hB.size _).grown gr3 (by simp;omega) (fun g hg=>(aG own g hg).1)
    case measure=>simp[intOf];omega
   .replace HN:=hid (HN.out rfl);clear HY;go_wp2;go_roundw;case rel=>exact⟨k+1,m,a',c',by omega,by omega,by go_num,rfl,by rw[HN.out];exact own,hB⟩
    case measure=>simp[intOf];omega
  .obtain rfl:k=n:=by omega
   have HWF:Hid (rs.take k=rs):=by have:=HL.out;show _=_;rw[this];exact List.take_length
   rw[HWF.out]at own;go_wp2;go_ret;exact⟨a',m,c',rfl,by omega,own,hB⟩
theorem aS3(a:Option Addr)(n cap:Nat)(rs:List Row)(w:World)(h:CellsAt w a (n*3) (rcells rs))(hn:n<=1048576):
  Calls prog 88 #[Z a n cap] w fun e w'=>∃a' m c',e=R' (U #[I J (iR rs).1,Z a' m c'])/\m<=1048576/\w'.ownsRow w.heap.size 86 3 (Z a' m c') m (rcells (iR rs).2)/\Below w.heap.size w w':=by
 have HL:=h.rlen;have kA:∀o,Below w.heap.size w (w.alloc o):=fun o=>u'.alloc z' o;by_cases hbig:240<n
 .rw[jH (zI (by have:=HL.out;omega)) rfl];go_enter func88,ntmps88
  go_wp2;exact bodyPost_ret (v:=U #[I J 2,Z O 0 0]) (by simp[results,Tryz.results88,go_sem]) rfl ⟨O,0,0,rfl,by omega,World.ownsRow_nil _ _ _ _,kA _⟩
 have hn4:n<=240:=by omega
 have RI:=fun W hW=>bP2 a n cap rs W hW (by omega);have MI:=fun W hW=>aW0 a n cap rs W hW hn4;have HA:Hid ((dB rs !=0)=A'->iR rs=(dB rs,[])):=fun hf=>jH (zH (by have:=HL.out;omega) hf) hf;have HB:Hid (dB rs=0->(iN rs !=0)=A'->iR rs=(1,[])):=fun hf hr=>by
  refine jH ((nA (by have:=HL.out;omega) hf).trans ?_) rfl;rcases bP3 (p:=O) (aJ5 hf)with h0|h0
  .have:iN rs=0:=h0;rw[this]at hr;cases hr
  .exact h0
 have HC:Hid (dB rs=0->(iN rs !=0)=F'->iR rs=(0,cC rs)):=fun hf hr=>by refine oM ((nA (by have:=HL.out;omega) hf).trans (by simpa using hr))
 clear hbig;generalize iR rs=X' at*;go_enter func88,ntmps88
 go_wp2;go_loopw [3] (fun i wr=>∃k:Nat,k<=n/\i=I J k/\Hid (dB rs=dB (rs.drop k))/\wr.heap[w.heap.size]? =Y (M #[I J 0,Z O 0 0] 40 (0,0))/\Below w.heap.size w wr) (fun i _=>n-(intOf i).toNat)
 case atStart=>exact⟨0,Nat.zero_le _,rfl,rfl,heap_alloc_new w _,kA _⟩
 case round=>
  obtain⟨k,hk,rfl,HH,hR,hB⟩:=hrel;obtain⟨x0,x1,f0,f1⟩:=rG hR;have hz:=aD x0;by_cases hlt:k<n
  .have hkl:k<rs.length:=by have:=HL.out;omega
   have HS:=hid (fun he=>HH.out.trans (aJ4 hkl he));have HN:=hid (fun he=>HH.out.trans (aJ6 hkl he));obtain⟨b,off,rfl,q0,q1,q2⟩:=(h.below hB).row hlt;have hbl:=aD q0;generalize rs.getD k Row.zero=r at*;obtain⟨rk,rv,rg⟩:=r;simp only[Row.fault]at q0 q1 q2 HS HN;have IF:=fun W=>mC rk rv rg W;cases hf:(dL rk rv rg !=0)
   .replace HN:=hid (HN.out hf);clear HS HA HB HC;generalize dL rk rv rg=c at*;go_wp2_with fail
    refine(IF _).mono ?_;rintro e w1⟨rfl,b1⟩;have hR1:=aR b1 hR;have bE:=hB.trans (b1.mono hB.size);go_wp2;go_roundw;case rel=>exact⟨k+1,by omega,by go_num,HN.out,hR1,bE⟩
    case measure=>simp[intOf];omega
   .replace HS:=hid (HS.out hf);have HZ:=hid (HA.out (by rw[HS.out];exact hf));rw[HS.out]at HZ;clear HN HS HA HB HC;generalize dL rk rv rg=c at*;go_wp2_with fail
    refine(IF _).mono ?_;rintro e w1⟨rfl,b1⟩;have hR1:=aR b1 hR;obtain⟨x0,x1,f0,f1⟩:=rG hR1;have bE:=hB.trans (b1.mono hB.size);go_wp2;exact bodyPost_ret (v:=U #[I J c,Z O 0 0]) (by simp[results,Tryz.results88,go_sem,x0,x1]) rfl ⟨O,0,0,by rw[HZ.out],by omega,by rw[HZ.out];exact World.ownsRow_nil _ _ _ _,(bE.setCell (p:=⟨w.heap.size,0,O⟩) z' _).setCell (p:=⟨w.heap.size,1,O⟩) z' _⟩
  .obtain rfl:k=n:=by omega
   have HZ:=hid (HH.out.trans (aC1 (by have:=HL.out;omega)));cases hr:(iN rs !=0)
   .have HX:=hid (HC.out HZ.out hr);clear HA HB HC HH;generalize iN rs=c at*;go_wp2_with fail
    refine(RI _ (h.below hB)).mono ?_;rintro e w1⟨rfl,b1⟩;have hR1:=aR b1 hR;have bE:=hB.trans (b1.mono hB.size);go_wp2_with fail
    refine(MI _ (h.below bE)).mono ?_;rintro e w2⟨a2,m2,c2,rfl,hm2,own2,b2⟩;have hR2:=aR b2 hR1;obtain⟨x0,x1,f0,f1⟩:=rG hR2;have lz:=aD (rG hR1).1;have bF:=bE.trans (b2.mono bE.size);go_wp2;refine bodyPost_ret (v:=U #[I J 0,Z a2 m2 c2]) (by simp[results,Tryz.results88,go_sem,x0,x1]) rfl ⟨a2,m2,c2,by rw[HX.out],by omega,?_,(bF.setCell (p:=⟨w.heap.size,0,O⟩) z' _).setCell (p:=⟨w.heap.size,1,O⟩) z' _⟩;rw[HX.out];exact aP (ownsRow_setCell_below (ownsRow_setCell_below own2 lz _) lz _) (Nat.le_of_lt lz)
   .have HX:=hid (HB.out HZ.out hr);clear HA HB HC HH;generalize iN rs=c at*;go_wp2_with fail
    refine(RI _ (h.below hB)).mono ?_;rintro e w1⟨rfl,b1⟩;have hR1:=aR b1 hR;obtain⟨x0,x1,f0,f1⟩:=rG hR1;have bE:=hB.trans (b1.mono hB.size);go_wp2;exact bodyPost_ret (v:=U #[I J 1,Z O 0 0]) (by simp[results,Tryz.results88,go_sem,x0,x1]) rfl ⟨O,0,0,by rw[HX.out],by omega,by rw[HX.out];exact World.ownsRow_nil _ _ _ _,(bE.setCell (p:=⟨w.heap.size,0,O⟩) z' _).setCell (p:=⟨w.heap.size,1,O⟩) z' _⟩
theorem OwnV.store3(h:OwnV w B lv m vs ls){o:Nat}(hq:q<B)(u:Value):OwnV (w.setCell ⟨q,o,O⟩ u) B lv m vs ls:=
 h.store (fun g hg=>by have:=(aG h.2.1 g hg).1;omega) (fun i x g hx hg=>by have:=(h.lt i x g hx hg).1;omega)
theorem OwnU.low{p:Nat}{rv:Value}{rs:List Rec}(h:OwnU w B lv m ls rv p rs){o:Nat}(hq:q<B)(u:Value):OwnU (w.setCell ⟨q,o,O⟩ u) B lv m ls rv p rs:=by obtain⟨vs,lo,hi,h1,h2,h3,h4,h5⟩:=h;exact⟨vs,lo,hi,h1.store3 hq u,ownsRow_setCell_below h2 (a:=⟨q,o,O⟩) hq u,h3,by simpa using h4,h5⟩
theorem cW6{R:Nat}{u2:Value}(h:w.heap[R]? =Y (M #[u0,u1,u2] t (0,0)))(v1:Value):(w.setCell ⟨R,1,O⟩ v1).heap[R]? =Y (M #[u0,v1,u2] t (0,0)):=by have h1:=Joins.block_setCell (i:=1) h v1;simpa using h1
theorem aX7{cp:Nat}(h:w.ownsRow B 86 3 (Z a (m+1) cp) (m+1) xs):∃g,a=Y ⟨g,0,O⟩:=by
 rcases h.2 with⟨_,h0⟩|⟨g',cp',cur,hv,_⟩
 .omega
 .simp only[Value.slice.injEq]at hv;exact⟨g',hv.1⟩
theorem bP7(m:Nat)(s:Nat)(a:Option Addr)(n cap k:Nat)(zs:List Int)(w:World)(h:Src w s a n cap k zs)(hb:IsB zs)(hn:n<=1048580)(hk:k<=500)(hm:m<=5):
  Calls prog 67 #[.pointer (Y ⟨s,0,O⟩),I J m] w fun e w'=>(∃g cp,e=R' (Z (Y ⟨g,0,O⟩) m cp)/\∃rs,w'.ownsRow w.heap.size 86 3 (Z (Y ⟨g,0,O⟩) m cp) m (rcells rs))/\(∃k',k'<=k+21/\Src w' s a n cap k' zs)/\w.grownBy w' (Y s):=by
 have hlt:=h.lt;go_enter func67,ntmps67
 go_wp2_with fail
 refine(eQ 5 s a n cap k zs _ h.new hb hn (by omega) (by omega) (by omega)).mono ?_;rintro e w1⟨⟨x,x0,x1,rfl⟩,s1,g1⟩;have own0:(w.alloc (M #[] 86)).ownsRow w.heap.size 86 3 (Z (Y ⟨w.heap.size,0,O⟩) 0 0) 0 (rcells []):=World.ownsRow_lit w #[] 0 z' (by unfold maxLen;omega) rfl;have own1:=aK own0 g1 (fun g hg=>by simp[Value.ownBlock]at hg;simp;omega);have g1':=uN g1;clear g1 own0;go_wp2_with fail
 go_loopw [1,5,6] (fun mv v t wr=>∃(j r g cp:Nat) (x:Int) (rs:List Row),j+r=m/\mv=I J r/\v=Z (Y ⟨g,0,O⟩) j cp/\t=I J x/\0<=x/\x<=4+5*j/\
  wr.ownsRow w.heap.size 86 3 (Z (Y ⟨g,0,O⟩) j cp) j (rcells rs)/\Src wr s a n cap (k+1+4*j) zs/\w.grownBy wr (Y s)) (fun mv _ _ _=>(intOf mv).toNat)
 case atStart=>exact⟨0,m,_,_,x,[],by omega,rfl,rfl,rfl,x0,by omega,own1,s1,g1'⟩
 case round=>
  obtain⟨j,r,g,cp,x,rs,hjr,rfl,rfl,rfl,x0,x1,own,sr,gr⟩:=hrel;by_cases hr:0<r
  .have gB:=gI own;have hi:(0:Int)<(r:Int):=by omega
   go_wp2_with fail
   refine(aV6 s a n cap _ zs _ sr hb hn (by omega)).mono ?_;rintro e w2⟨⟨rk,rv,rg⟩,k2,_,_,_,rfl,rfl,s2,g2⟩;have own2:=aK own g2 (fun g' hg=>by simp[Value.ownBlock]at hg;simp;omega);have gr2:=cW gr g2;have z2:=g2.size;have z0:=gr.size;simp only;go_wp2_with fail
   refine(eQ 5 s a n cap _ zs _ s2.new hb hn (by omega) (by omega) (by omega)).mono ?_;rintro e w3⟨⟨y,y0,y1,rfl⟩,s3,g3⟩;have own3:=aK (own2.alloc _) g3 (fun g' hg=>by simp[Value.ownBlock]at hg;simp;omega);have p:=cR g3 (heap_alloc_new w2 _) (by simp;omega);have gr3:=cW gr2 (uN g3);have z3:=g3.size;simp at z3;have p0:w3.cell? ⟨w2.heap.size,0,O⟩=_:=cell_of_row _ _ _ _ _ _ p;have p1:w3.cell? ⟨w2.heap.size,1,O⟩=_:=cell_of_row _ _ _ _ _ _ p;have p2:w3.cell? ⟨w2.heap.size,2,O⟩=_:=cell_of_row _ _ _ _ _ _ p;simp at p0 p1 p2;clear p g3 g2 own own2 sr gr;simp only;obtain⟨g0,hg0⟩:∃g0,g0=w3.heap.size:=⟨_,rfl⟩
   clear hg0;go_wp2_with(at_builtin;go_must (refine fC (.tmp 24) (.tmp 26) w.heap.size (Z (Y ⟨g,0,O⟩) j cp) j rs 1 [⟨x,rv,rg⟩] (by omega) ?_ ?_ ?_ ?_ ?_ ?_ ?_;exact rfl;exact rfl;exact rfl;exact⟨_,_,rfl,lK (r:=⟨x,rv,rg⟩) rfl⟩;exact own3.alloc _;(focus(simp;omega));intro a4 c4 w4 own4 b4))
   go_roundw;case rel=>
    obtain⟨g4,rfl⟩:=aX7 own4;refine⟨j+1,r-1,g4,c4,x+1+y,rs++[⟨x,rv,rg⟩],by omega,by go_num,rfl,by go_num,by omega,by omega,own4,?_,?_⟩
    .have:=s3.new.below b4 (by omega);rw[show k+1+4*(j+1)=k+1+4*j+3+1 by omega];exact this
    .exact dF2 (cW3 gr3) b4
   case measure=>simp[intOf];omega
  .have hi:¬(0:Int)<(r:Int):=by omega
   obtain rfl:j=m:=by omega
   go_wp2;go_ret;exact⟨⟨g,cp,rfl,rs,own⟩,⟨_,by omega,sr⟩,gr⟩
def uV(f:Int->Int)(x wn b:Int)(e:Int×Int):Int:=if e.1=x/\f e.2=wn/\(b=0\/e.2<b)then e.2 else b
def mQ(f:Int->Int)(t s:Int)(e:Int×Int):Int:=if e.1=t/\0<=f e.2/\(s<0\/f e.2<s)then f e.2 else s
theorem yT{α:Type}(h:k<es.length)(F:α->Int×Int->α)(b:α):((prE es).take (k+1)).foldl F b=F (((prE es).take k).foldl F b) ((es.getD k Hold.zero).t,(es.getD k Hold.zero).m):=by
 have hl:k<(prE es).length:=by simp[prE];exact h
 rw[bT (prE es) (0,0) k hl,List.foldl_append];have:(prE es).getD k (0,0)=((es.getD k Hold.zero).t,(es.getD k Hold.zero).m):=by simp[prE,List.getD,h]
 rw[this];rfl
theorem bZ1(a:Option Addr)(n cap:Nat)(es:List Hold)(x wn:Int)(g c:Nat)(f:Int->Int)(w:World)(h:CellsAt w a (n*2) (hcells es))(hn:n<=400)(hin:∀k,k<n->1<=(es.getD k Hold.zero).t/\(es.getD k Hold.zero).t<=999/\1<=(es.getD k Hold.zero).m/\(es.getD k Hold.zero).m<=999)(hF:CellsAt w (Y ⟨g,0,O⟩) (1000*1) (icells (lst f))):
  Calls prog 204 #[Z a n cap,I J x,Z (Y ⟨g,0,O⟩) 1000 c,I J wn] w fun e w'=>e=R' (I J (jD (prE es) f x wn))/\w'=w:=by
 have HL:=h.hlen;have HE:Hid (jD (prE es) f x wn=((prE es).take n).foldl (uV f x wn) 0):=by show _=_;rw[List.take_of_length_le (by simp[prE];have:=HL.out;omega)];rfl
 go_enter func204,ntmps204
 go_wp2;go_loop [9,10] (fun q i=>∃k:Nat,k<=n/\i=I J k/\q=I J (((prE es).take k).foldl (uV f x wn) 0)) (fun _ i=>n-(intOf i).toNat)
 case atStart=>exact⟨0,Nat.zero_le _,rfl,rfl⟩
 case round=>
  obtain⟨k,hk,rfl,rfl⟩:=hrel;by_cases hlt:k<n
  .have hkl:k<es.length:=by have:=HL.out;omega
   have HT:=hid (yT hkl (uV f x wn) 0);have hb4:=hin k hlt;obtain⟨b,off,rfl,q0,q1⟩:=h.hold hlt;have hbl:=aD q0;generalize es.getD k Hold.zero=ed at*;obtain⟨rt,rm⟩:=ed;simp only at q0 q1 HT hb4;obtain⟨xm,rfl⟩:∃y:Nat,rm=(y:Int):=⟨rm.toNat,by omega⟩
   have hxm:xm<1000:=by omega
   obtain⟨b1,o1,e1,m0⟩:=hF.int (k:=xm) (by omega);cases e1;rw[Nat.zero_add,sT f hxm]at m0;have hgz:=aD m0;generalize((prE es).take k).foldl (uV f x wn) 0=B at*;have HS:Hid (uV f x wn B (rt,(xm:Int))=if rt=x/\f xm=wn/\(B=0\/(xm:Int)<B)then(xm:Int)else B):=rfl;generalize f xm=fm at*;clear hb4;by_cases h1:rt=x
   .have d1:(rt==x)=A':=by simpa using h1
    by_cases h2:fm=wn
    .have d2:(fm==wn)=A':=by simpa using h2
     by_cases h3:B=0
     .have d3:(B==0)=A':=by simpa using h3
      rw[if_pos ⟨h1,h2,.inl h3⟩]at HS;clear h1 h2 h3;go_wp2;go_round
      case rel=>exact⟨k+1,by omega,by go_num,by rw[HT.out,HS.out]⟩
      case measure=>simp[intOf];omega
     .have d3:(B==0)=F':=by simpa using h3
      by_cases h4:(xm:Int)<B
      .rw[if_pos ⟨h1,h2,.inr h4⟩]at HS;clear h1 h2 h3;go_wp2;go_round
       case rel=>exact⟨k+1,by omega,by go_num,by rw[HT.out,HS.out]⟩
       case measure=>simp[intOf];omega
      .rw[if_neg (fun hh=>hh.2.2.elim h3 h4)]at HS;clear h1 h2 h3;go_wp2;go_round
       case rel=>exact⟨k+1,by omega,by go_num,by rw[HT.out,HS.out]⟩
       case measure=>simp[intOf];omega
    .have d2:(fm==wn)=F':=by simpa using h2
     rw[if_neg (fun hh=>h2 hh.2.1)]at HS;clear h1 h2;go_wp2;go_round
     case rel=>exact⟨k+1,by omega,by go_num,by rw[HT.out,HS.out]⟩
     case measure=>simp[intOf];omega
   .have d1:(rt==x)=F':=by simpa using h1
    rw[if_neg (fun hh=>h1 hh.1)]at HS;clear h1;go_wp2;go_round
    case rel=>exact⟨k+1,by omega,by go_num,by rw[HT.out,HS.out]⟩
    case measure=>simp[intOf];omega
  .obtain rfl:k=n:=by omega
   rw[<-HE.out];go_wp2;go_ret;exact⟨rfl,rfl⟩
def cI0(es:List Hold)(e:Hold):Bool:=decide (0<(fF (prE es) e.t).length)
def cI1(es:List Hold):Bool:=eO es==0&&es.any (cI0 es)
theorem bI6(h:eO es=0):es.length<=400/\∀k,k<es.length->1<=(es.getD k Hold.zero).t/\(es.getD k Hold.zero).t<=999/\1<=(es.getD k Hold.zero).m/\(es.getD k Hold.zero).m<=999:=by
 unfold eO at h;by_cases h1:400<es.length
 .rw[if_pos h1]at h;cases h
 rw[if_neg h1]at h;refine⟨by omega,fun k hk=>?_⟩;cases h2:es.any lI
 .have hb:lI (es.getD k Hold.zero)=F':=by
   cases hx:lI (es.getD k Hold.zero)
   .rfl
   .rw[bT7 hk hx]at h2;cases h2
  unfold lI at hb;simp only[Bool.or_eq_false_iff,Bool.not_eq_false']at hb;have a1:=(nJ _ _ _).1 hb.1.1;have a2:=(nJ _ _ _).1 hb.1.2;exact⟨a1.1,a1.2,a2.1,a2.2⟩
 .rw[h2]at h;cases h
theorem xS(b off:Nat)(ah:Option Addr)(nh ch:Nat)(aq:Option Addr)(nq cq:Nat)(l:Lock)(w:World)(h:LkOne w b off ah nh ch aq nq cq l)(hn:nh<=1048576)(hq:nq<=1048576)(hg:aZ l.hs=A')(hG:aZ l.qs=A'):
  Calls prog 195 #[.pointer (Y ⟨b,off,O⟩)] w fun e w'=>e=R' (X (eC l.hs l.qs))/\Below w.heap.size w w':=by
 obtain⟨r,hs,qs⟩:=l;obtain⟨c0,c1,c2,h3,h4,_,_,_,_⟩:=h;simp only at c0 h3 h4 hg hG⊢;have hbl:=aD c0;have HQ:=h4.hlen;have HS:=h3.hlen;have kd:=fun q=>(⟨rfl,rfl,rfl,z',fun _ _=>rfl⟩:Below w.heap.size w (w.drewN q))
 by_cases h0:nq=0
 .subst h0;obtain rfl:qs=[]:=List.length_eq_zero_iff.1 (by have:=HQ.out;omega);go_enter func195,ntmps195
  go_wp2;go_quiet (fail)
  go_wp2;go_ret;exact⟨rfl,kd _⟩
 have hR:=hid (jT (hs:=hs) (qs:=qs) (by have:=HQ.out;omega));have h0':(0:Int)<(nq:Int):=by omega
 have hd0:decide (0<nq)=A':=by simp;omega
 obtain⟨bq,oq,rfl,q0,q1⟩:=h4.hold (k:=0) (by omega);have hqb:=aD q0;have hM:=jO hG (k:=0) (by have:=HQ.out;omega);generalize qs.getD 0 Hold.zero=x at*;obtain⟨xt,xm⟩:=x;simp only[Nat.zero_mul,Nat.add_zero]at q0 q1 hM hR;have hm:Ch.isM xm=A':=by unfold lU at hM;simp at hM;have:=hM.2;unfold Ch.isM inB at*;simp at*;omega
 have hA:(0<=Ch.atH hs xt)↔aV hs xt=A':=by
  rcases eA hs xt with⟨h1,h2,_⟩|⟨k,_,h2,h1,_⟩
  .rw[h1,h2];simp
  .rw[h1,h2];simp
 have IF:=fun n=>Calls.quiet_of_same (iX ah nh ch xt xm hs (w.drewN n) h3 hn hg hm);have IA:=fun n=>Calls.quiet_of_same (fS ah nh ch xt hs (w.drewN n) h3 hn);obtain⟨A,HA⟩:∃A,A=Ch.atH hs xt:=⟨_,rfl⟩
 rw[<-HA]at hA IA;clear HA;cases hf:eJ hs xt xm
 .rw[hf]at IF;go_enter func195,ntmps195
  go_wp2;go_quiet (first|(go_at_call 193;exact IF _)|(go_at_call 171;exact IA _))
  go_wp2;go_ret;exact⟨by rw[hR.out,hf,Bool.and_false];rfl,kd _⟩
 rw[hf]at IF;by_cases hAt:0<=A
 .have dA:decide (0<=A)=A':=by simpa using hAt
  have hB:=hid (hA.1 hAt);clear hA hAt;go_enter func195,ntmps195
  go_wp2;go_quiet (first|(go_at_call 193;exact IF _)|(go_at_call 171;exact IA _))
  go_wp2;go_ret;exact⟨by rw[hR.out,hf,hB.out];rfl,kd _⟩
 have dA:decide (0<=A)=F':=by simpa using hAt
 have hB:aV hs xt=F':=by cases hc:aV hs xt with|false=>rfl|true=>exact absurd (hA.2 hc) hAt
 replace hB:=hid hB;clear hA hAt;go_enter func195,ntmps195
 go_wp2;go_quiet (first|(go_at_call 193;exact IF _)|(go_at_call 171;exact IA _))
 go_wp2;go_ret;exact⟨by rw[hR.out,hf,hB.out,<-HS.out,Bool.false_or,Bool.and_true];simp;omega,kd _⟩
theorem bdN(h:Below B w w'):Below B w (w'.drewN q):=⟨h.os,h.tape,h.output,h.size,h.block⟩
theorem uT(b off:Nat)(ah:Option Addr)(nh ch:Nat)(aq:Option Addr)(nq cq:Nat)(l:Lock)(w:World)(h:LkOne w b off ah nh ch aq nq cq l)(hn:nh<=1048576)(hq:nq<=1048576)(hg:aZ l.hs=A')(hG:aZ l.qs=A'):
  Calls prog 194 #[.pointer (Y ⟨b,off,O⟩)] w fun e w'=>e=R' (X (Ch.qOk l.hs l.qs))/\Below w.heap.size w w':=by
 obtain⟨r,hs,qs⟩:=l;obtain⟨c0,c1,c2,h3,h4,_,_,_,_⟩:=h;simp only at c0 h3 h4 hg hG⊢;have hbl:=aD c0;have HQ:=h4.hlen;have HL:=h3.hlen;have HG:=hid hg;have HG2:=hid hG;clear hg hG;go_enter func194,ntmps194
 go_wp2;go_loopw [3,4] (fun q i wr=>∃(k:Nat) (p:Bool),k<=nq/\i=I J k/\q=X p/\Hid (p=decide (cY hs qs<k))/\Hid (∀j,j<k->lY hs qs j=A')/\Below w.heap.size w wr) (fun _ i _=>nq-(intOf i).toNat)
 case atStart=>exact⟨0,F',Nat.zero_le _,rfl,rfl,(by show F'=_;simp),(fun j hj=>by omega),u'⟩
 case round=>
  obtain⟨k,p,hk,rfl,rfl,HP,HA,hB⟩:=hrel;have c1w:=aC hB c1;have c2w:=aC hB c2;have hblw:=aD c1w;by_cases hlt:k<nq
  .have hkl:k<qs.length:=by have:=HQ.out;omega
   have H1:=hid (fun he=>cS2 (hs:=hs) (qs:=qs) (k:=k) he);have H2:=hid (fun he hc=>cH5 (hs:=hs) (qs:=qs) (k:=k) hkl he hc);have H3:=hid (fun he=>xC (hs:=hs) (qs:=qs) (k:=k) he);have H4:=hid (fun he hc=>uE hkl (vV (hs:=hs) (qs:=qs) (k:=k) he hc));have H5:=hid (fun he hc=>uE hkl (aE5 (hs:=hs) (qs:=qs) (k:=k) he hc));have H6:=hid (fun he hc=>uE hkl (aN7 (hs:=hs) (qs:=qs) (k:=k) he hc));have H7:=hid (fun hc h1 h2=>aE4 (hs:=hs) (qs:=qs) (k:=k) hc h1 h2);have HM:=hid (jS (jO HG2.out hkl)).1;have h3w:=h3.below hB;obtain⟨qb,qo,rfl,q0,q1⟩:=(h4.below hB).hold hlt;have hqb:=aD q0;generalize qs.getD k Hold.zero=q at*;obtain⟨rt,rm⟩:=q;simp only at q0 q1 H1 H2 H3 H4 H5 H6 H7 HM;have IA:=fun n=>Calls.quiet_of_same (fS ah nh ch rt hs (wr.drewN n) h3w hn);rcases eA hs rt with⟨he,HAT,_⟩|⟨j,hj,HAT,he,_,hmo⟩
   .have HN:=hid he;rw[HAT]at IA;clear he HAT;go_wp2;go_quiet (first|(go_at_call 171;exact IA _))
    go_wp2;go_roundw;case rel=>exact⟨k+1,A',by omega,by go_num,rfl,(by have:=H1.out HN.out;show A'=_;simp;omega),kS HA.out (H3.out HN.out),bdN hB⟩
    case measure=>simp[intOf];omega
   .have HN:=hid he;have HMO:=hid hmo;have HJ:=hid (jS (jO HG.out hj)).1;have hjn:j<nh:=by have:=HL.out;omega
    rw[HAT]at IA;clear he hmo HAT;obtain⟨hb,ho,rfl,p0,p1⟩:=h3w.hold hjn;have hhb:=aD p1;clear p0;generalize(hs.getD j Hold.zero).m=jm at*;have IC:=fun W=>rQ rm jm W HM.out HJ.out;go_wp2;go_quiet (first|(go_at_call 171;exact IA _))
    go_wp2;cases p;rotate_left
    .have hkc:cY hs qs<=k:=by have:=HP.out;simp at this;omega
     go_quiet (fail)
     go_wp2;go_ret;exact⟨jE (H4.out HN.out hkc).symm,bdN (bdN hB)⟩
    have hkc:k<=cY hs qs:=by have:=HP.out;simp at this;omega
    have HKC:=hid (H2.out HN.out hkc);clear hkc;by_cases hrj:rm=jm
    .subst hrj;go_quiet (fail)
     go_wp2;go_ret;exact⟨jE (H5.out HN.out HMO.out.symm).symm,bdN (bdN hB)⟩
    have hrj':(rm==jm)=F':=by simpa using hrj
    have HRJ:=hid hrj;have hdj:decide (rm=jm)=F':=decide_eq_false hrj;cases hcv:Ch.tab oX rm jm
    .have HC:Hid (eB rm jm=F'):=by show _=_;unfold eB Ch.cov;rw[hcv];simp
     rw[hcv]at IC;go_quiet (first|(go_at_call 200;exact(IC _).mono fun _ _ h=>⟨h.1,_,h.2⟩))
     go_wp2;go_ret;exact⟨jE (H6.out HN.out (by rw[HMO.out];exact HC.out)).symm,bdN (bdN hB)⟩
    .have HC:Hid (eB rm jm=A'):=by show _=_;unfold eB Ch.cov;rw[hcv,HM.out,HJ.out];rfl
     rw[hcv]at IC;go_quiet (first|(go_at_call 200;exact(IC _).mono fun _ _ h=>⟨h.1,_,h.2⟩))
     go_wp2;go_roundw;case rel=>exact⟨k+1,F',by omega,by go_num,rfl,(by have:=HKC.out;show F'=_;simp;omega),kS HA.out (H7.out HKC.out (by rw[HMO.out];exact HRJ.out) (by rw[HMO.out];exact HC.out)),bdN hB⟩
     case measure=>simp[intOf];omega
  .obtain rfl:k=nq:=by omega
   go_wp2;go_ret;exact⟨jE (xB (by have:=HQ.out;rw[<-this];exact HA.out)).symm,hB⟩
section
open Go.Maps
theorem yY(hk:k<zs.length):(zs.take (k+1)).contains v=((zs.take k).contains v||(zs.getD k 0==v)):=by rw[bT zs 0 k hk,Bool.eq_iff_iff];simp only[List.contains_iff_mem,List.mem_append,List.mem_singleton,Bool.or_eq_true,beq_iff_eq];exact or_congr_right ⟨fun h=>h.symm,fun h=>h.symm⟩
theorem aL5(hk:k<zs.length)(h:zs.getD k 0=v):zs.contains v=A':=by rw[List.contains_iff_mem,<-h];simp[List.getD,hk]
theorem cL0(f:Nat)(hf:f=117\/f=12)(a:Option Addr)(n cap:Nat)(v:Int)(zs:List Int)(w:World)(h:CellsAt w a (n*1) (icells zs))(hn:n<=4194304):
  Calls prog f #[Z a n cap,I J v] w fun e w'=>e=R' (X (zs.contains v))/\w'=w:=by
 have HL:=h.ilen;obtain⟨c,HC⟩:∃c,Hid (zs.contains v=c):=⟨_,rfl⟩
 rw[HC.out];rcases hf with rfl|rfl
 .go_enter func117,ntmps117
  go_wp2;go_loop [5] (fun i=>∃k:Nat,k<=n/\i=I J k/\Hid ((zs.take k).contains v=F')) (fun i=>n-(intOf i).toNat)
  case atStart=>exact⟨0,Nat.zero_le _,rfl,rfl⟩
  case round=>
   obtain⟨k,hk,rfl,HH⟩:=hrel;by_cases hlt:k<n
   .have hkl:k<zs.length:=by have:=HL.out;omega
    have HY:=hid (fun he=>aL5 (v:=v) hkl he);have HN:=hid (yY (v:=v) hkl);obtain⟨b,off,rfl,hc0⟩:=h.int hlt;have hbl:=aD hc0;generalize zs.getD k 0=z at*;by_cases he:z=v
    .replace HY:=hid (HY.out he);have e1:(z==v)=A':=by simpa using he
     clear he HN;go_wp2;go_ret;exact⟨jE (HY.out.symm.trans HC.out),rfl⟩
    .have e1:(z==v)=F':=by simpa using he
     rw[HH.out,e1]at HN;clear he HY;go_wp2;go_round
     case rel=>exact⟨k+1,by omega,by go_num,HN.out⟩
     case measure=>simp[intOf];omega
   .obtain rfl:k=n:=by omega
    go_wp2;go_ret;exact⟨jE (by have h1:=HH.out;have h2:=HL.out;rw[h2,List.take_length]at h1;exact h1.symm.trans HC.out),rfl⟩
 .go_enter func12,ntmps12
  go_wp2;go_loop [5] (fun i=>∃k:Nat,k<=n/\i=I J k/\Hid ((zs.take k).contains v=F')) (fun i=>n-(intOf i).toNat)
  case atStart=>exact⟨0,Nat.zero_le _,rfl,rfl⟩
  case round=>
   obtain⟨k,hk,rfl,HH⟩:=hrel;by_cases hlt:k<n
   .have hkl:k<zs.length:=by have:=HL.out;omega
    have HY:=hid (fun he=>aL5 (v:=v) hkl he);have HN:=hid (yY (v:=v) hkl);obtain⟨b,off,rfl,hc0⟩:=h.int hlt;have hbl:=aD hc0;generalize zs.getD k 0=z at*;by_cases he:z=v
    .replace HY:=hid (HY.out he);have e1:(z==v)=A':=by simpa using he
     clear he HN;go_wp2;go_ret;exact⟨jE (HY.out.symm.trans HC.out),rfl⟩
    .have e1:(z==v)=F':=by simpa using he
     rw[HH.out,e1]at HN;clear he HY;go_wp2;go_round
     case rel=>exact⟨k+1,by omega,by go_num,HN.out⟩
     case measure=>simp[intOf];omega
   .obtain rfl:k=n:=by omega
    go_wp2;go_ret;exact⟨jE (by have h1:=HH.out;have h2:=HL.out;rw[h2,List.take_length]at h1;exact h1.symm.trans HC.out),rfl⟩
theorem bB3(a a2:Option Addr)(n cap n2 cap2:Nat)(cyc sys:List Int)(w:World)(h:CellsAt w a (n*1) (icells cyc))(h2:CellsAt w a2 (n2*1) (icells sys))(hn:n<=1048576)(hn2:n2<=1048576):
  Calls prog 184 #[Z a n cap,Z a2 n2 cap2] w fun e w'=>e=R' (I J (iE cyc sys).1)/\w'=w:=by
 have HL:=h.ilen;go_enter func184,ntmps184
 go_wp2;go_loop [5,6,7] (fun q s i=>∃(k:Nat) (b:Int) (y:Bool),k<=n/\i=I J k/\q=I J b/\s=X y/\Hid (iE (cyc.take k) sys=(b,y))) (fun _ _ i=>n-(intOf i).toNat)
 case atStart=>exact⟨0,0,F',Nat.zero_le _,rfl,rfl,rfl,rfl⟩
 case round=>
  obtain⟨k,bst,y,hk,rfl,rfl,rfl,HH⟩:=hrel;by_cases hlt:k<n
  .have hkl:k<cyc.length:=by have:=HL.out;omega
   have HN:Hid (iE (cyc.take (k+1)) sys=qE sys (bst,y) (cyc.getD k 0)):=by show _=_;rw[bT cyc 0 k hkl,zW,HH.out]
   obtain⟨b,off,rfl,hc0⟩:=h.int hlt;have hbl:=aD hc0;generalize cyc.getD k 0=z at*;have IA:=fun W hW=>cL0 117 (.inl rfl) a2 n2 cap2 z sys W hW (by omega);unfold qE at HN;generalize sys.contains z=c at*;clear HH;cases y;all_goals cases c
   .by_cases hg:bst<z
    .have e1:Hid (iE (cyc.take (k+1)) sys=(z,F')):=by have:=HN.out;show _=_;simpa[hg]using this
     clear HN;go_wp2_with fail
     refine(IA _ h2).mono ?_;rintro e w1⟨rfl,rfl⟩;go_wp2;go_round
     case rel=>exact⟨k+1,z,F',by omega,by go_num,rfl,rfl,e1.out⟩
     case measure=>simp[intOf];omega
    .have e1:Hid (iE (cyc.take (k+1)) sys=(bst,F')):=by have:=HN.out;show _=_;simpa[hg]using this
     clear HN;go_wp2_with fail
     refine(IA _ h2).mono ?_;rintro e w1⟨rfl,rfl⟩;go_wp2;go_round
     case rel=>exact⟨k+1,bst,F',by omega,by go_num,rfl,rfl,e1.out⟩
     case measure=>simp[intOf];omega
   .have e1:Hid (iE (cyc.take (k+1)) sys=(z,A')):=by have:=HN.out;show _=_;simpa using this
    clear HN;go_wp2_with fail
    refine(IA _ h2).mono ?_;rintro e w1⟨rfl,rfl⟩;go_wp2;go_round
    case rel=>exact⟨k+1,z,A',by omega,by go_num,rfl,rfl,e1.out⟩
    case measure=>simp[intOf];omega
   .have e1:Hid (iE (cyc.take (k+1)) sys=(bst,A')):=by have:=HN.out;show _=_;simpa using this
    clear HN;go_wp2_with fail
    refine(IA _ h2).mono ?_;rintro e w1⟨rfl,rfl⟩;go_wp2;go_round
    case rel=>exact⟨k+1,bst,A',by omega,by go_num,rfl,rfl,e1.out⟩
    case measure=>simp[intOf];omega
   .by_cases hg:bst<z
    .have e1:Hid (iE (cyc.take (k+1)) sys=(z,A')):=by have:=HN.out;show _=_;simpa[hg]using this
     clear HN;go_wp2_with fail
     refine(IA _ h2).mono ?_;rintro e w1⟨rfl,rfl⟩;go_wp2;go_round
     case rel=>exact⟨k+1,z,A',by omega,by go_num,rfl,rfl,e1.out⟩
     case measure=>simp[intOf];omega
    .have e1:Hid (iE (cyc.take (k+1)) sys=(bst,A')):=by have:=HN.out;show _=_;simpa[hg]using this
     clear HN;go_wp2_with fail
     refine(IA _ h2).mono ?_;rintro e w1⟨rfl,rfl⟩;go_wp2;go_round
     case rel=>exact⟨k+1,bst,A',by omega,by go_num,rfl,rfl,e1.out⟩
     case measure=>simp[intOf];omega
  .obtain rfl:k=n:=by omega
   have HE:Hid ((iE cyc sys).1=bst):=by have h1:=HH.out;have h2:=HL.out;rw[h2,List.take_length]at h1;show _=_;rw[h1]
   go_wp2;go_ret;exact⟨cK HE.out.symm,rfl⟩
end
end Go.Proofs.YtpbbokalojdooaaGreat
