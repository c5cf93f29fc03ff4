/- PROVED: at every list of bytes the law FnRecovers returns true and leaves its argument as it was: what is recovered once more is the same. No condition. -/
import Derived.Test.YtpbbokalojdooaaGreatQbo
import Derived.Test.YtpbbokalojdooaaGreatRows
namespace Go.Proofs.YtpbbokalojdooaaGreat
open Go.RowKit Ch Go.Proofs.Tryz
set_option linter.unusedSimpArgs false
set_option linter.unusedVariables false
set_option maxRecDepth 20000
set_option maxHeartbeats 8000000
open Value renaming int->I,slice->Z,bool->X,agg->U
open IntKind renaming i64->J
open Option renaming none->O,some->Y
open Obj renaming cells->M
open Ending renaming returned->R'
open Bool renaming true->A',false->F'
variable {old:Array Value} {r:Ending} {zs:List Int} {a:Option Addr}
theorem aR9(rs:List Row):aW (iK rs).2.2<=1048576:=by
 unfold iK;by_cases h0:(dM rs !=0)=A'
 .rw[if_pos h0];simp[aW]
 .rw[if_neg h0];have hz:dM rs=0:=by simpa using h0
  by_cases h1:zP rs rs.length=A'
  .rw[if_pos h1];have:=nV (zL hz rs.length z' ((sY _ _).1 h1));show aW (gF rs rs.length)<=1048576;omega
  .rw[if_neg h1];simp[aW]
theorem bO8:∀(rs:List Row) (i:Nat) (x:Int),i<rs.length->∃rs':List Row,rs'.length=rs.length/\(rcells rs).set (i*3) (I J x)=rcells rs':=by
 intro rs;induction rs with
 |nil=>intro i x h;cases h
 |cons r rs ih=>
  intro i x h;cases i with
  |zero=>exact⟨⟨x,r.v,r.g⟩::rs,rfl,rfl⟩
  |succ i=>obtain⟨rs',h1,h2⟩:=ih i x (Nat.lt_of_succ_lt_succ h);refine⟨r::rs',by simp[h1],?_⟩;show(I J r.k::I J r.v::X r.g::rcells rs).set ((i+1)*3) _=I J r.k::I J r.v::X r.g::rcells rs';rw[show(i+1)*3=i*3+3 by omega,<-h2];rfl
theorem dC1(c:Int)(wt:Bool)(id:Int)(x y:Value)(s:EgS)(bt:Bool)(W:World):(Instr.field 112 (U (resR c wt id x y s bt)) 5).run prog W= .ok (U (s.cells bt)) W:=by kernel_rfl
theorem aM4(a:Option Addr)(n cap:Nat)(rs:List Row)(w:World)(h:CellsAt w a (n*3) (rcells rs))(hn:n<=240):
  Calls prog 66 #[Z a n cap] w fun e w'=>∃g m c',e=R' (Z (Y ⟨g,0,O⟩) m c')/\m<=n/\w'.ownsRow w.heap.size 86 3 (Z (Y ⟨g,0,O⟩) m c') m (rcells (cC rs))/\Below w.heap.size w w':=by
 have HL:=h.rlen;have o0:=jV w w.heap.size z';have b0:=f' w (M #[] 86);go_enter func66,ntmps66
 go_wp2;go_loopw [3,4] (fun q i wr=>∃(k m g c':Nat),k<=n/\m<=k/\i=I J k/\q=Z (Y ⟨g,0,O⟩) m c'/\wr.ownsRow w.heap.size 86 3 (Z (Y ⟨g,0,O⟩) m c') m (rcells (cC (rs.take k)))/\Below w.heap.size w wr) (fun _ i _=>n-(intOf i).toNat)
 case atStart=>exact⟨0,0,_,_,Nat.zero_le _,z',rfl,rfl,by simpa[cC]using o0,b0⟩
 case round=>
  obtain⟨k,m,g,c',hk,hmk,rfl,rfl,own,hB⟩:=hrel;by_cases hlt:k<n
  .have hkl:k<rs.length:=by have:=HL.out;omega
   have HY:=hid (fun he=>pV hkl he);have HN:=hid (fun he=>rD hkl he);obtain⟨b,off,rfl,q0,q1,q2⟩:=(h.below hB).row hlt;have hbl:=aD q0;generalize rs.getD k Row.zero=r at*;obtain⟨rk,rv,rg⟩:=r;simp only at q0 q1 q2 HY HN;generalize cC (rs.take k)=zs at*;have hsum:m+1<=2097152:=by omega
   cases rg
   .replace HY:=hid (HY.out rfl);clear HN;have bA:∀o,Below wr.heap.size wr (wr.alloc o):=fun o=>q';have hwB:=hB.size;go_wp2_with(at_builtin;go_must (refine qU (.tmp 18) (.tmp 23) w.heap.size (Z (Y ⟨g,0,O⟩) m c') m zs 1 [⟨rk,rv,F'⟩] hsum (by omega) ?_ ?_ ?_ ?_ ?_ ?_ ?_;exact rfl;exact rfl;exact rfl;exact⟨_,_,rfl,lK (r:=⟨rk,rv,F'⟩) rfl⟩;exact aF own (bA _);(focus(simp;omega));intro a3 c3 w3 own3 gr3 at3))
    go_roundw;case rel=>obtain⟨g3,rfl⟩:=aX7 own3;refine⟨k+1,m+1,g3,c3,by omega,by omega,by go_num,rfl,by rw[HY.out];exact own3,?_⟩;exact(hB.alloc hB.size _).grown gr3 (by simp;omega) (fun g hg=>(aG own g hg).1)
    case measure=>simp[intOf];omega
   .replace HN:=hid (HN.out rfl);clear HY;go_wp2;go_roundw;case rel=>exact⟨k+1,m,g,c',by omega,by omega,by go_num,rfl,by rw[HN.out];exact own,hB⟩
    case measure=>simp[intOf];omega
  .obtain rfl:k=n:=by omega
   have HWF:Hid (rs.take k=rs):=by have:=HL.out;show _=_;rw[this];exact List.take_length
   rw[HWF.out]at own;go_wp2;go_ret;exact⟨g,m,c',rfl,by omega,own,hB⟩
theorem EngQ.hand{Q' xb sb k n cap:Nat}{w W W':World}(h:EngQ Q' W r W')(hX:W.heap[xb]? =Y (M old 68 (0,0)))(ho:old.size=10)(S:Src W sb a n cap k zs)(hg:w.grownBy W (Y sb))(hs:sb<xb)(hw:w.heap.size<=xb):
  ∃c wt id x y s' e' T',r=R' (U (resR c wt id x y s' (Eng.bt e')))/\W'.heap[xb]? =Y (M old 68 (0,0))/\Below W.heap.size W W'/\Hand (xb+1) Q' (W'.setRow xb (s'.cells e'.bt)) T' s' e'/\(W'.setRow xb (s'.cells e'.bt)).heap[xb]? =Y (M (s'.cells e'.bt) 68 (0,0))/\old.size=(s'.cells e'.bt).size/\(s'.cells e'.bt).all (·.oneCell')=A'/\Src (W'.setRow xb (s'.cells e'.bt)) sb a n cap k zs/\w.grownBy (W'.setRow xb (s'.cells e'.bt)) (Y sb):=by
 obtain⟨c,wt,id,xa,xn,xc,ya,yn,yc,s',bt,e',T',rfl,rfl,hE,hP,h1,h2,h3,h4⟩:=h;have hl:=(Array.getElem?_eq_some_iff.1 hX).1;have hX':=(hP.bel.block xb hl).trans hX;exact⟨c,wt,id,_,_,s',e',_,rfl,hX',hP.bel,((cH9 hE hP z' h1 h2 h3 h4).grown (uM W' xb _) hl).low hl,setRow_heap _ _ _ _ _ _ hX',by rw[ho];rfl,by simp[EgS.cells,Value.oneCell'],eT (S.below hP.bel S.lt) (uM W' xb _) (fun j hj=>by cases hj;exact hs),gE (lJ hg hP.bel) (uM W' xb _) hw⟩
def dF9(Q' sb:Nat)(a:Option Addr)(n cap k:Nat)(zs:List Int)(w:World)(r:Ending)(w':World):Prop:=
 ∃s' e' T' k',r=R' (U (s'.cells (Eng.bt e')))/\Hand w.heap.size Q' w' T' s' e'/\k'<=k+300/\Src w' sb a n cap k' zs/\w.grownBy w' (Y sb)
theorem bI8(N:Int)(sb:Nat)(a:Option Addr)(n cap k:Nat)(zs:List Int)(w:World)(S:Src w sb a n cap k zs)(hb:IsB zs)(hn:n<=1048580)(hk:k<=100)(hN0:0<=N)(hN:N<=30):
  Calls prog 27 #[.pointer (Y ⟨sb,0,O⟩),I J N] w (dF9 100 sb a n cap k zs w):=by
 have hsw:=S.lt;have hb0:=f' w (M #[Z O 0 0,Z O 0 0,Z O 0 0,Z O 0 0,Z O 0 0,Z O 0 0,Z O 0 0,X F',Z O 0 0,Z O 0 0] 68);have S0:=S.below hb0 hsw;have G0:=cW2 hb0 (Y sb);have hO:(w.alloc (M #[Z O 0 0,Z O 0 0,Z O 0 0,Z O 0 0,Z O 0 0,Z O 0 0,Z O 0 0,X F',Z O 0 0,Z O 0 0] 68)).heap[w.heap.size]? =Y (M #[Z O 0 0,Z O 0 0,Z O 0 0,Z O 0 0,Z O 0 0,Z O 0 0,Z O 0 0,X F',Z O 0 0,Z O 0 0] 68 (0,0)):=aO rfl;have hf:=dC1;go_enter func27,ntmps27
 go_upto_region 1 with fail
 generalize(w.alloc (M #[Z O 0 0,Z O 0 0,Z O 0 0,Z O 0 0,Z O 0 0,Z O 0 0,Z O 0 0,X F',Z O 0 0,Z O 0 0] 68))=W0 at*;have hz0:w.heap.size<W0.heap.size:=(Array.getElem?_eq_some_iff.1 hO).1;obtain⟨ob,hob⟩:∃ob,Hid (w.heap.size=ob):=⟨_,rfl⟩
 simp only[hob.out]at hO⊢;have hge:w.heap.size<=ob/\ob<W0.heap.size:=by have:=hob.out;omega
 clear hb0 hob;go_wp2_with fail
 refine(eQ 6 sb a n cap k zs _ S0 hb hn (by omega) (by omega) (by omega)).mono ?_;rintro r W1⟨⟨v,v0,v1,rfl⟩,S1,g1⟩;obtain⟨m,rfl⟩:∃m:Nat,v=(m:Int):=⟨v.toNat,by omega⟩
 have G1:=cW G0 g1;have hO1:=cR g1 hO (by simp;omega);have hz01:=g1.size;clear S0 hO G0 g1;go_wp2_with fail
 refine(bP7 m sb a n cap (k+1) zs _ S1 hb hn (by omega) (by omega)).mono ?_;rintro r W2⟨⟨g,cp,rfl,rs,own⟩,⟨k2,hk2,S2⟩,g2⟩;have G2:=cW G1 g2;have hO2:=cR g2 hO1 (by simp;omega);have hz2:=g2.size;clear S1 hO1 g2;go_wp2_with fail
 refine(aM4 (Y ⟨g,0,O⟩) m cp rs _ (aJ own) (by omega)).mono ?_;rintro r W3⟨g3,m3,c3,rfl,hm3,own3,hb3⟩;have S3:=S2.below hb3 S2.lt;have G3:=lJ G2 hb3;have hO3:=aR hb3 hO2;have L3:=aG own3 g3 rfl;have hz1:=G1.size;have hgz:=G2.size;clear S2 hO2 own G2 hb3 G1;go_wp2;go_loopw [6] (fun i wr=>∃(j:Nat) (rs:List Row),j<=m3/\i=I J j/\wr.ownsRow W2.heap.size 86 3 (Z (Y ⟨g3,0,O⟩) m3 c3) m3 (rcells rs)/\Src wr sb a n cap k2 zs/\w.grownBy wr (Y sb)/\wr.heap[ob]? =Y (M #[Z O 0 0,Z O 0 0,Z O 0 0,Z O 0 0,Z O 0 0,Z O 0 0,Z O 0 0,X F',Z O 0 0,Z O 0 0] 68 (0,0))) (fun i _=>m3-(intOf i).toNat)
 case atStart=>exact⟨0,_,Nat.zero_le _,rfl,own3,S3,G3,hO3⟩
 case round=>
  clear own3 S3 G3 hO3;obtain⟨j,rs',hj,rfl,own,S4,G4,hO4⟩:=hrel;have hlen:=hid (aJ own).rlen;by_cases hlt:j<m3
  .obtain⟨u0,q0⟩:=nN own (j:=j*3) (by omega);have f0:=own.frozenAt (j*3);have hst:=own.stored (j*3) (I J (j:Int));obtain⟨rs2,_,h2⟩:=bO8 rs' j (j:Int) (by have:=hlen.out.out;omega);rw[h2]at hst;have hgl:=aD q0;go_wp2;go_roundw;case rel=>exact⟨j+1,rs2,by omega,by go_num,hst.1,eT S4 hst.2 (fun x hx=>by cases hx;have:=S4.lt;omega),gE G4 hst.2 (by omega),cR hst.2 hO4 (by simp;omega)⟩
   case measure=>simp[intOf];omega
  .obtain rfl:j=m3:=by omega
   go_upto_region 6 with fail
   go_wp2_with fail
   refine(bQ5 ⟨g3,0,O⟩ j c3 rs' _ (aJ own) (by omega)).mono ?_;rintro r W5⟨ba,bn,bc,la,ln,lc,rfl,hbn,hba,hla,hb5⟩;have S5:=S4.below hb5 S4.lt;have G5:=lJ G4 hb5;have hO5:=aR hb5 hO4;have hsz:=aR9 rs';have h1s:=hid hsz;have hb1:=f' W5 (M #[Z ba bn bc,Z la ln lc,Z O 0 0,Z O 0 0,Z O 0 0,Z O 0 0,Z O 0 0,X F',Z O 0 0,Z O 0 0] 68);have hX6:(W5.alloc (M #[Z ba bn bc,Z la ln lc,Z O 0 0,Z O 0 0,Z O 0 0,Z O 0 0,Z O 0 0,X F',Z O 0 0,Z O 0 0] 68)).heap[W5.heap.size]? =Y (M #[Z ba bn bc,Z la ln lc,Z O 0 0,Z O 0 0,Z O 0 0,Z O 0 0,Z O 0 0,X F',Z O 0 0,Z O 0 0] 68 (0,0)):=aO rfl;have S6:=S5.below hb1 S5.lt;have G6:=lJ G5 hb1;have hO6:=aR hb1 hO5;have hb6:=hba.below hb1;have hl6:=hla.below hb1;have hf1:∀W:World,(Instr.field 112 (U #[I J (iK rs').1,X F',I J 0,Z O 0 0,Z O 0 0,Z ba bn bc,Z la ln lc,Z O 0 0,Z O 0 0,Z O 0 0,Z O 0 0,Z O 0 0,X F',Z O 0 0,Z O 0 0]) 5).run prog W= .ok (U #[Z ba bn bc,Z la ln lc,Z O 0 0,Z O 0 0,Z O 0 0,Z O 0 0,Z O 0 0,X F',Z O 0 0,Z O 0 0]) W:=fun W=>by kernel_rfl
   go_upto_region 7 with fail
   have hR0:EgR (W5.alloc (M #[Z ba bn bc,Z la ln lc,Z O 0 0,Z O 0 0,Z O 0 0,Z O 0 0,Z O 0 0,X F',Z O 0 0,Z O 0 0] 68)) ⟨ba,bn,bc,la,ln,lc,O,0,0,O,0,0,O,0,0,O,0,0,O,0,0,O,0,0,O,0,0⟩ ⟨(iK rs').2.1,(iK rs').2.2,[],[],[],[],[],F',[],[]⟩:=
    ⟨hb6,hl6,⟨rfl,fun h=>absurd h (Nat.lt_irrefl 0)⟩,⟨rfl,fun h=>absurd h (Nat.lt_irrefl 0)⟩,⟨rfl,fun h=>absurd h (Nat.lt_irrefl 0)⟩,⟨rfl,fun h=>absurd h (Nat.lt_irrefl 0)⟩,⟨rfl,fun h=>absurd h (Nat.lt_irrefl 0)⟩,⟨rfl,fun h=>absurd h (Nat.lt_irrefl 0)⟩,⟨rfl,fun h=>absurd h (Nat.lt_irrefl 0)⟩,fun i=>by simp,fun i=>by simp,hbn,hsz,by show dC []<=_;decide,Nat.zero_le _,Nat.zero_le _,Nat.zero_le _,Nat.zero_le _,Nat.zero_le _,Nat.zero_le _,fun i=>by simp[eK,Ac.zero],z',z',z'⟩
   have hxl:W5.heap.size<(W5.alloc (M #[Z ba bn bc,Z la ln lc,Z O 0 0,Z O 0 0,Z O 0 0,Z O 0 0,Z O 0 0,X F',Z O 0 0,Z O 0 0] 68)).heap.size:=by simp
   have hz5:=G5.size;have hob5:ob<W5.heap.size:=(Array.getElem?_eq_some_iff.1 hO5).1;clear hb1 S5 G5 hO5 hba hla hf1 hb6 hl6 own S4 G4 hO4 hb5 hsz h1s;generalize W5.alloc (M #[Z ba bn bc,Z la ln lc,Z O 0 0,Z O 0 0,Z O 0 0,Z O 0 0,Z O 0 0,X F',Z O 0 0,Z O 0 0] 68)=W6 at*;generalize W5.heap.size=xb at*;obtain⟨⟨x0,x1,x2,x3,x4,x5,x6,x7,x8,x9⟩,_⟩:=jK hX6;go_wp2_with fail
   clear x0 x1 x2 x3 x4 x5 x6 x7 x8 x9;refine(uK F' _ _ W6 hR0).mono ?_;rintro r W7 hQ;obtain⟨c,wt,id,x,y,s7,e7,T7,rfl,hX7,hb7,hN7,hX8,hl7,h17,S8,G8⟩:=hQ.hand hX6 rfl S6 G6 (by omega) (by omega);have hO8:=(setRow_other W7 xb ob (s7.cells e7.bt) (by omega)).trans (aR hb7 hO6);clear S6 G6 hO6 hR0 hQ hX6;go_upto_region 8 with(refine wpList_store_row rfl 68 (.tmp 7) (.tmp 29) rfl xb (s7.cells e7.bt) rfl rfl _ _ hX7 (by kernel_rfl) hl7 h17 ?_)
   have hxl8:=(Array.getElem?_eq_some_iff.1 hX8).1;have hm7:=hid hN7.o.sizes;have hm7':=hid hN7.mn;generalize W7.setRow xb (s7.cells e7.bt)=W8 at*;obtain⟨⟨x0,x1,x2,x3,x4,x5,x6,x7,x8,x9⟩,_⟩:=jK hX8;go_wp2_with fail
   clear x0 x1 x2 x3 x4 x5 x6 x7 x8 x9 hl7 h17 hb7 hX7;refine(uK F' s7 e7 W8 hN7.o.read).mono ?_;rintro r W9 hQ;obtain⟨c,wt,id,x,y,s9,e9,T9,rfl,hX9,hb9,hN9,hX10,hl9,h19,S10,G10⟩:=hQ.hand hX8 rfl S8 G8 (by omega) (by omega);have hO10:=(setRow_other W9 xb ob (s9.cells e9.bt) (by omega)).trans (aR hb9 hO8);have hxl9:=(Array.getElem?_eq_some_iff.1 hX10).1;clear S8 G8 hO8 hQ hX8;go_wp2_with(refine wpList_store_row rfl 68 (.tmp 7) (.tmp 32) rfl xb (s9.cells e9.bt) rfl rfl _ _ hX9 (by kernel_rfl) hl9 h19 ?_)
   have hm9:s9.mn<=3:=by have:=hN9.mn;have:=hm7.out.2.2.2.2.1;have:=hm7'.out;simp at this;omega
   have hN10:Hand (xb+1) 3 (W9.setRow xb (s9.cells e9.bt)) T9 s9 e9:=⟨hN9.o,hN9.old,hN9.le,hm9,hN9.tn,hN9.an,hN9.wal⟩
   clear hN9 hm7 hm7' hm9 hX9 hb9 hl9 h19 hN7 hxl8 hxl;generalize W9.setRow xb (s9.cells e9.bt)=W10 at*;obtain⟨q,rfl⟩:∃q:Nat,N=(q:Int):=⟨N.toNat,by omega⟩
   simp only[Act.put];go_loopw [1] (fun z wr=>∃(r kq Q':Nat) (T:Nat->Nat) (s:EgS) (e:Eng),z=I J r/\Q'+r<=40/\kq+8*r<=k+270/\Hand (xb+1) Q' wr T s e/\wr.heap[xb]? =Y (M (s.cells e.bt) 68 (0,0))/\Src wr sb a n cap kq zs/\w.grownBy wr (Y sb)/\wr.heap[ob]? =Y (M #[Z O 0 0,Z O 0 0,Z O 0 0,Z O 0 0,Z O 0 0,Z O 0 0,Z O 0 0,X F',Z O 0 0,Z O 0 0] 68 (0,0))) (fun z _=>(intOf z).toNat)
   case atStart=>exact⟨q,k2,3,T9,s9,e9,rfl,by omega,by omega,hN10,hX10,S10,G10,hO10⟩
   case round=>
    clear hN10 hX10 S10 G10 hO10 hxl9;obtain⟨r,kq,Q',T,s,e,rfl,hMr,hkq,hNr,hXr,Sr,Gr,hOr⟩:=hrel;have hxl:=(Array.getElem?_eq_some_iff.1 hXr).1;obtain⟨⟨x0,x1,x2,x3,x4,x5,x6,x7,x8,x9⟩,_⟩:=jK hXr;by_cases hr:0<r
    .have hr':(0:Int)<(r:Int):=by omega
     go_wp2_with fail
     clear x0 x1 x2 x3 x4 x5 x6 x7 x8 x9;refine(bW3 (xb+1) Q' sb a n cap kq zs T s e wr hNr (by omega) Sr hb hn (by omega) (by omega)).mono ?_;rintro u W11⟨s',bt,e',T',k',rfl,rfl,hN',hk',S',G'⟩;have hX':=cR G' hXr (by simp;omega);have hO':=(setRow_other W11 xb ob (s'.cells e'.bt) (by omega)).trans (cR G' hOr (by simp;omega));have hNs:=hN'.grown (uM W11 xb (s'.cells e'.bt)) (Nat.lt_succ_self _);have hXs:=setRow_heap W11 xb _ (s'.cells e'.bt) _ _ hX';have Ss:=eT S' (uM W11 xb (s'.cells e'.bt)) (fun j hj=>by cases hj;omega);have Gs:=gE (cW Gr G') (uM W11 xb (s'.cells e'.bt)) (by omega);have h1c:(s'.cells e'.bt).all (·.oneCell')=A':=by simp[EgS.cells,Value.oneCell']
     go_wp2_with(refine wpList_store_row rfl 68 (.tmp 7) (.tmp 39) rfl xb (s'.cells e'.bt) rfl rfl _ _ hX' (by kernel_rfl) rfl h1c ?_)
     (try simp only[Act.put])
     go_roundw;case rel=>exact⟨r-1,k',Q'+1,_,s',e',by go_num,by omega,by omega,hNs,hXs,Ss,Gs,hO'⟩
     case measure=>simp[intOf];omega
    .obtain rfl:r=0:=by omega
     obtain⟨⟨r0,r1,r2,r3,r4,r5,r6,r7,r8,r9⟩,f0,f1,f2,f3,f4,f5,f6,f7,f8,f9⟩:=jK hOr;have hput:=bO1 (Z s.ba s.bn s.bc) (Z s.la s.ln s.lc) (Z s.ka s.kn s.kc) (Z s.ta s.tn s.tc) (Z s.sa s.sn s.sc) (Z s.oa s.on s.oc) (Z s.xa s.xn s.xc) (X e.bt) (Z s.ma s.mn s.mc) (Z s.aa s.an s.ac) hOr;have hol:=aD r0;go_wp2;refine bodyPost_ret (v:=U (s.cells e.bt)) (results_cell_row Tryz.results27 _ _ ob 68 (s.cells e.bt) (0,0) _ rfl hput.1 underlying68 rfl (by kernel_rfl)) rfl ⟨s,e,_,kq,rfl,((hNr.more (by omega)).grown hput.2 (by omega)).low (by omega),by omega,eT Sr hput.2 (fun j hj=>by cases hj;omega),gE Gr hput.2 hge.1⟩
theorem bD0(rs:List Row)(h:0<rs.length)(k v:Int)(g:Bool):∃rs',(((rcells rs).set 0 (I J k)).set 1 (I J v)).set 2 (X g)=rcells rs':=by
 cases rs with
 |nil=>cases h
 |cons r rs=>exact⟨⟨k,v,g⟩::rs,rfl⟩
theorem cV8(s:EgS)(bt:Bool)(W:World):(Instr.field 68 (U (s.cells bt)) 4).run prog W= .ok (U #[Z s.sa s.sn s.sc,Z s.oa s.on s.oc]) W:=by kernel_rfl
theorem cP7(N:Int)(s:Nat)(a:Option Addr)(n cap k:Nat)(zs:List Int)(w:World)(h:Src w s a n cap k zs)(hb:IsB zs)(hn:n<=1048580)(hk:k<=1000)(h1:1<=N)(h2:N<=1000000):
  Calls prog 28 #[.pointer (Y ⟨s,0,O⟩),I J N] w fun e w'=>(∃v:Int,0<=v/\v<N/\e=R' (I J v))/\Src w' s a n cap (k+1) zs/\w.grownBy w' (Y s):=by
 have hS:=h.step (i:=(k:Int)+1) rfl;have q0:w.cell? ⟨s,0,O⟩=Y (Z a n cap):=cell_of_row _ _ _ _ _ _ h.box;have q1:w.cell? ⟨s,1,O⟩=Y (I J k):=cell_of_row _ _ _ _ _ _ h.box;have hfz:w.frozen? ⟨s,1,O⟩=F':=by simp[World.frozen?,h.box]
 have hgr:w.grownBy (w.setCell ⟨s,1,O⟩ (I J ((k:Int)+1))) (Y s):=nI;have hlt1:¬N<1:=by omega
 by_cases h0:n=0
 .subst h0;have m0:0<=((k:Int)*7)%N:=Int.emod_nonneg _ (by omega);have m1:((k:Int)*7)%N<N:=Int.emod_lt_of_pos _ (by omega);go_enter func28,ntmps28
  go_wp2;go_ret;exact⟨⟨_,m0,m1,rfl⟩,hS,hgr⟩
 .obtain⟨j,hj,hjn⟩:∃j:Nat,(k:Int)%(n:Int)=j/\j<n:=⟨k%n,by simp,Nat.mod_lt _ (by omega)⟩
  obtain⟨j',hj',hjn'⟩:∃j:Nat,((k:Int)+1)%(n:Int)=j/\j<n:=⟨(k+1)%n,by simp,Nat.mod_lt _ (by omega)⟩
  obtain⟨p,hp,hpk⟩:∃p:Nat,(k:Int) / (n:Int)=p/\p<=k:=⟨k / n,by simp,Nat.div_le_self _ _⟩
  obtain⟨b,off,rfl,hc⟩:=h.bytes.at hjn;obtain⟨b',off',hbo,hc'⟩:=h.bytes.at hjn';simp only[Option.some.injEq,Addr.mk.injEq,and_true]at hbo;obtain⟨rfl,rfl⟩:=hbo;obtain⟨x0,x1⟩:=hb j;obtain⟨y0,y1⟩:=hb j';generalize zs.getD j 0=x at*;generalize zs.getD j' 0=y at*;have hfar:b≠s:=by have:=h.far (by omega) _ _ rfl;omega
  have hn0:((n:Int)==0)=F':=by simpa using h0
  have hn1:(n:Int)≠0:=by omega
  by_cases hN:200<N
  .have m0:0<=((x+(p:Int)*37)*251+y*13+k)%N:=Int.emod_nonneg _ (by omega);have m1:((x+(p:Int)*37)*251+y*13+k)%N<N:=Int.emod_lt_of_pos _ (by omega);go_enter func28,ntmps28
   go_wp2;go_quiet (fail)
   go_wp2;go_quiet (fail)
   go_wp2;go_ret;exact⟨⟨_,m0,m1,rfl⟩,hS.drewN _,yV hgr _⟩
  .have m0:0<=(x+(p:Int)*37)%N:=Int.emod_nonneg _ (by omega);have m1:(x+(p:Int)*37)%N<N:=Int.emod_lt_of_pos _ (by omega);go_enter func28,ntmps28
   go_wp2;go_quiet (fail)
   go_wp2;go_ret;exact⟨⟨_,m0,m1,rfl⟩,hS.drewN _,yV hgr _⟩
def dH5(sb:Nat)(a:Option Addr)(n cap k:Nat)(zs:List Int)(w:World)(r:Ending)(w':World):Prop:=
 ∃g m c rs k',r=R' (Z (Y ⟨g,0,O⟩) m c)/\m<=5/\CellsAt w' (Y ⟨g,0,O⟩) (m*3) (rcells rs)/\k'<=k+40/\Src w' sb a n cap k' zs/\w.grownBy w' (Y sb)
theorem bK9(sb:Nat)(a:Option Addr)(n cap k:Nat)(zs:List Int)(w:World)(S:Src w sb a n cap k zs)(hb:IsB zs)(hn:n<=1048580)(hk:k<=450):
  Calls prog 30 #[.pointer (Y ⟨sb,0,O⟩)] w (dH5 sb a n cap k zs w):=by
 have hsw:=S.lt;go_enter func30,ntmps30
 go_wp2_with fail
 refine(eQ 6 sb a n cap k zs _ S hb hn (by omega) (by omega) (by omega)).mono ?_;rintro r W1⟨⟨v,v0,v1,rfl⟩,S1,g1⟩;obtain⟨m,rfl⟩:∃m:Nat,v=(m:Int):=⟨v.toNat,by omega⟩
 go_wp2_with fail
 refine(bP7 m sb a n cap (k+1) zs _ S1 hb hn (by omega) (by omega)).mono ?_;rintro r W2⟨⟨g,cp,rfl,rs,own⟩,⟨k2,hk2,S2⟩,g2⟩;have G2:=cW g1 g2;go_wp2_with fail
 refine(aM4 (Y ⟨g,0,O⟩) m cp rs _ (aJ own) (by omega)).mono ?_;rintro r W3⟨g3,m3,c3,rfl,hm3,own3,hb3⟩;have S3:=S2.below hb3 S2.lt;have G3:=lJ G2 hb3;have L3:=aG own3 g3 rfl;have hz1:=G2.size;clear S2 own G2 hb3 S1 g1 g2;generalize cC rs=rs3 at*;by_cases h0:m3=0
 .subst h0;go_wp2;go_ret;exact⟨g3,0,c3,rs3,k2,rfl,by omega,aJ own3,by omega,S3,G3⟩
 have h0':(0:Int)<(m3:Int):=by omega
 go_wp2_with fail
 refine(pL 12 sb a n cap k2 zs _ S3 hb hn (by omega) (by omega) (by omega)).mono ?_;rintro r W4⟨⟨y,rfl⟩,S4,g4⟩;have own4:=aK own3 g4 (fun j hj e=>by cases hj;have:=Option.some.inj e;(try dsimp only at this);omega);have G4:=cW G3 g4;have hz4:=g4.size;clear S3 own3 G3 g4;cases y
 .go_wp2;go_ret;exact⟨g3,m3,c3,rs3,k2+1,rfl,by omega,aJ own4,by omega,S4,G4⟩
 go_wp2_with fail
 refine(aV6 sb a n cap (k2+1) zs _ S4 hb hn (by omega)).mono ?_;rintro r W5⟨⟨rk,rv,rg⟩,_,_,_,_,rfl,rfl,S5,g5⟩;have own5:=aK own4 g5 (fun j hj e=>by cases hj;have:=Option.some.inj e;(try dsimp only at this);omega);have G5:=cW G4 g5;have hz5:=g5.size;clear S4 own4 G4 g5;obtain⟨u0,q0⟩:=nN own5 (j:=0) (by omega);obtain⟨u1,q1⟩:=nN own5 (j:=1) (by omega);obtain⟨u2,q2⟩:=nN own5 (j:=2) (by omega);have f0:=own5.frozenAt 0;have f1:=own5.frozenAt 1;have f2:=own5.frozenAt 2;have s0:=own5.stored 0 (I J rk);have s1:=s0.1.stored 1 (I J rv);have s2:=s1.1.stored 2 (X rg);have hl:=(aJ own5).rlen.out;obtain⟨rs5,he⟩:=bD0 rs3 (by omega) rk rv rg;have ow:=s2.1;rw[he]at ow;have HO:=hid (aJ ow);have HS:=hid (eT (eT (eT S5 s0.2 (fun j hj=>by cases hj;omega)) s1.2 (fun j hj=>by cases hj;omega)) s2.2 (fun j hj=>by cases hj;omega));have HG:=hid (gE (gE (gE G5 s0.2 (by omega)) s1.2 (by omega)) s2.2 (by omega));have hgl:=aD q0;clear own5 s0 s1 s2 he ow S5 G5 hl;go_wp2;go_ret;exact⟨g3,m3,c3,_,_,rfl,by omega,HO.out,by omega,HS.out,HG.out⟩
theorem bW1(a:Option Addr)(n cap:Nat)(zs:List Int)(w:World)(hc:CellsAt w a n (bts zs))(hb:IsB zs)(hn:n<=1048580):
  Calls prog 6 #[Z a n cap] w fun e w'=>∃a1 n1 c1 a2 n2 c2 bs ds,e=R' (.tuple #[Z a1 n1 c1,Z a2 n2 c2])/\n1<=1048576/\n2<=1048576/\n2<=c2/\CellsAt w' a1 (n1*3) (rcells bs)/\CellsAt w' a2 n2 (bts ds)/\IsB ds/\Below w.heap.size w w':=by
 have hf:=cV8;go_enter func6,ntmps6
 go_wp2_with fail
 refine(cB9 a n cap zs _ hc).mono ?_;rintro r W1⟨rfl,S1,b1⟩;have hz1:=S1.lt;have G1:=cW2 b1 (Y w.heap.size);obtain⟨sb,hsb⟩:∃sb,Hid (w.heap.size=sb):=⟨_,rfl⟩
 simp only[hsb.out]at S1 G1 hz1⊢;clear b1;go_wp2_with fail
 refine(eQ 20 sb a n cap 0 zs _ S1 hb hn (by omega) (by omega) (by omega)).mono ?_;rintro r W2⟨⟨v,v0,v1,rfl⟩,S2,g2⟩;have G2:=cW G1 g2;clear S1 G1 g2;go_wp2_with fail
 refine(bI8 v sb a n cap 1 zs _ S2 hb hn (by omega) v0 (by omega)).mono ?_;rintro r W3⟨s,e,T,k3,rfl,hN3,hk3,S3,g3⟩;have G3:=cW G2 g3;clear S2 G2;have hR3:=hid hN3.o.read;have hb3:=f' W3 (M #[Z s.sa s.sn s.sc,Z s.oa s.on s.oc] 65);have hB4:(W3.alloc (M #[Z s.sa s.sn s.sc,Z s.oa s.on s.oc] 65)).heap[W3.heap.size]? =Y (M #[Z s.sa s.sn s.sc,Z s.oa s.on s.oc] 65 (0,0)):=aO rfl;have S4:=S3.below hb3 S3.lt;have G4:=lJ G3 hb3;have hsu:=(hR3.out.below hb3).su;have hlo:=(hR3.out.below hb3).lo;have hbu:=hid hR3.out.bsu;have hbo:=hid hR3.out.blo;have hwal:=hid hN3.wal;have hwz:=hid hN3.le;clear hR3 hN3 S3 G3 hb3 g3;go_upto_region 3 with fail
 generalize W3.alloc (M #[Z s.sa s.sn s.sc,Z s.oa s.on s.oc] 65)=W4 at*;generalize W3.heap.size=xb at*;have x0:W4.cell? ⟨xb,0,O⟩=Y (Z s.sa s.sn s.sc):=cell_of_row _ _ _ _ _ _ hB4;have x1:W4.cell? ⟨xb,1,O⟩=Y (Z s.oa s.on s.oc):=cell_of_row _ _ _ _ _ _ hB4;have hxl:=aD x0;refine R0 (fun W'=>W'.cell? ⟨xb,0,O⟩=Y (Z s.sa s.sn s.sc)/\W'.cell? ⟨xb,1,O⟩=Y (Z s.oa s.on s.oc)) ⟨x0,x1⟩ (fun hH=>?_);have hb0:Below W4.heap.size W4 W4.drew:=u'.drew;replace S4:=S4.below hb0 S4.lt;replace G4:=lJ G4 hb0;replace hsu:=hsu.below hb0;replace hlo:=hlo.below hb0;have hxl:xb<W4.drew.heap.size:=hxl;clear x0 x1 hb0 hB4;generalize W4.drew=V at*;have hS:=fun W (h:Below V.heap.size V W)=>(⟨aC h hH.1,aC h hH.2⟩:W.cell? ⟨xb,0,O⟩=Y (Z s.sa s.sn s.sc)/\W.cell? ⟨xb,1,O⟩=Y (Z s.oa s.on s.oc))
 refine R4 1 2 4 5 ?_;clear hH;refine J1 0 (fun K hK=>?_);have oE:=oZ V V.heap.size 5 1 z';have b1:=f' V (M #[] 5);go_simp;refine hK.out _ _ (hS _ b1) (fun _=>?_);clear hK K;generalize V.alloc (M #[] 5)=V1 at*;refine J3 (J1 3 (fun K hK=>?_));have hsu1:=hsu.below b1;rw[<-Nat.mul_one s.sn]at hsu1;refine lH aA0 (.tmp 14) (.tmp 16) rfl rfl V.heap.size _ 0 [] s.sa s.sn s.sc (bts e.su) rfl rfl oE hsu1 (yK _) (by have:=hwal.out;omega) b1.size ?_;intro a5 c5 V2 own5 gr5 at5;simp only[Nat.zero_add,List.nil_append]at own5 at5⊢;have b2:=b1.grown gr5 b1.size (fun g hg=>(aG oE g hg).1);refine hK.out _ _ (hS _ b2) (fun _=>?_);clear hK K gr5 at5 oE hsu1;refine J3 (J1 6 (fun K hK=>?_));have hlo2:=hlo.below b2;rw[<-Nat.mul_one s.on]at hlo2;refine lH aA0 (.tmp 17) (.tmp 19) rfl rfl V.heap.size _ s.sn _ s.oa s.on s.oc (bts e.lo) rfl rfl own5 hlo2 (yK _) (by have:=hwal.out;omega) b2.size ?_;intro a7 c7 V3 own7 gr7 at7;have b3:=b2.grown gr7 b2.size (fun g hg=>(aG own5 g hg).1);refine hK.out _ _ (hS _ b3) (fun _=>?_);clear hK K gr7 at7 own5 hlo2 b1 b2;refine J3 (R8 7 (h:=J3 (R7 ?_)));rw[show bts e.su++bts e.lo=bts (e.su++e.lo)by simp[bts]]at own7;have hds:Hid (IsB (e.su++e.lo)):=cI3 hbu.out hbo.out;have S5:=S4.below b3 S4.lt;have G5:=lJ G4 b3;have hnl:=hwal.out;obtain⟨q,hq⟩:∃q,Hid (s.sn+s.on=q):=⟨_,rfl⟩
 simp only[hq.out]at own7 hnl⊢;generalize e.su++e.lo=ds at*;have hsV:sb<V.heap.size:=S4.lt;clear hS hsu hlo hbu hbo hwal S4 G4 hq hxl;have hcs:=aJ own7;rw[Nat.mul_one]at hcs;have hcp:=fH own7;have hlen:=hid hcs.1;have hbl:=hid (fun b off (hg:a7=Y ⟨b,off,O⟩)=>(aG own7 b (by rw[hg];rfl)).1);clear own7;go_simp;go_upto_region 4 with fail
 go_cut [27] (fun sl wx=>∃y k',sl=X y/\(y=A'->0<q)/\k'<=k3+1/\Src wx sb a n cap k' zs/\V3.grownBy wx (Y sb))
 case first=>
  by_cases hq0:q=0
  .have hqb:¬(0:Int)<(q:Int):=by omega
   have hqd:decide ((0:Int)<(q:Int))=F':=by simpa using hqb
   clear hq0;go_wp2_with fail
   go_meet;exact⟨F',k3,rfl,(fun h=>by cases h),by omega,S5,⟨rfl,rfl,rfl,z',fun _ _ _=>rfl⟩⟩
  .have hqb:(0:Int)<(q:Int):=by omega
   go_wp2_with fail
   refine(pL 3 sb a n cap k3 zs _ S5 hb hn (by omega) (by omega) (by omega)).mono ?_;rintro r W6⟨⟨y,rfl⟩,S6,g6⟩;go_wp2_with fail
   go_meet;exact⟨y,k3+1,rfl,fun _=>by omega,by omega,S6,g6⟩
 case rest=>
  obtain⟨W6,hwn⟩:∃x:World,x=wc:=⟨_,rfl⟩
  subst hwn;obtain⟨y,k6,rfl,hy,hk6,S6,g6⟩:=hcut;have hcs6:CellsAt W6 a7 q (bts ds):=gG hcs g6 (fun b off hg e=>by have:=hbl.out b off hg;cases e;omega);have G6:=cW G5 g6;have hds':=hds;clear S5 g6 hcs G5;have HY:=hid hy;clear hy;go_upto_if 27 with fail
  go_cut [6] (fun sl wx=>∃a8 q8 c8 ds8 k8,sl=Z a8 q8 c8/\q8<=100000/\q8<=c8/\CellsAt wx a8 q8 (bts ds8)/\IsB ds8/\k8<=k3+2/\Src wx sb a n cap k8 zs/\w.grownBy wx (Y sb)/\(∀b off,a8=Y ⟨b,off,O⟩->b≠sb))
  case first=>
   cases y
   .go_wp2_with fail
    go_meet;exact⟨a7,q,c7,ds,k6,rfl,hnl,hcp,hcs6,hds.out,by omega,S6,G6,fun b off hb=>by have:=hbl.out b off hb;omega⟩
   .have hq1:=HY.out rfl;go_wp2_with fail
    refine(cP7 (q:Int) sb a n cap k6 zs _ S6 hb hn (by omega) (by omega) (by omega)).mono ?_;rintro r W7⟨⟨x,x0,x1,rfl⟩,S7,g7⟩;obtain⟨p,rfl⟩:∃p:Nat,x=(p:Int):=⟨x.toNat,by omega⟩
    have hcs7:CellsAt W7 a7 q (bts ds):=gG hcs6 g7 (fun b off hg e=>by have:=hbl.out b off hg;cases e;omega);have hpc:p<=c7:=by omega
    have hct:=yM hcs7 (k:=p) (by omega);obtain⟨g,off,hga,_⟩:=hcs7.2 hq1;subst hga;go_wp2_with fail
    go_meet;exact⟨_,p,c7,ds.take p,k6+1,rfl,by omega,by omega,by rw[show bts (ds.take p)=(bts ds).take p by simp[bts,List.map_take]];exact hct,zF hds.out p,by omega,S7,cW G6 g7,fun b o hb=>by cases hb;have:=hbl.out _ _ rfl;omega⟩
  case rest=>
   obtain⟨W9,hwn⟩:∃x:World,x=wc:=⟨_,rfl⟩
   subst hwn;obtain⟨a8,q8,c8,ds8,k8,rfl,hq8,hc8,hds8,hb8,hk8,S8,G8,hfar⟩:=hcut;go_wp2_with fail
   refine(bK9 sb a n cap k8 zs _ S8 hb hn (by omega)).mono ?_;rintro r W10⟨g,m,c,rs,k',rfl,hm,hrs,hk',S',g'⟩;go_wp2;have G10:=cW G8 g';have hz:=hsb.out;go_ret2;exact⟨_,m,c,a8,q8,c8,rs,ds8,rfl,by omega,by omega,hc8,hrs,gG hds8 g' (fun b off hb e=>by cases e;exact hfar _ _ hb rfl),hb8,⟨G10.os,G10.tape,G10.output,G10.size,fun k hk=>G10.block k hk (fun e=>by cases e;omega)⟩⟩
section
open Go.ChangeShapes Go.WideShapes Go.ChangeAt Go.Joins Go.Deep
set_option maxRecDepth 100000 in
theorem yS(os:Os)(started:os.Started)(H:Type)(enc:TypeId×Value->H):
  ReturnsInHanded {} checked os 3 .any (Rows.fnRecoversSpec.pre6 enc prog Tryz.f3 Rows.fnRecoversRow.domain F') (Rows.fnRecoversSpec.post enc prog Tryz.f3 F' A' F' F'):=by
 refine returnsInHanded_of_change (C:=checked) Tryz.own started (by kernel_rfl) func3
  (ChangeSpec.witness6 (enc:=enc) (C:=checked) F' ⟨#[],#[Z O 0 0],[]⟩ 8 (by kernel_rfl) (by kernel_rfl) (by kernel_rfl) (by kernel_rfl)) ?_
 intro W base args ds gs before hval0 hW hcnd _;have hval:∀(j:Nat) t v,Tryz.f3.params[j]? =Y t->args[j]? =Y v->Value.okWide prog W .any base t v:=hval0;have hW':=hW;obtain⟨p,q,hA0,hV,rfl,hfz,hnd⟩:=hW;have hA:DataW.TrodAll enc prog W 0 (fun _=>A') A' Tryz.f3.params.toList args.toList ds p:=hA0;rw[params3]at hA hval;obtain⟨v0,d0,rfl,rfl,h0⟩:=trodAll_one hA;obtain⟨rfl,rfl⟩:=trodVars_none hV;have k0:=h0;have lt0:∀x∈p,x.block<W.heap.size:=by obtain⟨m,hm⟩:=k0;exact DataW.trod_lt m _ _ _ hm
 obtain⟨a0,len0,cap0,rfl⟩:=okWide_slice underlying22 (hval 0 22 v0 rfl rfl);obtain⟨zs,hz,hb⟩:=cA7 (by kernel_rfl) h0;clear hA0 hval0;refine(aG3 (fun a n c zs w h hb hn=>bW1 a n c zs w h hb hn) a0 len0 cap0 zs W hz hb).mono fun e W' ⟨he,bel⟩=>?_;subst he;exact⟨_,rfl,_,_,_,[],_,[],hW',trodAll_mk1 (shut_bool underlying4 _),trodAll_mk1 (Below.trod Tryz.laidOut (by kernel_rfl) (of_decide_eq_true (by kernel_rfl)) k0 bel lt0),rfl,bel.frame _,fun h=>by cases h⟩
theorem fnrecovers_holds:Rows.FnRecoversSaid:=
 OpenClaim.holds_of_wide 3 Tryz.f3 rfl rfl rfl rfl rfl rfl rfl ⟨rfl,rfl,rfl,rfl,rfl⟩ rfl rfl rfl rfl rfl (by kernel_rfl) func3 (by kernel_rfl)
  (of_decide_eq_true (by kernel_rfl)) (by unfold Func.isWrapper;first|(rw[if_pos (by decide+kernel)];kernel_rfl)|(rw[if_neg (by decide+kernel)];exact⟨rfl,rfl⟩))
  (fun os started H enc _=>yS os started H enc)
end
end Go.Proofs.YtpbbokalojdooaaGreat
