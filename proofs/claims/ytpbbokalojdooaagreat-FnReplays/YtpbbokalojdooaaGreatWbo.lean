import Derived.Test.YtpbbokalojdooaaGreatWbn
namespace Go.Proofs.YtpbbokalojdooaaGreat
open Go.RowKit Ch Go.Proofs.Tryz
set_option linter.unusedSimpArgs false
set_option linter.unusedVariables false
set_option maxRecDepth 20000
set_option maxHeartbeats 8000000
open Value renaming int->I,slice->Z,bool->X,agg->U
open IntKind renaming i64->J
open Option renaming none->O,some->Y
open Obj renaming cells->M
open Ending renaming returned->R'
open Bool renaming true->A',false->F'
variable {old:Array Value} {b:Bool} {s:EgS} {r:Ending} {ts:List Ac} {cs zs:List Int} {bs:List Row} {xs:List Value} {F F2 H base c g i j k n ob q sb size xb:Nat} {T T' T3:Nat->Nat} {us:Nat->Value} {a a':Option Addr} {e t:TypeId} {v x:Value} {W W' W3 w w' w3:World}
theorem aU3(rs:List Row):aW (iQ rs).2.2<=1048576:=by
 unfold iQ;by_cases h0:(cW rs !=0)=A'
 .rw[if_pos h0];simp[aW]
 .rw[if_neg h0];have hz:cW rs=0:=by simpa using h0
  by_cases h1:zZ rs rs.length=A'
  .rw[if_pos h1];have:=oK (zT hz rs.length z' ((tH _ _).1 h1));show aW (gM rs rs.length)<=1048576;omega
  .rw[if_neg h1];simp[aW]
theorem bT0:∀(rs:List Row) (i:Nat) (x:Int),i<rs.length->∃rs':List Row,rs'.length=rs.length/\(rcells rs).set (i*3) (I J x)=rcells rs':=by
 intro rs;induction rs with
 |nil=>intro i x h;cases h
 |cons r rs ih=>
  intro i x h;cases i with
  |zero=>exact⟨⟨x,r.v,r.g⟩::rs,rfl,rfl⟩
  |succ i=>obtain⟨rs',h1,h2⟩:=ih i x (Nat.lt_of_succ_lt_succ h);refine⟨r::rs',by simp[h1],?_⟩;show(I J r.k::I J r.v::X r.g::rcells rs).set ((i+1)*3) _=I J r.k::I J r.v::X r.g::rcells rs';rw[show(i+1)*3=i*3+3 by omega,<-h2];rfl
theorem dK0(c:Int)(wt:Bool)(id:Int)(x y:Value)(s:EgS)(bt:Bool)(W:World):(Instr.field 112 (U (oD c wt id x y s bt)) 5).run prog W= .ok (U (s.cells bt)) W:=by kernel_rfl
theorem cG9(a:Option Addr)(n cap:Nat)(rs:List Row)(w:World)(h:CellsAt w a (n*3) (rcells rs))(hn:n<=240):
  Calls prog 66 #[Z a n cap] w fun e w'=>∃g m c',e=R' (Z (Y ⟨g,0,O⟩) m c')/\m<=n/\w'.ownsRow w.heap.size 86 3 (Z (Y ⟨g,0,O⟩) m c') m (rcells (cG rs))/\V' w w':=by
 have HL:=h.rlen;have o0:=kH w w.heap.size z';have b0:V' w (w.alloc (M #[] 86)):=(Aa _ _).alloc z' _;go_enter func66,ntmps66
 go_wp2;go_loopw [3,4] (fun q i wr=>∃(k m g c':Nat),k<=n/\m<=k/\i=I J k/\q=Z (Y ⟨g,0,O⟩) m c'/\wr.ownsRow w.heap.size 86 3 (Z (Y ⟨g,0,O⟩) m c') m (rcells (cG (rs.take k)))/\V' w wr) (fun _ i _=>n-(intOf i).toNat)
 case atStart=>exact⟨0,0,_,_,Ad _,z',rfl,rfl,by simpa[cG]using o0,b0⟩
 case round=>
  obtain⟨k,m,g,c',hk,hmk,rfl,rfl,own,hB⟩:=hrel;by_cases hlt:k<n
  .have hkl:k<rs.length:=by have:=HL.out;omega
   have HY:=hid (fun he=>qJ hkl he);have HN:=hid (fun he=>rZ hkl he);obtain⟨b,off,rfl,q0,q1,q2⟩:=(h.below hB).row hlt;have hbl:=aD q0;generalize rs.getD k Row.zero=r at*;obtain⟨rk,rv,rg⟩:=r;simp only at q0 q1 q2 HY HN;generalize cG (rs.take k)=zs at*;have hsum:m+1<=2097152:=by omega
   cases rg
   .replace HY:=hid (HY.out rfl);clear HN;have bA:∀o,V' wr (wr.alloc o):=fun o=>(Aa _ _).alloc z' _;have hwB:=hB.size;go_wp2_with(at_builtin;go_must (refine rP (.tmp 18) (.tmp 23) w.heap.size (Z (Y ⟨g,0,O⟩) m c') m zs 1 [⟨rk,rv,F'⟩] hsum (by omega) ?_ ?_ ?_ ?_ ?_ ?_ ?_;exact rfl;exact rfl;exact rfl;exact⟨_,_,rfl,lG (r:=⟨rk,rv,F'⟩) rfl⟩;exact aG own (bA _);(focus(simp;omega));intro a3 c3 w3 own3 gr3 at3))
    go_roundw;case rel=>obtain⟨g3,rfl⟩:=aC0 own3;refine⟨k+1,m+1,g3,c3,by omega,by omega,by go_num,rfl,by rw[HY.out];exact own3,?_⟩;exact(hB.alloc hB.size _).grown gr3 (by simp;omega) (fun g hg=>(aH own g hg).1)
    case measure=>simp[intOf];omega
   .replace HN:=hid (HN.out rfl);clear HY;go_wp2;go_roundw;case rel=>exact⟨k+1,m,g,c',by omega,by omega,by go_num,rfl,by rw[HN.out];exact own,hB⟩
    case measure=>simp[intOf];omega
  .obtain rfl:k=n:=by omega
   have HWF:Hid (rs.take k=rs):=by have:=HL.out;show _=_;rw[this];exact Be
   rw[HWF.out]at own;go_wp2;go_ret;exact⟨g,m,c',rfl,by omega,own,hB⟩
theorem EngQ.hand{Q' cap:Nat}(h:EngQ Q' W r W')(hX:W.heap[xb]? =Y (M old 68 (0,0)))(ho:old.size=10)(S:Src W sb a n cap k zs)(hg:w.grownBy W (Y sb))(hs:sb<xb)(hw:w.heap.size<=xb):
  ∃c wt id x y s' e' T',r=R' (U (oD c wt id x y s' (Eng.bt e')))/\W'.heap[xb]? =Y (M old 68 (0,0))/\V' W W'/\Hand (xb+1) Q' (W'.setRow xb (s'.cells e'.bt)) T' s' e'/\(W'.setRow xb (s'.cells e'.bt)).heap[xb]? =Y (M (s'.cells e'.bt) 68 (0,0))/\old.size=(s'.cells e'.bt).size/\(s'.cells e'.bt).all (·.oneCell')=A'/\Src (W'.setRow xb (s'.cells e'.bt)) sb a n cap k zs/\w.grownBy (W'.setRow xb (s'.cells e'.bt)) (Y sb):=by
 obtain⟨c,wt,id,xa,xn,xc,ya,yn,yc,s',bt,e',T',rfl,rfl,hE,hP,h1,h2,h3,h4⟩:=h;have hl:=(Ab.1 hX).1;have hX':=(hP.bel.block xb hl).trans hX;exact⟨c,wt,id,_,_,s',e',_,rfl,hX',hP.bel,((cQ1 hE hP z' h1 h2 h3 h4).grown (oT W' xb _) hl).low hl,setRow_heap _ _ _ _ _ _ hX',by rw[ho];rfl,by simp[EgS.cells,Value.oneCell'],dM (S.below hP.bel S.lt) (oT W' xb _) (fun j hj=>by cases hj;exact hs),eP (iP hg hP.bel) (oT W' xb _) hw⟩
def dO2(Q' sb:Nat)(a:Option Addr)(n cap k:Nat)(zs:List Int)(w:World)(r:Ending)(w':World):Prop:=
 ∃s' e' T' k',r=R' (U (s'.cells (Eng.bt e')))/\Hand w.heap.size Q' w' T' s' e'/\k'<=k+300/\Src w' sb a n cap k' zs/\w.grownBy w' (Y sb)
theorem bM7(N:Int)(sb:Nat)(a:Option Addr)(n cap k:Nat)(zs:List Int)(w:World)(S:Src w sb a n cap k zs)(hb:IsB zs)(hn:n<=1048580)(hk:k<=100)(hN0:0<=N)(hN:N<=30):
  Calls prog 27 #[.pointer (Y ⟨sb,0,O⟩),I J N] w (dO2 100 sb a n cap k zs w):=by
 have hsw:=S.lt;have hb0:V' w (w.alloc (M #[Z O 0 0,Z O 0 0,Z O 0 0,Z O 0 0,Z O 0 0,Z O 0 0,Z O 0 0,X F',Z O 0 0,Z O 0 0] 68)):=(Aa _ _).alloc z' _;have S0:=S.below hb0 hsw;have G0:=cP9 hb0 (Y sb);have hO:(w.alloc (M #[Z O 0 0,Z O 0 0,Z O 0 0,Z O 0 0,Z O 0 0,Z O 0 0,Z O 0 0,X F',Z O 0 0,Z O 0 0] 68)).heap[w.heap.size]? =Y (M #[Z O 0 0,Z O 0 0,Z O 0 0,Z O 0 0,Z O 0 0,Z O 0 0,Z O 0 0,X F',Z O 0 0,Z O 0 0] 68 (0,0)):=aP rfl;have hf:=dK0;go_enter func27,ntmps27
 go_upto_region 1 with fail
 generalize(w.alloc (M #[Z O 0 0,Z O 0 0,Z O 0 0,Z O 0 0,Z O 0 0,Z O 0 0,Z O 0 0,X F',Z O 0 0,Z O 0 0] 68))=W0 at*;have hz0:w.heap.size<W0.heap.size:=(Ab.1 hO).1;obtain⟨ob,hob⟩:∃ob,Hid (w.heap.size=ob):=⟨_,rfl⟩
 simp only[hob.out]at hO⊢;have hge:w.heap.size<=ob/\ob<W0.heap.size:=by have:=hob.out;omega
 clear hb0 hob;go_wp2_with fail
 refine(eD 6 sb a n cap k zs _ S0 hb hn (by omega) (by omega) (by omega)).mono ?_;rintro r W1⟨⟨v,v0,v1,rfl⟩,S1,g1⟩;obtain⟨m,rfl⟩:∃m:Nat,v=(m:Int):=⟨v.toNat,by omega⟩
 have G1:=cC G0 g1;have hO1:=bS g1 hO (by simp;omega);have hz01:=g1.size;clear S0 hO G0 g1;go_wp2_with fail
 refine(aA0 m sb a n cap (k+1) zs _ S1 hb hn (by omega) (by omega)).mono ?_;rintro r W2⟨⟨g,cp,rfl,rs,own⟩,⟨k2,hk2,S2⟩,g2⟩;have G2:=cC G1 g2;have hO2:=bS g2 hO1 (by simp;omega);have hz2:=g2.size;clear S1 hO1 g2;go_wp2_with fail
 refine(cG9 (Y ⟨g,0,O⟩) m cp rs _ (aO own) (by omega)).mono ?_;rintro r W3⟨g3,m3,c3,rfl,hm3,own3,hb3⟩;have S3:=S2.below hb3 S2.lt;have G3:=iP G2 hb3;have hO3:=aR hb3 hO2;have L3:=aH own3 g3 rfl;have hz1:=G1.size;have hgz:=G2.size;clear S2 hO2 own G2 hb3 G1;go_wp2;go_loopw [6] (fun i wr=>∃(j:Nat) (rs:List Row),j<=m3/\i=I J j/\wr.ownsRow W2.heap.size 86 3 (Z (Y ⟨g3,0,O⟩) m3 c3) m3 (rcells rs)/\Src wr sb a n cap k2 zs/\w.grownBy wr (Y sb)/\wr.heap[ob]? =Y (M #[Z O 0 0,Z O 0 0,Z O 0 0,Z O 0 0,Z O 0 0,Z O 0 0,Z O 0 0,X F',Z O 0 0,Z O 0 0] 68 (0,0))) (fun i _=>m3-(intOf i).toNat)
 case atStart=>exact⟨0,_,Ad _,rfl,own3,S3,G3,hO3⟩
 case round=>
  clear own3 S3 G3 hO3;obtain⟨j,rs',hj,rfl,own,S4,G4,hO4⟩:=hrel;have hlen:=hid (aO own).rlen;by_cases hlt:j<m3
  .obtain⟨u0,q0⟩:=wE own (j:=j*3) (by omega);have f0:=own.frozenAt (j*3);have hst:=own.stored (j*3) (I J (j:Int));obtain⟨rs2,_,h2⟩:=bT0 rs' j (j:Int) (by have:=hlen.out.out;omega);rw[h2]at hst;have hgl:=aD q0;go_wp2;go_roundw;case rel=>exact⟨j+1,rs2,by omega,by go_num,hst.1,dM S4 hst.2 (fun x hx=>by cases hx;have:=S4.lt;omega),eP G4 hst.2 (by omega),bS hst.2 hO4 (by simp;omega)⟩
   case measure=>simp[intOf];omega
  .obtain rfl:j=m3:=by omega
   go_upto_region 6 with fail
   go_wp2_with fail
   refine(bU7 ⟨g3,0,O⟩ j c3 rs' _ (aO own) (by omega)).mono ?_;rintro r W5⟨ba,bn,bc,la,ln,lc,rfl,hbn,hba,hla,hb5⟩;have S5:=S4.below hb5 S4.lt;have G5:=iP G4 hb5;have hO5:=aR hb5 hO4;have hsz:=aU3 rs';have h1s:=hid hsz;have hb1:V' W5 (W5.alloc (M #[Z ba bn bc,Z la ln lc,Z O 0 0,Z O 0 0,Z O 0 0,Z O 0 0,Z O 0 0,X F',Z O 0 0,Z O 0 0] 68)):=(Aa _ _).alloc z' _;have hX6:(W5.alloc (M #[Z ba bn bc,Z la ln lc,Z O 0 0,Z O 0 0,Z O 0 0,Z O 0 0,Z O 0 0,X F',Z O 0 0,Z O 0 0] 68)).heap[W5.heap.size]? =Y (M #[Z ba bn bc,Z la ln lc,Z O 0 0,Z O 0 0,Z O 0 0,Z O 0 0,Z O 0 0,X F',Z O 0 0,Z O 0 0] 68 (0,0)):=aP rfl;have S6:=S5.below hb1 S5.lt;have G6:=iP G5 hb1;have hO6:=aR hb1 hO5;have hb6:=hba.below hb1;have hl6:=hla.below hb1;have hf1:∀W:World,(Instr.field 112 (U #[I J (iQ rs').1,X F',I J 0,Z O 0 0,Z O 0 0,Z ba bn bc,Z la ln lc,Z O 0 0,Z O 0 0,Z O 0 0,Z O 0 0,Z O 0 0,X F',Z O 0 0,Z O 0 0]) 5).run prog W= .ok (U #[Z ba bn bc,Z la ln lc,Z O 0 0,Z O 0 0,Z O 0 0,Z O 0 0,Z O 0 0,X F',Z O 0 0,Z O 0 0]) W:=fun W=>by kernel_rfl
   go_upto_region 7 with fail
   have hR0:EgR (W5.alloc (M #[Z ba bn bc,Z la ln lc,Z O 0 0,Z O 0 0,Z O 0 0,Z O 0 0,Z O 0 0,X F',Z O 0 0,Z O 0 0] 68)) ⟨ba,bn,bc,la,ln,lc,O,0,0,O,0,0,O,0,0,O,0,0,O,0,0,O,0,0,O,0,0⟩ ⟨(iQ rs').2.1,(iQ rs').2.2,[],[],[],[],[],F',[],[]⟩:=
    ⟨hb6,hl6,⟨rfl,fun h=>absurd h (Fw 0)⟩,⟨rfl,fun h=>absurd h (Fw 0)⟩,⟨rfl,fun h=>absurd h (Fw 0)⟩,⟨rfl,fun h=>absurd h (Fw 0)⟩,⟨rfl,fun h=>absurd h (Fw 0)⟩,⟨rfl,fun h=>absurd h (Fw 0)⟩,⟨rfl,fun h=>absurd h (Fw 0)⟩,fun i=>by simp,fun i=>by simp,hbn,hsz,by show dS []<=_;decide,Ad _,Ad _,Ad _,Ad _,Ad _,Ad _,fun i=>by simp[aM,Ac.zero],z',z',z'⟩
   have hxl:W5.heap.size<(W5.alloc (M #[Z ba bn bc,Z la ln lc,Z O 0 0,Z O 0 0,Z O 0 0,Z O 0 0,Z O 0 0,X F',Z O 0 0,Z O 0 0] 68)).heap.size:=by simp
   have hz5:=G5.size;have hob5:ob<W5.heap.size:=(Ab.1 hO5).1;clear hb1 S5 G5 hO5 hba hla hf1 hb6 hl6 own S4 G4 hO4 hb5 hsz h1s;generalize W5.alloc (M #[Z ba bn bc,Z la ln lc,Z O 0 0,Z O 0 0,Z O 0 0,Z O 0 0,Z O 0 0,X F',Z O 0 0,Z O 0 0] 68)=W6 at*;generalize W5.heap.size=xb at*;obtain⟨⟨x0,x1,x2,x3,x4,x5,x6,x7,x8,x9⟩,_⟩:=eK hX6;go_wp2_with fail
   clear x0 x1 x2 x3 x4 x5 x6 x7 x8 x9;refine(uR F' _ _ W6 hR0).mono ?_;rintro r W7 hQ;obtain⟨c,wt,id,x,y,s7,e7,T7,rfl,hX7,hb7,hN7,hX8,hl7,h17,S8,G8⟩:=hQ.hand hX6 rfl S6 G6 (by omega) (by omega);have hO8:=(Ew W7 xb ob (s7.cells e7.bt) (by omega)).trans (aR hb7 hO6);clear S6 G6 hO6 hR0 hQ hX6;go_upto_region 8 with(refine Fu rfl 68 (.tmp 7) (.tmp 29) rfl xb (s7.cells e7.bt) rfl rfl _ _ hX7 (by kernel_rfl) hl7 h17 ?_)
   have hxl8:=(Ab.1 hX8).1;have hm7:=hid hN7.o.sizes;have hm7':=hid hN7.mn;generalize W7.setRow xb (s7.cells e7.bt)=W8 at*;obtain⟨⟨x0,x1,x2,x3,x4,x5,x6,x7,x8,x9⟩,_⟩:=eK hX8;go_wp2_with fail
   clear x0 x1 x2 x3 x4 x5 x6 x7 x8 x9 hl7 h17 hb7 hX7;refine(uR F' s7 e7 W8 hN7.o.read).mono ?_;rintro r W9 hQ;obtain⟨c,wt,id,x,y,s9,e9,T9,rfl,hX9,hb9,hN9,hX10,hl9,h19,S10,G10⟩:=hQ.hand hX8 rfl S8 G8 (by omega) (by omega);have hO10:=(Ew W9 xb ob (s9.cells e9.bt) (by omega)).trans (aR hb9 hO8);have hxl9:=(Ab.1 hX10).1;clear S8 G8 hO8 hQ hX8;go_wp2_with(refine Fu rfl 68 (.tmp 7) (.tmp 32) rfl xb (s9.cells e9.bt) rfl rfl _ _ hX9 (by kernel_rfl) hl9 h19 ?_)
   have hm9:s9.mn<=3:=by have:=hN9.mn;have:=hm7.out.2.2.2.2.1;have:=hm7'.out;simp at this;omega
   have hN10:Hand (xb+1) 3 (W9.setRow xb (s9.cells e9.bt)) T9 s9 e9:=⟨hN9.o,hN9.old,hN9.le,hm9,hN9.tn,hN9.an,hN9.wal⟩
   clear hN9 hm7 hm7' hm9 hX9 hb9 hl9 h19 hN7 hxl8 hxl;generalize W9.setRow xb (s9.cells e9.bt)=W10 at*;obtain⟨q,rfl⟩:∃q:Nat,N=(q:Int):=⟨N.toNat,by omega⟩
   simp only[Act.put];go_loopw [1] (fun z wr=>∃(r kq Q':Nat) (T:Nat->Nat) (s:EgS) (e:Eng),z=I J r/\Q'+r<=40/\kq+8*r<=k+270/\Hand (xb+1) Q' wr T s e/\wr.heap[xb]? =Y (M (s.cells e.bt) 68 (0,0))/\Src wr sb a n cap kq zs/\w.grownBy wr (Y sb)/\wr.heap[ob]? =Y (M #[Z O 0 0,Z O 0 0,Z O 0 0,Z O 0 0,Z O 0 0,Z O 0 0,Z O 0 0,X F',Z O 0 0,Z O 0 0] 68 (0,0))) (fun z _=>(intOf z).toNat)
   case atStart=>exact⟨q,k2,3,T9,s9,e9,rfl,by omega,by omega,hN10,hX10,S10,G10,hO10⟩
   case round=>
    clear hN10 hX10 S10 G10 hO10 hxl9;obtain⟨r,kq,Q',T,s,e,rfl,hMr,hkq,hNr,hXr,Sr,Gr,hOr⟩:=hrel;have hxl:=(Ab.1 hXr).1;obtain⟨⟨x0,x1,x2,x3,x4,x5,x6,x7,x8,x9⟩,_⟩:=eK hXr;by_cases hr:0<r
    .have hr':(0:Int)<(r:Int):=by omega
     go_wp2_with fail
     clear x0 x1 x2 x3 x4 x5 x6 x7 x8 x9;refine(cA5 (xb+1) Q' sb a n cap kq zs T s e wr hNr (by omega) Sr hb hn (by omega) (by omega)).mono ?_;rintro u W11⟨s',bt,e',T',k',rfl,rfl,hN',hk',S',G'⟩;have hX':=bS G' hXr (by simp;omega);have hO':=(Ew W11 xb ob (s'.cells e'.bt) (by omega)).trans (bS G' hOr (by simp;omega));have hNs:=hN'.grown (oT W11 xb (s'.cells e'.bt)) (Fs _);have hXs:=setRow_heap W11 xb _ (s'.cells e'.bt) _ _ hX';have Ss:=dM S' (oT W11 xb (s'.cells e'.bt)) (fun j hj=>by cases hj;omega);have Gs:=eP (cC Gr G') (oT W11 xb (s'.cells e'.bt)) (by omega);have h1c:(s'.cells e'.bt).all (·.oneCell')=A':=by simp[EgS.cells,Value.oneCell']
     go_wp2_with(refine Fu rfl 68 (.tmp 7) (.tmp 39) rfl xb (s'.cells e'.bt) rfl rfl _ _ hX' (by kernel_rfl) rfl h1c ?_)
     (try simp only[Act.put])
     go_roundw;case rel=>exact⟨r-1,k',Q'+1,_,s',e',by go_num,by omega,by omega,hNs,hXs,Ss,Gs,hO'⟩
     case measure=>simp[intOf];omega
    .obtain rfl:r=0:=by omega
     obtain⟨⟨r0,r1,r2,r3,r4,r5,r6,r7,r8,r9⟩,f0,f1,f2,f3,f4,f5,f6,f7,f8,f9⟩:=eK hOr;have hput:=aO4 (Z s.ba s.bn s.bc) (Z s.la s.ln s.lc) (Z s.ka s.kn s.kc) (Z s.ta s.tn s.tc) (Z s.sa s.sn s.sc) (Z s.oa s.on s.oc) (Z s.xa s.xn s.xc) (X e.bt) (Z s.ma s.mn s.mc) (Z s.aa s.an s.ac) hOr;have hol:=aD r0;go_wp2;refine Ae (v:=U (s.cells e.bt)) (As Tryz.results27 _ _ ob 68 (s.cells e.bt) (0,0) _ rfl hput.1 underlying68 rfl (by kernel_rfl)) rfl ⟨s,e,_,kq,rfl,((hNr.more (by omega)).grown hput.2 (by omega)).low (by omega),by omega,dM Sr hput.2 (fun j hj=>by cases hj;omega),eP Gr hput.2 hge.1⟩
theorem pO(t:Ac)(hk:k<ts.length)(i:Nat):aM (ts.set k t) i=if k=i then t else aM ts i:=by
 unfold aM;by_cases h:k=i
 .subst h;simp[List.getD,hk]
 .simp[List.getD,h]
theorem aB1(ts:List Ac)(k i:Nat):aM (ts.eraseIdx k) i=if i<k then aM ts i else aM ts (i+1):=by unfold aM;simp only[List.getD,List.getElem?_eraseIdx];split<;>rfl
def uL(t:Ac)(j:Nat)(y:Int):Ac:=match j with
 |0=>{t with tx:=y}
 |1=>{t with k:=y}
 |2=>{t with a:=y}
 |3=>{t with b:=y}
 |_=>{t with v:=y}
theorem aC4(t:Ac)(j:Nat)(y:Int):(uL t j y).an=t.an:=by unfold uL;split<;>rfl
theorem dJ3(t:Ac)(x:Value)(y:Int)(hj:j<5)(hq:q<6):ac6 (uL t j y) x q=if q=j then I J y else ac6 t x q:=by
 obtain rfl|rfl|rfl|rfl|rfl:j=0\/j=1\/j=2\/j=3\/j=4:=by omega
 all_goals obtain rfl|rfl|rfl|rfl|rfl|rfl:q=0\/q=1\/q=2\/q=3\/q=4\/q=5:=by omega
 all_goals rfl
theorem dO3(t:Ac)(x x':Value)(zs:List Int)(hq:q<6):ac6 {t with an:=zs} x' q=if q=5 then x' else ac6 t x q:=by
 obtain rfl|rfl|rfl|rfl|rfl|rfl:q=0\/q=1\/q=2\/q=3\/q=4\/q=5:=by omega
 all_goals rfl
structure AcW(F:Nat)(w:World)(H:Nat)(T:Nat->Nat)(v:Value)(n:Nat)(ts:List Ac)(us:Nat->Value):Prop where
 len:ts.length=n
 row:∃cs,OwnT w H T 7 56 6 v n cs/\∀i j,i<n->j<6->cs[i*6+j]? =Y (ac6 (aM ts i) (us i) j)
 an:∀i,i<n->OwnT w H T (2*i+11) 2 1 (us i) (aM ts i).an.length (icells (aM ts i).an)
 few:∀i,(aM ts i).an.length<=F
theorem AcW.kept(h:AcW F w H T v n ts us)(hk:Kp 7 T T' w w')(hu:∀i,Kp (2*i+11) T T' w w'):AcW F w' H T' v n ts us:=by obtain⟨hl,⟨cs,hr,hc⟩,hn,hf⟩:=h;exact⟨hl,⟨cs,hr.kept hk,hc⟩,fun i hi=>(hn i hi).kept (hu i),hf⟩
theorem AcW.at(hF:F<=1048577)(h:AcW F w H T (Z a n c) n ts us):AcAt w a n ts:=by obtain⟨hl,⟨cs,hr,hcs⟩,hn,hf⟩:=h;have hc:=hr.cells;refine⟨hl,fun h0=>?_⟩;obtain⟨b,off,ha,hcc⟩:=hc.2 (by omega);refine⟨b,off,ha,fun i hlt=>?_⟩;have h2:=(hn i hlt).1;obtain⟨ai,ci,hx⟩:=dT h2;have cc:=fun j (hj:j<6)=>(hcc (i*6+j) (by omega)).trans (hcs i j hlt hj);rw[hx]at cc h2;simp only[<-Dm]at cc;exact⟨ai,_,ci,cc 0 (by decide),cc 1 (by decide),cc 2 (by decide),cc 3 (by decide),cc 4 (by decide),cc 5 (by decide),aO h2,by have:=hf i;omega⟩
theorem AcW.cell(h:AcW F w H T (Z (Y ⟨g,0,O⟩) n c) n ts us)(hi:i<n)(hj:j<5)(y:Int):
  AcW F (w.setCell ⟨g,i*6+j,O⟩ (I J y)) H T (Z (Y ⟨g,0,O⟩) n c) n (ts.set i (uL (aM ts i) j y)) us:=by
 obtain⟨hl,⟨cs,hr,hc⟩,hn,hf⟩:=h;have hT:T g=7:=hr.2 g rfl;have hst:=hr.1.stored (i*6+j) (I J y);have hcl:=hr.1.1;refine⟨by simpa using hl,⟨_,⟨hst.1,hr.2⟩,fun q p hq hp=>?_⟩,fun q hq=>?_,fun q=>?_⟩
 .rw[Gb,pO _ (by omega)];by_cases e:i=q
  .subst e;rw[if_pos rfl,dJ3 _ _ _ hj hp];by_cases ep:p=j
   .subst ep;rw[if_pos rfl,if_pos (by omega),if_pos rfl]
   .rw[if_neg (by omega),if_neg ep];exact hc i p hq hp
  .rw[if_neg (by omega),if_neg e];exact hc q p hq hp
 .have h1:=(hn q hq).kept (kL (w:=w) (T:=T) (g:=g) (o:=i*6+j) (v:=I J y) hT (show 2*q+11≠7 by omega));rw[pO _ (by omega)];by_cases e:i=q
  .subst e;rw[if_pos rfl,aC4];exact h1
  .rw[if_neg e];exact h1
 .rw[pO _ (by omega)];by_cases e:i=q
  .subst e;rw[if_pos rfl,aC4];exact hf i
  .rw[if_neg e];exact hf q
theorem AcW.answer(hF:F<=F2)(h:AcW F w H T (Z (Y ⟨g,0,O⟩) n c) n ts us)(hi:i<n)(h7:Kp 7 T T3 w w3)(hu:∀q,q≠i->Kp (2*q+11) T T3 w w3)
  (hx:OwnT w3 H T3 (2*i+11) 2 1 x zs.length (icells zs)) (hz:zs.length<=F2):
  AcW F2 (w3.setCell ⟨g,i*6+5,O⟩ x) H T3 (Z (Y ⟨g,0,O⟩) n c) n (ts.set i {aM ts i with an:=zs}) (fun q=>if q=i then x else us q):=by
 obtain⟨hl,⟨cs,hr0,hc⟩,hn,hf⟩:=h;have hr:=hr0.kept h7;have hT:T3 g=7:=hr.2 g rfl;have hst:=hr.1.stored (i*6+5) x;have hcl:=hr.1.1;refine⟨by simpa using hl,⟨_,⟨hst.1,hr.2⟩,fun q p hq hp=>?_⟩,fun q hq=>?_,fun q=>?_⟩
 .rw[Gb,pO _ (by omega)];by_cases e:i=q
  .subst e;rw[if_pos rfl,if_pos rfl,dO3 _ (us i) _ _ hp];by_cases ep:p=5
   .subst ep;rw[if_pos rfl,if_pos (by omega),if_pos rfl]
   .rw[if_neg (by omega),if_neg ep];exact hc i p hq hp
  .rw[if_neg (by omega),if_neg e,if_neg (fun h=>e h.symm)];exact hc q p hq hp
 .rw[pO _ (by omega)];by_cases e:i=q
  .subst e;rw[if_pos rfl,if_pos rfl];exact hx.kept (kL hT (by omega))
  .rw[if_neg e,if_neg (fun h=>e h.symm)];exact((hn q hq).kept (hu q (fun h=>e h.symm))).kept (kL hT (by omega))
 .rw[pO _ (by omega)];by_cases e:i=q
  .subst e;rw[if_pos rfl];exact hz
  .rw[if_neg e];exact Ak (hf q) hF
def sh(i k:Nat):Nat:=if k=2*i+11 then 8 else if 2*i+11<k/\k%2=1 then k-2 else k
theorem dG9(h:k<11):sh i k=k:=by unfold sh;rw[if_neg (by omega),if_neg (by omega)]
theorem dM3(h:∀q,k≠2*q+11):sh i k=k:=by unfold sh;rw[if_neg (h i),if_neg];rintro⟨h1,h2⟩;exact h ((k-11) / 2) (by omega)
theorem cY6(h:q<i):sh i (2*q+11)=2*q+11:=by unfold sh;rw[if_neg (by omega),if_neg (by omega)]
theorem cY7(h:i<=q):sh i (2*(q+1)+11)=2*q+11:=by unfold sh;rw[if_neg (by omega),if_pos (by omega)];omega
theorem OwnT.shift{sz:Nat}(h:OwnT w H T k t sz v n xs)(hk:sh i k=j):OwnT w H (fun x=>sh i (T x)) j t sz v n xs:=
 ⟨h.1,fun g hg=>by show sh i (T g)=j;rw[h.2 g hg];exact hk⟩
theorem AcW.cut{c':Nat}(h:AcW F w H T (Z (Y ⟨g,0,O⟩) n c) n ts us)(hi:i<n)
  (hrow:∀cs,w.ownsRow H 56 6 (Z (Y ⟨g,0,O⟩) n c) n cs->OwnT w3 H T3 7 56 6 (Z a' (n-1) c') (n-1) (cs.take (i*6)++cs.drop ((i+1)*6))) (hu:∀q,Kp (2*q+11) T T3 w w3):
  AcW F w3 H (fun x=>sh i (T3 x)) (Z a' (n-1) c') (n-1) (ts.eraseIdx i) (fun q=>if q<i then us q else us (q+1)):=by
 obtain⟨hl,⟨cs,hr,hc⟩,hn,hf⟩:=h;have hcl:=hr.1.1;refine⟨by rw[List.length_eraseIdx,if_pos (by omega)];omega,⟨_,(hrow cs hr.1).shift (dG9 (by decide)),fun q p hq hp=>?_⟩,fun q hq=>?_,fun q=>?_⟩
 .rw[aB1];by_cases e:q<i
  .rw[if_pos e,if_pos e,Av (by simp;omega),Eo (by omega)];exact hc q p (by omega) hp
  .rw[if_neg e,if_neg e,Ay (by simp;omega),Df];rw[show(i+1)*6+(q*6+p-(cs.take (i*6)).length)=(q+1)*6+p by simp;omega];exact hc (q+1) p (by omega) hp
 .rw[aB1];by_cases e:q<i
  .rw[if_pos e,if_pos e];exact((hn q (by omega)).kept (hu q)).shift (cY6 e)
  .rw[if_neg e,if_neg e];exact((hn (q+1) (by omega)).kept (hu (q+1))).shift (cY7 (by omega))
 .rw[aB1];split<;>exact hf _
structure EgW(F:Nat)(w:World)(T:Nat->Nat)(s:EgS)(bs:List Row)(cs:List Int)(ts:List Ac):Prop where
 base:CellsAt (gU (Ice T) w) s.ba (s.bn*3) (rcells bs)
 cm:OwnT w 0 T 6 2 1 (Z s.ma s.mn s.mc) s.mn (icells cs)
 ac:∃us,AcW F w 0 T (Z s.aa s.an s.ac) s.an ts us
 n1:s.bn<=1048576
theorem EgO.lite{e:Eng}(h:EgO w 0 T s e):EgW 1048576 w T s e.base e.cm e.ac:=by obtain⟨us,ha⟩:=h.ac;exact⟨h.base,h.cm,⟨us,ha.len,ha.row,ha.an,ha.few⟩,h.n1⟩
theorem EgW.kept(h:EgW F w T s bs cs ts)(hk:∀k,k≠1->k≠8->Kp k T T' w w'):EgW F w' T' s bs cs ts:=by obtain⟨us,ha⟩:=h.ac;exact⟨h.base.sub (eE (hk 0 (by omega) (by omega))),h.cm.kept (hk 6 (by omega) (by omega)),⟨us,ha.kept (hk 7 (by omega) (by omega)) fun i=>hk _ (by omega) (by omega)⟩,h.n1⟩
theorem EgW.newAc{ts':List Ac}(h:EgW F w T s bs cs ts)(hk:∀k,k≠1->k≠8->k≠7->(∀i,k≠2*i+11)->Kp k T T' w w')(hl:AcW F2 w' 0 T' (Z a n c) n ts' us):
  EgW F2 w' T' {s with aa:=a,an:=n,ac:=c} bs cs ts':=
 ⟨h.base.sub (eE (hk 0 (by omega) (by omega) (by omega) (by omega))),h.cm.kept (hk 6 (by omega) (by omega) (by omega) (by omega)),⟨us,hl⟩,h.n1⟩
structure Mid(F H ob xb sb:Nat)(W:World)(T:Nat->Nat)(s:EgS)(b:Bool)(bs:List Row)(cs:List Int)(ts:List Ac):Prop where
 box:W.heap[xb]? =Y (M (s.cells b) 68 (0,0))
 out:W.heap[ob]? =Y (M #[Z O 0 0,Z O 0 0,Z O 0 0,Z O 0 0,Z O 0 0,Z O 0 0,Z O 0 0,X F',Z O 0 0,Z O 0 0] 68 (0,0))
 o:EgW F W T s bs cs ts
 mx:T xb=8
 mo:T ob=8
 ms:T sb=8
 ne:xb≠ob
 sl:sb<W.heap.size
 old:∀x,x<H->T x=8
 le:H<=W.heap.size
 mn:s.mn<=100
 an:s.an<=250
theorem Mid.kept(h:Mid F H ob xb sb W T s b bs cs ts)(hk:∀k,k≠1->k≠8->Kp k T T' W W')(h8:∀x,x<W.heap.size->T' x=T x)(hs:W.heap.size<=W'.heap.size)
  (hx:W'.heap[xb]? =W.heap[xb]?) (ho:W'.heap[ob]? =W.heap[ob]?):Mid F H ob xb sb W' T' s b bs cs ts:=by
 have lx:=(Ab.1 h.box).1;have lo:=(Ab.1 h.out).1;have hle:=h.le;exact⟨hx.trans h.box,ho.trans h.out,h.o.kept hk,(h8 _ lx).trans h.mx,(h8 _ lo).trans h.mo,(h8 _ h.sl).trans h.ms,h.ne,At h.sl hs,fun x hx=>(h8 x (by omega)).trans (h.old x hx),by omega,h.mn,h.an⟩
theorem Mid.grown(h:Mid F H ob xb sb W T s b bs cs ts)(hg:W.grownBy W' (Y sb))(h1:sb≠xb)(h2:sb≠ob):Mid F H ob xb sb W' (mrk T W.heap.size 8) s b bs cs ts:=by have lx:=(Ab.1 h.box).1;have lo:=(Ab.1 h.out).1;exact h.kept (fun k _ h8=>dF hg (fun x hx=>by cases hx;exact h.ms) h8) (fun x hx=>dR hx) hg.size (hg.block xb lx (fun e=>h1 (Option.some.inj e).symm)) (hg.block ob lo (fun e=>h2 (Option.some.inj e).symm))
theorem Mid.below(h:Mid F H ob xb sb W T s b bs cs ts)(hb:V' W W'):Mid F H ob xb sb W' (mrk T W.heap.size 8) s b bs cs ts:=by have lx:=(Ab.1 h.box).1;have lo:=(Ab.1 h.out).1;exact h.kept (fun k _ _=>aY hb T 8 k) (fun x hx=>dR hx) hb.size (hb.block xb lx) (hb.block ob lo)
theorem mR{o x:Nat}(h:g≠x):(W.setCell ⟨g,o,O⟩ v).heap[x]? =W.heap[x]? :=by refine Bu _ _ _ _ ?_;intro e;simp at e;exact h e.symm
theorem Mid.cell(h:Mid F H ob xb sb W T s b bs cs ts)(hg:s.aa=Y ⟨g,0,O⟩)(hi:i<s.an)(hj:j<5)(y:Int):
  Mid F H ob xb sb (W.setCell ⟨g,i*6+j,O⟩ (I J y)) T s b bs cs (ts.set i (uL (aM ts i) j y)):=by
 obtain⟨us,ha⟩:=h.o.ac;rw[hg]at ha;have hT:T g=7:=by obtain⟨cs,hr,_⟩:=ha.row;exact hr.2 g rfl
 have h1:g≠xb:=fun e=>by have:=h.mx;rw[<-e]at this;omega
 have h2:g≠ob:=fun e=>by have:=h.mo;rw[<-e]at this;omega
 have hE:=h.o.newAc (a:=Y ⟨g,0,O⟩) (c:=s.ac) (fun k _ _ h7 _=>kL hT h7) (ha.cell hi hj y);rw[<-hg]at hE;exact⟨(mR h1).trans h.box,(mR h2).trans h.out,hE,h.mx,h.mo,h.ms,h.ne,by simpa using h.sl,h.old,by simpa using h.le,h.mn,h.an⟩
theorem Mid.answer(h:Mid F H ob xb sb W T s b bs cs ts)(hg:s.aa=Y ⟨g,0,O⟩)(hi:i<s.an)(hs:W.heap.size<=W3.heap.size)(hk:∀k,k≠2*i+11->Kp k T T3 W W3)
  (hx:OwnT W3 0 T3 (2*i+11) 2 1 x zs.length (icells zs)) (hF:F<=F2) (hz:zs.length<=F2):
  Mid F2 H ob xb sb (W3.setCell ⟨g,i*6+5,O⟩ x) T3 s b bs cs (ts.set i {aM ts i with an:=zs}):=by
 have lx:=(Ab.1 h.box).1;have lo:=(Ab.1 h.out).1;have hle:=h.le;have k8:=hk 8 (by omega);obtain⟨us,ha⟩:=h.o.ac;rw[hg]at ha;have hT:T3 g=7:=by obtain⟨cs,hr,_⟩:=ha.row;exact(hr.kept (hk 7 (by omega))).2 g rfl
 have h1:g≠xb:=fun e=>by have:=(k8 xb lx h.mx).2;rw[<-e]at this;omega
 have h2:g≠ob:=fun e=>by have:=(k8 ob lo h.mo).2;rw[<-e]at this;omega
 have hE:=h.o.newAc (a:=Y ⟨g,0,O⟩) (c:=s.ac) (w':=W3.setCell ⟨g,i*6+5,O⟩ x) (T':=T3) (fun k _ _ h7 hq=>(hk k (hq i)).trans (kL hT h7) hs) (ha.answer hF hi (hk 7 (by omega)) (fun q hq=>hk _ (by omega)) hx hz);rw[<-hg]at hE;exact⟨(mR h1).trans ((k8 xb lx h.mx).1.trans h.box),(mR h2).trans ((k8 ob lo h.mo).1.trans h.out),hE,(k8 xb lx h.mx).2,(k8 ob lo h.mo).2,(k8 sb h.sl h.ms).2,h.ne,by have:=h.sl;simp;omega,fun x hx=>(k8 x (by omega) (h.old x hx)).2,by simp;omega,h.mn,h.an⟩
theorem Mid.cut{c':Nat}(h:Mid F H ob xb sb W T s b bs cs ts)(hg:s.aa=Y ⟨g,0,O⟩)(hi:i<s.an)(hs:W.heap.size<=W3.heap.size)(hk:∀k,k≠7->Kp k T T3 W W3)
  (hrow:∀cs,W.ownsRow 0 56 6 (Z (Y ⟨g,0,O⟩) s.an s.ac) s.an cs->OwnT W3 0 T3 7 56 6 (Z a' (s.an-1) c') (s.an-1) (cs.take (i*6)++cs.drop ((i+1)*6))):
  Mid F H ob xb sb (W3.setCell ⟨xb,9,O⟩ (Z a' (s.an-1) c')) (fun x=>sh i (T3 x)) {s with aa:=a',an:=s.an-1,ac:=c'} b bs cs (ts.eraseIdx i):=by
 have lx:=(Ab.1 h.box).1;have lo:=(Ab.1 h.out).1;have hle:=h.le;have han:=h.an;have k8:=hk 8 (by omega);obtain⟨us,ha⟩:=h.o.ac;rw[hg]at ha;have e8:sh i 8=8:=dG9 (by decide);have hX:sh i (T3 xb)=8:=by rw[(k8 xb lx h.mx).2];exact e8
 have hE1:=h.o.newAc (a:=a') (c:=c') (w':=W3) (T':=fun x=>sh i (T3 x)) (fun k _ _ h7 hq=>fun x hx ht=>⟨(hk k h7 x hx ht).1,by show sh i (T3 x)=k;rw[(hk k h7 x hx ht).2];exact dM3 hq⟩) (ha.cut hi hrow (fun q=>hk _ (by omega)));have hE:=hE1.kept (fun k _ h8=>kL (o:=9) (v:=Z a' (s.an-1) c') hX h8);have hb:=(k8 xb lx h.mx).1.trans h.box;have ho:=(k8 ob lo h.mo).1.trans h.out;exact⟨Ag _ xb 9 _ _ _ hb,(mR h.ne).trans ho,hE,hX,by rw[(k8 ob lo h.mo).2];exact e8,by rw[(k8 sb h.sl h.ms).2];exact e8,h.ne,by have:=h.sl;simp;omega,fun x hx=>by show sh i (T3 x)=8;rw[(k8 x (by omega) (h.old x hx)).2];exact e8,by simp;omega,h.mn,by show s.an-1<=250;omega⟩
theorem AcW.one(h:AcW F w H T v n ts us):∀cs:List Value,cs.length=n*6->(∀i j,i<n->j<6->cs[i*6+j]? =Y (ac6 (aM ts i) (us i) j))->∀u∈cs,u.oneCell'=A':=by
 intro cs hl hc u hu;obtain⟨p,hp,rfl⟩:=Co hu;have hq:p / 6<n:=by omega
 have hr:p%6<6:=by omega
 have h1:=hc (p / 6) (p%6) hq hr;rw[show p / 6*6+p%6=p by omega,Ao hp]at h1;obtain⟨x,y,hu⟩:=dT (h.an _ hq).1;rw[hu]at h1;have h2:=Option.some.inj h1;rw[h2];obtain h|h|h|h|h|h:p%6=0\/p%6=1\/p%6=2\/p%6=3\/p%6=4\/p%6=5:=by omega
 all_goals rw[h];rfl
theorem dO6{cs:List Value}(h:CellsAt w (Y ⟨g,0,O⟩) (n*6) cs)(hk:k<=n):CellsAt w (Y ⟨g,k*6,O⟩) ((n-k)*6) (cs.drop (k*6)):=by refine⟨by rw[Ej,h.1];omega,fun hm=>?_⟩;obtain⟨b,off,ha,hc⟩:=h.2 (by omega);cases ha;refine⟨_,_,rfl,fun j hj=>?_⟩;rw[Df,<-hc _ (by omega),Al]
theorem dG0{cap m:Nat}(h:w.ownsRow base e size (Z (Y ⟨g,0,O⟩) n cap) n xs)(hm:m<=n):w.ownsRow base e size (Z (Y ⟨g,0,O⟩) m cap) m (xs.take (m*size)):=by
 rcases h.2 with⟨hv,_⟩|⟨g',cp,cur,hv,hb,hh,h1,h2,h3,h4⟩
 .simp at hv
 .simp only[Bg,Af,Ap,Cn,Es]at hv;obtain⟨rfl,rfl⟩:=hv;have hle:m*size<=n*size:=Nat.mul_le_mul_right _ hm;refine⟨by rw[Ey,h.1];omega,.inr ⟨g,cap,cur,rfl,hb,hh,by omega,h2,h3,?_⟩⟩;rw[<-h4,List.take_take,Nat.min_eq_left hle]
theorem dO7{cs:List Value}(h:CellsAt w (Y ⟨g,0,O⟩) (n*6) cs)(hk:k<=n)(hc:n<=c):CellsAt w (if c=k then Y ⟨g,0,O⟩else Y ⟨g,k*6,O⟩) ((n-k)*6) (cs.drop (k*6)):=by
 split
 .exact⟨by rw[Ej,h.1];omega,fun hm=>by omega⟩
 .exact dO6 h hk
theorem cY1{ys:List Value}(h:w.ownsRow base e size v n xs)(h':w.ownsRow base e size v n ys):xs=ys:=by
 rcases h.2 with⟨hv,hn⟩|⟨g,cap,cur,hv,_,hh,_,_,_,ht⟩
 .subst hn;have h1:=h.1;have h2:=h'.1;rw[Ep]at h1 h2;rw[Dn h1,Dn h2]
 .rcases h'.2 with⟨hv',_⟩|⟨g',cap',cur',hv',_,hh',_,_,_,ht'⟩
  .rw[hv]at hv';cases hv'
  .rw[hv]at hv';cases hv';rw[hh]at hh';cases hh';rw[<-ht,<-ht']
end Go.Proofs.YtpbbokalojdooaaGreat
