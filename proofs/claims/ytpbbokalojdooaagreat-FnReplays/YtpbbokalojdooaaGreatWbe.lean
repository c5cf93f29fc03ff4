import Derived.Test.YtpbbokalojdooaaGreatWbc
namespace Go.Proofs.YtpbbokalojdooaaGreat
open Go.RowKit Ch Go.Proofs.Tryz
set_option linter.unusedSimpArgs false
set_option linter.unusedVariables false
set_option maxRecDepth 20000
set_option maxHeartbeats 8000000
open Value renaming int->I,slice->Z,bool->X,agg->U
open IntKind renaming i64->J
open Option renaming none->O,some->Y
open Obj renaming cells->M
open Ending renaming returned->R'
open Bool renaming true->A',false->F'
variable {cs:Array Value} {s:EgS} {e:Eng} {key:Int} {ls:List (List Row)} {ps:List Hold} {rs:List Row} {ts:List Tx} {H b k o tb:Nat} {T:Nat->Nat} {us:Nat->Value} {a:Option Addr} {t':Tx} {t:TypeId} {v:Value} {w:World}
theorem iE(ts:List Tx)(k i:Nat)(t:Tx)(hk:k<ts.length):aS (ts.set k t) i=if k=i then t else aS ts i:=by
 unfold aS;by_cases h:k=i
 .subst h;simp[List.getD,hk]
 .simp[List.getD,h]
theorem TxO.set{n c:Nat}{j:Nat}{x':Value}(h:TxO w H T (Z (Y ⟨tb,0,O⟩) n c) n ts us)(hk:k<n)(hj:j<8)
  (hv:∀i,i<8->tx8 t' x' i=if i=j then v else tx8 (aS ts k) (us k) i) (hx:OwnT w H T (2*k+10) 263 3 x' t'.un.length (bfcells t'.un)) (hf:t'.un.length<=1048576):
  TxO (w.setCell ⟨tb,k*8+j,O⟩ v) H T (Z (Y ⟨tb,0,O⟩) n c) n (ts.set k t') (fun i=>if i=k then x' else us i):=by
 obtain⟨hl,⟨cs,hr,hc⟩,hn,hfew⟩:=h;have hT:T tb=2:=hr.2 tb rfl;have hk':∀m,m≠2->Kp m T T w (w.setCell ⟨tb,k*8+j,O⟩ v):=fun m hm=>kL hT hm;have hst:=hr.1.stored (k*8+j) v;have hcl:cs.length=n*8:=hr.1.1;refine⟨by simpa using hl,⟨cs.set (k*8+j) v,⟨hst.1,hr.2⟩,fun i i' hi hi'=>?_⟩,fun i hi=>?_,fun i=>?_⟩
 .rw[iE ts k i t' (by omega)];by_cases hik:k=i
  .subst hik;simp only[Fl];rw[hv i' hi'];by_cases hjj:i'=j
   .subst hjj;rw[if_pos rfl,Fk (by omega)]
   .rw[if_neg hjj,Ea (by omega)];exact hc k i' hi hi'
  .rw[if_neg hik];simp only[if_neg (fun e=>hik (Eq.symm e))];rw[Ea (by omega)];exact hc i i' hi hi'
 .rw[iE ts k i t' (by omega)];by_cases hik:k=i
  .subst hik;simp only[Fl];exact hx.kept (hk' _ (by omega))
  .rw[if_neg hik];simp only[if_neg (fun e=>hik (Eq.symm e))];exact(hn i hi).kept (hk' _ (by omega))
 .rw[iE ts k i t' (by omega)];split
  .exact hf
  .exact hfew i
theorem TxO.place{n c:Nat}(h:TxO w H T (Z a n c) n ts us)(hn:0<n):∃tb,a=Y ⟨tb,0,O⟩:=by
 obtain⟨hl,⟨cs,hr,hc⟩,_,_⟩:=h;rcases hr.1.2 with⟨_,h0⟩|⟨g,cap,cur,hv,_⟩
 .omega
 .simp only[Bg]at hv;exact⟨g,hv.1⟩
theorem EgX.setTx{j:Nat}(h:EgX w T b o cs t s e)(ha:s.ta=Y ⟨tb,0,O⟩)(hk:k<s.tn)(hj:j<8)
  (hv:∀x i,i<8->tx8 t' x i=if i=j then v else tx8 (aS e.tx k) x i) (hun:t'.un=(aS e.tx k).un):
  EgX (w.setCell ⟨tb,k*8+j,O⟩ v) T b o cs t s {e with tx:=e.tx.set k t'}/\Stp T T w (w.setCell ⟨tb,k*8+j,O⟩ v) o cs cs:=by
 obtain⟨us,hT⟩:=h.own.tx;rw[ha]at hT;have hT2:T tb=2:=by obtain⟨_,⟨_,hr,_⟩,_,_⟩:=hT;exact hr.2 tb rfl
 have hk':∀m,m≠2->Kp m T T w (w.setCell ⟨tb,k*8+j,O⟩ v):=fun m hm=>kL hT2 hm;have hu:=hT.un k hk;have hN:=hT.set (t':=t') (x':=us k) hk hj (fun i hi=>hv (us k) i hi) (by rw[hun];exact hu) (by rw[hun];exact hT.few k);obtain⟨h4,h5⟩:=bJ h.box h.tag (hk' 1 (by omega));refine⟨⟨?_,h4,h.cell,h5⟩,⟨rfl,rfl,rfl,by simp,hk' 0 (by omega),hk' 8 (by omega),fun _ _=>rfl,rfl⟩⟩;have:=h.own.newTx (a:=s.ta) (n:=s.tn) (c:=s.tc) (fun m _ _ h2 _=>hk' m h2) (by rw[ha];exact hN) h.own.n4;exact this
theorem EgX.noUndo(h:EgX w T b o cs t s e)(ha:s.ta=Y ⟨tb,0,O⟩)(hk:k<s.tn):
  EgX (w.setCell ⟨tb,k*8+3,O⟩ (Z O 0 0)) T b o cs t s {e with tx:=e.tx.set k {aS e.tx k with un:=[]}}/\Stp T T w (w.setCell ⟨tb,k*8+3,O⟩ (Z O 0 0)) o cs cs:=by
 obtain⟨us,hT⟩:=h.own.tx;rw[ha]at hT;have hT2:T tb=2:=by obtain⟨_,⟨_,hr,_⟩,_,_⟩:=hT;exact hr.2 tb rfl
 have hk':∀m,m≠2->Kp m T T w (w.setCell ⟨tb,k*8+3,O⟩ (Z O 0 0)):=fun m hm=>kL hT2 hm;have hN:=hT.set (j:=3) (t':={aS e.tx k with un:=[]}) (x':=Z O 0 0) (v:=Z O 0 0) hk (by decide) (fun i hi=>by
  match i,hi with
  |0,_=>rfl
  |1,_=>rfl
  |2,_=>rfl
  |3,_=>rfl
  |4,_=>rfl
  |5,_=>rfl
  |6,_=>rfl
  |7,_=>rfl) ⟨Aw _ _ _ _,fun g hg=>by simp[Value.ownBlock]at hg⟩ (by simp)
 obtain⟨h4,h5⟩:=bJ h.box h.tag (hk' 1 (by omega));refine⟨⟨?_,h4,h.cell,h5⟩,⟨rfl,rfl,rfl,by simp,hk' 0 (by omega),hk' 8 (by omega),fun _ _=>rfl,rfl⟩⟩;have:=h.own.newTx (a:=s.ta) (n:=s.tn) (c:=s.tc) (fun m _ _ h2 _=>hk' m h2) (by rw[ha];exact hN) h.own.n4;exact this
def nF(ps:List Hold)(key:Int):List Hold:=ps.filter fun p=>p.m !=key
theorem bR2(h:k<ps.length)(hc:((ps.getD k Hold.zero).m !=key)=A'):nF (ps.take (k+1)) key=nF (ps.take k) key++[ps.getD k Hold.zero]:=by unfold nF;rw[bZ ps Hold.zero k h,Bl];generalize ps.getD k Hold.zero=x at*;rw[List.filter_cons_of_pos (p:=fun p:Hold=>p.m !=key) hc];rfl
theorem cI4(h:k<ps.length)(hc:((ps.getD k Hold.zero).m !=key)=F'):nF (ps.take (k+1)) key=nF (ps.take k) key:=by unfold nF;rw[bZ ps Hold.zero k h,Bl];generalize ps.getD k Hold.zero=x at*;rw[Fh (p:=fun p:Hold=>p.m !=key) (by rw[hc];simp)];simp
theorem bV2{nk nv:Int}:bA0 ps key ⟨nk,F',nv⟩=nF ps key:=rfl
theorem bH9{nk nv:Int}:bA0 ps key ⟨nk,A',nv⟩=aB7 (nF ps key) ⟨nv,key⟩:=by
 rw[aM8]
 .rfl
 .intro hm;have:=(By.1 hm).2;simp at this
theorem cH2(a:Option Addr)(n cap:Nat)(key nk:Int)(nh:Bool)(nv:Int)(ps:List Hold)(w:World)(h:CellsAt w a (n*2) (hcells ps))(hn:n<=1048575):
  Calls prog 221 #[Z a n cap,I J key,U #[I J nk,X nh,I J nv]] w fun e w'=>∃g' m c',e=R' (Z (Y ⟨g',0,O⟩) m c')/\m<=n+1/\w'.ownsRow w.heap.size 265 2 (Z (Y ⟨g',0,O⟩) m c') m (hcells (bA0 ps key ⟨nk,nh,nv⟩))/\V' w w':=by
 have HL:=h.hlen;obtain⟨i0,hi0,hz0,hz1,hz2⟩:=Bz Tryz.info265;have oE:=gE (w.alloc (M #[I J nk,X nh,I J nv] 263)) (w.heap.size+1) 265 2 (by simp);rw[show(w.alloc (M #[I J nk,X nh,I J nv] 263)).heap.size=w.heap.size+1 by simp]at oE;have kE:V' w ((w.alloc (M #[I J nk,X nh,I J nv] 263)).alloc (M #[] 265)):=((Aa _ _).alloc z' _).alloc (by simp) _;have hN:((w.alloc (M #[I J nk,X nh,I J nv] 263)).alloc (M #[] 265)).heap[w.heap.size]? =Y (M #[I J nk,X nh,I J nv] 263 (0,0)):=aR ((Aa _ _).alloc z' _) (Ar w _);go_enter func221,ntmps221
 go_wp2;go_loopw [7,8] (fun q i wr=>∃(k m:Nat) (a':Option Addr) (c':Nat),k<=n/\m<=k/\i=I J k/\q=Z a' m c'/\(∃g,a'=Y ⟨g,0,O⟩)/\wr.ownsRow (w.heap.size+1) 265 2 (Z a' m c') m (hcells (nF (ps.take k) key))/\wr.heap[w.heap.size]? =Y (M #[I J nk,X nh,I J nv] 263 (0,0))/\w.heap.size+1<=wr.heap.size/\V' w wr) (fun _ i _=>n-(intOf i).toNat)
 case atStart=>exact⟨0,0,_,_,Ad _,z',rfl,rfl,⟨_,rfl⟩,oE,hN,by simp,kE⟩
 case round=>
  clear oE kE hN;obtain⟨k,m,a',c',hk,hmk,rfl,rfl,hsm,own,hN,hsz,hB⟩:=hrel;by_cases hlt:k<n
  .have hkl:k<ps.length:=by have:=HL.out;omega
   have HY:=hid (fun he=>bR2 (key:=key) hkl he);have HN:=hid (fun he=>cI4 (key:=key) hkl he);obtain⟨b,off,rfl,q0,q1⟩:=(h.below hB).hold hlt;have hbl:=aD q0;generalize ps.getD k Hold.zero=r at*;obtain⟨rt,rm⟩:=r;simp only at q0 q1 HY HN;generalize nF (ps.take k) key=zs at*;have hsum:m+1<=4194304:=by omega
   by_cases hh:rm=key
   .have e1:(rm !=key)=F':=by simpa using hh
    replace HN:=hid (HN.out e1);clear HY hh;go_wp2;go_roundw;case rel=>exact⟨k+1,m,a',c',by omega,by omega,by go_num,rfl,hsm,by rw[HN.out];exact own,hN,hsz,hB⟩
    case measure=>simp[intOf];omega
   .have e1:(rm !=key)=A':=by simpa using hh
    replace HY:=hid (HY.out e1);clear HN hh;have kQ:V' wr (wr.alloc (M #[I J rt,I J rm] 265)):=(Aa _ _).alloc z' _;have own3:=aG own kQ;have hN3:=aR kQ hN;have hC3:=gA wr rt rm 265;have hb3:w.heap.size+1<=(wr.alloc (M #[I J rt,I J rm] 265)).heap.size:=by simp;omega
    have b3:=hB.trans (kQ.mono hB.size);go_wp2_with(at_builtin;go_must (refine bM underlying66 underlying66 hi0 hz0 hz1 hz2 rfl (by omega) (by omega) (.tmp 23) (.tmp 28) ?_ ?_ (w.heap.size+1) (Z a' m c') m (hcells zs) _ 1 1 (hcells [⟨rt,rm⟩]) ?_ ?_ own3 hC3 (cF _) hsum hb3 ?_;exact rfl;exact rfl;exact rfl;exact rfl;intro a5 c5 w5 own5 gr5 at5;go_frame))
    go_roundw;case rel=>have hs5:=cI6 own5 (by omega);rw[<-cD,<-HY.out]at own5;exact⟨k+1,m+1,a5,c5,by omega,by omega,by go_num,rfl,hs5,own5,mJ gr5 hN3 (wD own3 (by omega)),Ak hb3 gr5.size,b3.grown gr5 b3.size (fun g hg=>by have:=(aH own3 g hg).1;omega)⟩
    case measure=>simp[intOf];omega
  .obtain rfl:k=n:=by omega
   have HWF:Hid (ps.take k=ps):=by have:=HL.out;show _=_;rw[this];exact Be
   rw[HWF.out]at own;obtain⟨g,rfl⟩:=hsm;obtain⟨u0,u1,u2⟩:=dQ8 hN;have lu:=aD u0;cases nh
   .go_wp2;go_ret;exact⟨g,m,c',rfl,by omega,by rw[bV2];exact aQ own (by omega),hB⟩
   .go_wp2_with fail
    refine(aY6 (w.heap.size+1) g m c' (nF ps key) nv key _ own (by omega) hsz).mono ?_;rintro e w9⟨g9,n9,c9,rfl,own9,hn9,b9⟩;go_wp2;go_ret;exact⟨g9,n9,c9,rfl,by omega,by rw[bH9];exact aQ own9 (by omega),hB.trans (b9.mono hB.size)⟩
theorem aO0(hg:aL ls=0):(cG ls.flatten).length<=240:=Ak (qI _) (aL4 hg)
theorem aN9:(rs.map lK).length=rs.length:=by simp
theorem cX4(h:k<rs.length):(rs.map lK).getD k Hold.zero=lK (rs.getD k Row.zero):=by simp[List.getD,h]
theorem aN2(a:Option Addr)(n cap:Nat)(ls:List (List Row))(w:World)(h:LvAt w a n ls)(hs:aW ls<=1048576)(hg:aL ls=0):
  Calls prog 178 #[Z a n cap] w fun e w'=>∃g' m c',e=R' (Z (Y ⟨g',0,O⟩) m c')/\m<=240/\w'.ownsRow w.heap.size 265 2 (Z (Y ⟨g',0,O⟩) m c') m (hcells (rD ls))/\V' w w':=by
 have hgl:∀k,k<n->(ls.getD k []).length≠0:=fun k hk=>(fY hg k (by have:=h.len.out;omega)).1;obtain⟨m1,hml1⟩:∃m,Hid (ls.flatten.length=m):=⟨_,rfl⟩
 have SR:=fun W hW=>aP6 a n cap ls W hW hs hgl m1 hml1;have HND:=hid (aZ4 hg);have HIX:Hid (rD ls=eW ((cG ls.flatten).map lK)):=rfl;have hF:=hid (aL4 hg);have hG:=hid (aO0 hg);have oE:=gE w w.heap.size 265 2 z';have kE:V' w (w.alloc (M #[] 265)):=(Aa _ _).alloc z' _;generalize rD ls=ix at*;generalize ls.flatten=F at*;clear hg;go_enter func178,ntmps178
 go_wp2_with fail
 refine(SR _ (h.below kE)).mono ?_;rintro e w1⟨a1,c1,rfl,o1,b1⟩;have o0:=aG oE b1;have B1:=kE.trans (b1.mono (by simp));have hm1:m1<=240:=by have:=(aO o1).rlen.out;have:=hF.out;omega
 go_wp2_with fail
 refine(aY4 a1 m1 c1 F _ (aO o1) hm1).mono ?_;rintro e w2⟨a2,m2,c2,rfl,hm2,o2,b2⟩;have o0:=aG o0 b2;have B2:=B1.trans (b2.mono B1.size);have HL:=(aO o2).rlen;generalize cG F=rs at*;clear o1 b1 b2 oE kE SR;go_wp2;go_loopw [3,5] (fun q i wr=>∃(k m g c':Nat),k<=m2/\m<=k/\i=I J k/\q=Z (Y ⟨g,0,O⟩) m c'/\wr.ownsRow w.heap.size 265 2 (Z (Y ⟨g,0,O⟩) m c') m (hcells (eW ((rs.map lK).take k)))/\V' w2 wr/\V' w wr) (fun _ i _=>m2-(intOf i).toNat)
 case atStart=>exact⟨0,0,_,_,Ad _,z',rfl,rfl,o0,Aa _ _,B2⟩
 case round=>
  clear o0 B2;obtain⟨k,m,g,c',hk,hmk,rfl,rfl,own,hB2,hB⟩:=hrel;by_cases hlt:k<m2
  .have hkl:k<rs.length:=by have:=HL.out;omega
   have HN:=hid (bK6 HND.out (k:=k) (by rw[aN9];exact hkl));rw[cX4 hkl]at HN;obtain⟨b,off,rfl,q0,q1,q2⟩:=(aO (aG o2 hB2)).row hlt;have hbl:=aD q0;generalize rs.getD k Row.zero=r at*;obtain⟨rk,rv,rg⟩:=r;simp only[lK]at q0 q1 q2 HN;generalize eW ((rs.map lK).take k)=E at*;have hml:m<=1048576:=by have:=hG.out;have:=HL.out;omega
   have IP:=fun W (o:W.ownsRow w.heap.size 265 2 (Z (Y ⟨g,0,O⟩) m c') m (hcells E)) hz=>aY6 w.heap.size g m c' E rv rk W o hml hz;go_wp2_with fail
   refine R0 (fun W'=>W'.cell? ⟨b,off+k*3,O⟩=Y (I J rk)/\W'.cell? ⟨b,off+k*3+1,O⟩=Y (I J rv)/\W'.ownsRow (w.heap.size) 265 2 (Z (Y ⟨g,0,O⟩) m c') m (hcells E)/\V' w2 W'/\V' w W') (⟨q0,q1,own,hB2.drew,hB.drew⟩) (fun hH=>?_);refine R5 0 1 2 3 4 ?_;refine R5 5 6 7 8 9 ?_;refine R2 10 11 ?_;refine R6 12 (fun K hK=>?_);go_simp;refine(IP _ hH.2.2.1 hH.2.2.2.2.size).mono ?_;rintro e w9⟨g9,n9,c9,rfl,own9,hn9,b9⟩;refine hK.out _ _ ?_ (fun hH=>?_)
   .exact⟨keep_cell b9 hH.1,keep_cell b9 hH.2.1,aG hH.2.2.1 b9,hH.2.2.2.1.trans (b9.mono hH.2.2.2.1.size),hH.2.2.2.2.trans (b9.mono hH.2.2.2.2.size)⟩
   clear hK K;refine R1 13 ?_;refine R7 ?_;have hB2':=hH.2.2.2.1;have hB':=hH.2.2.2.2;clear hH own hB hB2 q0 q1 q2 IP b9;go_wp2;go_roundw;case rel=>exact⟨k+1,n9,g9,c9,by omega,by omega,by go_num,rfl,by rw[<-HN.out];exact own9,hB2',hB'⟩
   case measure=>simp[intOf];omega
  .obtain rfl:k=m2:=by omega
   have HWF:Hid ((rs.map lK).take k=rs.map lK):=by have:=HL.out;show _=_;rw[this,<-aN9];exact Be
   rw[HWF.out,<-HIX.out]at own;have hk2:k<=240:=by have:=HL.out;have:=hG.out;omega
   go_wp2;go_ret;exact⟨g,m,c',rfl,by omega,own,hB⟩
theorem dJ8(c j c' j':Int)(w:World):(binOp .eql 274 (U #[I J c,I J j]) (U #[I J c',I J j'])).run prog w= .ok (X (iV ⟨c,j⟩ ⟨c',j'⟩)) w:=by
 have hS:prog.underlying 274=Y (.struct (prog.fieldsOf 274)):=by kernel_rfl
 have hp:prog.stoodInHeld 274=F':=by kernel_rfl
 have u2:=underlying2;have a2:=isAgg2;have z2:=sizeOf2;rw[run_eql_struct,show(10000:Nat)=9999+1 from rfl,run_equalIn_agg w 9999 274 _ _ hS hp];simp only[Program.fieldsOf,underlying274];go_simp;unfold iV;by_cases h1:c=c'<;>by_cases h2:j=j'<;>simp[h1,h2]
def PutD(B n:Nat)(es:List Hold)(t m:Int)(w:World)(e:Ending)(w':World):Prop:=
 ∃g' n' c',e=R' (Z (Y ⟨g',0,O⟩) n' c')/\w'.ownsRow B 274 2 (Z (Y ⟨g',0,O⟩) n' c') n' (hcells (pC es ⟨t,m⟩))/\n'<=n+1/\V' w w'
theorem aY3(B g n c:Nat)(es:List Hold)(t m:Int)(w:World)(own:w.ownsRow B 274 2 (Z (Y ⟨g,0,O⟩) n c) n (hcells es))(hn:n<=1048576)(hB:B<=w.heap.size):
  Calls prog 206 #[Z (Y ⟨g,0,O⟩) n c,U #[I J t,I J m]] w fun e w'=>PutD B n es t m w e w':=by
 have h4:=aO own;have HL:=h4.hlen;have hcap:=gI own;have hgl:=(aH own g rfl).2;obtain⟨j0,gi0,gz0,gz1,gz2⟩:=Bz Tryz.info274;have kA:V' w (w.alloc (M #[I J t,I J m] 274)):=(Aa _ _).alloc z' _;obtain⟨y0,y1,_,_⟩:=cJ2 (Ar w (M #[I J t,I J m] 274));have yl:=aD y0;go_enter func206,ntmps206
 go_wp2;go_loopg [5] n (fun gk i wr=>∃k:Nat,gk=n-k/\k<=n/\i=I J k/\Hid (∀j,j<k->Ch.ltE (es.getD j Hold.zero) ⟨t,m⟩=A')/\wr.cell? ⟨w.heap.size,0,O⟩=Y (I J t)/\wr.cell? ⟨w.heap.size,1,O⟩=Y (I J m)/\w.heap.size<wr.heap.size/\V' w wr)
 case atStart=>exact⟨0,rfl,Ad _,rfl,(fun j hj=>by omega),y0,y1,yl,kA⟩
 case round=>
  clear y0 y1 yl kA;obtain⟨k,rfl,hk,rfl,HA,z0,z1,ll,hW⟩:=hrel;have HX:Hid (∀r,es.getD k Hold.zero=r->k<n->Ch.ltE r ⟨t,m⟩=A'->∀j,j<k+1->Ch.ltE (es.getD j Hold.zero) ⟨t,m⟩=A'):=fun r hr _ he=>lM (p:=fun j=>Ch.ltE (es.getD j Hold.zero) ⟨t,m⟩) HA.out (by rw[hr];exact he);go_upto_region 2 with fail
  go_cut [39] (fun sl wx=>∃y q,sl=X y/\wx=wr.drewN q/\(y=A'->k<n/\∀j,j<k+1->Ch.ltE (es.getD j Hold.zero) ⟨t,m⟩=A')/\(y=F'->k<n->Ch.ltE (es.getD k Hold.zero) ⟨t,m⟩=F'))
  case first=>
   by_cases hlt:k<n
   .obtain⟨b,off,hbo,q0,q1⟩:=(h4.below hW).hold hlt;simp only[Af,Ap,Cn]at hbo;obtain⟨rfl,rfl⟩:=hbo;rw[Al]at q0 q1;have hqb:=aD q0;generalize hr:es.getD k Hold.zero=r at*;obtain⟨rt,rm⟩:=r;simp only at q0 q1;have st:=fun he=>lM (p:=fun j=>Ch.ltE (es.getD j Hold.zero) ⟨t,m⟩) HA.out (show Ch.ltE (es.getD k Hold.zero) ⟨t,m⟩=A' by rw[hr];exact he);clear hr HX;by_cases h1:rt<t
    .have d1:decide (rt<t)=A':=by simpa using h1
     go_wp2;go_quiet (fail)
     go_wp2;go_meet;exact⟨A',_,rfl,rfl,fun _=>⟨hlt,st (rY.2 (.inl h1))⟩,fun h=>by cases h⟩
    have d1:decide (rt<t)=F':=by simpa using h1
    by_cases h2:rt=t
    .subst h2;have e2:(rt==rt)=A':=by simp
     by_cases h3:rm<m
     .have d3:decide (rm<m)=A':=by simpa using h3
      go_wp2;go_quiet (fail)
      go_wp2;go_meet;exact⟨A',_,rfl,rfl,fun _=>⟨hlt,st (rY.2 (.inr ⟨rfl,h3⟩))⟩,fun h=>by cases h⟩
     .have d3:decide (rm<m)=F':=by simpa using h3
      go_wp2;go_quiet (fail)
      go_wp2;go_meet;exact⟨F',_,rfl,rfl,fun h=>(by cases h),fun _ _=>by simp[Ch.ltE,d3]⟩
    .have e2:(rt==t)=F':=by simpa using h2
     go_wp2;go_quiet (fail)
     go_wp2;go_meet;exact⟨F',_,rfl,rfl,fun h=>(by cases h),fun _ _=>by simp[Ch.ltE,d1,h2]⟩
   .have hd:decide ((k:Int)<(n:Int))=F':=by simp;omega
    go_wp2;go_quiet (fail)
    go_wp2;go_meet;exact⟨F',_,rfl,rfl,fun h=>(by cases h),fun _ h=>absurd h hlt⟩
  case rest=>
   obtain⟨W1,hwn⟩:∃x:World,x=wc:=⟨_,rfl⟩
   subst hwn;obtain⟨y,q,rfl,hwc,hT,hF⟩:=hcut;replace hW:V' w W1:=by rw[hwc];exact⟨hW.os,hW.tape,hW.output,hW.size,hW.block⟩
   replace z0:W1.cell? ⟨w.heap.size,0,O⟩=Y (I J t):=by rw[hwc];exact z0
   replace z1:W1.cell? ⟨w.heap.size,1,O⟩=Y (I J m):=by rw[hwc];exact z1
   replace ll:w.heap.size<W1.heap.size:=by rw[hwc];exact ll
   clear hwc HX;cases y;rotate_left
   .obtain⟨hlt,hA⟩:=hT rfl;clear hF;go_wp2;go_roundg (n-(k+1))
    case rel=>exact⟨k+1,rfl,by omega,by go_num,hA,z0,z1,ll,hW⟩
    case measure=>omega
   have hIE:=dA2 (l:=es) (e:=⟨t,m⟩) (k:=k) (by have:=HL.out;omega) HA.out (fun h=>hF rfl (by have:=HL.out;omega));clear hF hT HA;go_wp2;go_upto_region 4 with fail
   go_cut [53] (fun sl wx=>∃y q,sl=X y/\wx=W1.drewN q/\(y=A'->pC es ⟨t,m⟩=es)/\(y=F'->pC es ⟨t,m⟩=es.take k++[⟨t,m⟩]++es.drop k))
   case first=>
    by_cases hlt:k<n
    .have hl:decide (k<es.length)=A':=by have:=HL.out;simp;omega
     obtain⟨b,off,hbo,q0,q1⟩:=(h4.below hW).hold hlt;simp only[Af,Ap,Cn]at hbo;obtain⟨rfl,rfl⟩:=hbo;rw[Al]at q0 q1;have hqb:=aD q0;rw[hl,Et]at hIE;generalize es.getD k Hold.zero=r at*;obtain⟨rt,rm⟩:=r;simp only at q0 q1;have heq:=dJ8 rt rm t m;cases hs:iV ⟨rt,rm⟩ ⟨t,m⟩
     .rw[hs]at hIE heq;go_wp2;go_quiet (fail)
      go_wp2;go_meet;exact⟨F',_,rfl,rfl,fun h=>(by cases h),fun _=>hIE⟩
     .rw[hs]at hIE heq;go_wp2;go_quiet (fail)
      go_wp2;go_meet;exact⟨A',_,rfl,rfl,fun _=>hIE,fun h=>by cases h⟩
    .have hd:decide ((k:Int)<(n:Int))=F':=by simp;omega
     have hl:decide (k<es.length)=F':=by have:=HL.out;simp;omega
     rw[hl,Bool.false_and]at hIE;go_wp2;go_quiet (fail)
     go_wp2;go_meet;exact⟨F',_,rfl,rfl,fun h=>(by cases h),fun _=>hIE⟩
   case rest=>
    obtain⟨y,q,rfl,hwd,hI1,hI2⟩:=hcut;replace z0:wc.cell? ⟨w.heap.size,0,O⟩=Y (I J t):=by rw[hwd];exact z0
    replace z1:wc.cell? ⟨w.heap.size,1,O⟩=Y (I J m):=by rw[hwd];exact z1
    replace ll:w.heap.size<wc.heap.size:=by rw[hwd];exact ll
    replace hW:V' w wc:=by rw[hwd];exact⟨hW.os,hW.tape,hW.output,hW.size,hW.block⟩
    clear hwd hIE;cases y;rotate_left
    .have HI:=hid (hI1 rfl);clear hI1 hI2;go_wp2;go_ret;exact⟨g,n,c,rfl,by rw[HI.out];exact aG own hW,by omega,hW⟩
    have HI:=hid (hI2 rfl);clear hI1 hI2;have hkc:k<=c:=by omega
    have hI1a:∀u∈(hcells es).take (k*2),u.oneCell'=A':=fun u hu=>cF es u (Cg hu);have hI1b:∀u∈(hcells es).drop (k*2),u.oneCell'=A':=fun u hu=>cF es u (Cz hu);have hCa:=zA (h4.below hW) (k:=k*2) (by omega);have hCb:CellsAt wc (if c=k then Y ⟨g,0,O⟩else Y ⟨g,k*2,O⟩) ((n-k)*2) ((hcells es).drop (k*2)):=by
     have:=bM3 (h4.below hW) (k:=k*2) (by omega);rw[Al,<-Nat.sub_mul]at this;split
     .exact⟨this.1,fun h=>by omega⟩
     .exact this
    go_upto_region 6 with fail
    have aE:AppT 247 274 2:=⟨_,_,_,underlying247,gi0,gz0,gz1,gz2,rfl,by omega,by omega⟩
    focus
     refine R0 (fun W'=>W'.cell? ⟨w.heap.size,0,O⟩=Y (I J t)/\W'.cell? ⟨w.heap.size,1,O⟩=Y (I J m)) ⟨z0,z1⟩ (fun hH=>?_);have b0:V' wc wc.drew:=(Aa _ _).drew;replace hW:=hW.drew;replace ll:w.heap.size<wc.drew.heap.size:=ll;replace hCa:=hCa.below b0;replace hCb:=hCb.below b0;clear b0 z0 z1;generalize wc.drew=V0 at*;have hS:=fun W (h:V' V0 W)=>(⟨keep_cell h hH.1,keep_cell h hH.2⟩:W.cell? ⟨w.heap.size,0,O⟩=Y (I J t)/\W.cell? ⟨w.heap.size,1,O⟩=Y (I J m))
     refine R8 1 (h:=R8 2 (h:=R8 3 (h:=R8 5 (h:=R8 8 (h:=R8 9 (h:=R8 10 (h:=J3 ?_)))))));generalize(if c=k then(Y ⟨g,0,O⟩:Option Addr)else Y ⟨g,k*2,O⟩)=A at*;clear hH;refine J2 0 6 (fun K hK=>?_) (fun K hK=>?_);focus
      have oE:=nZ V0 274 2;have b1:V' V0 (V0.alloc (M #[] 274)):=(Aa _ _).alloc z' _;go_simp;refine hK.out _ _ (hS _ b1) (fun _=>?_);clear hK K;generalize V0.alloc (M #[] 274)=V1 at*;refine J2 4 6 (fun K hK=>?_) (fun K hK=>?_);focus
       refine lZ aE (.tmp 55) (.tmp 58) rfl rfl V0.heap.size _ 0 [] (Y ⟨g,0,O⟩) k c ((hcells es).take (k*2)) rfl rfl oE (hCa.below b1) hI1a (by omega) b1.size ?_;intro a5 c5 V2 own5 gr5 at5;simp only[Al,List.nil_append]at own5 at5⊢;have b2:=b1.grown gr5 b1.size (fun g hg=>(aH oE g hg).1);refine hK.out _ _ (hS _ b2) (fun _=>?_);clear hK K;refine J3 (J1 6 (fun K hK=>?_));have hCN:=gA V2 t m 274;have b3:V' V2 (V2.alloc (M #[I J t,I J m] 274)):=(Aa _ _).alloc z' _;replace own5:=aG own5 b3;have bV:=b2.trans (b3.mono b2.size);go_simp;refine hK.out _ _ (hS _ bV) (fun _=>?_);clear hK K;generalize V2.alloc (M #[I J t,I J m] 274)=V at*
      rotate_left;focus
       have hCN:=gA V1 t m 274;have b3:V' V1 (V1.alloc (M #[I J t,I J m] 274)):=(Aa _ _).alloc z' _;have hne:=(aH oE _ rfl).2;replace oE:=aG oE b3;have b2:=b1.trans (b3.mono b1.size);go_simp;refine hK.out _ _ (hS _ b2) (fun _=>?_);clear hK K b3;generalize V1.alloc (M #[I J t,I J m] 274)=V2 at*;refine J3 (J1 4 (fun K hK=>?_));refine lZ aE (.tmp 55) (.tmp 58) rfl rfl V0.heap.size _ 0 [] (Y ⟨g,0,O⟩) k c ((hcells es).take (k*2)) rfl rfl oE (hCa.below b2) hI1a (by omega) b2.size ?_;intro a5 c5 V own5 gr5 at5;simp only[Al,List.nil_append]at own5 at5⊢;have bV:=b2.grown gr5 b2.size (fun g hg=>(aH oE g hg).1);replace hCN:=kG hCN gr5 (fun b off ha e=>by cases ha;have e:=Option.some.inj e;(try dsimp only at e hne);(try dsimp only at e);omega);refine hK.out _ _ (hS _ bV) (fun _=>?_);clear hK K
     rotate_left 2
     focus
      have hCN:=gA V0 t m 274;have b3:V' V0 (V0.alloc (M #[I J t,I J m] 274)):=(Aa _ _).alloc z' _;go_simp;refine hK.out _ _ (hS _ b3) (fun _=>?_);clear hK K;refine J3 (J1 0 (fun K hK=>?_));have hz1:(V0.alloc (M #[I J t,I J m] 274)).heap.size=V0.heap.size+1:=by simp
      generalize V0.alloc (M #[I J t,I J m] 274)=V1 at*;have oE:=aQ (nZ V1 274 2) b3.size;rw[hz1]at oE;have b1:V' V1 (V1.alloc (M #[] 274)):=(Aa _ _).alloc z' _;replace hCN:=hCN.below b1;have b2:=b3.trans (b1.mono b3.size);go_simp;refine hK.out _ _ (hS _ b2) (fun _=>?_);clear hK K;generalize V1.alloc (M #[] 274)=V2 at*;refine J3 (J1 4 (fun K hK=>?_));refine lZ aE (.tmp 55) (.tmp 58) rfl rfl V0.heap.size _ 0 [] (Y ⟨g,0,O⟩) k c ((hcells es).take (k*2)) rfl rfl oE (hCa.below b2) hI1a (by omega) b2.size ?_;intro a5 c5 V own5 gr5 at5;simp only[Al,List.nil_append]at own5 at5⊢;have bV:=b2.grown gr5 b2.size (fun g hg=>(aH oE g hg).1);replace hCN:=kG hCN gr5 (fun b off ha e=>by cases ha;have e:=Option.some.inj e;(try dsimp only at e hne);(try dsimp only at e);omega);refine hK.out _ _ (hS _ bV) (fun _=>?_);clear hK K
     all_goals
      refine J3 (J1 7 (fun K hK=>?_));refine lZ aE (.tmp 59) (.tmp 61) rfl rfl V0.heap.size _ k _ (Y ⟨_,0,O⟩) 1 1 (hcells [⟨t,m⟩]) rfl rfl own5 hCN (cF _) (by omega) bV.size ?_;intro a7 c7 V7 own7 gr7 at7;have b7:=bV.grown gr7 bV.size (fun g hg=>(aH own5 g hg).1);refine hK.out _ _ (hS _ b7) (fun _=>?_);clear hK K;refine J3 (J1 11 (fun K hK=>?_));refine lZ aE (.tmp 62) (.tmp 65) rfl rfl V0.heap.size _ (k+1) _ _ (n-k) (c-k) ((hcells es).drop (k*2)) rfl rfl own7 (hCb.below b7) hI1b (by omega) b7.size ?_;intro a8 c8 V8 own8 gr8 at8;have b8:=b7.grown gr8 b7.size (fun g hg=>(aH own7 g hg).1);refine hK.out _ _ (hS _ b8) (fun hH=>?_);clear hK K;refine J3 (R8 12 (h:=J3 (R7 ?_)));clear at8 at7 at5 gr8 gr7 gr5 own7 own5 hCN oE;have en:k+1+(n-k)=n+1:=by omega
      simp only[en]at own8⊢;rw[<-kK,<-aX6 es k (by have:=HL.out;omega),<-cD,<-cD,<-HI.out]at own8;obtain⟨g8,rfl⟩:=cI6 own8 (by omega);have hz:=hW.size;have hb:=hid (hW.trans (b8.mono hz));have O8:=hid (aQ (base':=B) own8 (by omega));clear hH hS own8 hW b7 b8 bV;go_wp2;go_ret;exact⟨g8,n+1,c8,rfl,O8.out,by omega,hb.out⟩
theorem aS2(w:World)(T:Nat->Nat)(b o:Nat)(cs:Array Value)(t:TypeId)(s:EgS)(e:Eng)(h:EgX w T b o cs t s e):
  Calls prog 185 #[.pointer (Y ⟨b,o,O⟩)] w fun r w'=>(∃a n c zs,r=R' (Z a n c)/\n<=1048576/\w'.ownsRow w.heap.size 2 1 (Z a n c) n (icells zs))/\V' w w':=by
 have hn:=h.own.n4;obtain⟨_,_,_,x3,_,_,_,_,_,_⟩:=h.all;have hbl:=h.lt;have oE:=nZ w 2 1;have kE:V' w (w.alloc (M #[] 2)):=(Aa _ _).alloc z' _;have hR:=h.own.read;go_enter func185,ntmps185
 go_wp2;go_loopw [3,4] (fun q i wr=>∃(k m:Nat) (a:Option Addr) (c:Nat) (zs:List Int),k<=s.tn/\m<=k/\i=I J k/\q=Z a m c/\wr.ownsRow w.heap.size 2 1 (Z a m c) m (icells zs)/\V' w wr) (fun _ i _=>s.tn-(intOf i).toNat)
 case atStart=>exact⟨0,0,_,0,[],Ad _,z',rfl,rfl,oE,kE⟩
 case round=>
  obtain⟨k,m,a,c,zs,hk,hm,rfl,rfl,hO,hB⟩:=hrel;have x3:=keep_cell hB x3;have hbl:=aD x3;by_cases hlt:k<s.tn
  .obtain⟨g,off,au,nu,cu,hta,t0,t1,t2,t3,t4,t5,t6,t7,_,_⟩:=(hR.tx.below hB).txn hlt;rw[hta]at x3;have HTA:=hid hta;clear hta;have hg:=aD t0;generalize aS e.tx k=tt at t0 t1 t2 t3 t4 t5 t6 t7;obtain⟨tid,tsy,tst,tun,twk,twa,twb,twv⟩:=tt;simp only at t0 t1 t2 t3 t4 t5 t6 t7;cases tsy
   .go_wp2;go_round
    case rel=>exact⟨k+1,m,a,c,zs,by omega,by omega,by go_num,rfl,hO,hB⟩
    case measure=>simp[intOf];omega
   .have kN:V' wr (wr.alloc (M #[I J tid] 2)):=(Aa _ _).alloc z' _;have hN:=jE wr tid 2;have hO':=aG hO kN;have hbs:=hB.size;have hbs':w.heap.size<=(wr.alloc (M #[I J tid] 2)).heap.size:=by simp;omega
    go_wp2_with(at_builtin;refine aE3 tS (.tmp 23) (.tmp 32) ?_ ?_ w.heap.size (Z a m c) m (icells zs) (Y ⟨wr.heap.size,0,O⟩) 1 1 (icells [tid]) ?_ ?_ hO' hN (dC _) (by omega) hbs' ?_;exact rfl;exact rfl;exact rfl;exact rfl;intro a9 c9 W9 o9 gr9 at9)
    have hB9:V' w W9:=cK (hB.trans (kN.mono hB.size)) gr9 (fun g hg=>(aH hO g hg).1) hbs';have o9':W9.ownsRow w.heap.size 2 1 (Z a9 (m+1) c9) (m+1) (icells (zs++[tid])):=by
     have:icells (zs++[tid])=icells zs++icells [tid]:=by simp[icells]
     rw[this];exact o9
    go_roundw;case rel=>exact⟨k+1,m+1,a9,c9,zs++[tid],by omega,by omega,by go_num,rfl,o9',hB9⟩
    case measure=>simp[intOf];omega
  .obtain rfl:k=s.tn:=by omega
   go_wp2;go_ret;exact⟨⟨a,m,c,zs,rfl,by omega,hO⟩,hB⟩
theorem aP5(a:Option Addr)(n cap:Nat)(base:List Row)(a1:Option Addr)(n1 cap1:Nat)(ts:List Ac)(a2:Option Addr)(n2 cap2:Nat)(cs:List Int)(w:World)(h:CellsAt w a (n*3) (rcells base))(h1:AcAt w a1 n1 ts)(h2:CellsAt w a2 (n2*1) (icells cs))(hn:n<=1048576)(hn1:n1<=1048576)(hn2:n2<=1048576):
  Calls prog 19 #[Z a n cap,Z a1 n1 cap1,Z a2 n2 cap2] w fun e w'=>∃a' m c',e=R' (U #[I J (eS base ts cs).1,X (eS base ts cs).2.1,Z a' m c'])/\m<=100/\w'.ownsRow w.heap.size 86 3 (Z a' m c') m (rcells (eS base ts cs).2.2)/\V' w w':=by
 have HL:=h2.ilen;have b0:V' w (w.alloc (M #[I J 0,X F',Z O 0 0] 49)):=(Aa _ _).alloc z' _;have IA:=fun W hW=>nI a1 n1 cap1 ts W hW hn1;have IB:=fun W hW=>tK a n cap base W hW hn;have HF:Hid (fJ base ts cs=if cQ ts !=0 then cQ ts else if cW base !=0 then cW base else if 40<n2 then 2 else 0):=by show _=_;rw[HL.out];rfl
 have HB:Hid (∀c,fJ base ts cs=c->(c !=0)=A'->eS base ts cs=(c,F',[])):=fun c hc h0=>rM hc h0;have HK:Hid (fJ base ts cs=0->eS base ts cs=(0,(eU ts cs ⟨cX base base.length,A'⟩ cs.length).ok,Ch.rowsS (eU ts cs ⟨cX base base.length,A'⟩ cs.length).s)):=fun h0=>qO h0;have IR:=fun W hW hW1 hW2 h0=>aT9 a n cap base a1 n1 cap1 ts a2 n2 cap2 cs W hW hW1 hW2 hn hn1 hn2 h0;generalize cQ ts=c at*;generalize cW base=d at*;cases hc:(c !=0)with
 |true=>
  rw[HB.out c (by rw[HF.out,hc];rfl) hc];go_enter func19,ntmps19
  go_wp2_with fail
  refine(IA _ (h1.below b0)).mono ?_;rintro e w1⟨rfl,b1⟩;obtain⟨cA,fA⟩:=dH b1;have x0:=cA w.heap.size 0 (by simp);have x1:=cA w.heap.size 1 (by simp);have x2:=cA w.heap.size 2 (by simp);have fx0:=fA w.heap.size 0 (by simp);have fx1:=fA w.heap.size 1 (by simp);have fx2:=fA w.heap.size 2 (by simp);clear cA fA;simp[go_sem]at x0 x1 x2 fx0 fx1 fx2;have hz:=aD x0;go_wp2;refine Ae (v:=U #[I J c,X F',Z O 0 0]) (by simp[results,Tryz.results19,go_sem,x0,x1,x2]) rfl ⟨O,0,0,rfl,by omega,Aw _ _ _ _,?_⟩;exact(((aZ b1).setCell (p:=⟨w.heap.size,0,O⟩) z' _).setCell (p:=⟨w.heap.size,1,O⟩) z' _).setCell (p:=⟨w.heap.size,2,O⟩) z' _
 |false=>
  cases hd:(d !=0)with
  |true=>
   rw[HB.out d (by rw[HF.out,hc,hd];rfl) hd];go_enter func19,ntmps19
   go_wp2_with fail
   refine(IA _ (h1.below b0)).mono ?_;rintro e w1⟨rfl,b1⟩;go_wp2_with fail
   refine(IB _ (h.below (aZ b1))).mono ?_;rintro e w2⟨rfl,b2⟩;replace b1:=b1.trans (b2.mono b1.size);obtain⟨cA,fA⟩:=dH b1;have x0:=cA w.heap.size 0 (by simp);have x1:=cA w.heap.size 1 (by simp);have x2:=cA w.heap.size 2 (by simp);have fx0:=fA w.heap.size 0 (by simp);have fx1:=fA w.heap.size 1 (by simp);have fx2:=fA w.heap.size 2 (by simp);clear cA fA;simp[go_sem]at x0 x1 x2 fx0 fx1 fx2;have hz:=aD x0;go_wp2;refine Ae (v:=U #[I J d,X F',Z O 0 0]) (by simp[results,Tryz.results19,go_sem,x0,x1,x2]) rfl ⟨O,0,0,rfl,by omega,Aw _ _ _ _,?_⟩;exact(((aZ b1).setCell (p:=⟨w.heap.size,0,O⟩) z' _).setCell (p:=⟨w.heap.size,1,O⟩) z' _).setCell (p:=⟨w.heap.size,2,O⟩) z' _
  |false=>
   by_cases h4:40<n2
   .rw[HB.out 2 (by rw[HF.out,hc,hd];simp[h4]) (by decide)];go_enter func19,ntmps19
    go_wp2_with fail
    refine(IA _ (h1.below b0)).mono ?_;rintro e w1⟨rfl,b1⟩;go_wp2_with fail
    refine(IB _ (h.below (aZ b1))).mono ?_;rintro e w2⟨rfl,b2⟩;replace b1:=b1.trans (b2.mono b1.size);obtain⟨cA,fA⟩:=dH b1;have x0:=cA w.heap.size 0 (by simp);have x1:=cA w.heap.size 1 (by simp);have x2:=cA w.heap.size 2 (by simp);have fx0:=fA w.heap.size 0 (by simp);have fx1:=fA w.heap.size 1 (by simp);have fx2:=fA w.heap.size 2 (by simp);clear cA fA;simp[go_sem]at x0 x1 x2 fx0 fx1 fx2;have hz:=aD x0;go_wp2;refine Ae (v:=U #[I J 2,X F',Z O 0 0]) (by simp[results,Tryz.results19,go_sem,x0,x1,x2]) rfl ⟨O,0,0,rfl,by omega,Aw _ _ _ _,?_⟩;exact(((aZ b1).setCell (p:=⟨w.heap.size,0,O⟩) z' _).setCell (p:=⟨w.heap.size,1,O⟩) z' _).setCell (p:=⟨w.heap.size,2,O⟩) z' _
   .have h0:fJ base ts cs=0:=by rw[HF.out,hc,hd];simp[h4]
    rw[HK.out h0];replace IR:=fun W hW hW1 hW2=>IR W hW hW1 hW2 h0;generalize eU ts cs ⟨cX base base.length,A'⟩ cs.length=st at*;have h4':n2<=40:=by omega
    clear h4 HF HB HK h0;go_enter func19,ntmps19
    go_wp2_with fail
    refine(IA _ (h1.below b0)).mono ?_;rintro e w1⟨rfl,b1⟩;go_wp2_with fail
    refine(IB _ (h.below (aZ b1))).mono ?_;rintro e w2⟨rfl,b2⟩;replace b1:=b1.trans (b2.mono b1.size);go_wp2_with fail
    refine(IR _ (h.below (aZ b1)) (h1.below (aZ b1)) (h2.below (aZ b1))).mono ?_;rintro e w3⟨a3,m3,c3,rfl,hm3,o3,b3⟩;have hz2:=b1.size;simp at hz2;replace b1:=b1.trans (b3.mono b1.size);obtain⟨cA,fA⟩:=dH b1;have x0:=cA w.heap.size 0 (by simp);have x1:=cA w.heap.size 1 (by simp);have x2:=cA w.heap.size 2 (by simp);have fx0:=fA w.heap.size 0 (by simp);have fx1:=fA w.heap.size 1 (by simp);have fx2:=fA w.heap.size 2 (by simp);clear cA fA;simp[go_sem]at x0 x1 x2 fx0 fx1 fx2;have hz:=aD x0;go_wp2;refine Ae (v:=U #[I J 0,X st.ok,Z a3 m3 c3]) (by simp[results,Tryz.results19,go_sem,x0,x1,x2]) rfl ⟨a3,m3,c3,rfl,hm3,?_,?_⟩
    .exact aQ (Bd (a:=⟨w.heap.size,2,O⟩) (Bd (a:=⟨w.heap.size,1,O⟩) (Bd (a:=⟨w.heap.size,0,O⟩) o3 (by simp;omega) _) (by simp;omega) _) (by simp;omega) _) (by omega)
    .exact(((aZ b1).setCell (p:=⟨w.heap.size,0,O⟩) z' _).setCell (p:=⟨w.heap.size,1,O⟩) z' _).setCell (p:=⟨w.heap.size,2,O⟩) z' _
theorem qF(a:Option Addr)(n cap:Nat)(base:List Row)(a1:Option Addr)(n1 cap1:Nat)(ts:List Ac)(a2:Option Addr)(n2 cap2:Nat)(cs:List Int)(w:World)(h:CellsAt w a (n*3) (rcells base))(h1:AcAt w a1 n1 ts)(h2:CellsAt w a2 (n2*1) (icells cs))(hn:n<=1048576)(hn1:n1<=1048576)(hn2:n2<=1048576):
  Calls prog 18 #[Z a n cap,Z a1 n1 cap1,Z a2 n2 cap2] w fun e w'=>∃a' m c',e=R' (U #[I J (eS base ts cs).1,X (eS base ts cs).2.1,Z a' m c'])/\m<=100/\w'.ownsRow w.heap.size 86 3 (Z a' m c') m (rcells (eS base ts cs).2.2)/\V' w w':=by
 by_cases h0:fJ base ts cs=0
 .rw[qO h0];exact aT4 a n cap base a1 n1 cap1 ts a2 n2 cap2 cs w h h1 h2 hn hn1 hn2 h0
 .obtain⟨c,HC⟩:∃c,Hid (fJ base ts cs=c):=⟨_,rfl⟩
  have hc:(c !=0)=A':=by rw[<-HC.out];simpa using h0
  rw[rM HC.out hc];have b0:V' w (w.alloc (M #[I J 0,X F',Z O 0 0] 49)):=(Aa _ _).alloc z' _;clear h0;go_enter func18,ntmps18
  go_wp2_with fail
  refine(aF1 a n cap base a1 n1 cap1 ts a2 n2 cap2 cs _ (h.below b0) (h1.below b0) (h2.below b0) hn hn1 hn2).mono ?_;rintro e w1⟨rfl,b1⟩;rw[HC.out];obtain⟨cA,fA⟩:=dH b1;have x0:=cA w.heap.size 0 (by simp);have x1:=cA w.heap.size 1 (by simp);have x2:=cA w.heap.size 2 (by simp);have fx0:=fA w.heap.size 0 (by simp);have fx1:=fA w.heap.size 1 (by simp);have fx2:=fA w.heap.size 2 (by simp);clear cA fA;simp[go_sem]at x0 x1 x2 fx0 fx1 fx2;have hz:=aD x0;go_wp2;refine Ae (v:=U #[I J c,X F',Z O 0 0]) (by simp[results,Tryz.results18,go_sem,x0,x1,x2]) rfl ⟨O,0,0,rfl,by omega,Aw _ _ _ _,?_⟩;exact(((aZ b1).setCell (p:=⟨w.heap.size,0,O⟩) z' _).setCell (p:=⟨w.heap.size,1,O⟩) z' _).setCell (p:=⟨w.heap.size,2,O⟩) z' _
end Go.Proofs.YtpbbokalojdooaaGreat
