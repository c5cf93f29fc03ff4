import Derived.Test.YtpbbokalojdooaaGreatQam
namespace Go.Proofs.YtpbbokalojdooaaGreat
open Go.RowKit Ch Go.Proofs.Tryz
set_option linter.unusedSimpArgs false
set_option linter.unusedVariables false
set_option maxRecDepth 20000
set_option maxHeartbeats 8000000
open Value renaming int->I,slice->Z,bool->X,agg->U
open IntKind renaming i64->J
open Option renaming none->O,some->Y
open Obj renaming cells->M
open Ending renaming returned->R'
open Bool renaming true->A',false->F'
variable {cs:Array Value} {vs:List (Value×Value)} {ls:List Lock} {l:Lock} {B H cap hi k lo n:Nat} {o o':Obj} {a a':Option Addr} {row:Option Nat} {T t:TypeId} {v x y z:Value} {p:Value×Value} {w w' w1:World}
theorem dD4(x y:Int)(w:World):Calls prog 220 #[I J x,I J y] w fun e w'=>e=R' (I J (min x y))/\w'=w:=by
 by_cases h:x<y
 .rw[show min x y=x by omega];go_enter func220,ntmps220
  go_wp2;go_ret;exact⟨rfl,rfl⟩
 .rw[show min x y=y by omega];go_enter func220,ntmps220
  go_wp2;go_ret;exact⟨rfl,rfl⟩
theorem bY8(a:Option Addr)(n cap:Nat)(ls:List (List Row))(w:World)(h:LvAt w a n ls)(hs:aW ls<=1048576)(hg:∀k,k<n->(ls.getD k []).length≠0):
  Calls prog 214 #[Z a n cap] w fun e w'=>∃a' m c',e=R' (Z a' m c')/\OwnLv w' w.heap.size (Z a' m c') m (aE1 ls.flatten)/\Below w.heap.size w w':=by
 have HL:=h.len;have o0:=oQ w w.heap.size z';have O0:OwnLv (w.alloc (M #[] 200)) w.heap.size (Z (Y ⟨w.heap.size,0,O⟩) 0 0) 0 []:=⟨rfl,[],o0,fun i hi=>absurd hi (by omega),fun i j x y g _ hx=>by simp at hx,fun i x g hx=>by simp at hx⟩
 clear o0;have b0:=f' w (M #[] 200);have hfl:=nU hs ls.length;rw[List.take_length]at hfl;have RI:=fun W hW=>aP1 a n cap ls W hW hs hg ls.flatten.length rfl;generalize ls.flatten=F at*;generalize hm:F.length=m at*;obtain⟨P,hP⟩:∃P,P=(m+3) / 4:=⟨_,rfl⟩
 have HP:=hid (cA9 F P (by rw[hm];exact hP));have hPm:P<=1048576:=by omega
 have hPd:∀k,k<P->k*4<m:=by intro k hk;omega
 have hPe:P*4<m+4/\m<=P*4:=by omega
 clear hP hg;go_enter func214,ntmps214
 go_wp2_with fail
 refine(RI _ (h.below b0)).mono ?_;rintro e w2⟨a2,c2,rfl,own,b2⟩;have O2:=O0.below b2;have bE:=b0.trans (b2.mono b0.size);have hlo:∀g,(Z a2 m c2).ownBlock=Y g->w.heap.size<g:=by intro g hg;have:=aG own g hg;simp at this;omega
 have hhi:∀g,(Z a2 m c2).ownBlock=Y g->g<w2.heap.size:=by intro g hg;exact(aG own g hg).2
 have hz2:=b2.size;simp at hz2;clear O0 b2 b0 RI;go_wp2;go_loopw [3,5] (fun q i wr=>∃(k:Nat) (a':Option Addr) (c':Nat),k<=P/\i=I J ((k:Int)*4)/\q=Z a' k c'/\OwnLv wr w.heap.size (Z a' k c') k ((List.range k).map (gL F))/\(∀g,(Z a' k c').ownBlock=Y g->g=w.heap.size\/w2.heap.size<=g)/\wr.ownsRow (w.heap.size+1) 86 3 (Z a2 m c2) m (rcells F)/\w2.heap.size<=wr.heap.size/\Below w.heap.size w wr) (fun _ i _=>P-(intOf i / 4).toNat)
 case atStart=>exact⟨0,_,_,Nat.zero_le _,rfl,rfl,O2,fun g hg=>by simp[Value.ownBlock]at hg;omega,by simpa using own,z',bE⟩
 case round=>
  clear O2 own;obtain⟨k,a',c',hk,rfl,rfl,oL,hat,own,hsz,hB⟩:=hrel;by_cases hlt:k<P
  .have hkm:=hPd k hlt;have hown:=own;rcases own.2 with⟨_,h00⟩|⟨g,cp,cur,hv,_⟩
   .omega
   simp only[Value.slice.injEq,true_and]at hv;obtain⟨rfl,rfl⟩:=hv;have hcap:=aW7 hown;have hcells:=aJ hown;have hlo:=hlo g rfl;have hhi:=hhi g rfl;obtain⟨t,ht⟩:∃t:Nat,t=min (k*4+4) m:=⟨_,rfl⟩
   have hmin:min (m:Int) ((k:Int)*4+4)=(t:Int):=by omega
   have HPi:=hid (bN7 F k t (by rw[hm];exact ht));have HSn:=hid (aN6 F k);have ht1:k*4<t:=by omega
   have ht2:t<=m:=by omega
   clear ht;obtain⟨vs,hV⟩:=oL.told;have hoV:=hV.2.1;have hsum:k+1<=2097152:=by omega
   have hk4:((k*4:Nat):Int)=(k:Int)*4:=by omega
   have h1:t<=c2:=by omega
   have h2:k*4<=t:=by omega
   have h3:¬c2=k*4:=by omega
   have h4:(k:Int)*4<(m:Int):=by omega
   have h5:(k:Int)*4<=(t:Int):=by omega
   have h6:((k:Int)*4).toNat=k*4:=by omega
   have hcR:=hcells.cutR (k:=k*4) (by omega);rw[Nat.zero_add]at hcR;have hcc:=hcR.cutL (k:=t-k*4) (by omega);rw[HPi.out]at hcc;generalize gL F k=pc at*;have MI:=fun W=>dD4 (m:Int) ((k:Int)*4+4) W;rw[hmin]at MI;go_wp2_with fail
   refine(MI _).mono ?_;rintro e w4⟨rfl,rfl⟩;clear MI hmin;have e0:=jV w4 w4.heap.size z';have bR:=f' w4 (M #[] 86);have hcc4:=hcc.below bR;have hsd:0+(t-k*4)<=2097152:=by omega
   have hfo:∀o,Below w4.heap.size w4 (w4.alloc o):=fun o=>q';go_wp2_with(first|(at_builtin;refine fC (.tmp 22) (.tmp 26) w4.heap.size (Z (Y ⟨w4.heap.size,0,O⟩) 0 0) 0 [] (t-k*4) pc hsd ?_ ?_ ?_ ?_ ?_ ?_ ?_;exact rfl;exact rfl;exact rfl;exact⟨_,_,rfl,hcc4⟩;exact e0;(focus(simp;done));intro a5 c5 w5 own5 b5;have b5':=bR.trans b5;have bA:∀o,Below w5.heap.size w5 (w5.alloc o):=(fun o=>q');rw[Nat.zero_add,List.nil_append]at own5;rw[Nat.zero_add];have hz5:=b5'.size)|(at_builtin;go_must (refine mU (.tmp 21) (.tmp 29) w.heap.size (Z a' k c') k vs 1 [Z a5 (t-k*4) c5] hsum (by simp[Value.oneCell']) ?_ ?_ ?_ ?_ ?_ ?_ ?_ (by omega);exact rfl;exact rfl;exact rfl;exact⟨_,_,rfl,uX rfl⟩;exact aF (aF hoV b5') (bA _);(focus(have:=hB.size;simp;omega));intro a6 c6 w6 own6 gr6 at6)))
   have HLn:=bC3 own5;have hB5:=hB.trans (b5'.mono hB.size);have hz6:=gr6.size;simp at hz6;go_roundw;case rel=>
    refine⟨k+1,a6,c6,by omega,by go_num,rfl,?_,?_,?_,by omega,?_⟩
    .rw[HSn.out];refine OwnLv.snoc hV b5' ?_ hB.size rfl own6 gr6 at6;have:=HLn.out;rw[<-this];exact own5
    .intro q hq;rcases at6 q hq with h7|h7
     .exact hat q h7
     .simp at h7;right;omega
    .refine aK (aF (aF hown b5') (bA _)) gr6 fun q hq e=>?_;simp[Value.ownBlock]at hq;subst hq;have:=hat _ e;omega
    .refine(hB5.alloc hB5.size _).grown gr6 (by have:=hB5.size;simp;omega) ?_;intro j hj;exact(aG hoV j hj).1
   case measure=>simp[intOf];omega
  .obtain rfl:k=P:=by omega
   have h4:¬(k:Int)*4<(m:Int):=by omega
   go_wp2;go_ret;rw[HP.out]at oL;exact⟨a',k,c',rfl,oL,hB⟩
theorem cN5(kd tx ky:Int)(hd:Bool)(ol:Int)(hs:Bool)(nw:Int)(w:World):
  Calls prog 159 #[U #[I J kd,I J tx,I J ky,X hd,I J ol,X hs,I J nw]] w fun e w'=>e=R' (I .u8 (Rec.flags ⟨kd,tx,ky,hd,ol,hs,nw⟩))/\Below w.heap.size w w':=by
 have o1:bits .or .u8 0 1=1:=by decide
 have o2:bits .or .u8 0 2=2:=by decide
 have o3:bits .or .u8 1 2=3:=by decide
 cases hd<;>cases hs
 all_goals
  go_enter func159,ntmps159
  go_wp2;go_ret;exact⟨by simp[Rec.flags],q'⟩
theorem bU(b:Below (w.heap.size+2) ((w.alloc o).alloc o') w1):Below (w.heap.size+1) (w.alloc o) w1:=
 (u'.alloc (by simp) _).trans (b.mono (by simp))
theorem aI2(b:Below ((w.alloc o).alloc o').heap.size ((w.alloc o).alloc o') w1):Below (w.heap.size+2) ((w.alloc o).alloc o') w1:=b.mono (by simp)
theorem vS(b:Below (w.heap.size+2) ((w.alloc o).alloc (M cs t)) w1)(i:Nat):w1.cell? ⟨w.heap.size+1,i,O⟩=cs[i]? :=by have:=cV (w:=w.alloc o) (by simpa using b) i;simpa using this
theorem aL8(kd tx ky:Int)(hd:Bool)(ol:Int)(hs:Bool)(nw:Int)(w:World)(c:Int)(h0:Rec.fault ⟨kd,tx,ky,hd,ol,hs,nw⟩=c)(hc:(c !=0)=A'):
  Calls prog 119 #[U #[I J kd,I J tx,I J ky,X hd,I J ol,X hs,I J nw]] w fun e w'=>e=R' (U #[I J c,Z O 0 0])/\Below w.heap.size w w':=by
 go_enter func119,ntmps119
 go_wp2_with fail
 refine(uR _ _ _ _ _ _ _ _).mono ?_;rw[h0];rintro e w1⟨rfl,b1⟩;have b1':=aI2 b1;have q0:=vS b1' 0;have q1:=vS b1' 1;have f0:=b1'.frozen (p:=⟨w.heap.size+1,0,O⟩) (by simp);have f1:=b1'.frozen (p:=⟨w.heap.size+1,1,O⟩) (by simp);simp[go_sem]at q0 q1 f0 f1;go_wp2;exact bodyPost_ret (v:=U #[I J c,Z O 0 0]) (by simp[results,Tryz.results119,go_sem,q0,q1]) rfl ⟨rfl,((cD (bU b1')).setCell (p:=⟨w.heap.size+1,0,O⟩) (by simp) _).setCell (p:=⟨w.heap.size+1,1,O⟩) (by simp) _⟩
theorem aL9(kd tx ky:Int)(hd:Bool)(ol:Int)(hs:Bool)(nw:Int)(w:World)(h0:Rec.fault ⟨kd,tx,ky,hd,ol,hs,nw⟩=0):
  Calls prog 119 #[U #[I J kd,I J tx,I J ky,X hd,I J ol,X hs,I J nw]] w fun e w'=>∃g cp,e=R' (U #[I J 0,Z (Y ⟨g,0,O⟩) (Rec.len ⟨kd,tx,ky,hd,ol,hs,nw⟩) cp])/\w'.ownsRow w.heap.size 5 1 (Z (Y ⟨g,0,O⟩) (Rec.len ⟨kd,tx,ky,hd,ol,hs,nw⟩) cp) (Rec.len ⟨kd,tx,ky,hd,ol,hs,nw⟩) (bts (Rec.bytes ⟨kd,tx,ky,hd,ol,hs,nw⟩))/\Below w.heap.size w w':=by
 have fit:=Rec.fit h0;have hbts:=aA3 (Rec.body_bytes fit);obtain⟨⟨k0,k1⟩,⟨t0,t1⟩,⟨y0,y1⟩,⟨o0,o1⟩,⟨n0,n1⟩,hrest⟩:=fit;clear hrest;simp only at k0 k1 t0 t1 y0 y1 o0 o1 n0 n1;have hw0:IntKind.u8.wrap kd=kd:=by simp[IntKind.wrap_u8];omega
 have hw1:IntKind.u8.wrap ky=ky:=by simp[IntKind.wrap_u8];omega
 go_enter func119,ntmps119
 go_wp2_with fail
 refine(uR _ _ _ _ _ _ _ _).mono ?_;rw[h0];rintro e w1⟨rfl,b1⟩;have z1:=b1.size;simp at z1;go_upto_region 4 with fail
 go_cut [4] (fun s wx=>∃g c,s=Z (Y ⟨g,0,O⟩) 3 c/\wx.ownsRow (w.heap.size+2) 5 1 (Z (Y ⟨g,0,O⟩) 3 c) 3 (bts [kd,tx / 256,tx%256])/\Below (w.heap.size+2) ((w.alloc (nO kd tx ky hd ol hs nw)).alloc (M #[I J 0,Z O 0 0] 167)) wx)
 case first=>
  have HS:Hid (∀W',Below (w.heap.size+2) ((w.alloc (nO kd tx ky hd ol hs nw)).alloc (M #[I J 0,Z O 0 0] 167)) W'->W'.cell? ⟨w.heap.size,0,O⟩=Y (I J kd)/\W'.cell? ⟨w.heap.size,1,O⟩=Y (I J tx)/\W'.cell? ⟨w.heap.size,2,O⟩=Y (I J ky)/\W'.cell? ⟨w.heap.size,3,O⟩=Y (X hd)/\W'.cell? ⟨w.heap.size,4,O⟩=Y (I J ol)/\W'.cell? ⟨w.heap.size,5,O⟩=Y (X hs)/\W'.cell? ⟨w.heap.size,6,O⟩=Y (I J nw)/\Below (w.heap.size+2) ((w.alloc (nO kd tx ky hd ol hs nw)).alloc (M #[I J 0,Z O 0 0] 167)) W'):=fun W' hb=>⟨by simpa using dR (bU hb) 0,by simpa using dR (bU hb) 1,by simpa using dR (bU hb) 2,by simpa using dR (bU hb) 3,by simpa using dR (bU hb) 4,by simpa using dR (bU hb) 5,by simpa using dR (bU hb) 6,hb⟩
  refine R0 (fun W'=>W'.cell? ⟨w.heap.size,0,O⟩=Y (I J kd)/\W'.cell? ⟨w.heap.size,1,O⟩=Y (I J tx)/\W'.cell? ⟨w.heap.size,2,O⟩=Y (I J ky)/\W'.cell? ⟨w.heap.size,3,O⟩=Y (X hd)/\W'.cell? ⟨w.heap.size,4,O⟩=Y (I J ol)/\W'.cell? ⟨w.heap.size,5,O⟩=Y (X hs)/\W'.cell? ⟨w.heap.size,6,O⟩=Y (I J nw)/\Below (w.heap.size+2) ((w.alloc (nO kd tx ky hd ol hs nw)).alloc (M #[I J 0,Z O 0 0] 167)) W') (HS.out _ (aI2 b1).drew) (fun hH=>?_);refine R5 0 1 2 3 4 ?_;refine R2 6 7 ?_;refine R6 5 (fun K hK=>?_);go_simp;refine(yZ _ _ (by omega) (by omega)).mono ?_;rintro e w1⟨rfl,hw1⟩;subst w1;go_wp2_with fail
  refine hK.out _ _ ?_ (fun hH=>?_)
  .exact hH
  clear hK K;refine R6 8 (fun K hK=>?_);go_simp;refine(aG9 _ _ (by omega) (by omega)).mono ?_;rintro e w1⟨rfl,hw1⟩;subst w1;go_wp2_with fail
  refine hK.out _ _ ?_ (fun hH=>?_)
  .exact hH
  clear hK K;refine R6 9 (fun K hK=>?_);go_simp;refine hK.out _ _ ?_ (fun hH=>?_)
  .exact HS.out _ (hH.2.2.2.2.2.2.2.alloc (by simp;omega) _)
  clear hK K;refine R1 10 ?_;refine R7 ?_;go_wp2_with fail
  go_meet;exact⟨_,_,rfl,bB4 #[I .u8 kd,I .u8 (tx / 256),I .u8 (tx%256)] 3 rfl (by first|omega|(simp;omega)) (by omega) (by first|rfl|simp),hH.2.2.2.2.2.2.2⟩
 case rest=>
 obtain⟨g,c,rfl,own,hB⟩:=hcut;clear b1 z1;have q0:=dR (bU hB) 0;simp at q0;have zb:=hB.size;simp at zb;cases hset:eU kd
 .have HB:Hid (Rec.body ⟨kd,tx,ky,hd,ol,hs,nw⟩=[kd,tx / 256,tx%256]):=by show _=_;simp[Rec.body,hset]
  have HL:Hid (Rec.len ⟨kd,tx,ky,hd,ol,hs,nw⟩=5):=by show _=_;simp[Rec.len,hset]
  have HE:Hid (Rec.bytes ⟨kd,tx,ky,hd,ol,hs,nw⟩=gW [kd,tx / 256,tx%256]):=by show _=_;simp[Rec.bytes,HB.out]
  rw[HB.out]at hbts;clear HB;generalize hp:[kd,tx / 256,tx%256]=p at*;go_wp2_with(go_at_call 82;refine(nS _ _).mono ?_;rintro e w1⟨rfl,hw1⟩;subst w1)
  refine(wL (w.heap.size+2) g 3 c p _ own zb (by omega) hbts).mono ?_;rintro e w2⟨g2,c2,rfl,own2,b2⟩;have b2':=hB.trans b2;have q0:=vS b2' 0;have q1:=vS b2' 1;have f0:=b2'.frozen (p:=⟨w.heap.size+1,0,O⟩) (by simp);have f1:=b2'.frozen (p:=⟨w.heap.size+1,1,O⟩) (by simp);simp[go_sem]at q0 q1 f0 f1;have hg2:=gI own2;go_wp2;rw[HL.out,HE.out];refine bodyPost_ret (v:=U #[I J 0,Z (Y ⟨g2,0,O⟩) (5) c2]) (by simp[results,Tryz.results119,go_sem,q0,q1]) rfl ⟨g2,c2,rfl,?_,?_⟩
  .exact aP (ownsRow_setCell_below (ownsRow_setCell_below own2 (by simp) _) (by simp) _) (by omega)
  .exact((cD (bU b2')).setCell (p:=⟨w.heap.size+1,0,O⟩) (by simp) _).setCell (p:=⟨w.heap.size+1,1,O⟩) (by simp) _
 .have HL:Hid (Rec.len ⟨kd,tx,ky,hd,ol,hs,nw⟩=11):=by show _=_;simp[Rec.len,hset]
  have HB:Hid (Rec.body ⟨kd,tx,ky,hd,ol,hs,nw⟩=[kd,tx / 256,tx%256,ky,Rec.flags ⟨kd,tx,ky,hd,ol,hs,nw⟩,ol / 256,ol%256,nw / 256,nw%256]):=by show _=_;simp[Rec.body,hset,Rec.more]
  have HE:Hid (Rec.bytes ⟨kd,tx,ky,hd,ol,hs,nw⟩=gW [kd,tx / 256,tx%256,ky,Rec.flags ⟨kd,tx,ky,hd,ol,hs,nw⟩,ol / 256,ol%256,nw / 256,nw%256]):=by show _=_;simp[Rec.bytes,HB.out]
  rw[HB.out]at hbts;clear HB;have hfl:=Rec.flags_bd ⟨kd,tx,ky,hd,ol,hs,nw⟩;have flC:=cN5 kd tx ky hd ol hs nw;generalize Rec.flags ⟨kd,tx,ky,hd,ol,hs,nw⟩=fl at*;go_upto_region 6 with(go_at_call 82;refine(nS _ _).mono ?_;rintro e w1⟨rfl,hw1⟩;subst w1)
  go_cut [4] (fun s wx=>∃g c,s=Z (Y ⟨g,0,O⟩) 5 c/\wx.ownsRow (w.heap.size+2) 5 1 (Z (Y ⟨g,0,O⟩) 5 c) 5 (bts [kd,tx / 256,tx%256,ky,fl])/\Below (w.heap.size+2) ((w.alloc (nO kd tx ky hd ol hs nw)).alloc (M #[I J 0,Z O 0 0] 167)) wx)
  case first=>
   have HS:Hid (∀W',Below (w.heap.size+2) ((w.alloc (nO kd tx ky hd ol hs nw)).alloc (M #[I J 0,Z O 0 0] 167)) W'->W'.cell? ⟨w.heap.size,0,O⟩=Y (I J kd)/\W'.cell? ⟨w.heap.size,1,O⟩=Y (I J tx)/\W'.cell? ⟨w.heap.size,2,O⟩=Y (I J ky)/\W'.cell? ⟨w.heap.size,3,O⟩=Y (X hd)/\W'.cell? ⟨w.heap.size,4,O⟩=Y (I J ol)/\W'.cell? ⟨w.heap.size,5,O⟩=Y (X hs)/\W'.cell? ⟨w.heap.size,6,O⟩=Y (I J nw)/\Below (w.heap.size+2) ((w.alloc (nO kd tx ky hd ol hs nw)).alloc (M #[I J 0,Z O 0 0] 167)) W'):=fun W' hb=>⟨by simpa using dR (bU hb) 0,by simpa using dR (bU hb) 1,by simpa using dR (bU hb) 2,by simpa using dR (bU hb) 3,by simpa using dR (bU hb) 4,by simpa using dR (bU hb) 5,by simpa using dR (bU hb) 6,hb⟩
   refine R0 (fun W'=>W'.cell? ⟨w.heap.size,0,O⟩=Y (I J kd)/\W'.cell? ⟨w.heap.size,1,O⟩=Y (I J tx)/\W'.cell? ⟨w.heap.size,2,O⟩=Y (I J ky)/\W'.cell? ⟨w.heap.size,3,O⟩=Y (X hd)/\W'.cell? ⟨w.heap.size,4,O⟩=Y (I J ol)/\W'.cell? ⟨w.heap.size,5,O⟩=Y (X hs)/\W'.cell? ⟨w.heap.size,6,O⟩=Y (I J nw)/\Below (w.heap.size+2) ((w.alloc (nO kd tx ky hd ol hs nw)).alloc (M #[I J 0,Z O 0 0] 167)) W') (HS.out _ hB.drew) (fun hH=>?_);refine R5 0 1 2 3 4 ?_;refine R6 5 (fun K hK=>?_);go_simp;refine(flC _).mono ?_;rintro e w1⟨rfl,b1⟩;have bw1:=hH.2.2.2.2.2.2.2.trans (b1.mono (by simp;omega));have ow1:=aF own.drew b1;have zw1:=bw1.size;simp at zw1;go_wp2_with fail
   refine hK.out _ _ ?_ (fun hH=>?_)
   .exact HS.out _ bw1
   clear hK K;refine R6 6 (fun K hK=>?_);go_simp;refine hK.out _ _ ?_ (fun hH=>?_)
   .exact HS.out _ (hH.2.2.2.2.2.2.2.alloc (by omega) _)
   clear hK K;refine R6 7 (fun K hK=>?_);refine mD (.tmp 24) (.tmp 30) (w.heap.size+2) 3 (bts [kd,tx / 256,tx%256]) 2 #[I .u8 ky,I .u8 fl] ⟨by omega,rfl,by omega⟩ rfl rfl ⟨_,_,rfl,?_⟩ ⟨_,_,5,rfl,?_⟩ ?_ ?_ ?_
   .exact ow1.alloc _
   .exact aO (by simp)
   .simp[Value.oneCell']
   .simp;omega
   intro g2 c2 w2 own2 gr2;have bw2:=hH.2.2.2.2.2.2.2.trans gr2;refine hK.out _ _ ?_ (fun hH=>?_)
   .exact HS.out _ bw2
   clear hK K;refine J3 ?_;refine R1 8 ?_;refine R7 ?_;go_wp2_with fail
   go_meet;exact⟨g2,c2,rfl,by simpa[bts]using own2,bw2⟩
  case rest=>
  clear own hB q0 zb;obtain⟨g,c,rfl,own,hB⟩:=hcut;have zb:=hB.size;simp at zb;go_upto_region 7 with fail
  go_cut [4] (fun s wx=>∃g c,s=Z (Y ⟨g,0,O⟩) 7 c/\wx.ownsRow (w.heap.size+2) 5 1 (Z (Y ⟨g,0,O⟩) 7 c) 7 (bts [kd,tx / 256,tx%256,ky,fl,ol / 256,ol%256])/\Below (w.heap.size+2) ((w.alloc (nO kd tx ky hd ol hs nw)).alloc (M #[I J 0,Z O 0 0] 167)) wx)
  case first=>
   have HS:Hid (∀W',Below (w.heap.size+2) ((w.alloc (nO kd tx ky hd ol hs nw)).alloc (M #[I J 0,Z O 0 0] 167)) W'->W'.cell? ⟨w.heap.size,0,O⟩=Y (I J kd)/\W'.cell? ⟨w.heap.size,1,O⟩=Y (I J tx)/\W'.cell? ⟨w.heap.size,2,O⟩=Y (I J ky)/\W'.cell? ⟨w.heap.size,3,O⟩=Y (X hd)/\W'.cell? ⟨w.heap.size,4,O⟩=Y (I J ol)/\W'.cell? ⟨w.heap.size,5,O⟩=Y (X hs)/\W'.cell? ⟨w.heap.size,6,O⟩=Y (I J nw)/\Below (w.heap.size+2) ((w.alloc (nO kd tx ky hd ol hs nw)).alloc (M #[I J 0,Z O 0 0] 167)) W'):=fun W' hb=>⟨by simpa using dR (bU hb) 0,by simpa using dR (bU hb) 1,by simpa using dR (bU hb) 2,by simpa using dR (bU hb) 3,by simpa using dR (bU hb) 4,by simpa using dR (bU hb) 5,by simpa using dR (bU hb) 6,hb⟩
   refine R0 (fun W'=>W'.cell? ⟨w.heap.size,0,O⟩=Y (I J kd)/\W'.cell? ⟨w.heap.size,1,O⟩=Y (I J tx)/\W'.cell? ⟨w.heap.size,2,O⟩=Y (I J ky)/\W'.cell? ⟨w.heap.size,3,O⟩=Y (X hd)/\W'.cell? ⟨w.heap.size,4,O⟩=Y (I J ol)/\W'.cell? ⟨w.heap.size,5,O⟩=Y (X hs)/\W'.cell? ⟨w.heap.size,6,O⟩=Y (I J nw)/\Below (w.heap.size+2) ((w.alloc (nO kd tx ky hd ol hs nw)).alloc (M #[I J 0,Z O 0 0] 167)) W') (HS.out _ hB.drew) (fun hH=>?_);refine R5 0 1 2 4 5 ?_;refine R6 3 (fun K hK=>?_);go_simp;refine(yZ _ _ (by omega) (by omega)).mono ?_;rintro e w1⟨rfl,hw1⟩;subst w1;go_wp2_with fail
   refine hK.out _ _ ?_ (fun hH=>?_)
   .exact hH
   clear hK K;refine R6 6 (fun K hK=>?_);go_simp;refine(aG9 _ _ (by omega) (by omega)).mono ?_;rintro e w1⟨rfl,hw1⟩;subst w1;go_wp2_with fail
   refine hK.out _ _ ?_ (fun hH=>?_)
   .exact hH
   clear hK K;refine R6 7 (fun K hK=>?_);go_simp;refine hK.out _ _ ?_ (fun hH=>?_)
   .exact HS.out _ (hH.2.2.2.2.2.2.2.alloc (by simp;omega) _)
   clear hK K;refine R6 8 (fun K hK=>?_);refine mD (.tmp 32) (.tmp 39) (w.heap.size+2) 5 (bts [kd,tx / 256,tx%256,ky,fl]) 2 #[I .u8 (ol / 256),I .u8 (ol%256)] ⟨by omega,rfl,by omega⟩ rfl rfl ⟨_,_,rfl,?_⟩ ⟨_,_,5,rfl,?_⟩ ?_ ?_ ?_
   .exact(own.alloc _).drew
   .exact aO (by simp)
   .simp[Value.oneCell']
   .simp;omega
   intro g2 c2 w2 own2 gr2;have bw2:=hH.2.2.2.2.2.2.2.trans gr2;refine hK.out _ _ ?_ (fun hH=>?_)
   .exact HS.out _ bw2
   clear hK K;refine J3 ?_;refine R1 9 ?_;refine R7 ?_;go_wp2_with fail
   go_meet;exact⟨g2,c2,rfl,by simpa[bts]using own2,bw2⟩
  case rest=>
  clear own hB zb;obtain⟨g,c,rfl,own,hB⟩:=hcut;have zb:=hB.size;simp at zb;go_upto_region 8 with fail
  go_cut [4] (fun s wx=>∃g c,s=Z (Y ⟨g,0,O⟩) 9 c/\wx.ownsRow (w.heap.size+2) 5 1 (Z (Y ⟨g,0,O⟩) 9 c) 9 (bts [kd,tx / 256,tx%256,ky,fl,ol / 256,ol%256,nw / 256,nw%256])/\Below (w.heap.size+2) ((w.alloc (nO kd tx ky hd ol hs nw)).alloc (M #[I J 0,Z O 0 0] 167)) wx)
  case first=>
   have HS:Hid (∀W',Below (w.heap.size+2) ((w.alloc (nO kd tx ky hd ol hs nw)).alloc (M #[I J 0,Z O 0 0] 167)) W'->W'.cell? ⟨w.heap.size,0,O⟩=Y (I J kd)/\W'.cell? ⟨w.heap.size,1,O⟩=Y (I J tx)/\W'.cell? ⟨w.heap.size,2,O⟩=Y (I J ky)/\W'.cell? ⟨w.heap.size,3,O⟩=Y (X hd)/\W'.cell? ⟨w.heap.size,4,O⟩=Y (I J ol)/\W'.cell? ⟨w.heap.size,5,O⟩=Y (X hs)/\W'.cell? ⟨w.heap.size,6,O⟩=Y (I J nw)/\Below (w.heap.size+2) ((w.alloc (nO kd tx ky hd ol hs nw)).alloc (M #[I J 0,Z O 0 0] 167)) W'):=fun W' hb=>⟨by simpa using dR (bU hb) 0,by simpa using dR (bU hb) 1,by simpa using dR (bU hb) 2,by simpa using dR (bU hb) 3,by simpa using dR (bU hb) 4,by simpa using dR (bU hb) 5,by simpa using dR (bU hb) 6,hb⟩
   refine R0 (fun W'=>W'.cell? ⟨w.heap.size,0,O⟩=Y (I J kd)/\W'.cell? ⟨w.heap.size,1,O⟩=Y (I J tx)/\W'.cell? ⟨w.heap.size,2,O⟩=Y (I J ky)/\W'.cell? ⟨w.heap.size,3,O⟩=Y (X hd)/\W'.cell? ⟨w.heap.size,4,O⟩=Y (I J ol)/\W'.cell? ⟨w.heap.size,5,O⟩=Y (X hs)/\W'.cell? ⟨w.heap.size,6,O⟩=Y (I J nw)/\Below (w.heap.size+2) ((w.alloc (nO kd tx ky hd ol hs nw)).alloc (M #[I J 0,Z O 0 0] 167)) W') (HS.out _ hB.drew) (fun hH=>?_);refine R5 0 1 2 4 5 ?_;refine R6 3 (fun K hK=>?_);go_simp;refine(yZ _ _ (by omega) (by omega)).mono ?_;rintro e w1⟨rfl,hw1⟩;subst w1;go_wp2_with fail
   refine hK.out _ _ ?_ (fun hH=>?_)
   .exact hH
   clear hK K;refine R6 6 (fun K hK=>?_);go_simp;refine(aG9 _ _ (by omega) (by omega)).mono ?_;rintro e w1⟨rfl,hw1⟩;subst w1;go_wp2_with fail
   refine hK.out _ _ ?_ (fun hH=>?_)
   .exact hH
   clear hK K;refine R6 7 (fun K hK=>?_);go_simp;refine hK.out _ _ ?_ (fun hH=>?_)
   .exact HS.out _ (hH.2.2.2.2.2.2.2.alloc (by simp;omega) _)
   clear hK K;refine R6 8 (fun K hK=>?_);refine mD (.tmp 41) (.tmp 48) (w.heap.size+2) 7 (bts [kd,tx / 256,tx%256,ky,fl,ol / 256,ol%256]) 2 #[I .u8 (nw / 256),I .u8 (nw%256)] ⟨by omega,rfl,by omega⟩ rfl rfl ⟨_,_,rfl,?_⟩ ⟨_,_,5,rfl,?_⟩ ?_ ?_ ?_
   .exact(own.alloc _).drew
   .exact aO (by simp)
   .simp[Value.oneCell']
   .simp;omega
   intro g2 c2 w2 own2 gr2;have bw2:=hH.2.2.2.2.2.2.2.trans gr2;refine hK.out _ _ ?_ (fun hH=>?_)
   .exact HS.out _ bw2
   clear hK K;refine J3 ?_;refine R1 9 ?_;refine R7 ?_;go_wp2_with fail
   go_meet;exact⟨g2,c2,rfl,by simpa[bts]using own2,bw2⟩
  case rest=>
  clear own hB zb;obtain⟨g,c,rfl,own,hB⟩:=hcut;have zb:=hB.size;simp at zb;generalize hp:[kd,tx / 256,tx%256,ky,fl,ol / 256,ol%256,nw / 256,nw%256]=p at*;go_wp2_with fail
  refine(wL (w.heap.size+2) g 9 c p _ own zb (by omega) hbts).mono ?_;rintro e w2⟨g2,c2,rfl,own2,b2⟩;have b2':=hB.trans b2;have q0:=vS b2' 0;have q1:=vS b2' 1;have f0:=b2'.frozen (p:=⟨w.heap.size+1,0,O⟩) (by simp);have f1:=b2'.frozen (p:=⟨w.heap.size+1,1,O⟩) (by simp);simp[go_sem]at q0 q1 f0 f1;have hg2:=gI own2;go_wp2;rw[HL.out,HE.out];refine bodyPost_ret (v:=U #[I J 0,Z (Y ⟨g2,0,O⟩) (11) c2]) (by simp[results,Tryz.results119,go_sem,q0,q1]) rfl ⟨g2,c2,rfl,?_,?_⟩
  .exact aP (ownsRow_setCell_below (ownsRow_setCell_below own2 (by simp) _) (by simp) _) (by omega)
  .exact((cD (bU b2')).setCell (p:=⟨w.heap.size+1,0,O⟩) (by simp) _).setCell (p:=⟨w.heap.size+1,1,O⟩) (by simp) _
theorem lO(h:Below w.heap.size w w')(row:Option Nat):w.grownBy w' row:=⟨h.os,h.tape,h.output,h.size,fun k hk _=>h.block k hk⟩
theorem cG8{v':Value}(h:(v.ownBlock.toList++vs.flatMap blks).Nodup)(hat:∀g,v'.ownBlock=Y g->v.ownBlock=Y g\/H<=g)(ho:∀(i:Nat) (q:Value×Value),vs[i]? =Y q->∀g∈blks q,g<H):(v'.ownBlock.toList++vs.flatMap blks).Nodup:=by
 rw[List.nodup_append]at h⊢;refine⟨?_,h.2.1,fun a ha b hb e=>?_⟩
 .cases v'.ownBlock<;>simp
 .subst e;rcases hat a (by simpa using ha)with h1|h1
  .exact h.2.2 a (by simp[h1]) a hb rfl
  .obtain⟨i,q,hq,hg⟩:=mI hb;have:=ho i q hq a hg;omega
theorem xI(h:(v.ownBlock.toList++vs.flatMap blks).Nodup)(hv:∀g,v.ownBlock=Y g->g<H)(ho:∀(i:Nat) (q:Value×Value),vs[i]? =Y q->∀g∈blks q,g<H)
  (hxy:∀g,x.ownBlock=Y g->y.ownBlock≠Y g) (hx:∀g,x.ownBlock=Y g->H<=g) (hy:∀g,y.ownBlock=Y g->H<=g):(v.ownBlock.toList++(vs++[(x,y)]).flatMap blks).Nodup:=by
 rw[List.flatMap_append,<-List.append_assoc];rw[List.nodup_append];refine⟨h,?_,fun a ha b hb e=>?_⟩
 .simp only[List.flatMap_cons,List.flatMap_nil,List.append_nil,blks];rw[List.nodup_append];refine⟨?_,?_,?_⟩
  .cases x.ownBlock<;>simp
  .cases y.ownBlock<;>simp
  .intro a ha b hb e;subst e;exact hxy a (by simpa using ha) (by simpa using hb)
 .subst e;have hH:H<=a:=by
   simp only[List.flatMap_cons,List.flatMap_nil,List.append_nil,blks,List.mem_append,Option.mem_toList]at hb;rcases hb with hb|hb
   .exact hx a hb
   .exact hy a hb
  rw[List.mem_append]at ha;rcases ha with ha|ha
  .have:=hv a (by simpa using ha);omega
  .obtain⟨i,q,hq,hg⟩:=mI ha;have:=ho i q hq a hg;omega
theorem OwnK.snoc(h:OwnK T w B v n ls vs){c':Nat}
  (own:w'.ownsRow B T 3 (Z a' (n+1) c') (n+1) (lcells ls vs++[I J l.r,x,y])) (gr:w.grownBy w' v.ownBlock) (hat:∀g,(Z a' (n+1) c').ownBlock=Y g->v.ownBlock=Y g\/w.heap.size<=g)
  (hx:w.ownsRow B 232 2 x l.hs.length (hcells l.hs)) (hy:w.ownsRow B 232 2 y l.qs.length (hcells l.qs)) (hn:(v.ownBlock.toList++(vs++[(x,y)]).flatMap blks).Nodup):OwnK T w' B (Z a' (n+1) c') (n+1) (ls++[l]) (vs++[(x,y)]):=by
 have hl:ls.length=vs.length:=by rw[h.len,h.vlen]
 have hget:∀(i:Nat) (q:Value×Value),(vs++[(x,y)])[i]? =Y q->(i=n/\q=(x,y))\/(i<n/\vs[i]? =Y q):=by
  intro i q hq;rcases Nat.lt_trichotomy i n with hi|hi|hi
  .rw[List.getElem?_append_left (by rw[h.vlen];exact hi)]at hq;exact .inr ⟨hi,hq⟩
  .subst hi;rw[List.getElem?_append_right (by rw[h.vlen];omega)]at hq;simp[h.vlen]at hq;exact .inl ⟨rfl,hq.symm⟩
  .rw[List.getElem?_eq_none (by simp[h.vlen];omega)]at hq;cases hq
 have hlk:∀i,i<n->aH (ls++[l]) i=aH ls i:=by intro i hi;unfold aH;simp[List.getD,List.getElem?_append_left (show i<ls.length by rw[h.len];exact hi)]
 have hln:aH (ls++[l]) n=l:=by unfold aH;simp[List.getD,h.len]
 have hsub:∀(i:Nat) (q:Value×Value),(vs++[(x,y)])[i]? =Y q->∀g∈blks q,g<w.heap.size/\v.ownBlock≠Y g:=by
  intro i q hq g hg;refine⟨?_,fun e=>nG hn hq e hg⟩;rcases hget i q hq with⟨_,rfl⟩|⟨_,hq⟩
  .simp only[blks,List.mem_append,Option.mem_toList]at hg;rcases hg with hg|hg
   .exact(aG hx g hg).2
   .exact(aG hy g hg).2
  .exact(h.bd hq hg).2
 refine⟨by simp[h.len],by simp[h.vlen],?_,fun i q hq=>?_,fun i q hq=>?_,cG8 hn hat (fun i q hq g hg=>(hsub i q hq g hg).1)⟩
 .rw[lD hl];exact own
 .have hs:=hsub i q hq;rcases hget i q hq with⟨rfl,rfl⟩|⟨hi,hq'⟩
  .rw[hln];exact aK hx gr fun g hg e=>(hs g (by simp[blks,hg])).2 e
  .rw[hlk i hi];exact aK (h.hs i q hq') gr fun g hg e=>(hs g (by simp[blks,hg])).2 e
 .have hs:=hsub i q hq;rcases hget i q hq with⟨rfl,rfl⟩|⟨hi,hq'⟩
  .rw[hln];exact aK hy gr fun g hg e=>(hs g (by simp[blks,hg])).2 e
  .rw[hlk i hi];exact aK (h.qs i q hq') gr fun g hg e=>(hs g (by simp[blks,hg])).2 e
theorem OwnK.nil(T:TypeId)(w:World)(B:Nat):OwnK T w B (Z O 0 0) 0 [] []:=
 ⟨rfl,rfl,World.ownsRow_nil _ _ _ _,fun i p hp=>by simp at hp,fun i p hp=>by simp at hp,by simp[Value.ownBlock]⟩
theorem bT8{p':Value×Value}(h:(v.ownBlock.toList++vs.flatMap blks).Nodup)(hp:vs[k]? =Y p)(hv:∀g,v.ownBlock=Y g->g<H)(ho:∀(i:Nat) (q:Value×Value),vs[i]? =Y q->∀g∈blks q,g<H)(hn:(blks p').Nodup)(hf:∀g∈blks p',g∈blks p\/H<=g):(v.ownBlock.toList++(vs.set k p').flatMap blks).Nodup:=by
 obtain⟨e1,e2⟩:=sL hp p';have h0:=h;rw[e1,<-List.append_assoc]at h;rw[e2,<-List.append_assoc];refine aN5 h hn fun g hg=>⟨fun hA=>?_,fun hC=>?_⟩
 .rcases hf g hg with hgp|hgH
  .simp only[List.nodup_append,List.mem_append]at h;rw[List.mem_append]at hA;exact h.2.2 g hA g (.inl hgp) rfl
  .rw[List.mem_append]at hA;rcases hA with hA|hA
   .have:=hv g (by simpa using hA);omega
   .obtain⟨i,q,hq,hgq⟩:=mI hA;have hq':vs[i]? =Y q:=by
     rw[List.getElem?_take]at hq;split at hq
     .exact hq
     .cases hq
    have:=ho i q hq' g hgq;omega
 .rcases hf g hg with hgp|hgH
  .simp only[List.nodup_append,List.mem_append]at h;exact h.2.1.2.2 g hgp g hC rfl
  .obtain⟨i,q,hq,hgq⟩:=mI hC;rw[List.getElem?_drop]at hq;have:=ho _ q hq g hgq;omega
theorem OwnK.swap{o:Nat}(h:OwnK T w B (Z (Y ⟨o,0,O⟩) n cap) n ls vs)(hp:vs[k]? =Y p)(gr:w.grownBy w' row)(hrow:∀g,row=Y g->g∈blks p)(hr:l.r=(aH ls k).r){j:Nat}
  (hx:w'.ownsRow B 232 2 x l.hs.length (hcells l.hs)) (hy:w'.ownsRow B 232 2 y l.qs.length (hcells l.qs)) (hxy:∀g,x.ownBlock=Y g->y.ownBlock≠Y g) (hf:∀g∈blks (x,y),g∈blks p\/w.heap.size<=g)
  (hj:(j=1/\z=x/\y=p.2)\/(j=2/\z=y/\x=p.1)):
  OwnK T (w'.setCell ⟨o,k*3+j,O⟩ z) B (Z (Y ⟨o,0,O⟩) n cap) n (ls.set k l) (vs.set k (x,y)):=by
 have hk:=h.in hp;have hkl:k<ls.length:=by rw[h.len];exact hk
 have hl:ls.length=vs.length:=by rw[h.len,h.vlen]
 have hob:=aG h.row o rfl;have hno:∀(i:Nat) (q:Value×Value),vs[i]? =Y q->o∉blks q:=fun i q hq=>nG h.apart hq rfl;have hrow':w'.ownsRow B T 3 (Z (Y ⟨o,0,O⟩) n cap) n (lcells ls vs):=aK h.row gr fun g hg e=>by have:=hrow g e;simp[Value.ownBlock]at hg;subst hg;exact hno k p hp this
 have hst:=hrow'.stored (k*3+j) z;have hat:=pC (ls:=ls) hl hp;have hcell:(lcells ls vs).set (k*3+j) z=lcells (ls.set k l) (vs.set k (x,y)):=by
  rw[<-aM6 k l x y hl hkl,hr,show(lcells ls vs).set (k*3) (I J (aH ls k).r)=lcells ls vs from zT hat.1];rcases hj with⟨rfl,rfl,rfl⟩|⟨rfl,rfl,rfl⟩
  .exact(zT (by rw[List.getElem?_set_ne (by omega)];exact hat.2.2)).symm
  .rw[show(lcells ls vs).set (k*3+1) p.1=lcells ls vs from zT hat.2.1]
 have hset:∀(i:Nat) (q:Value×Value),(vs.set k (x,y))[i]? =Y q->(k=i/\q=(x,y))\/(k≠i/\vs[i]? =Y q):=by
  intro i q hq;by_cases hik:k=i
  .subst hik;rw[List.getElem?_set_self (by rw[h.vlen];exact hk)]at hq;cases hq;exact .inl ⟨rfl,rfl⟩
  .rw[List.getElem?_set_ne hik]at hq;exact .inr ⟨hik,hq⟩
 have hxo:∀g,x.ownBlock=Y g->Y o≠Y g:=fun g hg e=>by
  cases e;rcases hf o (by simp[blks,hg])with h1|h1
  .exact hno k p hp h1
  .omega
 have hyo:∀g,y.ownBlock=Y g->Y o≠Y g:=fun g hg e=>by
  cases e;rcases hf o (by simp[blks,hg])with h1|h1
  .exact hno k p hp h1
  .omega
 refine⟨by simpa using h.len,by simpa using h.vlen,by rw[<-hcell];exact hst.1,fun i q hq=>?_,fun i q hq=>?_,?_⟩
 .rw[sS ls k i l hkl];rcases hset i q hq with⟨hik,rfl⟩|⟨hik,hq⟩
  .rw[if_pos hik];exact aK hx hst.2 hxo
  .rw[if_neg hik];refine aK (aK (h.hs i q hq) gr fun g hg e=>?_) hst.2 fun g hg e=>?_
   .exact vR h.apart (fun e=>hik e.symm) hq hp (by simp[blks,hg]) (hrow g e)
   .cases e;exact hno i q hq (by simp[blks,hg])
 .rw[sS ls k i l hkl];rcases hset i q hq with⟨hik,rfl⟩|⟨hik,hq⟩
  .rw[if_pos hik];exact aK hy hst.2 hyo
  .rw[if_neg hik];refine aK (aK (h.qs i q hq) gr fun g hg e=>?_) hst.2 fun g hg e=>?_
   .exact vR h.apart (fun e=>hik e.symm) hq hp (by simp[blks,hg]) (hrow g e)
   .cases e;exact hno i q hq (by simp[blks,hg])
 .refine bT8 h.apart hp (fun g hg=>(aG h.row g hg).2) (fun i q hq g hg=>(h.bd hq hg).2) ?_ hf;unfold blks;rw[List.nodup_append];refine⟨?_,?_,?_⟩
  .cases x.ownBlock<;>simp
  .cases y.ownBlock<;>simp
  .intro a ha b hb' e;subst e;exact hxy a (by simpa using ha) (by simpa using hb')
def LkIn(lo hi:Nat)(w:World)(a:Option Addr)(n:Nat)(ls:List Lock):Prop:=
 ls.length=n/\(0<n->∃b off,a=Y ⟨b,off,O⟩/\lo<=b/\b<hi/\∀i,i<n->∃ah nh ch aq nq cq,LkOne w b (off+i*3) ah nh ch aq nq cq (aH ls i)/\
  (∀g o,0<nh->ah=Y ⟨g,o,O⟩->lo<=g/\g<hi)/\(∀g o,0<nq->aq=Y ⟨g,o,O⟩->lo<=g/\g<hi))
theorem LkIn.at(h:LkIn lo hi w a n ls):LkAt w a n ls:=by refine⟨h.1,fun h0=>?_⟩;obtain⟨b,off,ha,_,_,hi⟩:=h.2 h0;refine⟨b,off,ha,fun i hlt=>?_⟩;obtain⟨ah,nh,ch,aq,nq,cq,h1,_⟩:=hi i hlt;exact⟨ah,nh,ch,aq,nq,cq,h1⟩
theorem LkIn.below(h:LkIn lo hi w a n ls)(hb:Below w.heap.size w w'):LkIn lo hi w' a n ls:=by refine⟨h.1,fun h0=>?_⟩;obtain⟨b,off,ha,h1,h2,hi⟩:=h.2 h0;refine⟨b,off,ha,h1,h2,fun i hlt=>?_⟩;obtain⟨ah,nh,ch,aq,nq,cq,h3,h4⟩:=hi i hlt;exact⟨ah,nh,ch,aq,nq,cq,h3.below hb,h4⟩
theorem OwnK.lkIn(h:OwnK T w B (Z a n cap) n ls vs)(hm:dC ls<=1048579):LkIn B w.heap.size w a n ls:=by
 refine⟨h.len,fun h0=>?_⟩;obtain⟨o,rfl⟩:=h.rowAt h0;have hob:=aG h.row o rfl;have hc:=aJ h.row;obtain⟨b,off,ha,hcc⟩:=hc.2 (by omega);simp only[Option.some.injEq,Addr.mk.injEq,and_true]at ha;obtain⟨rfl,rfl⟩:=ha;refine⟨o,0,rfl,hob.1,hob.2,fun i hi=>?_⟩;obtain⟨p,hp⟩:=h.got hi;have hl:=pC (by rw[h.len,h.vlen]) hp (ls:=ls);have o1:=h.hs i p hp;have o2:=h.qs i p hp;obtain⟨x,y⟩:=p;obtain⟨ah,ch,e1⟩:=dI o1;obtain⟨aq,cq,e2⟩:=dI o2;simp only at e1 e2 o1 o2 hl;subst e1 e2;have hsz:=iM hm i;have hbk:∀{a:Option Addr} {m c:Nat} {xs:List Value},w.ownsRow B 232 2 (Z a m c) m xs->∀g o,0<m->a=Y ⟨g,o,O⟩->B<=g/\g<w.heap.size:=by
  intro a m c xs ho g o hm e;subst e;rcases ho.2 with⟨hv,h0⟩|⟨g',cp,cur,hv,_⟩
  .omega
  .have:=aG ho g' (by rw[hv];rfl);simp only[Value.slice.injEq,Option.some.injEq,Addr.mk.injEq]at hv;rw[hv.1.1];exact this
 refine⟨ah,_,ch,aq,_,cq,⟨(hcc _ (by omega)).trans hl.1,?_,?_,aJ o1,aJ o2,by omega,by omega,fH o1,fH o2⟩,hbk o1,hbk o2⟩
 .rw[Nat.add_assoc];exact(hcc _ (by omega)).trans hl.2.1
 .rw[Nat.add_assoc];exact(hcc _ (by omega)).trans hl.2.2
end Go.Proofs.YtpbbokalojdooaaGreat
