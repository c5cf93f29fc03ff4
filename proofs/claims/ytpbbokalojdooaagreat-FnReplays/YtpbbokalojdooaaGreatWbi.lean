import Derived.Test.YtpbbokalojdooaaGreatWbg
namespace Go.Proofs.YtpbbokalojdooaaGreat
open Go.RowKit Ch Go.Proofs.Tryz
set_option linter.unusedSimpArgs false
set_option linter.unusedVariables false
set_option maxRecDepth 20000
set_option maxHeartbeats 8000000
open Value renaming int->I,slice->Z,bool->X,agg->U
open IntKind renaming i64->J
open Option renaming none->O,some->Y
open Obj renaming cells->M
open Ending renaming returned->R'
open Bool renaming true->A',false->F'
variable {cs:Array Value} {s:EgS} {e:Eng} {b o:Nat} {T:Nat->Nat} {P:Nat->Prop} {t:TypeId} {v:Value} {W w:World}
structure EgF(s s':EgS):Prop where
 tn:s'.tn=s.tn
 wal:s'.sn+s'.on<=s.sn+s.on+500
 mn:s'.mn<=s.mn+1
 xn:s'.xn<=s.xn+300
 an:s'.an<=s.an
theorem nJ(p0:P 0)(p1:P 1)(p2:P 2)(p3:P 3)(p4:P 4)(p5:P 5)(p6:P 6)(p7:P 7):∀i,i<8->P i:=by
 intro i hi;match i,hi with
 |0,_=>exact p0
 |1,_=>exact p1
 |2,_=>exact p2
 |3,_=>exact p3
 |4,_=>exact p4
 |5,_=>exact p5
 |6,_=>exact p6
 |7,_=>exact p7
theorem dK8{xs ys:List Int}(h:IsB xs)(h':IsB ys):IsB (xs++ys):=by
 intro i;rcases Cd i xs.length with hi|hi
 .have:=h i;simpa[List.getD,Av hi]using this
 .have:=h' (i-xs.length);simpa[List.getD,Ay hi]using this
theorem EgX.drew(h:EgX W T b o cs t s e):EgX W.drew T b o cs t s e:=⟨h.own.kept (fun _ _ _=>jS),h.box,h.cell,h.tag⟩
theorem Stp.drew(T:Nat->Nat)(W:World)(o:Nat)(cs:Array Value):Stp T T W W.drew o cs cs:=⟨rfl,rfl,rfl,z',jS,jS,fun _ _=>rfl,rfl⟩
def ComQ(T:Nat->Nat)(w:World)(b o:Nat)(cs:Array Value)(t:TypeId)(s:EgS)(r:Ending)(w':World):Prop:=
 r=R' (.tuple #[])/\∃T' cs' s' e',EgX w' T' b o cs' t s' e'/\Stp T T' w w' o cs cs'/\EgF s s'
theorem bC1(tx:Int)(k:Nat)(w:World)(T:Nat->Nat)(b o:Nat)(cs:Array Value)(t:TypeId)(s:EgS)(e:Eng)(h:EgX w T b o cs t s e)(hk:k<s.tn)(htx:tx=(k:Int)+1)(ht:inB tx 1 999=A')(hlk:aT e.lk=0)(hon:s.sn+s.on+500<=4100000)(hmn:s.mn+1<=1048576):
  Calls prog 215 #[.pointer (Y ⟨b,o,O⟩),I J tx] w (ComQ T w b o cs t s):=by
 have hn4:=h.own.n4;have hw:IntKind.i64.wrap (tx-1)=(k:Int):=by rw[htx,show(k:Int)+1-1=(k:Int)by omega];exact Br _ ⟨by omega,by omega⟩
 have HTX:=hid htx;clear htx;have hfe:Rec.Fit ⟨4,tx,0,F',0,F',0⟩:=⟨by show(1:Int)<=4/\(4:Int)<=5;omega,fT ht,by show(0:Int)<=0/\(0:Int)<=99;omega,by show(0:Int)<=0/\(0:Int)<=9999;omega,by show(0:Int)<=0/\(0:Int)<=9999;omega,fun _=>⟨rfl,rfl,rfl,rfl,rfl⟩⟩
 obtain⟨us,hT⟩:=h.own.tx;obtain⟨tb,hta⟩:=hT.place (by omega);have HTA:=hid hta;clear hta hT;have HKL:=h.own.lk.len;have hbl:=h.lt;go_enter func215,ntmps215
 go_wp2_with(refine(pQ 4 tx 0 F' 0 F' 0 _ _ b o _ t _ _ h hfe (by omega)).mono ?_;rintro r W1⟨rfl,T1,c1,a1,n1,k1,lo1,hX1,hn1,hS1⟩)
 have hs1:({s with oa:=a1,on:=n1,oc:=k1}:EgS).ta=s.ta/\({s with oa:=a1,on:=n1,oc:=k1}:EgS).tn=s.tn/\({s with oa:=a1,on:=n1,oc:=k1}:EgS).sn=s.sn/\({s with oa:=a1,on:=n1,oc:=k1}:EgS).on=n1/\({s with oa:=a1,on:=n1,oc:=k1}:EgS).mn=s.mn/\({s with oa:=a1,on:=n1,oc:=k1}:EgS).an=s.an/\({s with oa:=a1,on:=n1,oc:=k1}:EgS).xn=s.xn/\({s with oa:=a1,on:=n1,oc:=k1}:EgS).kn=s.kn:=⟨rfl,rfl,rfl,rfl,rfl,rfl,rfl,rfl⟩
 have he1:({e with lo:=lo1}:Eng).lk=e.lk:=rfl;generalize({s with oa:=a1,on:=n1,oc:=k1}:EgS)=s1 at hX1 hs1;generalize({e with lo:=lo1}:Eng)=e1 at hX1 he1;obtain⟨p1,p2,p3,p4,p5,p6,p7,p8⟩:=hs1;have HTA1:Hid (s1.ta=Y ⟨tb,0,O⟩):=p1.trans HTA.out;have hk1:k<s1.tn:=by omega
 have hon1:s1.sn+s1.on+450<=4100000:=by omega
 have hmn1:s1.mn+1<=1048576:=by omega
 have HP:Hid (s1.tn=s.tn/\s1.sn+s1.on<=s.sn+s.on+11/\s1.mn=s.mn/\s1.xn=s.xn/\s1.an=s.an):=⟨p2,by omega,p5,p7,p6⟩
 have HKL1:Hid (s1.kn=e.lk.length):=p8.trans HKL.out;have HE1:=hid he1;clear p1 p2 p3 p4 p5 p6 p7 p8 he1 HKL;have y5:=hX1.all.2.2.2.2.2.1;have y4:=hX1.all.2.2.2.2.1;have hbl1:=hX1.lt;refine R0 (fun W'=>W'.cell? ⟨b,o+5,O⟩=Y (Z s1.oa s1.on s1.oc)) (y5) (fun hH=>?_);replace hX1:=hX1.drew;replace hS1:=hS1.trans (Stp.drew T1 W1 o c1);have hlo:=hX1.own.lo.cells;refine R5 0 1 2 3 4 ?_;refine R5 6 7 8 9 10 ?_;refine R6 5 (fun K hK=>?_);go_simp;refine hK.out _ _ ?_ (fun hH=>?_)
 .exact hH
 clear hK K;refine R6 11 (fun K hK=>?_);refine lZ bA5 (.tmp 13) (.tmp 18) rfl rfl 0 (Z s1.sa s1.sn s1.sc) s1.sn (bts e1.su) s1.oa s1.on s1.oc (bts e1.lo) rfl rfl hX1.own.su.1 hlo (bM0 _) (by omega) (Ad _) ?_;intro a9 c9 W9 o9 gr9 at9;rw[show bts e1.su++bts e1.lo=bts (e1.su++e1.lo)by simp[bts]]at o9;have hI9:=hX1.addSu (dK8 hX1.own.bsu hX1.own.blo) (by omega) o9 gr9 at9;have hb9:=(bJ hX1.box hX1.tag (dF gr9 (fun g hg=>hX1.own.su.2 g hg) (by decide:1≠4))).1;have z4:W9.cell? ⟨b,o+4,O⟩=Y (Z s1.sa s1.sn s1.sc):=(Ai _ b (o+4) _ _ _ hb9).trans (hX1.cell 4 (by decide));have z5:W9.cell? ⟨b,o+5,O⟩=Y (Z s1.oa s1.on s1.oc):=(Ai _ b (o+5) _ _ _ hb9).trans (hX1.cell 5 (by decide));have f9:=An _ b (o+4) _ _ hb9;refine hK.out _ _ ?_ (fun hH=>?_)
 .exact z5
 clear hK K;refine J3 ?_;refine R3 12 13 14 ?_;refine R6 15 (fun K hK=>?_);go_simp;refine hK.out _ _ ?_ (fun hH=>?_)
 .exact hI9.1.all.2.2.2.2.2.1
 clear hK K;refine R7 ?_;have hXA:=hI9.1;have hSA:=hS1.trans hI9.2;clear hI9 o9 gr9 at9 hb9 z4 z5 f9 hX1 hS1 hlo y5 y4 hH;generalize W9.setCell ⟨b,o+4,O⟩ (Z a9 (s1.sn+s1.on) c9)=WA at*;generalize c1.setIfInBounds (o+4) (Z a9 (s1.sn+s1.on) c9)=cA at*;have hTA:s1.ta=Y ⟨tb,0,O⟩:=HTA1.out;have y5:=hXA.all.2.2.2.2.2.1;have f5:=hXA.frz (o+5);have hblA:=hXA.lt;go_upto_region 3 with fail
 have hXB:=hXA.noLo.1;have hSB:=hSA.trans hXA.noLo.2;clear hXA hSA y5 f5 hblA;generalize WA.setCell ⟨b,o+5,O⟩ (Z O 0 0)=WB at*;generalize cA.setIfInBounds (o+5) (Z O 0 0)=cB at*;obtain⟨⟨v2,z2⟩,⟨v3,z3⟩,_,_,_,_,fz⟩:=hXB.cellsTx hTA hk1;have y3:=hXB.all.2.2.2.1;simp only at y3;rw[hTA]at y3;have fz3:=fz (k*8+3);have hblB:=hXB.lt;have htlB:=aD z3;go_upto_region 4 with fail
 have hC:=hXB.noUndo hTA hk1;have hSC:=hSB.trans hC.2;have hXC:=hC.1;clear hXB hSB y3 z2 z3 fz3 fz hC hblB htlB;generalize WB.setCell ⟨tb,k*8+3,O⟩ (Z O 0 0)=WC at*;obtain⟨⟨v2,z2⟩,⟨v3,z3⟩,_,_,_,_,fz⟩:=hXC.cellsTx hTA hk1;have y3:=hXC.all.2.2.2.1;simp only at y3;rw[hTA]at y3;have fz2:=fz (k*8+2);have hblC:=hXC.lt;have htlC:=aD z2;go_upto_region 5 with fail
 have hD:=hXC.setTx (j:=2) (v:=I J 3) (t':={aS _ k with st:=3}) hTA hk1 (by decide) (fun x=>nJ rfl rfl rfl rfl rfl rfl rfl rfl) rfl;have hSD:=hSC.trans hD.2;have hXD:=hD.1;clear hXC hSC y3 z2 z3 fz2 fz hD hblC htlC;generalize WC.setCell ⟨tb,k*8+2,O⟩ (I J 3)=WD at*;have y8:=hXD.all.2.2.2.2.2.2.2.2.1;have hblD:=hXD.lt;have hbE:V' WD (WD.alloc (M #[I J tx] 2)):=(Aa _ _).alloc z' _;have hXE:=hXD.below hbE 8;have hSE:=hSD.trans (Stp.below o cB hbE 8);have hN:=jE WD tx 2;go_upto_region 6 with
  (at_builtin
   refine aE3 tS (.tmp 47) (.tmp 49) ?_ ?_ 0 (Z s1.ma s1.mn s1.mc) s1.mn (icells e1.cm) (Y ⟨WD.heap.size,0,O⟩) 1 1 (icells [tx]) ?_ ?_ hXE.own.cm.1 hN (dC _) (by omega) (Ad _) ?_;exact rfl;exact rfl;exact rfl;exact rfl;intro a9 c9 W9 o9 gr9 at9;rw[show icells e1.cm++icells [tx]=icells (e1.cm++[tx])by simp[icells]]at o9;have hI9:=hXE.addCm (z:=tx) (by show s1.mn+1<=1048576;omega) o9 gr9 at9;have hb9:=(bJ hXE.box hXE.tag (dF gr9 (fun g hg=>hXE.own.cm.2 g hg) (by decide:1≠6))).1;have z8:W9.cell? ⟨b,o+8,O⟩=Y (Z s1.ma s1.mn s1.mc):=(Ai _ b (o+8) _ _ _ hb9).trans (hXE.cell 8 (by decide));have f9:=An _ b (o+8) _ _ hb9;clear hb9 hN o9 gr9 at9)
 have hXF:=hI9.1;have hSF:=hSE.trans hI9.2;clear hI9 hXD hSD y8 hblD hbE hXE hSE z8 f9;generalize W9.setCell ⟨b,o+8,O⟩ (Z a9 (s1.mn+1) c9)=WF at*;have hLk9:=hXF.own.lk.sub fK;simp only at hLk9;rw[HE1.out]at hLk9;have y2:=hXF.all.2.2.1;have hblF:=hXF.lt;go_wp2_with fail
 refine(yF _ _ _ tx e.lk _ hLk9 (by have:=nC hlk;have:=HKL1.out;omega) (fun i hi=>by have:=qZ hlk (show i<e.lk.length by have:=HKL1.out;omega);exact⟨this.1,this.2.1,this.2.2.1,this.2.2.2.1⟩)).mono ?_;rintro r WG⟨aA,mA,cA',aB,mB,cB',rfl,_,_,hLkA,hbA⟩;have hXG:=hXF.below hbA 0;have hSG:=hSF.trans (Stp.below o _ hbA 0);have hset:=EgX.set (i:=2) (v:=Z aB mB cB') hXG.box hXG.cell hXG.tag (hXG.own.newLk (c:=cB') (hLkA.seen (jR _ _)) (by have:=tD hlk tx;omega)) (by decide) rfl;have yA:=hXG.all.2.2.1;have fA:=hXG.frz (o+2);have hblA:=hXG.lt;go_wp2;exact Er (Ek rfl _ _ _) rfl ⟨rfl,_,_,_,_,hset.1,hSG.trans hset.2,by obtain⟨p2,p3,p5,p7,p6⟩:=HP.out;exact⟨p2,by simp only;omega,by simp only;omega,by simp only;omega,Nat.le_of_eq p6⟩⟩
def dQ4(tx:Int)(T:Nat->Nat)(w:World)(b o:Nat)(cs:Array Value)(t:TypeId)(s:EgS)(e:Eng)(r:Ending)(w':World):Prop:=
 r=R' (.tuple #[])/\∃T' cs' s' e',EgX w' T' b o cs' t s' e'/\Stp T T' w w' o cs cs'/\EgC 1 1 s s' e e'/\e'.lk=(dN e.lk tx).filter iF/\s'.an=s.an+1
theorem zG(tx:Int)(k:Nat)(w:World)(T:Nat->Nat)(b o:Nat)(cs:Array Value)(t:TypeId)(s:EgS)(e:Eng)(h:EgX w T b o cs t s e)(hk:k<s.tn)(htx:tx=(k:Int)+1)(ht:inB tx 1 999=A')(hlv:aL e.lv=0)(hlk:aT e.lk=0)(hbf:cY (aS e.tx k).un=0)(hon:s.on+500<=4100000)(hxn:s.xn+50<=1048575)(han:s.an+1<=1048576):
  Calls prog 186 #[.pointer (Y ⟨b,o,O⟩),I J tx] w (dQ4 tx T w b o cs t s e):=by
 have GW:=aK6 tx k w T b o cs t s e h hk htx ht hlv hlk hbf hon hxn;have hbl:=h.lt;clear htx hk ht hlv hlk hbf;go_enter func186,ntmps186
 go_wp2_with first
  |(refine GW.mono ?_
    rintro r W1⟨rfl,T1,c1,s1,e1,hX1,hS1,hC1,hl1,hq1⟩;have HQ1:=hid hq1;clear hq1;have hbl1:=hX1.lt;have y9:=hX1.all.2.2.2.2.2.2.2.2.2;have hbA:V' W1 (W1.alloc (M #[I J tx,I J 7,I J 0,I J 0,I J 0,Z O 0 0] 56)):=(Aa _ _).alloc z' _;have hX2:=hX1.below hbA 8;have hS2:=hS1.trans (Stp.below o c1 hbA 8);have hN:=zR W1 ⟨tx,7,0,0,0,[]⟩ (Z O 0 0);simp only at hN;obtain⟨us,hAc⟩:=hX2.own.ac;obtain⟨ys,hr,hcs⟩:=hAc.row;have HCS:=hid hcs;have ha1:=hC1.an;clear hcs)
  |(at_builtin
    refine aE3 aI6 (.tmp 11) (.tmp 15) ?_ ?_ 0 (Z s1.aa s1.an s1.ac) s1.an ys (Y ⟨W1.heap.size,0,O⟩) 1 1 (acc6 ⟨tx,7,0,0,0,[]⟩ (Z O 0 0)) ?_ ?_ hr.1 hN (sE _ _ _ _) (by omega) (Ad _) ?_;exact rfl;exact rfl;exact rfl;exact rfl;intro a9 c9 W9 o9 gr9 at9;have hI9:=hX2.addAct (r:=⟨tx,7,0,0,0,[]⟩) hAc hr HCS.out ⟨Aw _ _ _ _,fun g hg=>by simp[Value.ownBlock]at hg⟩ (by simp) (by omega) o9 gr9 at9;have hb9:=(bJ hX2.box hX2.tag (dF gr9 (fun g hg=>hr.2 g hg) (by decide:1≠7))).1;have z9:W9.cell? ⟨b,o+9,O⟩=Y (Z s1.aa s1.an s1.ac):=(Ai _ b (o+9) _ _ _ hb9).trans (hX2.cell 9 (by decide));have f9:=An _ b (o+9) _ _ hb9;clear hb9 hAc hr HCS hN o9 gr9 at9)
 exact Er (Ek rfl _ _ _) rfl ⟨rfl,_,_,_,_,hI9.1,hS2.trans hI9.2,⟨hC1.lv,hC1.tn,hC1.sn,hC1.mn,hC1.on,hC1.xn,by simp only;omega,hC1.un,hC1.tl⟩,hl1,by have:=HQ1.out;(try simp only);omega⟩
theorem cX6(w:World)(r s:Int)(t:TypeId):CellsAt (w.alloc (M #[I J r,I J s] t)) (Y ⟨w.heap.size,0,O⟩) (2*1) (icells [r,s]):=by refine⟨rfl,fun _=>⟨_,_,rfl,fun i hi=>?_⟩⟩;rw[C' (aP (w:=w) (o:=M #[I J r,I J s] t) rfl),Al];simp[icells]
def AnsQ(w:World)(r:Ending)(w':World):Prop:=(∃a n c zs,r=R' (Z a n c)/\n<=1048576/\w'.ownsRow w.heap.size 2 1 (Z a n c) n (icells zs))/\V' w w'
def anD(j:Nat):Nat:=match j with|6=>20|_=>6
def anE:List Nat:=[6,7]
def anP(_:Nat):List Nat:=[]
theorem bY0:(anE.all fun i=>anE.all fun j=>anD i !=anD j||i==j)=A':=by kernel_rfl
theorem dB4:anE.Nodup:=by decide
def anR(H:Nat)(wk:Int)(wh:Bool)(wv:Int)(j:Nat)(v:Value)(T:Nat->Nat)(w:World):Prop:=match j with
 |6=>v=U #[I J wk,X wh,I J wv]
 |_=>∃g,v= .pointer (Y ⟨g,0,O⟩)/\w.heap[g]? =Y (M #[I J 0,X F',I J 0] 263 (0,0))/\T g=8/\H<=g
theorem anR.mono(H:Nat)(wk:Int)(wh:Bool)(wv:Int):∀j v T T' w w',anR H wk wh wv j v T w->(∀k,Kp k T T' w w')->w.heap.size<=w'.heap.size->anR H wk wh wv j v T' w':=by
 intro j v T T' w w' h hk _;unfold anR at*;split at h
 .exact h
 .obtain⟨g,h1,h2,h3,h6⟩:=h;obtain⟨h4,h5⟩:=bJ h2 h3 (hk 8);exact⟨g,h1,h4,h5,h6⟩
theorem bC0(k p q v:Int)(w:World)(T:Nat->Nat)(b o:Nat)(cs:Array Value)(t:TypeId)(s:EgS)(e:Eng)(h:EgX w T b o cs t s e)(hlv:aL e.lv=0):
  Calls prog 187 #[.pointer (Y ⟨b,o,O⟩),U #[I J k,I J p,I J q,I J v]] w (AnsQ w):=by
 have HL:=h.own.lv.len;have hne:∀k,k<s.ln->(e.lv.getD k []).length≠0:=fun k hk=>(fY hlv k (by have:=HL.out;omega)).1;obtain⟨_,x1,_,_,_,_,x6,_,_,_⟩:=h.all;have hbl:=h.lt;have n7:=h.own.n7;have hLv:=h.own.lv.sub fK;have hIx:=h.own.ix.sub fK;have kA:V' w (w.alloc (M #[I J k,I J p,I J q,I J v] 54)):=(Aa _ _).alloc z' _;have hsA:(w.alloc (M #[I J k,I J p,I J q,I J v] 54)).heap.size=w.heap.size+1:=by simp
 have oE:=nZ (w.alloc (M #[I J k,I J p,I J q,I J v] 54)) 2 1;have kE:V' w ((w.alloc (M #[I J k,I J p,I J q,I J v] 54)).alloc (M #[] 2)):=kA.alloc (by omega) _;have o0:((w.alloc (M #[I J k,I J p,I J q,I J v] 54)).alloc (M #[] 2)).heap[w.heap.size]? =Y (M #[I J k,I J p,I J q,I J v] 54 (0,0)):=(cN (by simp)).trans (aP rfl);rw[hsA]at oE;have oE':=aQ oE (show w.heap.size<=w.heap.size+1 by omega);have SB:=fun W hW=>pK s.la s.ln s.lc p e.lv W hW h.own.n2 hne;generalize Ch.bf p (Ch.has e.lv p)=bf at SB;obtain⟨wk,wh,wv⟩:=bf;simp only at SB;have SC:=fun W hW=>bH7 s.la s.ln s.lc p q e.lv W hW h.own.n2 hne;have SL:=fun W hW=>cH1 s.xa s.xn s.xc v e.ix W hW n7;have hrs:(pD p q e.lv.flatten).length<=1000:=by have h1:=oK hlv;have h2:=Dt (xF p q) e.lv.flatten;rw[List.length_flatten]at h2;unfold aW at h1;unfold pD;omega
 generalize pD p q e.lv.flatten=rs at SC hrs;generalize rG e.ix v=zl at SL;clear hlv HL hne n7 h;go_enter func187,ntmps187
 go_upto_region 2 with fail
 generalize hW2:(w.alloc (M #[I J k,I J p,I J q,I J v] 54)).alloc (M #[] 2)=W2 at*;clear hW2;have x1:=keep_cell kE x1;have x6:=keep_cell kE x6;have hLv:=hLv.below kE;have hIx:=hIx.below kE;obtain⟨c0,c1,c2,c3⟩:=(iO o0).1;have hbl2:=aD x1;have hol:=aD c0;clear oE kA hsA hbl;by_cases h1:k=1
 .subst h1;go_upto_region 4 with fail
  refine R0 (fun W'=>W'.cell? ⟨b,o+1,O⟩=Y (Z s.la s.ln s.lc)/\W'.cell? ⟨w.heap.size,1,O⟩=Y (I J p)) (⟨x1,c1⟩) (fun hH=>?_);refine R5 0 1 2 3 4 ?_;refine R1 5 ?_;refine vX (d:=anD) (E:=anE) (z:=8) (pre:=anP) (R:=anR W2.heap.size wk wh wv) (Bs:=fun _ W=>V' W2 W) bY0 dB4 (by kernel_rfl) (by kernel_rfl) (by kernel_rfl) (by kernel_rfl) (by kernel_rfl) (by kernel_rfl) (by kernel_rfl) (Nat.le_of_ble_eq_true (by kernel_rfl)) (anR.mono W2.heap.size wk wh wv) ?bs ?step ?last (fun _=>0) ?init;case init=>exact(Aa _ _).drew
  case bs=>intro T' W hB;exact⟨keep_cell hB x1,keep_cell hB c1⟩
  case step=>
   intro i hi vs T' W hB hp;unfold anE at hi;simp only[Am,Cu,Eh]at hi;rcases hi with rfl|rfl
   .refine Dq rfl (fun K hK=>?_);refine qP (xs:=#[.tmp 17,.tmp 19]) (vs:=#[Z s.la s.ln s.lc,I J p]) rfl rfl ?_ (by go_simp) ?_
    .exact dP1 ((eG anD vs 17 anE _ (by kernel_rfl)).trans rfl) ((eG anD vs 19 anE _ (by kernel_rfl)).trans rfl)
    .refine(SB _ (hLv.below hB)).mono ?_;rintro r W3⟨rfl,hb⟩;exact⟨_,rfl,hK _ _ ⟨_,mrk T' W.heap.size 0,rfl,rfl,fun k=>aY hb T' 0 k,hb.size,hB.trans (hb.mono hB.size)⟩⟩
   .have hb:V' W (W.alloc (M #[I J 0,X F',I J 0] 263)):=(Aa _ _).alloc z' _;refine wJ ⟨Y 6,.alloc 263,_,_,_,O⟩ (.pointer (Y ⟨W.heap.size,0,O⟩)) (W.alloc (M #[I J 0,X F',I J 0] 263)) (by rfl) bY0 dB4 (by kernel_rfl) rfl ?_ ?_
    .intro ev h1 h2;clear h1 h2;go_simp
    .exact⟨_,mrk T' W.heap.size 8,rfl,⟨W.heap.size,rfl,aP rfl,by unfold mrk;rw[if_neg (by omega)],hB.size⟩,fun k'=>aY hb T' 8 k',hb.size,hB.trans (hb.mono hB.size)⟩
  case last=>
   intro vs T' W hB hR K0 hK0;have e1:=hR 6 (by simp[anE]);obtain⟨g,e2,hg,hTg,hgw⟩:=hR 7 (by simp[anE]);clear hR;have q0:W.cell? ⟨g,0,O⟩=_:=Ai _ g 0 _ _ _ hg;have f0:=An _ g 0 _ _ hg;have q1:W.cell? ⟨g,1,O⟩=_:=Ai _ g 1 _ _ _ hg;have f1:=An _ g 1 _ _ hg;have q2:W.cell? ⟨g,2,O⟩=_:=Ai _ g 2 _ _ _ hg;have f2:=An _ g 2 _ _ hg;have h0:=Ag W g 0 _ _ (I J wk) hg;have h1:=Ag _ g 1 _ _ (X wh) h0;have h2:=Ag _ g 2 _ _ (I J wv) h1;have hgr:W.grownBy (((W.setCell ⟨g,0,O⟩ (I J wk)).setCell ⟨g,1,O⟩ (X wh)).setCell ⟨g,2,O⟩ (I J wv)) (Y g):=cM (cM iI);refine tR ⟨O,.store 263 (.tmp 6) (.tmp 20),_,_,_,O⟩ (((W.setCell ⟨g,0,O⟩ (I J wk)).setCell ⟨g,1,O⟩ (X wh)).setCell ⟨g,2,O⟩ (I J wv)) (by rfl) bY0 dB4 (by kernel_rfl) rfl ?_ ?_
   .intro ev h1 h2;have s1:ev (.tmp 6)=_:=(h1 7 (by kernel_rfl)).trans e2;have s2:ev (.tmp 20)=_:=(h1 6 (by kernel_rfl)).trans e1;clear h1 h2;go_simp
   .have hbx:(((W.setCell ⟨g,0,O⟩ (I J wk)).setCell ⟨g,1,O⟩ (X wh)).setCell ⟨g,2,O⟩ (I J wv)).heap[g]? =Y (M #[I J wk,X wh,I J wv] 263 (0,0)):=h2;have hB4:V' W2 (((W.setCell ⟨g,0,O⟩ (I J wk)).setCell ⟨g,1,O⟩ (X wh)).setCell ⟨g,2,O⟩ (I J wv)):=cK hB hgr (fun k hk=>by cases hk;exact hgw) hB.size;generalize(((W.setCell ⟨g,0,O⟩ (I J wk)).setCell ⟨g,1,O⟩ (X wh)).setCell ⟨g,2,O⟩ (I J wv))=W4 at*;clear hgr h0 q0 f0 h1 q1 f1 h2 q2 f2 hg;refine hK0 _ _ ⟨keep_cell hB4 x1,keep_cell hB4 c1⟩ (NoPanic.normal ?_);dsimp only[eB,anE,List.foldl];simp only[Act.put,anD,Bh,List.set_cons_zero,List.set_cons_succ];rw[e1,e2];clear e1 e2 vs hK0 K0;obtain⟨g0,g1,g2⟩:=tA hbx;have hgl:=aD g0;have kB:=kE.trans (hB4.mono kE.size);have oB:=aG oE' hB4;have hbz:=kB.size;have hbk:V' W4 (W4.alloc (M #[I J wv] 2)):=(Aa _ _).alloc z' _;have hN:=jE W4 wv 2;have oB':=aG oB hbk;have hzz:w.heap.size<=(W4.alloc (M #[I J wv] 2)).heap.size:=by simp;omega
    go_upto_region 5 with fail
    cases wh
    .go_wp2;go_ret;exact⟨⟨_,_,_,[],rfl,by omega,oB⟩,kB⟩
    .go_wp2_with(at_builtin;refine aE3 tS (.tmp 23) (.tmp 26) ?_ ?_ w.heap.size (Z (Y ⟨w.heap.size+1,0,O⟩) 0 0) 0 [] (Y ⟨W4.heap.size,0,O⟩) 1 1 (icells [wv]) ?_ ?_ oB' hN (dC _) (by omega) hzz ?_;exact rfl;exact rfl;exact rfl;exact rfl;intro a9 c9 W9 o9 gr9 at9)
     go_ret;exact⟨⟨_,_,_,[wv],rfl,by omega,o9⟩,cK (kB.trans (hbk.mono hbz)) gr9 (fun g hg=>(aH oB g hg).1) hzz⟩
 have e1:(k==1)=F':=by simpa using h1
 by_cases h4:k=4
 .subst h4;go_upto_region 8 with fail
  refine R0 (fun W'=>W'.cell? ⟨b,o+1,O⟩=Y (Z s.la s.ln s.lc)/\W'.cell? ⟨w.heap.size,1,O⟩=Y (I J p)/\W'.cell? ⟨w.heap.size,2,O⟩=Y (I J q)) (⟨x1,c1,c2⟩) (fun hH=>?_);refine R5 0 1 2 3 4 ?_;refine R3 5 6 7 ?_;refine R6 8 (fun K hK=>?_);go_simp;refine(SC _ (hLv.below ((Aa _ _).drew))).mono ?_;rintro r W3⟨ra,rn,rc,rfl,hrn,oR,hb3⟩;replace hb3:V' W2 W3:=⟨hb3.os,hb3.tape,hb3.output,hb3.size,hb3.block⟩
  refine hK.out _ _ ?_ (fun hH=>?_)
  .exact⟨keep_cell hb3 x1,keep_cell hb3 c1,keep_cell hb3 c2⟩
  clear hK K;refine R1 9 ?_;refine R7 ?_;replace oR:W3.ownsRow W2.heap.size 86 3 (Z ra rn rc) rn (rcells rs):=oR;have hrn2:rn<=1000:=by have:=oR.1;rw[gG]at this;omega
  have kB:=kE.trans (hb3.mono kE.size);have oB:=aG oE' hb3;have hbz:=kB.size;go_wp2;go_loopw [5,8] (fun x i wr=>∃(j:Nat) (a:Option Addr) (c:Nat) (zs:List Int),j<=rn/\i=I J j/\x=Z a (j*2) c/\wr.ownsRow w.heap.size 2 1 (Z a (j*2) c) (j*2) (icells zs)/\wr.ownsRow W2.heap.size 86 3 (Z ra rn rc) rn (rcells rs)/\(∀g,(Z a (j*2) c).ownBlock=Y g->(Z ra rn rc).ownBlock≠Y g)/\V' w wr) (fun _ i _=>rn-(intOf i).toNat)
  case atStart=>exact⟨0,_,0,[],Ad _,rfl,rfl,oB,oR,fun g hg he=>by have h5:=(aH oR g he).1;have h7:=aH oE' g hg;omega,kB⟩
  case round=>
   clear oB oR kB hbz x1 x6 hLv hIx SB SC SL;obtain⟨j,a,c,zs,hj,rfl,rfl,oB,oR,hap,kB⟩:=hrel;have hbz:=kB.size;by_cases hlt:j<rn
   .obtain⟨g,off,hra,r0,r1,r2⟩:=(aO oR).row hlt;generalize rs.getD j Row.zero=rr at r0 r1 r2;obtain⟨x,y,z⟩:=rr;simp only at r0 r1 r2;have hg:=aD r0;subst hra;have hN:=cX6 wr.drew x y 2;have hbk:V' wr (wr.drew.alloc (M #[I J x,I J y] 2)):=((Aa _ _).drew).alloc z' _;have oB':=aG oB hbk;have hzz:w.heap.size<=(wr.drew.alloc (M #[I J x,I J y] 2)).heap.size:=by have:=hbk.size;omega
    go_upto_region 12 with fail
    refine R0 (fun W'=>W'.cell? ⟨g,off+j*3,O⟩=Y (I J x)/\W'.cell? ⟨g,off+j*3+1,O⟩=Y (I J y)) (⟨r0,r1⟩) (fun hH=>?_);refine R5 0 1 2 3 4 ?_;refine R5 5 6 7 8 9 ?_;refine R1 10 ?_;refine R6 11 (fun K hK=>?_);go_simp;refine hK.out _ _ ?_ (fun hH=>?_)
    .exact⟨keep_cell hbk r0,keep_cell hbk r1⟩
    clear hK K;refine R6 12 (fun K hK=>?_);refine lZ tS (.tmp 45) (.tmp 56) rfl rfl w.heap.size (Z a (j*2) c) (j*2) (icells zs) (Y ⟨wr.heap.size,0,O⟩) 2 2 (icells [x,y]) rfl rfl oB' hN (dC _) (by omega) hzz ?_;intro a9 c9 W9 o9 gr9 at9;have hne:(Z a (j*2) c).ownBlock≠Y g:=fun he=>hap g he rfl;have hR9:=aN (aG oR hbk) gr9 (fun g hg he=>hap g he hg);refine hK.out _ _ ?_ (fun hH=>?_)
    .exact⟨aK gr9 (keep_cell hbk r0) hne,aK gr9 (keep_cell hbk r1) hne⟩
    clear hK K;refine R1 13 ?_;refine R7 ?_;go_wp2;go_roundw;case rel=>exact⟨j+1,a9,c9,zs++[x,y],by omega,by go_num,by rw[show(j+1)*2=j*2+2 by omega],by rw[show(j+1)*2=j*2+2 by omega,show icells (zs++[x,y])=icells zs++icells [x,y]by simp[icells]];exact o9,hR9,fun g hg he=>by
     rw[show(j+1)*2=j*2+2 by omega]at hg;rcases at9 g hg with h8|h8
     .exact hap g h8 he
     .have:=(aH oR g he).2;have:wr.heap.size<=(wr.alloc (M #[I J x,I J y] 2)).drew.heap.size:=hbk.size;omega,cK (kB.trans (hbk.mono hbz)) gr9 (fun g hg=>(aH oB g hg).1) hzz⟩
    case measure=>simp[intOf];omega
   .obtain rfl:j=rn:=by omega
    go_wp2;go_ret;exact⟨⟨_,_,_,_,rfl,by omega,oB⟩,kB⟩
 have e4:(k==4)=F':=by simpa using h4
 by_cases h5:k=5
 .subst h5;go_upto_region 14 with fail
  refine R0 (fun W'=>W'.cell? ⟨b,o+6,O⟩=Y (Z s.xa s.xn s.xc)/\W'.cell? ⟨w.heap.size,3,O⟩=Y (I J v)) (⟨x6,c3⟩) (fun hH=>?_);refine R5 0 1 2 3 4 ?_;refine R1 5 ?_;refine R6 6 (fun K hK=>?_);go_simp;refine(SL _ (hIx.below ((Aa _ _).drew))).mono ?_;rintro r W3⟨ra,rn,rc,rfl,hrn,oR,hb3⟩;replace hb3:V' W2 W3:=⟨hb3.os,hb3.tape,hb3.output,hb3.size,hb3.block⟩
  refine hK.out _ _ ?_ (fun hH=>?_)
  .exact⟨keep_cell hb3 x6,keep_cell hb3 c3⟩
  clear hK K;refine R1 7 ?_;refine R7 ?_;go_wp2;go_ret;exact⟨⟨_,_,_,_,rfl,hrn,aQ oR kE.size⟩,kE.trans (hb3.mono kE.size)⟩
 have e5:(k==5)=F':=by simpa using h5
 go_wp2;go_ret;exact⟨⟨_,_,_,[],rfl,by omega,oE'⟩,kE⟩
def wuD(j:Nat):Nat:=match j with|14=>58|_=>60
def wuE:List Nat:=[14,16]
def wuP(_:Nat):List Nat:=[]
theorem cO7:(wuE.all fun i=>wuE.all fun j=>wuD i !=wuD j||i==j)=A':=by kernel_rfl
theorem dI9:wuE.Nodup:=by decide
def WuR(tb p:Nat)(wk:Int)(wh:Bool)(wv:Int)(j:Nat)(v:Value)(T:Nat->Nat)(w:World):Prop:=match j with
 |14=>w.cell? ⟨tb,p,O⟩=Y v/\T tb=2
 |_=>∃gb,v=Z (Y ⟨gb,0,O⟩) 1 1/\w.heap[gb]? =Y (M #[I J wk,X wh,I J wv] 263 (0,0))/\T gb=8
theorem WuR.mono(tb p:Nat)(wk:Int)(wh:Bool)(wv:Int):∀j v T T' w w',WuR tb p wk wh wv j v T w->(∀k,Kp k T T' w w')->w.heap.size<=w'.heap.size->WuR tb p wk wh wv j v T' w':=by
 intro j v T T' w w' h hk _;unfold WuR at*;split at h
 .obtain⟨h1,h2⟩:=h;obtain⟨h3,h4⟩:=hk 2 tb (aD h1) h2;exact⟨(Eu (w:=w) (w':=w') h3).trans h1,h4⟩
 .obtain⟨g,h1,h2,h3⟩:=h;obtain⟨h4,h5⟩:=bJ h2 h3 (hk 8);exact⟨g,h1,h4,h5⟩
theorem dC0{g:Nat}{k:Int}{h:Bool}{v:Int}(hg:w.heap[g]? =Y (M #[I J k,X h,I J v] 263 (0,0))):CellsAt w (Y ⟨g,0,O⟩) (1*3) (bfcells [⟨k,h,v⟩]):=by refine⟨rfl,fun _=>⟨_,_,rfl,fun i _=>?_⟩⟩;rw[C' hg,Al];simp[bfcells]
theorem dJ5(bs:List Bf):∀u∈bfcells bs,u.oneCell'=A':=by intro u hu;unfold bfcells at hu;obtain⟨x,_,h⟩:=Cf.1 hu;simp only[Am,Cu,Eh]at h;rcases h with rfl|rfl|rfl<;>rfl
theorem EgX.undo{tb k:Nat}(h:EgX W T b o cs t s e)(ha:s.ta=Y ⟨tb,0,O⟩)(hk:k<s.tn):
  ∃us au nu cu,TxO W 0 T (Z s.ta s.tn s.tc) s.tn e.tx us/\us k=Z au nu cu/\W.cell? ⟨tb,k*8+3,O⟩=Y (Z au nu cu)/\Hid (nu=(aS e.tx k).un.length):=by
 obtain⟨us,hT⟩:=h.own.tx;obtain⟨au,cu,hu⟩:=dT (hT.un k hk).1;obtain⟨hl,⟨cs',hr,hc⟩,hn,hf⟩:=id hT;have hcc:=hr.cells;obtain⟨b1,off,ha1,hc1⟩:=hcc.2 (by omega);rw[ha]at ha1;simp at ha1;obtain⟨rfl,rfl⟩:=ha1;have:=(hc1 (k*8+3) (by omega)).trans (hc k 3 hk (by decide));rw[Al,show tx8 (aS e.tx k) (us k) 3=us k from rfl,hu]at this;exact⟨us,au,_,cu,hT,hu,this,rfl⟩
theorem EgX.stayTx{W':World}{T':Nat->Nat}{tb k i:Nat}(h:EgX W T b o cs t s e)(ha:s.ta=Y ⟨tb,0,O⟩)(hk:k<s.tn)(hK:Kp 2 T T' W W')(hc:W.cell? ⟨tb,i,O⟩=Y v):W'.cell? ⟨tb,i,O⟩=Y v/\W'.frozen? ⟨tb,i,O⟩=F':=by obtain⟨h3,_⟩:=hK tb (aD hc) (h.tb2 ha hk);refine⟨(Eu (w:=W) (w':=W') h3).trans hc,?_⟩;obtain⟨_,_,_,_,_,_,fz⟩:=h.cellsTx ha hk;have:=fz i;unfold World.frozen? at*;rw[h3];exact this
def dQ1(T:Nat->Nat)(w:World)(b o:Nat)(cs:Array Value)(t:TypeId)(s:EgS)(e:Eng)(r:Ending)(w':World):Prop:=
 ∃c T' cs' s' e',r=R' (I J c)/\EgX w' T' b o cs' t s' e'/\Stp T T' w w' o cs cs'/\EgF s s'/\(c≠0->s'=s/\e'=e)
theorem EgF.refl(s:EgS):EgF s s:=⟨rfl,by omega,by omega,by omega,z'⟩
theorem aW6(tx key:Int)(has:Bool)(val:Int)(k:Nat)(w:World)(T:Nat->Nat)(b o:Nat)(cs:Array Value)(t:TypeId)(s:EgS)(e:Eng)(h:EgX w T b o cs t s e)(hk:k<s.tn)(htx:tx=(k:Int)+1)(ht:inB tx 1 999=A')(hlv:aL e.lv=0)(hbf:cY (aS e.tx k).un=0)(hon:s.on+500<=4100000)(hxn:s.xn+50<=1048575)(hfb:(⟨key,has,val⟩:Bf).fault=0):
  Calls prog 211 #[.pointer (Y ⟨b,o,O⟩),I J tx,I J key,X has,I J val] w (dQ1 T w b o cs t s e):=by
 have hn4:=h.own.n4;have hw:IntKind.i64.wrap (tx-1)=(k:Int):=by rw[htx,show(k:Int)+1-1=(k:Int)by omega];exact Br _ ⟨by omega,by omega⟩
 have HTX:=hid htx;clear htx;obtain⟨us,hT⟩:=h.own.tx;obtain⟨tb,hta⟩:=hT.place (by omega);have HTA:=hid hta;clear hta hT;have HL:=h.own.lv.len;have hne:∀k,k<s.ln->(e.lv.getD k []).length≠0:=fun k hk=>(fY hlv k (by have:=HL.out;omega)).1;have hkey:=(rV hfb).1;have hF:jU e.lv tx [⟨key,has,val⟩]=0:=by rw[aP3 hlv ht];exact hfb
 have hfit:=vL (kd:=2) (.inl rfl) hlv ht hfb;unfold oG at hfit;simp only at hfit;have hgood:=hid (sB hF);have hfew:=(aC7 hbf).1;have SB:=fun W hW=>pK s.la s.ln s.lc key e.lv W hW h.own.n2 hne;have SS:=fun W hW=>aY5 s.la s.ln s.lc tx key has val e.lv W hW hlv hkey;generalize Ch.bf key (Ch.has e.lv key)=bb at*;obtain⟨wk,wh,wv⟩:=bb;generalize dU e.lv key has val=Y' at*;obtain⟨yc,nl⟩:=Y';simp only at SB SS hgood hfit;have x1:=h.all.2.1;have hL0:=h.own.lv.sub fK;have hbl:=h.lt;clear hF hkey;go_enter func211,ntmps211
 go_upto_region 1 with fail
 go_wp2_with fail
 refine(SB _ hL0).mono ?_;rintro r W1⟨rfl,hb1⟩;have hbA:V' w (W1.alloc (M #[I J wk,X wh,I J wv] 263)):=hb1.alloc hb1.size _;have x1A:=keep_cell hbA x1;have hLA:=hL0.below hbA;have hbwA:(W1.alloc (M #[I J wk,X wh,I J wv] 263)).heap[W1.heap.size]? =Y (M #[I J wk,X wh,I J wv] 263 (0,0)):=aP rfl;have hszA:W1.heap.size<(W1.alloc (M #[I J wk,X wh,I J wv] 263)).heap.size:=by simp
 have hge1:=hb1.size;go_upto_region 2 with fail
 go_wp2_with fail
 refine(SS _ hLA).mono ?_;rintro r W2⟨a2,m2,c2,rfl,hO2,hb2⟩;go_upto_region 3 with fail
 have hbB:Below (W1.alloc (M #[I J wk,X wh,I J wv] 263)).heap.size (W1.alloc (M #[I J wk,X wh,I J wv] 263)) (W2.alloc (M #[I J 2,I J tx,I J key,X wh,I J wv,X has,I J val] 79)):=hb2.alloc hb2.size _;have hb0:V' w W2:=hbA.trans (hb2.mono hbA.size);have hX2:=h.below hb0 0;have hS2:=Stp.below (T:=T) o cs hb0 0;have hbw2:W2.heap[W1.heap.size]? =Y (M #[I J wk,X wh,I J wv] 263 (0,0)):=aR hb2 hbwA;have hTw2:mrk T w.heap.size 0 W1.heap.size=0:=by unfold mrk;rw[if_neg (by omega)]
 have hL2:(∀i,(nl.getD i []).length<=9223372036854775807)->LvAt (gU (Ice (mrk T w.heap.size 0)) W2) a2 m2 nl:=fun hm=>OwnLv.seen hO2 hm (fun g hg=>jR T w.heap.size g (by have:=hbA.size;omega));generalize mrk T w.heap.size 0=T2 at*;have hbC:V' W2 (W2.alloc (M #[I J 2,I J tx,I J key,X wh,I J wv,X has,I J val] 79)):=(Aa _ _).alloc z' _;have hX3:=hX2.below hbC 0;have hS3:=hS2.trans (Stp.below o cs hbC 0);have hwk:=bJ hbw2 hTw2 (aY hbC T2 0 0);obtain⟨hbw,hTw⟩:=hwk;have hL3:=fun hm=>(hL2 hm).sub (eE (aY hbC T2 0 0));have hrec:(W2.alloc (M #[I J 2,I J tx,I J key,X wh,I J wv,X has,I J val] 79)).heap[W2.heap.size]? =Y (M #[I J 2,I J tx,I J key,X wh,I J wv,X has,I J val] 79 (0,0)):=aP rfl;generalize mrk T2 W2.heap.size 0=T3 at*;generalize W1.heap.size=gw at*;generalize hgr:W2.heap.size=gr at*;clear hgr hX2 hS2 hbw2 hTw2 hL2 hbC hbB hb0 hbA x1A hLA hbwA hszA hge1 hO2 hb2 hb1 SB SS;generalize W2.alloc (M #[I J 2,I J tx,I J key,X wh,I J wv,X has,I J val] 79)=W3 at*;by_cases hyc:yc=0
 .subst hyc;have hlg3:aL nl=0:=hgood.out rfl;have hL4:=hL3 (fun i=>by have:=fI (jC hlg3) i;omega);obtain⟨r0,r1,r2,r3,r4,r5,r6⟩:=aJ4 hrec;have hbl3:=hX3.lt;go_upto_region 6 with(refine(pQ 2 tx key wh wv has val _ _ b o _ t _ _ hX3 hfit (by omega)).mono ?_;rintro r W4⟨rfl,T4,c4,a4,n4,k4,lo4,hX4,hn4',hS4⟩)
  have hwk4:=bJ hbw hTw hS4.k0;have hL5:=hL4.sub (eE hS4.k0);have y1:=hX4.all.2.1;have f1:=hX4.frz (o+1);have hbl4:=hX4.lt;go_upto_region 7 with fail
  have hset:=EgX.set (i:=1) (v:=Z a2 m2 c2) hX4.box hX4.cell hX4.tag (hX4.own.newLv (c:=c2) hL5 (jC hlg3)) (by decide) rfl;have hwk5:=bJ hwk4.1 hwk4.2 hset.2.k0;have hX5:=hset.1;have hS5:=(hS3.trans hS4).trans hset.2;clear hset hX4 hS4 hX3 hS3 hL3 hL4 hL5 y1 f1 hwk4 hbw hTw hrec r0 r1 r2 r3 r4 r5 r6 hbl4 hbl3;generalize W4.setCell ⟨b,o+1,O⟩ (Z a2 m2 c2)=W5 at*;generalize c4.setIfInBounds (o+1) (Z a2 m2 c2)=c5 at*;have HF:Hid (∀(n:Nat) (a:Option Addr) (c:Nat),n<=s.xn+1->EgF s {s with la:=a2,ln:=m2,lc:=c2,oa:=a4,on:=n4,oc:=k4,xa:=a,xn:=n,xc:=c}):=fun n a c hn=>⟨rfl,by simp only;omega,by simp only;omega,by simp only;omega,z'⟩
  have hs5:({s with la:=a2,ln:=m2,lc:=c2,oa:=a4,on:=n4,oc:=k4}:EgS).ta=s.ta/\({s with la:=a2,ln:=m2,lc:=c2,oa:=a4,on:=n4,oc:=k4}:EgS).tn=s.tn/\({s with la:=a2,ln:=m2,lc:=c2,oa:=a4,on:=n4,oc:=k4}:EgS).xn=s.xn:=⟨rfl,rfl,rfl⟩
  have hY5:({e with lo:=lo4,lv:=nl}:Eng).tx=e.tx/\({e with lo:=lo4,lv:=nl}:Eng).lv=nl:=⟨rfl,rfl⟩
  have HF3:Hid (∀(n:Nat) (a:Option Addr) (c:Nat),n<=s.xn+1->EgF s {({s with la:=a2,ln:=m2,lc:=c2,oa:=a4,on:=n4,oc:=k4}:EgS)with xa:=a,xn:=n,xc:=c}):=HF;clear HF;generalize({s with la:=a2,ln:=m2,lc:=c2,oa:=a4,on:=n4,oc:=k4}:EgS)=s3 at hX5 hs5 HF3;generalize({e with lo:=lo4,lv:=nl}:Eng)=e3 at hX5 hY5;obtain⟨p1,p2,p3⟩:=hs5;obtain⟨p4,p5⟩:=hY5;have HTA3:Hid (s3.ta=Y ⟨tb,0,O⟩):=p1.trans HTA.out;have hk3:k<s3.tn:=by omega
  have hfew3:(aS e3.tx k).un.length<=40:=by rw[p4];exact hfew
  replace hlg3:aL e3.lv=0:=by rw[p5];exact hlg3
  have HX3:=hid p3;have hx3:s3.xn+50<=1048575:=by omega
  have hn43:=hX5.own.n4;clear p1 p2 p3 p4 p5;obtain⟨hbw,hTw⟩:=hwk5;obtain⟨w0,w1,w2⟩:=tA hbw;have y3:=hX5.all.2.2.2.1;rw[HTA3.out]at y3;have hbl5:=hX5.lt;have htl5:tb<W5.heap.size:=by obtain⟨_,⟨v3,z3⟩,_⟩:=hX5.cellsTx HTA3.out hk3;exact aD z3
  have hgw5:=aD w0;refine R0 (fun W'=>W'.cell? ⟨b,o+3,O⟩=Y (Z (Y ⟨tb,0,O⟩) s3.tn s3.tc)/\W'.cell? ⟨gw,0,O⟩=Y (I J wk)/\W'.cell? ⟨gw,1,O⟩=Y (X wh)/\W'.cell? ⟨gw,2,O⟩=Y (I J wv)) (⟨y3,w0,w1,w2⟩) (fun hH=>?_);refine R5 0 1 2 3 4 ?_;refine R5 5 6 7 8 9 ?_;refine R5 10 11 12 13 15 ?_;refine sF (d:=wuD) (E:=wuE) (L1:=#[A',A',A',A',A',A',A',A',A',A',A',A',A',A',A',A',A',F',F',F',F']) (fuel1:=4) (pre:=wuP) (R:=WuR tb (k*8+3) wk wh wv) (Bs:=fun T' W=>EgX W T' b o c5 t s3 e3/\Stp T4 T' W5 W o c5 c5/\W.heap[gw]? =Y (M #[I J wk,X wh,I J wv] 263 (0,0))/\T' gw=0) cO7 dI9 (by kernel_rfl) (by kernel_rfl) (by kernel_rfl) (by kernel_rfl) (by kernel_rfl) (by kernel_rfl) (by kernel_rfl) (WuR.mono tb (k*8+3) wk wh wv) ?bs ?step ?last T4 ?init;case init=>exact⟨hX5.drew,Stp.drew _ _ _ _,hbw,hTw⟩
  case bs=>intro T' W hB;obtain⟨q0,q1,q2⟩:=tA hB.2.2.1;have q3:=hB.1.all.2.2.2.1;rw[HTA3.out]at q3;exact⟨q3,q0,q1,q2⟩
  case step=>
   intro i hi vs T' W hB hp;unfold wuE at hi;simp only[Am,Cu,Eh]at hi;rcases hi with rfl|rfl
   .obtain⟨us,au,nu,cu,hT,hus,hcell,_⟩:=hB.1.undo HTA3.out hk3;refine kP ⟨Y 58,.load 153 (.tmp 57),_,_,_,O⟩ (Z au nu cu) (by rfl) cO7 dI9 (by kernel_rfl) rfl ?_ ?_
    .intro ev h1 h2;have s1:ev (.tmp 57)= .pointer (Y ⟨tb,k*8+3,O⟩):=(h2 57 (by kernel_rfl)).trans rfl;clear h1 h2;go_simp
    .exact⟨_,T',rfl,⟨hcell,hB.1.tb2 HTA3.out hk3⟩,fun k=>Kp.refl k T' W,z',hB⟩
   .have hb:V' W (W.alloc (M #[I J wk,X wh,I J wv] 263)):=(Aa _ _).alloc z' _;refine wJ ⟨Y 60,.buildSlice 153 1 #[(0,.tmp 59)],_,_,_,O⟩ (Z (Y ⟨W.heap.size,0,O⟩) 1 1) (W.alloc (M #[I J wk,X wh,I J wv] 263)) (by rfl) cO7 dI9 (by kernel_rfl) rfl ?_ ?_
    .intro ev h1 h2;have s1:ev (.tmp 59)=U #[I J wk,X wh,I J wv]:=(h2 59 (by kernel_rfl)).trans rfl;clear h1 h2;go_simp
    .have hk0:=fun k'=>aY hb T' 8 k';obtain⟨h4,h5⟩:=bJ hB.2.2.1 hB.2.2.2 (hk0 0);exact⟨_,mrk T' W.heap.size 8,rfl,⟨W.heap.size,rfl,aP rfl,by unfold mrk;rw[if_neg (by omega)]⟩,hk0,hb.size,hB.1.below hb 8,hB.2.1.trans (Stp.below o c5 hb 8),h4,h5⟩
  case last=>
   intro vs T' W hB hR;obtain⟨hX,hS,hbw',hTw'⟩:=hB;obtain⟨us,au,nu,cu,hT,hus,hcell,HNu⟩:=hX.undo HTA3.out hk3;have e14:vs 14=Z au nu cu:=by have h1:W.cell? ⟨tb,k*8+3,O⟩=Y (vs 14):=(hR 14 (by simp[wuE])).1;rw[hcell]at h1;exact(Option.some.inj h1).symm
   obtain⟨gb,e16,hgb,hTb⟩:=hR 16 (by simp[wuE]);clear hR;have hN:=dC0 hgb;have hU:=hT.un k hk3;rw[hus,<-HNu.out]at hU;have hnu:nu<=40:=by have h1:=HNu.out;have h2:=hfew3;omega
   dsimp only[eB,wuE,List.foldl];simp only[Act.put,wuD,Bh,List.set_cons_zero,List.set_cons_succ];rw[e14,e16];refine R6 17 (fun K hK=>?_);refine lZ dN3 (.tmp 58) (.tmp 60) rfl rfl 0 (Z au nu cu) nu (bfcells (aS e3.tx k).un) (Y ⟨gb,0,O⟩) 1 1 (bfcells [⟨wk,wh,wv⟩]) rfl rfl hU.1 hN (dJ5 _) (by omega) (Ad _) ?_;intro a9 c9 W9 o9 gr9 at9;rw[show bfcells (aS e3.tx k).un++bfcells [⟨wk,wh,wv⟩]=bfcells ((aS e3.tx k).un++[⟨wk,wh,wv⟩])by simp[bfcells]]at o9;have hI9:=hX.addUn (bs:=(aS e3.tx k).un++[⟨wk,wh,wv⟩]) HTA3.out hk3 hT hus (by omega) (by simp;exact HNu.out.symm) o9 gr9 at9;have kk:=fun m (hm:m≠2*k+10)=>dF gr9 (fun g hg=>hU.2 g hg) hm;have hb9:=bJ hX.box hX.tag (kk 1 (by omega));have z3:W9.cell? ⟨b,o+3,O⟩=Y (Z s3.ta s3.tn s3.tc):=(Ai _ b (o+3) _ _ _ hb9.1).trans (hX.cell 3 (by decide));rw[HTA3.out]at z3;have hw9:=bJ hbw' hTw' (kk 0 (by omega));obtain⟨q0,q1,q2⟩:=tA hw9.1;have ht9:W9.cell? ⟨tb,k*8+3,O⟩=Y (Z au nu cu)/\W9.frozen? ⟨tb,k*8+3,O⟩=F':=hX.stayTx HTA3.out hk3 (kk 2 (by omega)) hcell;obtain⟨z4,f4⟩:=ht9;refine hK.out _ _ ?_ (fun hH=>?_)
   .exact⟨z3,q0,q1,q2⟩
   clear hK K;refine J3 ?_;refine R2 18 19 ?_;refine R6 20 (fun K hK=>?_);go_simp;refine hK.out _ _ ?_ (fun hH=>?_)
   .have q3:=hI9.1.all.2.2.2.1
    (try simp only at q3)
    rw[HTA3.out]at q3;obtain⟨p0,p1,p2⟩:=tA (bJ hbw' hTw' hI9.2.k0).1;exact⟨q3,p0,p1,p2⟩
   clear hK K;refine R7 ?_;have hXA:=hI9.1;have hSA:=(hS5.trans hS).trans hI9.2;clear hI9 o9 gr9 at9 hb9 z3 z4 f4 hw9 q0 q1 q2 hX hS hT hU hN hgb hH kk hbw' hcell hus e14 e16;generalize W9.setCell ⟨tb,k*8+3,O⟩ (Z a9 (nu+1) c9)=WA at*;have hblA:=hXA.lt;go_wp2_with fail
   refine(aK7 key _ _ b o _ t _ _ hXA hlg3 (by omega)).mono ?_;rintro r WB⟨rfl,TB,cB,aB,nB,kB,ixB,hXB,hnB,hSB⟩;go_wp2;go_ret;exact⟨0,TB,cB,_,_,rfl,hXB,hSA.trans hSB,HF3.out nB aB kB (by have:=HX3.out;omega),fun h0=>absurd rfl h0⟩
 .have hyb:(yc !=0)=A':=by simpa using hyc
  go_wp2;go_ret;exact⟨yc,T3,cs,s,e,rfl,hX3,hS3,EgF.refl s,fun _=>⟨rfl,rfl⟩⟩
end Go.Proofs.YtpbbokalojdooaaGreat
