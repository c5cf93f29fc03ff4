import Derived.Test.YtpbbokalojdooaaGreatQas
namespace Go.Proofs.YtpbbokalojdooaaGreat
open Go.RowKit Ch Go.Proofs.Tryz
set_option linter.unusedSimpArgs false
set_option linter.unusedVariables false
set_option maxRecDepth 20000
set_option maxHeartbeats 8000000
open Value renaming int->I,slice->Z,bool->X,agg->U
open IntKind renaming i64->J
open Option renaming none->O,some->Y
open Obj renaming cells->M
open Ending renaming returned->R'
open Bool renaming true->A',false->F'
variable {r v:Int} {zs:List Int} {ls:List Lock} {rs:List Rec} {xs:List Value} {l x:Lock} {Bn i k n:Nat} {a:Option Addr} {row:Option Nat} {S:Sl} {W w:World}
section
open Go.Shelf
attribute [local go_sem] Oper.semAt_some
abbrev xG:={x:Int×Rec // x.2.Fit}
abbrev dB7(x:xG):Array Value:=#[I J x.1.1,U #[I J x.1.2.kd,I J x.1.2.tx,I J x.1.2.ky,X x.1.2.hd,I J x.1.2.ol,X x.1.2.hs,I J x.1.2.nw]]
def gJ(pre:List xG):List Rec:=pre.map (fun x=>x.1.2)
theorem sX(pre:List xG)(x:xG):gJ (pre++[x])=gJ pre++[x.1.2]:=by simp[gJ]
theorem aX4(pre:List xG):(gJ pre).length=pre.length:=by simp[gJ]
def KpC(a:Option Addr)(n:Nat)(rs:List Rec)(Bn:Nat)(W W':World):Prop:=(CellsAt W a (n*7) (rc7 rs)->CellsAt W' a (n*7) (rc7 rs))/\∀v,W.cell? ⟨Bn,0,O⟩=Y v->W'.cell? ⟨Bn,0,O⟩=Y v
theorem KpC.t{A B C:World}(h:KpC a n rs Bn A B)(k:KpC a n rs Bn B C):KpC a n rs Bn A C:=⟨fun h1=>k.1 (h.1 h1),fun v hv=>k.2 v (h.2 v hv)⟩
theorem aB9{l:Nat}{o:Obj}(o':Obj)(ho:W.heap[l]? =Y o)(hc:o.isCells=F'){b off:Nat}{v:Value}(hv:W.cell? ⟨b,off,O⟩=Y v):(W.putObj l o').cell? ⟨b,off,O⟩=Y v:=by
 by_cases e:b=l
 .subst e;exfalso;unfold World.cell? at hv;simp only[ho]at hv;cases o<;>simp[Obj.isCells]at hc hv
 .have:(W.putObj l o').heap[b]? =W.heap[b]? :=World.putObj_heap_other e;unfold World.cell? at hv⊢;simp only[this];exact hv
theorem bV6{W':World}{m:Nat}(h:CellsAt W a m xs)(hk:∀b off v,a=Y ⟨b,0,O⟩\/True->W.cell? ⟨b,off,O⟩=Y v->W'.cell? ⟨b,off,O⟩=Y v):CellsAt W' a m xs:=by
 refine⟨h.1,fun hp=>?_⟩;obtain⟨b,off,ha,hc⟩:=h.2 hp;refine⟨b,off,ha,fun i hi=>?_⟩;have:=hc i hi;have hl:i<xs.length:=by rw[h.1];exact hi
 rw[List.getElem?_eq_getElem hl]at this⊢;exact hk b (off+i) _ (.inr trivial) this
theorem KpC.b(W:World)(l:Nat)(o o':Obj)(ho:W.heap[l]? =Y o)(hc:o.isCells=F'):KpC a n rs Bn W (W.putObj l o'):=
 ⟨fun h=>bV6 h (fun _ _ _ _ hv=>aB9 o' ho hc hv),fun _ hv=>aB9 o' ho hc hv⟩
theorem aY6(a:Option Addr)(n cap:Nat)(w:World):
  Calls prog 83 #[Z a n cap] w fun e w'=>e=R' (.func (.func 123) #[] #[.pointer (Y ⟨w.heap.size,0,O⟩)])/\w'=w.alloc (M #[Z a n cap] 31):=by
 go_enter func83,ntmps83
 go_wp2;go_ret;exact⟨rfl,rfl⟩
set_option maxRecDepth 100000 in
set_option maxHeartbeats 2000000 in
theorem cT8(m l Bn:Nat)(hm:1<=m)(a:Option Addr)(n cap:Nat)(rs:List Rec)(hn:n<=800)(hf:∀k,k<rs.length->(rs.getD k Rec.zero).fault=0)(J' Jx:List xG->World->Prop)
  (hY:∀pre x W,J' pre W->pre.length<rs.length->YieldAt Fence.wide (m-1) prog l (dB7 x) W fun e W'=>
   (e=R' (X A')/\J' (pre++[x]) W'/\KpC a n rs Bn W W')\/(e=R' (X F')/\Jx (pre++[x]) W'))
  (W:World) (hBn:W.cell? ⟨Bn,0,O⟩=Y (Z a n cap)) (hW:CellsAt W a (n*7) (rc7 rs)) (h0:J' [] W):
  CallsIn Fence.wide m prog 123 #[.func (.yield l) #[] #[],.pointer (Y ⟨Bn,0,O⟩)] W fun e W'=>(∃v,e=R' v)/\
   ((∃ys,gJ ys=rs.reverse/\J' ys W')\/(∃pre,True/\Jx pre W')):=by
 have HL:=hW.len7;have HF:=hid hf;clear hf;refine callsIn_of_wp func123 rfl trivial ?_ rfl;simp only[ntmps123,List.size_toArray,List.length_cons,List.length_nil,Nat.reduceAdd,Nat.reduceSub,Array.replicate_succ,Array.replicate_zero,List.push_toArray,List.append_toArray,List.nil_append,List.cons_append];gi_wp2
 gi_loopw [3] (fun i wr=>∃(k:Nat) (pre:List xG),k<=n/\i=I J ((k:Int)-1)/\Hid (gJ pre=(rs.drop k).reverse)/\J' pre wr/\CellsAt wr a (n*7) (rc7 rs)/\wr.cell? ⟨Bn,0,O⟩=Y (Z a n cap))
  (fun i _=>(intOf i+1).toNat)
 case atStart=>exact⟨n,[],z',rfl,by show _=_;rw[HL.out];simp[gJ],h0,hW,hBn⟩
 case round=>
  clear h0 hW hBn;obtain⟨k,pre,hk,rfl,HI,hJs,hC,hc⟩:=hrel;cases k with
  |zero=>
   have e0:((0:Nat):Int)-1= -1:=rfl;rw[e0];gi_wp2
   refine bodyPost_end (results_none rfl _ _ _) rfl ?_;exact⟨⟨_,rfl⟩,.inl ⟨pre,by have:=HI.out;simpa using this,hJs⟩⟩
  |succ j=>
   have e1:((j+1:Nat):Int)-1=(j:Int):=by omega
   rw[e1];have hjl:j<rs.length:=by have:=HL.out;omega
   have HT:=hid (Rec.fit (HF.out j hjl));have HD:=hid (aJ3 hjl);have hlen:Hid (pre.length<rs.length):=by show _<_;rw[<-aX4,HI.out];simp;omega
   obtain⟨b,off,rfl,q0,q1,q2,q3,q4,q5,q6⟩:=hC.rec (k:=j) (by omega);have hbl:=aD q0;generalize rs.getD j Rec.zero=r at*;have hY2:=hY pre ⟨((j:Int),r),HT.out⟩ _ hJs hlen.out;have HN:Hid (gJ (pre++[⟨((j:Int),r),HT.out⟩])=(rs.drop j).reverse):=by show _=_;rw[sX,HI.out,HD.out]
   generalize hpx:pre++[⟨((j:Int),r),HT.out⟩]=pre2 at*;clear hY hJs HD HI hlen hpx;obtain⟨kd,tx,ky,hd,ol,hs,nw⟩:=r;simp only at q0 q1 q2 q3 q4 q5 q6;obtain⟨fn,tmps,assign,body,hy,hR⟩:=hY2;dsimp only[dB7]at hy hR;have hj0:(0:Int)<=(j:Int):=by omega
   gi_wp2
   refine hR.mono ?_;rintro e W3 (⟨rfl,hJ3,hk3⟩|⟨rfl,hJx3⟩)
   .have hC3:=hk3.1 hC;have hc3:=hk3.2 _ hc;clear hR hy;gi_wp2
    go_roundw;case rel=>exact⟨j,pre2,by omega,by go_num,HN.out,hJ3,hC3,hc3⟩
    case measure=>simp[intOf]
   .clear hR hy;gi_wp2
    refine bodyPost_ret (results_none rfl _ _ _) rfl ?_;exact⟨⟨_,rfl⟩,.inr ⟨_,trivial,hJx3⟩⟩
theorem bU5(m Bn:Nat)(hm:1<=m)(a:Option Addr)(n cap:Nat)(rs:List Rec)(w:World)(hn:n<=800)(hf:∀k,k<rs.length->(rs.getD k Rec.zero).fault=0)(h:CellsAt w a (n*7) (rc7 rs))(hc:w.cell? ⟨Bn,0,O⟩=Y (Z a n cap)):
  SeqStopsK Fence.wide m prog 123 #[.pointer (Y ⟨Bn,0,O⟩)] dB7 (KpC a n rs Bn) (fun ys=>gJ ys=rs.reverse) (fun _=>True) rs.length w:=fun l J' Jx W hW _ _ hY h0=>
 cT8 m l Bn hm a n cap rs hn hf J' Jx hY W (aC hW hc) (h.below hW) h0
end
def cS(zs:List Int):Rec×Nat:=match Ch.first zs with
 |some r=>(r,r.len)
 |none=>(Rec.zero,0)
theorem pN(h0:(Ch.unp zs).fault=0)(h1:(Ch.unp zs).bytes<+:zs):cS zs=(Ch.unp zs,(Ch.unp zs).len):=by unfold cS Ch.first;rw[if_pos ⟨h0,h1⟩]
theorem fO(h:¬((Ch.unp zs).fault=0/\(Ch.unp zs).bytes<+:zs)):cS zs=(Rec.zero,0):=by unfold cS Ch.first;rw[if_neg h]
def aH1(zs:List Int):List Int:=[zs.getD 0 0,zs.getD 1 0,zs.getD 2 0,zs.getD 3 0,zs.getD 4 0,zs.getD 5 0,zs.getD 6 0,zs.getD 7 0,zs.getD 8 0]
theorem bR2(zs:List Int):Ch.unp (aH1 zs)=Ch.unp zs:=rfl
theorem pad9(zs:List Int):splice [I .u8 0,I .u8 0,I .u8 0,I .u8 0,I .u8 0,I .u8 0,I .u8 0,I .u8 0,I .u8 0] 0 (bts (zs.take 9))=bts (aH1 zs):=by
 match zs with
 |[]=>rfl
 |[_]=>rfl
 |[_,_]=>rfl
 |[_,_,_]=>rfl
 |[_,_,_,_]=>rfl
 |[_,_,_,_,_]=>rfl
 |[_,_,_,_,_,_]=>rfl
 |[_,_,_,_,_,_,_]=>rfl
 |[_,_,_,_,_,_,_,_]=>rfl
 |_::_::_::_::_::_::_::_::_::_=>simp[splice,bts,aH1]
theorem cM1(h:CellsAt w a n (bts zs))(k:Nat):0<(bts (zs.take k)).length->∃ad,a=Y ad/\∀j v,(bts (zs.take k))[j]? =Y v->w.cell? (ad.add j)=Y v:=by
 intro h0;have hl:=h.len.out;obtain⟨b,off,ha,hc⟩:=h.2 (by simp[bts]at h0;omega);refine⟨_,ha,fun j v hj=>?_⟩;have hjl:j<(bts (zs.take k)).length:=(List.getElem?_eq_some_iff.1 hj).1;simp[bts]at hjl;have e:(⟨b,off,O⟩:Addr).add j=⟨b,off+j,O⟩:=by
  unfold Addr.add;split
  .next h0=>subst h0;rfl
  .rfl
 rw[e,hc j (by omega),<-hj];simp[bts,show j<k by omega]
theorem Tryz.size5:(prog.info? 5).map (·.size)=Y 1:=by kernel_rfl
theorem dI4(w:World)(a:Option Addr)(n cap:Nat)(zs:List Int)(h:CellsAt w a n (bts zs)):
  ∃c w',(Builtin.copy_ #[22,22] 3 #[Z (Y ⟨w.heap.size,0,O⟩) 9 9,Z a n cap]).run prog (w.alloc (M #[I .u8 0,I .u8 0,I .u8 0,I .u8 0,I .u8 0,I .u8 0,I .u8 0,I .u8 0,I .u8 0] 164))= .ok c w'/\
   w'.heap[w.heap.size]? =Y (M (bts (aH1 zs)).toArray 164 (0,0))/\Below w.heap.size w w'/\w'.heap.size=w.heap.size+1:=by
 have hl:=h.len.out;have hB:=f' w (M #[I .u8 0,I .u8 0,I .u8 0,I .u8 0,I .u8 0,I .u8 0,I .u8 0,I .u8 0,I .u8 0] 164);have hg:(w.alloc (M #[I .u8 0,I .u8 0,I .u8 0,I .u8 0,I .u8 0,I .u8 0,I .u8 0,I .u8 0,I .u8 0] 164)).heap[w.heap.size]? =Y (M #[I .u8 0,I .u8 0,I .u8 0,I .u8 0,I .u8 0,I .u8 0,I .u8 0,I .u8 0,I .u8 0] 164 (0,0)):=aO rfl;have hp:=pad9 zs;by_cases h0:n=0
 .obtain rfl:zs=[]:=List.eq_nil_of_length_eq_zero (by omega);refine⟨_,_,run_copy_none (P:=prog) _ 22 22 3 5 _ _ 9 9 n cap underlying22 Tryz.size5 (by subst h0;rfl),hg,hB,by simp⟩
 .have hcl:0<(bts (zs.take 9)).length:=by simp[bts];omega
  obtain⟨ad,rfl,hsrc⟩:=cM1 (h.below hB) 9 hcl;refine⟨_,_,run_copy_row (P:=prog) _ 22 22 3 5 w.heap.size 0 9 9 ad n cap #[I .u8 0,I .u8 0,I .u8 0,I .u8 0,I .u8 0,I .u8 0,I .u8 0,I .u8 0,I .u8 0] 164 (bts (zs.take 9)) underlying22 Tryz.size5 hg ?_ hsrc ?_ ?_,?_,below_setRow hB z' _,by simp[World.setRow]⟩
  .have e:(bts (zs.take 9)).length=min 9 zs.length:=by simp[bts]
   rw[e,hl];show min 9 zs.length=min zs.length 9;omega
  .simp[bts];omega
  .intro v hv;obtain⟨z,_,rfl⟩:=List.mem_map.1 hv;rfl
  .rw[<-hp];simpa[splice]using setRow_heap _ w.heap.size _ _ _ _ hg
theorem aZ8(a:Option Addr)(n cap:Nat)(zs:List Int)(w:World)(h:CellsAt w a n (bts zs))(hb:IsB zs)(hn:n<=1048576)(hcap:n<=cap):
  Calls prog 76 #[Z a n cap] w fun e w'=>e=R' (.tuple #[recV (cS zs).1,I J (cS zs).2])/\Below w.heap.size w w':=by
 have HL:=h.len;have b0:=f' w (M #[I J 0,I J 0,I J 0,X F',I J 0,X F',I J 0] 79);obtain⟨c1,w1,hrun,HG,b1,z1⟩:=dI4 (w.alloc (M #[I J 0,I J 0,I J 0,X F',I J 0,X F',I J 0] 79)) a n cap zs (h.below b0);simp only[World.size_alloc]at hrun HG z1;have x0:w1.cell? ⟨w.heap.size+1,0,O⟩=Y (I .u8 (zs.getD 0 0)):=cell_of_row _ _ _ _ _ _ HG;have x1:w1.cell? ⟨w.heap.size+1,1,O⟩=Y (I .u8 (zs.getD 1 0)):=cell_of_row _ _ _ _ _ _ HG;have x2:w1.cell? ⟨w.heap.size+1,2,O⟩=Y (I .u8 (zs.getD 2 0)):=cell_of_row _ _ _ _ _ _ HG;have x3:w1.cell? ⟨w.heap.size+1,3,O⟩=Y (I .u8 (zs.getD 3 0)):=cell_of_row _ _ _ _ _ _ HG;have x4:w1.cell? ⟨w.heap.size+1,4,O⟩=Y (I .u8 (zs.getD 4 0)):=cell_of_row _ _ _ _ _ _ HG;have x5:w1.cell? ⟨w.heap.size+1,5,O⟩=Y (I .u8 (zs.getD 5 0)):=cell_of_row _ _ _ _ _ _ HG;have x6:w1.cell? ⟨w.heap.size+1,6,O⟩=Y (I .u8 (zs.getD 6 0)):=cell_of_row _ _ _ _ _ _ HG;have x7:w1.cell? ⟨w.heap.size+1,7,O⟩=Y (I .u8 (zs.getD 7 0)):=cell_of_row _ _ _ _ _ _ HG;have x8:w1.cell? ⟨w.heap.size+1,8,O⟩=Y (I .u8 (zs.getD 8 0)):=cell_of_row _ _ _ _ _ _ HG;have y0:=cV b1 0;have y1:=cV b1 1;have y2:=cV b1 2;have y3:=cV b1 3;have y4:=cV b1 4;have y5:=cV b1 5;have y6:=cV b1 6;simp at y0 y1 y2 y3 y4 y5 y6;clear HG b0 y0 y1 y2 y3 y4 y5 y6;obtain⟨p0,q0⟩:=hb 0;obtain⟨p1,q1⟩:=hb 1;obtain⟨p2,q2⟩:=hb 2;obtain⟨p3,q3⟩:=hb 3;obtain⟨p4,q4⟩:=hb 4;obtain⟨p5,q5⟩:=hb 5;obtain⟨p6,q6⟩:=hb 6;obtain⟨p7,q7⟩:=hb 7;obtain⟨p8,q8⟩:=hb 8;have HU:Hid (Ch.unp [zs.getD 0 0,zs.getD 1 0,zs.getD 2 0,zs.getD 3 0,zs.getD 4 0,zs.getD 5 0,zs.getD 6 0,zs.getD 7 0,zs.getD 8 0]=Ch.unp zs):=bR2 zs;generalize zs.getD 0 0=d0 at*;generalize zs.getD 1 0=d1 at*;generalize zs.getD 2 0=d2 at*;generalize zs.getD 3 0=d3 at*;generalize zs.getD 4 0=d4 at*;generalize zs.getD 5 0=d5 at*;generalize zs.getD 6 0=d6 at*;generalize zs.getD 7 0=d7 at*;generalize zs.getD 8 0=d8 at*;go_enter func76,ntmps76
 go_wp2_with fail
 refine(cG4 d0 d1 d2 d3 d4 d5 d6 d7 d8 _ p0 q0 p1 q1 p2 q2 p3 q3 p4 q4 p5 q5 p6 q6 p7 q7 p8 q8).mono ?_;rw[HU.out];rintro e w2⟨rfl,b2⟩;have bA:=b1.trans (b2.mono b1.size);have z2:=b2.size;clear x0 x1 x2 x3 x4 x5 x6 x7 x8 p0 q0 p1 q1 p2 q2 p3 q3 p4 q4 p5 q5 p6 q6 p7 q7 p8 q8 hrun b1 b2 HU;obtain⟨r,hr⟩:∃r,r=Ch.unp zs:=⟨_,rfl⟩
 rw[<-hr];obtain⟨kd,tx,ky,hd,ol,hs,nw⟩:=r;have HR:Hid (⟨kd,tx,ky,hd,ol,hs,nw⟩=Ch.unp zs):=hr;clear hr;simp only[recV];by_cases hf:Rec.fault ⟨kd,tx,ky,hd,ol,hs,nw⟩=0
 .have hlen:=Rec.len_bd ⟨kd,tx,ky,hd,ol,hs,nw⟩;have hby:=aA3 (Rec.all_bytes (Rec.fit hf));go_wp2_with fail
  refine(aL9 kd tx ky hd ol hs nw _ hf).mono ?_;rintro e w3⟨g,cp,rfl,own,b3⟩;obtain⟨r0,r1,r2,r3,r4,r5,r6⟩:=aQ2 b3;have b3:=cL b3;have bB:=bA.trans (b3.mono bA.size);have z3:=aD r0;have h3:=h.below ((cL bB));have hpf:=aR3 a (Y ⟨g,0,O⟩) n (Rec.len ⟨kd,tx,ky,hd,ol,hs,nw⟩) cap cp zs (Rec.bytes ⟨kd,tx,ky,hd,ol,hs,nw⟩) (w3.alloc (M #[I J 0,Z (Y ⟨g,0,O⟩) (Rec.len ⟨kd,tx,ky,hd,ol,hs,nw⟩) cp] 167)) (h3.below (q')) (by simpa using aJ (own.alloc _)) hb hby (by omega) (by omega) (by omega) hcap;obtain⟨y0,y1,y2,y3,y4,y5,y6⟩:=aQ2 bB;have f0:=bB.frozen (p:=⟨w.heap.size,0,O⟩) (by simp);have f1:=bB.frozen (p:=⟨w.heap.size,1,O⟩) (by simp);have f2:=bB.frozen (p:=⟨w.heap.size,2,O⟩) (by simp);have f3:=bB.frozen (p:=⟨w.heap.size,3,O⟩) (by simp);have f4:=bB.frozen (p:=⟨w.heap.size,4,O⟩) (by simp);have f5:=bB.frozen (p:=⟨w.heap.size,5,O⟩) (by simp);have f6:=bB.frozen (p:=⟨w.heap.size,6,O⟩) (by simp);simp[go_sem]at f0 f1 f2 f3 f4 f5 f6;have zA:=aD y0;have bE:=cL bB;clear bA b3 own h3 bB hby h;by_cases hp:Rec.bytes ⟨kd,tx,ky,hd,ol,hs,nw⟩<+:zs
  .have HV:Hid (cS zs=(⟨kd,tx,ky,hd,ol,hs,nw⟩,Rec.len ⟨kd,tx,ky,hd,ol,hs,nw⟩)):=by have e:=HR.out;have:=pN (zs:=zs) (by rw[<-e];exact hf) (by rw[<-e];exact hp);rw[<-e]at this;exact this
   rw[decide_eq_true hp]at hpf;clear hp HR hf;generalize Rec.len ⟨kd,tx,ky,hd,ol,hs,nw⟩=len at*;generalize Rec.bytes ⟨kd,tx,ky,hd,ol,hs,nw⟩=bys at*;go_wp2_with(go_at_call 120;refine hpf.mono ?_;clear hpf;rintro e w4⟨rfl,hw4⟩;subst w4)
   go_region
   all_goals
    go_wp2_with fail
    rw[HV.out];refine bodyPost_ret (v:=.tuple #[U #[I J kd,I J tx,I J ky,X hd,I J ol,X hs,I J nw],I J len]) (by simp[results,Tryz.results76,go_sem,zA,y0,y1,y2,y3,y4,y5,y6]) rfl ⟨rfl,?_⟩;repeat(first|with_reducible exact bE|with_reducible refine Below.drew ?_|with_reducible refine Below.alloc ?_ (by first|omega|(simp;done)|(simp;omega)) _|with_reducible refine Below.setCell ?_ (by simp) _)
  .have HV:Hid (cS zs=(Rec.zero,0)):=by have e:=HR.out;exact fO (zs:=zs) (by rw[<-e];exact fun hh=>hp hh.2)
   rw[decide_eq_false hp]at hpf;clear hp HR hf;generalize Rec.len ⟨kd,tx,ky,hd,ol,hs,nw⟩=len at*;generalize Rec.bytes ⟨kd,tx,ky,hd,ol,hs,nw⟩=bys at*;go_wp2_with(go_at_call 120;refine hpf.mono ?_;clear hpf;rintro e w4⟨rfl,hw4⟩;subst w4)
   rw[HV.out];refine bodyPost_ret (v:=.tuple #[U #[I J 0,I J 0,I J 0,X F',I J 0,X F',I J 0],I J 0]) (by simp[results,Tryz.results76,go_sem,zA,y0,y1,y2,y3,y4,y5,y6]) rfl ⟨rfl,?_⟩;repeat(first|with_reducible exact bE|with_reducible refine Below.drew ?_|with_reducible refine Below.alloc ?_ (by first|omega|(simp;done)|(simp;omega)) _|with_reducible refine Below.setCell ?_ (by simp) _)
 .have HV:Hid (cS zs=(Rec.zero,0)):=by have e:=HR.out;exact fO (zs:=zs) (by rw[<-e];exact fun hh=>hf hh.1)
  have hc:(Rec.fault ⟨kd,tx,ky,hd,ol,hs,nw⟩ !=0)=A':=by simpa using hf
  go_wp2_with fail
  refine(aL8 kd tx ky hd ol hs nw _ _ rfl hc).mono ?_;generalize Rec.fault ⟨kd,tx,ky,hd,ol,hs,nw⟩=fc at*;rintro e w3⟨rfl,b3⟩;have b3:=cL b3;have bB:=bA.trans (b3.mono bA.size);obtain⟨y0,y1,y2,y3,y4,y5,y6⟩:=aQ2 bB;have f0:=bB.frozen (p:=⟨w.heap.size,0,O⟩) (by simp);have f1:=bB.frozen (p:=⟨w.heap.size,1,O⟩) (by simp);have f2:=bB.frozen (p:=⟨w.heap.size,2,O⟩) (by simp);have f3:=bB.frozen (p:=⟨w.heap.size,3,O⟩) (by simp);have f4:=bB.frozen (p:=⟨w.heap.size,4,O⟩) (by simp);have f5:=bB.frozen (p:=⟨w.heap.size,5,O⟩) (by simp);have f6:=bB.frozen (p:=⟨w.heap.size,6,O⟩) (by simp);simp[go_sem]at f0 f1 f2 f3 f4 f5 f6;have zA:=aD y0;have bE:=cL bB;clear bA b3 bB h hf HR;go_wp2_with fail
  rw[HV.out];refine bodyPost_ret (v:=.tuple #[U #[I J 0,I J 0,I J 0,X F',I J 0,X F',I J 0],I J 0]) (by simp[results,Tryz.results76,go_sem,zA,y0,y1,y2,y3,y4,y5,y6]) rfl ⟨rfl,?_⟩;repeat(first|with_reducible exact bE|with_reducible refine Below.drew ?_|with_reducible refine Below.alloc ?_ (by first|omega|(simp;done)|(simp;omega)) _|with_reducible refine Below.setCell ?_ (by simp) _)
namespace Ch
theorem aK2{h:Hold}(h0:(dP l k h).2.1=0):l.qs.length<20/\dP l k h=(F',0,⟨l.r,l.hs,l.qs.take k++[h]++l.qs.drop k⟩):=by
 unfold dP at h0⊢;split at h0
 .simp at h0
 .next hh=>rw[if_neg hh];exact⟨by omega,rfl⟩
theorem bH0(g:Gd l){t m:Int}(ht:inB t 1 999=A')(hm:inB m 1 5=A')(hw:aV l.qs t=F')(h0:(cO l t m).2.1=0):Gd (cO l t m).2.2:=by
 obtain⟨hM,hN⟩:=rS g.hn t;have hmM:=aL7 hm;have hname:lU ⟨t,eN (bQ l.hs t) m⟩=A':=by unfold lU;rw[ht,cO2 hM hm];rfl
 unfold cO at h0⊢;split
 .exact g
 .next hc=>
  rw[if_neg hc]at h0;have hc':eB (bQ l.hs t) m=F':=by simpa using hc
  split
  .next h1=>
   rw[if_pos h1]at h0;rw[Bool.and_eq_true,beq_iff_eq]at h1;have hh:aV l.hs t=F':=by rw[<-hN,h1.1];rfl
   obtain⟨hl,he⟩:=aK2 h0;rw[he];simp only[List.take_length,List.drop_length,List.append_nil];refine g.last hname hh hw hl ?_;have:=h1.2;rw[Bool.or_eq_true]at this;rcases this with h|h
   .exact .inl (by simpa using h)
   .exact .inr (by simpa using h)
  .next h1=>
   rw[if_neg h1]at h0;split
   .next h2=>
    rw[if_pos h2]at h0;have hne:bQ l.hs t≠0:=fun e=>h1 (by rw[h2,e];rfl);have hh:aV l.hs t=A':=by rw[<-hN];simpa using hne
    obtain⟨hl,he⟩:=aK2 h0;rw[he];exact g.behind hname hh hw hl (by simpa using h2) (dD1 hM hmM hc') (uS hM hmM).1
   .next h2=>
    rw[if_neg h2]at h0;split
    .next h3=>rw[if_pos h3]at h0;simp at h0
    .next h3=>
     have hf:eJ l.hs t (eN (bQ l.hs t) m)=A':=by simpa using h2
     refine g.put hname hf hw (by
      cases hx:aV l.hs t
      .exact .inr (by rw[hx]at h3;simpa using h3)
      .exact .inl rfl) ?_
     by_cases e:bQ l.hs t=0
     .right;rw[e]at h1;rw[e]at hf;rw[hf]at h1;have:¬0<l.qs.length:=by simpa using h1
      exact List.length_eq_zero_iff.1 (by omega)
     .exact .inl ⟨by rw[<-hN];simpa using e,(uS hM hmM).1⟩
theorem cT7(l:Lock)(t m:Int):(cO l t m).2.2.r=l.r:=by
 unfold cO dP;repeat' split
 all_goals rfl
theorem bR4(hg:aS ls=0)(hr:inB r 0 100=A')(hi:i<(bO r ls).length):0<=(aH (bO r ls) i).r/\(aH (bO r ls) i).r<=100/\(0<i->(aH (bO r ls) (i-1)).r<(aH (bO r ls) i).r):=by
 have ho:=fun k hk=>iI ((eL hg).1 k hk);unfold bO at hi⊢;split
 .next h=>rw[if_pos h]at hi;have:=ho i hi;exact⟨this.1,this.2.1,this.2.2.1⟩
 .next h=>
  rw[if_neg h]at hi;have hp:=wZ r ls;have hl:i<ls.length+1:=by simp at hi;omega
  simp only[inB,Bool.and_eq_true,decide_eq_true_eq]at hr;have hafter:aX r ls<ls.length->r<(aH ls (aX r ls)).r:=fun hlt=>by have h1:=bN8 r ls hlt;have h2:(aH ls (aX r ls)).r≠r:=fun e=>h (by unfold aP2;rw[decide_eq_true hlt,e];simp);omega
  rw[wW _ _ _ _ hp,wW _ _ _ _ hp];rcases Nat.lt_trichotomy i (aX r ls)with h1|h1|h1
  .rw[if_pos h1];have:=ho i (by omega);exact⟨this.1,this.2.1,fun h0=>by rw[if_pos (by omega)];exact this.2.2.1 h0⟩
  .rw[if_neg (by omega),if_pos h1];exact⟨hr.1,hr.2,fun h0=>by rw[if_pos (by omega)];exact bO0 r ls (by omega)⟩
  .rw[if_neg (by omega),if_neg (by omega)];have:=ho (i-1) (by omega);refine⟨this.1,this.2.1,fun h0=>?_⟩;rw[if_neg (by omega)];by_cases h2:i-1=aX r ls
   .rw[if_pos h2,h2];exact hafter (by omega)
   .rw[if_neg h2];exact this.2.2.1 (by omega)
theorem zX(r:Int)(ls:List Lock):cH (bO r ls)=cH ls:=by
 unfold bO;split
 .rfl
 .unfold cH;rw[List.flatMap_append,List.flatMap_append];simp only[List.flatMap_cons,List.flatMap_nil,List.append_nil];rw[<-List.flatMap_append,List.take_append_drop]
theorem vO(hk:k<ls.length)(l:Lock):cH (ls.set k l)=cH (ls.take k)++(l.qs++cH (ls.drop (k+1))):=by rw[List.set_eq_take_append_cons_drop,if_pos hk];unfold cH;rw[List.flatMap_append,List.flatMap_cons]
theorem cV2(l:Lock)(k:Nat)(h:Hold):(dP l k h).2.2.qs=l.qs\/((dP l k h).2.2.qs).Perm (h::l.qs):=by
 unfold dP;split
 .exact .inl rfl
 .right;simp only;rw[List.append_assoc,List.singleton_append];refine List.perm_middle.trans ?_;rw[List.take_append_drop]
theorem cL3(l:Lock)(t m:Int):(cO l t m).2.2.qs=l.qs\/∃h:Hold,h.t=t/\((cO l t m).2.2.qs).Perm (h::l.qs):=by
 have key:∀k j,(dP l k ⟨t,j⟩).2.2.qs=l.qs\/∃h:Hold,h.t=t/\((dP l k ⟨t,j⟩).2.2.qs).Perm (h::l.qs):=fun k j=>by
  rcases cV2 l k ⟨t,j⟩with h|h
  .exact .inl h
  .exact .inr ⟨_,rfl,h⟩
 unfold cO;split
 .exact .inl rfl
 .split
  .exact key _ _
  .split
   .exact key _ _
   .split
    .exact .inl rfl
    .exact .inl rfl
theorem cG9(hg:aS ls=0){t m:Int}(ht:inB t 1 999=A')(hr:inB r 0 100=A')(hm:inB m 1 5=A')(hw:gZ ls t=F')(h0:(lA ls t r m).2.1=0):aS (gQ ls t r m)=0:=by
 have hno:∀x∈ls,aV x.qs t=F':=by
  rcases dA6 ls t with⟨_,_,_,hh⟩|⟨hb,_⟩
  .intro x hx;obtain⟨i,hi,rfl⟩:=uC hx;exact hh i hi
  .rw[hw]at hb;cases hb
 have hpl:=(qF r ls).1;have hl:Gd (aH (bO r ls) (aX r ls))/\aV (aH (bO r ls) (aX r ls)).qs t=F':=by
  rcases aP7 (qH hpl)with h|h
  .exact⟨Gd.of (qO hg h),hno _ h⟩
  .rw[h];exact⟨Gd.new r,rfl⟩
 have hx:=bH0 hl.1 ht hm hl.2 h0;refine bL8 (fun i hi=>?_) ?_
 .have hi':i<(bO r ls).length:=by unfold gQ at hi;simpa using hi
  have hrr:∀j,(aH (gQ ls t r m) j).r=(aH (bO r ls) j).r:=fun j=>by
   unfold gQ;rw[sS _ _ _ _ hpl];split
   .next e=>subst e;exact cT7 _ _ _
   .rfl
  obtain⟨a,b,c⟩:=bR4 hg hr hi';rw[hrr,hrr];refine⟨a,b,c,?_⟩;unfold gQ;rw[sS _ _ _ _ hpl];split
  .exact hx.good (bS0 hm h0)
  .next e=>exact qO hg (zY hi' fun e'=>e e'.symm)
 .have h2:=(eL hg).2;rw[<-zX r ls,<-wC (bO r ls) (aX r ls),vO hpl]at h2;unfold gQ;rw[vO hpl];rw[qD]at h2⊢;rcases cL3 (aH (bO r ls) (aX r ls)) t m with e|⟨h,e1,e2⟩
  .show(List.map _ (_++((cO (aH (bO r ls) (aX r ls)) t m).2.2.qs++_))).Nodup;rw[e];exact h2
  .show(List.map _ (_++((cO (aH (bO r ls) (aX r ls)) t m).2.2.qs++_))).Nodup;have hp:(cH ((bO r ls).take (aX r ls))++((cO (aH (bO r ls) (aX r ls)) t m).2.2.qs++cH ((bO r ls).drop (aX r ls+1)))).Perm (h::(cH ((bO r ls).take (aX r ls))++((aH (bO r ls) (aX r ls)).qs++cH ((bO r ls).drop (aX r ls+1))))):=
    ((e2.append_right _).append_left _).trans List.perm_middle
   rw[(hp.map _).nodup_iff,List.map_cons,List.nodup_cons];refine⟨fun hmem=>?_,h2⟩;rw[<-vO hpl,wC,zX]at hmem;obtain⟨x,hx,ex⟩:=List.mem_map.1 hmem;unfold cH at hx;obtain⟨y,hy,hxy⟩:=List.mem_flatMap.1 hx;exact mL.1 (hno y hy) x hxy (ex.trans e1)
end Ch
namespace Ch
theorem bR3(h2:cP (cH ls)=F'){j:Nat}(hi:i<ls.length)(hj:j<ls.length)(ai:aV (aH ls i).qs v=A')(aj:aV (aH ls j).qs v=A'):i=j:=by
 rw[fX]at h2;unfold cH at h2;rw[List.pairwise_flatMap]at h2;have hp:=List.pairwise_iff_getElem.1 h2.2;have e:∀n,(hn:n<ls.length)->aH ls n=ls[n]:=fun n hn=>by simp[aH,List.getD,hn]
 rw[e i hi]at ai;rw[e j hj]at aj;obtain⟨x,hx,ex⟩:=dH.1 ai;obtain⟨y,hy,ey⟩:=dH.1 aj;rcases Nat.lt_trichotomy i j with h|h|h
 .exact absurd (ex.trans ey.symm) (hp i j hi hj h x hx y hy)
 .exact h
 .exact absurd (ey.trans ex.symm) (hp j i hj hi h y hy x hx)
theorem aY0(h2:cP (cH ls)=F')(hx:x∈ls)(h:aV x.qs v=A'):gZ ls v=A'/\dZ ls v=x.r:=by
 obtain⟨i,hi,rfl⟩:=uC hx;have:=aF4 (t:=v) hi (fun j hj=>by
  cases hh:aV (aH ls j).qs v
  .rfl
  .have:=bR3 h2 (by omega) hi hh h;omega) h
 exact⟨this.2.1,this.1⟩
theorem sG(h:∀x∈ls,aV x.qs v=F'):gZ ls v=F'/\dZ ls v= -1:=by have:=aF5 (ls:=ls) (t:=v) fun j hj=>h _ (qH hj);exact⟨this.2.1,this.1⟩
theorem sF(ls:List Lock)(v:Int):(∀x∈ls,aV x.qs v=F')\/∃x∈ls,aV x.qs v=A':=by
 by_cases h:∃x∈ls,aV x.qs v=A'
 .exact .inr h
 .left;intro x hx;cases hh:aV x.qs v
  .rfl
  .exact absurd ⟨x,hx,hh⟩ h
def jL(ls:List Lock)(t:Int):List Lock:=(dG ls t).filter fun l=>!(l.hs.length+l.qs.length==0)
theorem wB{t:Int}:x∈jL ls t↔(∃l∈ls,fQ l t=x)/\0<x.hs.length+x.qs.length:=by unfold jL dG;simp only[List.mem_filter,List.mem_map,Bool.not_eq_true',beq_eq_false_iff_ne];exact and_congr_right fun _=>Nat.pos_iff_ne_zero.symm
theorem cN7(h:aS ls=0):ls.Pairwise fun a b=>a.r<b.r:=by rw[List.pairwise_iff_getElem];intro i j hi hj hij;have:=bP1 h hij hj;simpa[aH,List.getD,hi,hj]using this
theorem bZ8(h1:∀l∈ls,0<=l.r/\l.r<=100/\dF l=0)(h2:ls.Pairwise fun a b=>a.r<b.r)(h3:cP (cH ls)=F'):aS ls=0:=by refine bL8 (fun i hi=>?_) h3;obtain⟨a,b,c⟩:=h1 _ (qH hi);refine⟨a,b,fun h0=>?_,c⟩;have:=List.pairwise_iff_getElem.1 h2 (i-1) i (by omega) hi (by omega);simpa[aH,List.getD,hi,show i-1<ls.length by omega]using this
theorem cW1(h:aS ls=0)(hx:x∈ls):0<=x.r/\x.r<=100:=by obtain⟨i,hi,rfl⟩:=uC hx;have:=iI ((eL h).1 i hi);exact⟨this.1,this.2.1⟩
theorem vN(ls:List Lock)(t:Int):(cH (jL ls t)).Sublist (cH ls):=by
 unfold cH jL dG;induction ls with
 |nil=>exact List.Sublist.refl _
 |cons l ls ih=>
  simp only[List.map_cons,List.flatMap_cons];by_cases hu:(!((fQ l t).hs.length+(fQ l t).qs.length==0))=A'
  .rw[List.filter_cons_of_pos (p:=fun l:Lock=>!(l.hs.length+l.qs.length==0)) hu,List.flatMap_cons];exact(cW0 l t).append ih
  .rw[List.filter_cons_of_neg (p:=fun l:Lock=>!(l.hs.length+l.qs.length==0)) hu];exact ih.trans (List.sublist_append_right _ _)
theorem aC7(hg:aS ls=0)(t:Int):aS (jL ls t)=0:=by
 refine bZ8 (fun l hl=>?_) ?_ ?_
 .obtain⟨⟨x,hx,rfl⟩,hu⟩:=wB.1 hl;obtain⟨a,b⟩:=cW1 hg hx;exact⟨a,b,(dC6 (Gd.of (qO hg hx)) t).good hu⟩
 .unfold jL dG;refine List.Pairwise.filter _ ?_;rw[List.pairwise_map];exact cN7 hg
 .have h2:=(eL hg).2;rw[fX]at h2⊢;exact h2.sublist (vN ls t)
end Ch
theorem bD3(w:World)(b o:Nat)(x y:Value):w.setCells b o [x,y]=(w.setCell ⟨b,o,O⟩ x).setCell ⟨b,o+1,O⟩ y:=rfl
theorem Slt.set2{b:Nat}(h:Slt w b S)(hk:k<100)(o:Option Int):Slt ((w.setCell ⟨b,k*2,O⟩ (X o.isSome)).setCell ⟨b,k*2+1,O⟩ (I J (o.getD 0))) b (S.set k o):=by have:=h.put hk o;rw[Nat.mul_comm]at this;exact this
theorem Slt.cell2{b:Nat}(h:Slt w b S)(hi:i<100):w.cell? ⟨b,i*2,O⟩=Y (X (S i).isSome)/\w.cell? ⟨b,i*2+1,O⟩=Y (I J ((S i).getD 0)):=by rw[Nat.mul_comm];exact h.cell hi
theorem Ch.Sl.set_set(S:Sl)(k:Int)(o p:Option Int):(S.set k o).set k p=S.set k p:=by
 funext q
 simp only[Sl.set];split<;>rfl
theorem sN{s o:Nat}{v:Value}:w.grownBy (w.setCell ⟨s,o,O⟩ v) (Y s):=⟨rfl,rfl,rfl,by simp[World.setCell],fun k _ hne=>Below.heap_setCell _ _ _ _ (by intro e;exact hne (by rw[e]))⟩
theorem aL4{a b c:World}(h:a.grownBy b row)(k:b.grownBy c row):a.grownBy c row:=
 ⟨k.os.trans h.os,k.tape.trans h.tape,k.output.trans h.output,Nat.le_trans h.size k.size,fun i hi hne=>(k.block i (Nat.lt_of_lt_of_le hi h.size) hne).trans (h.block i hi hne)⟩
theorem cM2(w:World)(ty b o c:Nat)(hc:∀j,j<2->(w.cell? ⟨b,o+j,O⟩).isSome=A')(hf:∀j,j<2->w.frozen? ⟨b,o+j,O⟩=F'):
  (Builtin.clear_ #[170] ty #[Z (Y ⟨b,o,O⟩) 1 c]).run prog w= .ok (.tuple #[]) (w.setCells b o [X F',I J 0]):=by
 have hv:∀W,(zeroValue 129).run prog W= .ok (U #[X F',I J 0]) W:=fun _=>by kernel_rfl
 have hzc:(Builtin.zeroCells (Value.cells (U #[X F',I J 0])) 1).toList=[X F',I J 0]:=by kernel_rfl
 have hst:=run_storeCells_cells (P:=prog) b o [X F',I J 0] 0 w (by simpa using hc) (by simpa using hf) (by decide);simp only[Nat.add_zero]at hst;simp[Builtin.clear_,run_underlying underlying170,hv,hzc,hst]
theorem cQ9(b k:Nat)(hk:k<100)(w:World):
  (Instr.sliceAt 131 (.pointer (Y ⟨b,0,O⟩)) (Y (I J (k:Int))) (Y (I J ((k:Int)+1))) O).run prog w= .ok (Z (Y ⟨b,k*2,O⟩) 1 (100-k)) w:=by
 have ha:prog.underlying 131=Y (.array (prog.arrayLen 131) (prog.elem 131)):=by kernel_rfl
 have hl:prog.arrayLen 131=100:=by kernel_rfl
 have he:prog.elem 131=129:=by kernel_rfl
 have hs:=Tryz.sizeOf129;rw[<-he]at hs;rw[run_sliceAt_array_lh (ht:=ha) (h0:=by omega) (h1:=by omega) (h2:=by rw[hl];omega),hs];have e1:(k:Int).toNat=k:=by omega
 have e2:((k:Int)+1).toNat=k+1:=by omega
 rw[hl,e1,e2];unfold Result.andThen slicedAt;dsimp only;rw[if_neg (by omega),aH5,Nat.zero_add,show k+1-k=1 by omega]
theorem bD5(b:Nat)(ky:Int)(hs:Bool)(nw:Int)(S:Sl)(w:World)(h:Slt w b S)(hk:0<=ky/\ky<=99):
  Calls prog 81 #[.pointer (Y ⟨b,0,O⟩),I J ky,X hs,I J nw] w fun e w'=>e=R' (.tuple #[])/\Slt w' b (S.set ky (rT hs nw))/\w.grownBy w' (Y b):=by
 obtain⟨k,rfl⟩:∃k:Nat,ky=k:=⟨ky.toNat,by omega⟩
 have hk':k<100:=by omega
 have hsl:=cQ9 b k hk';have c2:=h.cell2 hk';have hcl:=fun ty c=>cM2 w ty b (k*2) c (fun j hj=>by match j,hj with|0,_=>rw[Nat.add_zero,c2.1];rfl|1,_=>rw[c2.2];rfl) (fun j _=>h.frozen _);rw[bD3]at hcl;have h1:=h.set2 hk' O;have g1:w.grownBy ((w.setCell ⟨b,k*2,O⟩ (X F')).setCell ⟨b,k*2+1,O⟩ (I J 0)) (Y b):=aL4 sN sN;simp only[Option.isSome_none,Option.getD_none]at h1;generalize hW:(w.setCell ⟨b,k*2,O⟩ (X F')).setCell ⟨b,k*2+1,O⟩ (I J 0)=W1 at*;have f0:=h1.frozen (k*2);have f1:=h1.frozen (k*2+1);have c1:=h1.cell2 hk';obtain⟨d0,d1⟩:=c1;have hll:=h1.lt;clear c2 hW;cases hs
 .have HE:Hid (rT F' nw=O):=rfl;rw[HE.out];clear d0 d1 f0 f1;go_enter func81,ntmps81
  go_wp2;exact bodyPost_end (results_none rfl _ _ _) rfl ⟨rfl,h1,g1⟩
 .have HE:Hid (rT A' nw=Y nw):=rfl;rw[HE.out];have h2:=h1.set2 hk' (Y nw);rw[Sl.set_set]at h2;have g2:=aL4 (aL4 g1 (sN (w:=W1) (s:=b) (o:=k*2) (v:=X A'))) (sN (s:=b) (o:=k*2+1) (v:=I J nw));go_enter func81,ntmps81
  go_wp2;exact bodyPost_end (results_none rfl _ _ _) rfl ⟨rfl,h2,g2⟩
end Go.Proofs.YtpbbokalojdooaaGreat
