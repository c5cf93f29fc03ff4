import Derived.Test.YtpbbokalojdooaaGreatQba
namespace Go.Proofs.YtpbbokalojdooaaGreat
open Go.RowKit Ch Go.Proofs.Tryz
set_option linter.unusedSimpArgs false
set_option linter.unusedVariables false
set_option maxRecDepth 20000
set_option maxHeartbeats 8000000
open Value renaming int->I,slice->Z,bool->X,agg->U
open IntKind renaming i64->J
open Option renaming none->O,some->Y
open Obj renaming cells->M
open Ending renaming returned->R'
open Bool renaming true->A',false->F'
variable {ops:Array Oper} {h:Bool} {Q:Exit->Act->World->Prop} {tx:Int} {l ls:List (List Row)} {bs:List Bf} {zs:List Int} {rest:List Oper} {rs:List Rec} {B Bn g k n₀:Nat} {o:Oper} {a:Option Addr} {r:Rec} {v:Value} {A W w:World}
theorem bD8(a1:Option Addr)(n1 c1:Nat)(base:List Row)(a2:Option Addr)(n2 c2:Nat)(rs:List Rec)(w:World)(h1:CellsAt w a1 (n1*3) (rcells base))(h2:CellsAt w a2 (n2*7) (rc7 rs))(hn1:n1<=1048576)(hn2:n2<=1048576):
  Calls prog 32 #[Z a1 n1 c1,Z a2 n2 c2] w fun e w'=>∃a3 m3 c3 a4 m4 c4,RedoAt w w' e (mO base rs) a3 m3 c3 a4 m4 c4:=by
 have IA:=fun W hW=>bD7 a2 n2 c2 rs W hW hn2;have IB:=fun W hW=>tB a1 n1 c1 base W hW hn1;have kA:∀o,Below w.heap.size w (w.alloc o):=fun o=>u'.alloc z' o;obtain⟨c,HC⟩:∃c,Hid (eR rs=c):=⟨_,rfl⟩
 rw[HC.out]at IA;by_cases h0:c=0;rotate_left
 .have hc:(c !=0)=A':=by simpa using h0
  rw[wH HC.out hc];clear HC h0 IB;go_enter func32,ntmps32
  go_wp2_with fail
  refine(IA _ (h2.below (kA _))).mono ?_;rintro e w1⟨rfl,b1⟩;have hR:=aT b1 (heap_alloc_new w _);have b1:=cL b1;have lz:=(Array.getElem?_eq_some_iff.1 hR).1;obtain⟨x0,x1,x2,f0,f1,f2⟩:=oO hR;go_wp2;exact bodyPost_ret (v:=U #[I J c,Z O 0 0,Z O 0 0]) (by simp[results,Tryz.results32,go_sem,x0,x1,x2]) rfl ⟨O,0,0,O,0,0,rX b1⟩
 subst h0;obtain⟨d,HD⟩:∃d,Hid (dM base=d):=⟨_,rfl⟩
 rw[HD.out]at IB;by_cases h0:d=0;rotate_left
 .have hc:(d !=0)=A':=by simpa using h0
  rw[tV HC.out HD.out hc];clear HC HD h0;go_enter func32,ntmps32
  go_wp2_with fail
  refine(IA _ (h2.below (kA _))).mono ?_;rintro e w1⟨rfl,b1⟩;have hR:=aT b1 (heap_alloc_new w _);have b1:=cL b1;clear IA;go_wp2_with fail
  refine(IB _ (h1.below b1)).mono ?_;rintro e w2⟨rfl,b2⟩;have hR:=aT b2 hR;have b2':=b1.trans (b2.mono b1.size);have lz:=(Array.getElem?_eq_some_iff.1 hR).1;obtain⟨x0,x1,x2,f0,f1,f2⟩:=oO hR;go_wp2;exact bodyPost_ret (v:=U #[I J d,Z O 0 0,Z O 0 0]) (by simp[results,Tryz.results32,go_sem,x0,x1,x2]) rfl ⟨O,0,0,O,0,0,rX b2'⟩
 subst h0;rw[vC HC.out HD.out];have IR:=fun W hW1 hW2=>aS5 a1 n1 c1 base a2 n2 c2 rs W hW1 hW2 HC.out HD.out;generalize jG rs=L at*;generalize Ch.rowsS (tQ base rs).s=R at*;clear HC HD;go_enter func32,ntmps32
 go_wp2_with fail
 refine(IA _ (h2.below (kA _))).mono ?_;rintro e w1⟨rfl,b1⟩;have hR:=aT b1 (heap_alloc_new w _);have lz1:=(Array.getElem?_eq_some_iff.1 hR).1;have b1:=cL b1;clear IA;go_wp2_with fail
 refine(IB _ (h1.below b1)).mono ?_;rintro e w2⟨rfl,b2⟩;have hR:=aT b2 hR;have b2':=b1.trans (b2.mono b1.size);have z2:=b2.size;clear IB;go_wp2_with fail
 refine(IR _ (h1.below b2') (h2.below b2')).mono ?_;rintro e w3⟨a3,m3,c3,a4,m4,c4,rfl,hm3,hm4,o3,o4,ap,b3⟩;clear IR;have hR:=aT b3 hR;have b3':=b2'.trans (b3.mono b2'.size);have lz:=(Array.getElem?_eq_some_iff.1 hR).1;obtain⟨x0,x1,x2,f0,f1,f2⟩:=oO hR;go_wp2;refine bodyPost_ret (v:=U #[I J 0,Z a3 m3 c3,Z a4 m4 c4]) (by simp[results,Tryz.results32,go_sem,x0,x1,x2]) rfl ⟨a3,m3,c3,a4,m4,c4,rfl,hm3,hm4,?_,?_,ap,?_⟩
 .refine aP (base:=w2.heap.size) (ownsRow_setCell_below (ownsRow_setCell_below (ownsRow_setCell_below o3 ?_ _) ?_ _) ?_ _) (by omega);all_goals(show w.heap.size<w2.heap.size;omega)
 .refine aP (base:=w2.heap.size) (ownsRow_setCell_below (ownsRow_setCell_below (ownsRow_setCell_below o4 ?_ _) ?_ _) ?_ _) (by omega);all_goals(show w.heap.size<w2.heap.size;omega)
 .exact((b3'.setCell (p:=⟨w.heap.size,0,O⟩) z' _).setCell (p:=⟨w.heap.size,1,O⟩) z' _).setCell (p:=⟨w.heap.size,2,O⟩) z' _
theorem Tryz.info79:(prog.info? 79).map (fun i=>(i.zero,i.size,i.bytes))=Y (Y (U #[I J 0,I J 0,I J 0,X F',I J 0,X F',I J 0]),7,56):=by kernel_rfl
def aC0(a:Option Addr)(cap k:Nat):Option Addr:=if cap=k then a else a.map (·.add k)
theorem aO8(a:Option Addr)(n cap k:Nat)(hk:k<=n)(w:World):
  (Instr.slice 22 (Z a n cap) (Y (I J (k:Int))) O O).run prog w= .ok (Z (aC0 a cap k) (n-k) (cap-k)) w:=by
 have h0:(0:Int)<=(k:Int):=by omega
 have h1:(k:Int)<=(n:Int):=by omega
 have hu:prog.underlying 22=Y (.slice (prog.elem 22)):=by kernel_rfl
 have he:prog.elem 22=5:=by kernel_rfl
 have hs:=sizeOf5;rw[<-he]at hs;unfold aC0;rw[run_slice_l (ht:=hu) (h0:=h0) (h1:=h1),hs];simp[Result.andThen,sliced]
theorem CellsAt.drop{n cap:Nat}(h:CellsAt w a n (bts zs))(hk:k<=n)(hcap:n<=cap):CellsAt w (aC0 a cap k) (n-k) (bts (zs.drop k)):=by
 have hl:=h.len.out;refine⟨by simp[bts];omega,fun h0=>?_⟩;obtain⟨b,off,rfl,hc⟩:=h.2 (by omega);refine⟨b,off+k,?_,fun i hi=>?_⟩
 .unfold aC0;rw[if_neg (by omega)];simp only[Option.map_some,Option.some.injEq];unfold Addr.add;split
  .next h0=>subst h0;rfl
  .rfl
 .rw[Nat.add_assoc,hc (k+i) (by omega)];simp[bts,List.getElem?_drop]
theorem bR7{a:Act}(s x:Operand)
  (B:Nat) (v:Value) (n:Nat) (rs:List Rec) (r:Rec) (hn:n<=1048576)
  (ho:o.op= .call {callee:=.builtin .append,args:=#[s,x],argTypes:=#[31,31]}) (hgd:o.guard=O)
  (hs:a.eval s=v) (hx:∃h c t,a.eval x=Z (Y ⟨h,0,O⟩) 1 c/\w.heap[h]? =Y (M (c7 r).toArray t (0,0)))
  (hown:w.ownsRow B 79 7 v n (rc7 rs)) (hbase:B<=w.heap.size)
  (hK:∀g' cp' w',w'.ownsRow B 79 7 (Z (Y ⟨g',0,O⟩) (n+1) cp') (n+1) (rc7 (rs++[r]))->Below B w w'->wpList prog ops Q rest (a.put o.dst (Z (Y ⟨g',0,O⟩) (n+1) cp')) w'):
  wpList prog ops Q (o::rest) a w:=by
 obtain⟨h,c,t,hx,hblk⟩:=hx;obtain⟨i0,hi,hz0,hz1,hz2⟩:=info_parts Tryz.info79;refine wpList_append_lies _ hgd s x 31 ho B 79 i0 _ 7 56 underlying31 hi hz0 hz1 hz2 rfl (by omega) v n (rc7 rs) hs hown ⟨h,0,O⟩ 1 c (c7 r) hx rfl (World.news_of_block hblk) (by simp[c7,Value.oneCell']) (by omega) (by unfold maxLen;omega) (by omega) hbase _ rfl ?_;intro g' cp' w' hown' hgrow hat hlt;rw[<-aN8]at hown';refine hK g' cp' w' hown' (u'.grown hgrow hbase (fun k hk=>?_));rcases hown.2 with⟨hv,_⟩|⟨g,cap',cur,hv,hb,_⟩
 .subst hv;simp[Value.ownBlock]at hk
 .subst hv;simp[Value.ownBlock]at hk;omega
theorem tJ(zs:List Int):(Ch.first zs=O/\cS zs=(Rec.zero,0))\/(∃r,Ch.first zs=Y r/\cS zs=(r,r.len)):=by
 unfold cS;cases h:Ch.first zs with
 |none=>exact .inl ⟨rfl,rfl⟩
 |some r=>exact .inr ⟨r,rfl,rfl⟩
theorem xP(a:Option Addr)(n cap:Nat)(zs:List Int)(w:World)(h:CellsAt w a n (bts zs))(hb:IsB zs)(hn:n<=1048576)(hcap:n<=cap):
  Calls prog 31 #[Z a n cap] w fun e w'=>∃g c,e=R' (.tuple #[Z (Y ⟨g,0,O⟩) (aU zs).length c,I J (fJ zs)])/\w'.ownsRow w.heap.size 79 7 (Z (Y ⟨g,0,O⟩) (aU zs).length c) (aU zs).length (rc7 (aU zs))/\Below w.heap.size w w':=by
 have HL:=h.len;go_enter func31,ntmps31
 go_wp2;go_loopw [4,5] (fun v i wr=>∃(pre:List Rec) (k m g c:Nat),i=I J (k:Int)/\v=Z (Y ⟨g,0,O⟩) m c/\Hid (m=pre.length/\k<=n/\aU zs=pre++aU (zs.drop k)/\Ch.lenOf pre=k)/\wr.ownsRow w.heap.size 79 7 (Z (Y ⟨g,0,O⟩) m c) m (rc7 pre)/\Below w.heap.size w wr) (fun _ i _=>n-(intOf i).toNat)
 case atStart=>refine⟨[],0,0,w.heap.size,0,rfl,rfl,⟨rfl,Nat.zero_le _,rfl,rfl⟩,?_,q'⟩;exact World.ownsRow_lit w #[] 0 z' (by unfold maxLen;omega) rfl
 case round=>
  obtain⟨pre,k,m,g,c,rfl,rfl,HI,own,hB⟩:=hrel;have hk:Hid (k<=n):=HI.out.2.1;have hsl:=fun W=>aO8 a n cap k hk.out W;have hone:=cO5 (aC0 a cap k) (n-k) (cap-k) (zs.drop k) wr ((h.below hB).drop hk.out hcap) (bK5 hb k) (by omega) (by omega);generalize aC0 a cap k=a' at*;go_wp2_with fail
  refine hone.mono ?_;clear hone hsl;rintro e w1⟨rfl,b1⟩;have hz1:=b1.size;have hB1:=hB.trans (b1.mono hB.size);have own1:=aF own b1;have hzB:=hB.size;clear b1 own;rcases tJ (zs.drop k)with⟨hf,he⟩|⟨r,hf,he⟩
  .rw[he];simp only[recV,Rec.zero];have HE:Hid (pre=aU zs/\fJ zs=k):=by have e1:=HI.out.2.2.1;rw[tT hf,List.append_nil]at e1;refine⟨e1.symm,?_⟩;unfold fJ;rw[e1];exact HI.out.2.2.2
   clear he hf;go_wp2;go_ret2;obtain⟨h1,h2⟩:=HE.out;refine⟨g,c,?_,?_,hB1.alloc (by omega) _⟩
   .rw[h2,<-h1,<-HI.out.1];rfl
   .rw[<-h1,<-HI.out.1];exact own1.alloc _
  .have hl:=mE hf;have hlk:Hid (k+r.len<=n):=by have:=HL.out;simp at hl;show _<=_;have:=hk.out;omega
   have HN:Hid (aU zs=(pre++[r])++aU (zs.drop (k+r.len))/\Ch.lenOf (pre++[r])=k+r.len):=by
    refine⟨?_,?_⟩
    .rw[HI.out.2.2.1,pH hf,List.drop_drop];simp
    .rw[pD,HI.out.2.2.2];rfl
   have hm:Hid (m<=1048576):=by
    have e1:=HI.out.1;have e2:=HI.out.2.2.2;have e3:=hk.out;have:5*pre.length<=Ch.lenOf pre:=by
     generalize pre=rs;induction rs with
     |nil=>simp[Ch.lenOf]
     |cons q rs ih=>rw[qK];have:=q.len_bd;simp;omega
    show _<=_;omega
   rw[he];clear he hf;have hr5:=r.len_bd;obtain⟨kd,tx,ky,hd,ol,hs,nw⟩:=r;simp only[recV];generalize hlen:Rec.len ⟨kd,tx,ky,hd,ol,hs,nw⟩=len at*;have hne:((len:Int)==0)=F':=by simp;omega
   have hlk1:=hlk.out;go_wp2_with(at_builtin;go_must (refine bR7 (.tmp 20) (.tmp 22) w.heap.size (Z (Y ⟨g,0,O⟩) m c) m pre ⟨kd,tx,ky,hd,ol,hs,nw⟩ hm.out ?_ ?_ ?_ ?_ ?_ ?_ ?_;exact rfl;exact rfl;exact rfl;(refine⟨_,_,79,rfl,?_⟩;refine aO ?_;(focus(simp;done)));exact(own1.alloc _).alloc _;(focus(simp;omega));intro g3 c3 w3 own3 b3))
   go_roundw;case rel=>refine⟨pre++[⟨kd,tx,ky,hd,ol,hs,nw⟩],k+len,m+1,g3,c3,by go_num,rfl,⟨by simp[HI.out.1],hlk1,HN.out.1,HN.out.2⟩,own3,((hB1.alloc (by omega) _).alloc (by simp;omega) _).trans b3⟩
   case measure=>simp[intOf];omega
section
open Go.Shelf
attribute [local go_sem] Oper.semAt_some
abbrev dB8(x:Int×Rec):Array Value:=#[I J x.1,U #[I J x.2.kd,I J x.2.tx,I J x.2.ky,X x.2.hd,I J x.2.ol,X x.2.hs,I J x.2.nw]]
def gS:Nat->List Rec->List (Int×Rec)
 |_,[]=>[]
 |k,r::rs=>(((k+r.len:Nat):Int),r)::gS (k+r.len) rs
theorem yQ(k:Nat)(rs:List Rec)(r:Rec):gS k (rs++[r])=gS k rs++[(((k+Ch.lenOf rs+r.len:Nat):Int),r)]:=by
 induction rs generalizing k with
 |nil=>simp[gS,Ch.lenOf]
 |cons q rs ih=>simp only[List.cons_append,gS,ih,qK];simp[Nat.add_assoc]
theorem uL(k:Nat)(rs:List Rec):(gS k rs).length=rs.length:=by
 induction rs generalizing k with
 |nil=>rfl
 |cons q rs ih=>simp[gS,ih]
theorem bI9(k:Nat)(rs:List Rec):(gS k rs).map (·.2)=rs:=by
 induction rs generalizing k with
 |nil=>rfl
 |cons q rs ih=>simp[gS,ih]
def KpB(n₀ Bn:Nat)(W W':World):Prop:=Below n₀ W W'/\∀v,W.cell? ⟨Bn,0,O⟩=Y v->W'.cell? ⟨Bn,0,O⟩=Y v
theorem KpB.t{B C:World}(h:KpB n₀ Bn A B)(k:KpB n₀ Bn B C):KpB n₀ Bn A C:=⟨h.1.trans k.1,fun v hv=>k.2 v (h.2 v hv)⟩
theorem KpB.b(hm:n₀<=w.heap.size)(W:World)(l:Nat)(o o':Obj)(hl:w.heap.size<=l)(ho:W.heap[l]? =Y o)(hc:o.isCells=F')(hw:o.isWalk=F'):KpB n₀ Bn W (W.putObj l o'):=by
 refine⟨belowK_b (w:=w) hm W l o o' hl ho hc hw,fun v hv=>?_⟩;by_cases e:Bn=l
 .subst e;exfalso;unfold World.cell? at hv;simp only[ho]at hv;cases o<;>simp[Obj.isCells]at hc hv
 .have:(W.putObj l o').heap[Bn]? =W.heap[Bn]? :=World.putObj_heap_other e;unfold World.cell? at hv⊢;simp only[this];exact hv
theorem pP{B:World}(h:Below A.heap.size A B):A.grownBy B O:=⟨h.os,h.tape,h.output,h.size,fun k hk _=>h.block k hk⟩
theorem cB2(a:Option Addr)(n cap:Nat)(w:World):
  Calls prog 33 #[Z a n cap] w fun e w'=>e=R' (.func (.func 75) #[] #[.pointer (Y ⟨w.heap.size,0,O⟩)])/\w'=w.alloc (M #[Z a n cap] 22):=by
 go_enter func33,ntmps33
 go_wp2;go_ret;exact⟨rfl,rfl⟩
set_option maxRecDepth 100000 in
set_option maxHeartbeats 2000000 in
theorem cY8(m l Bn:Nat)(hm:1<=m)(a:Option Addr)(n cap:Nat)(zs:List Int)(w0:World)(h:CellsAt w0 a n (bts zs))(hb:IsB zs)(hn:n<=1048576)(hcap:n<=cap)(J' Jx:List (Int×Rec)->World->Prop)(B0:Nat)(hJ:AbidesFrom B0 J')
  (hY:∀pre x W,J' pre W->pre.length<(aU zs).length->YieldAt Fence.wide (m-1) prog l (dB8 x) W fun e W'=>
   (e=R' (X A')/\J' (pre++[x]) W'/\KpB w0.heap.size Bn W W')\/(e=R' (X F')/\Jx (pre++[x]) W'))
  (W:World) (hBn:W.cell? ⟨Bn,0,O⟩=Y (Z a n cap)) (hW:Below w0.heap.size w0 W) (h0:J' [] W):
  CallsIn Fence.wide m prog 75 #[.func (.yield l) #[] #[],.pointer (Y ⟨Bn,0,O⟩)] W fun e W'=>(∃v,e=R' v)/\
   ((∃ys,ys=gS 0 (aU zs)/\J' ys W')\/(∃pre,True/\Jx pre W')):=by
 have HL:=h.len;refine callsIn_of_wp func75 rfl trivial ?_ rfl;simp only[ntmps75,List.size_toArray,List.length_cons,List.length_nil,Nat.reduceAdd,Nat.reduceSub,Array.replicate_succ,Array.replicate_zero,List.push_toArray,List.append_toArray,List.nil_append,List.cons_append];gi_wp2
 gi_loopw [3] (fun i wr=>∃(pre:List Rec) (k:Nat),i=I J (k:Int)/\Hid (k<=n/\aU zs=pre++aU (zs.drop k)/\Ch.lenOf pre=k)/\J' (gS 0 pre) wr/\Below w0.heap.size w0 wr/\wr.cell? ⟨Bn,0,O⟩=Y (Z a n cap))
  (fun i _=>n-(intOf i).toNat)
 case atStart=>exact⟨[],0,rfl,⟨Nat.zero_le _,rfl,rfl⟩,h0,hW,hBn⟩
 case round=>
  obtain⟨pre,k,rfl,HI,hJs,hB,hc⟩:=hrel;have hk:Hid (k<=n):=HI.out.1;have hsl:=fun W=>aO8 a n cap k hk.out W;have hone:=aZ8 (aC0 a cap k) (n-k) (cap-k) (zs.drop k) wr ((h.below hB).drop hk.out hcap) (bK5 hb k) (by omega) (by omega);generalize aC0 a cap k=a' at*;gi_wp2_with fail
  refine⟨trivial,(callsIn_wide.2 hone).mono ?_⟩;clear hone hsl;rintro e w1⟨rfl,b1⟩;have hJ1:=hJ _ _ _ O hJs (pP b1) (fun r e=>by cases e);have hB1:=hB.trans (b1.mono hB.size);have hc1:=aC b1 hc;have hz:=hB1.size;clear b1 hJs hB hc;rcases tJ (zs.drop k)with⟨hf,he⟩|⟨r,hf,he⟩
  .rw[he];simp only[recV,Rec.zero];have HE:Hid (pre=aU zs):=by have e1:=HI.out.2.1;rw[tT hf,List.append_nil]at e1;exact e1.symm
   clear he hf;gi_wp2
   refine⟨fun _ h=>(by cases h),?_⟩;gi_wp2
   refine bodyPost_ret (results_none rfl _ _ _) rfl ?_;refine⟨⟨_,rfl⟩,.inl ⟨_,by rw[<-HE.out],?_⟩⟩;exact hJ _ _ _ O hJ1 (pP (q')) (fun r e=>by cases e)
  .have hl:=mE hf;have hlk:Hid (k+r.len<=n):=by have:=HL.out;simp at hl;show _<=_;have:=hk.out;omega
   have HN:Hid (aU zs=(pre++[r])++aU (zs.drop (k+r.len))/\Ch.lenOf (pre++[r])=k+r.len/\gS 0 (pre++[r])=gS 0 pre++[(((k+r.len:Nat):Int),r)]):=by
    refine⟨?_,?_,?_⟩
    .rw[HI.out.2.1,pH hf,List.drop_drop];simp
    .rw[pD,HI.out.2.2];rfl
    .rw[yQ,HI.out.2.2,Nat.zero_add]
   have hlen:Hid ((gS 0 pre).length<(aU zs).length):=by show _<_;rw[uL,HI.out.2.1,pH hf];simp
   rw[he];clear he hf;have hr5:=r.len_bd;obtain⟨kd,tx,ky,hd,ol,hs,nw⟩:=r;simp only[recV];have hJ2:J' (gS 0 pre) (w1.alloc (nO kd tx ky hd ol hs nw)):=hJ _ _ _ O hJ1 (pP (q')) (fun r e=>by cases e);have hY2:=hY (gS 0 pre) (((k+Rec.len ⟨kd,tx,ky,hd,ol,hs,nw⟩:Nat):Int),⟨kd,tx,ky,hd,ol,hs,nw⟩) _ hJ2 hlen.out;clear hY hJ2 hJ1;generalize hlen:Rec.len ⟨kd,tx,ky,hd,ol,hs,nw⟩=len at*;obtain⟨fn,tmps,assign,body,hy,hR⟩:=hY2;dsimp only[dB8]at hy;have hne:((len:Int)==0)=F':=by simp;omega
   have hlk1:=hlk.out;have hcast:((k+len:Nat):Int)=(k:Int)+(len:Int):=by omega
   rw[hcast]at hy hR;gi_wp2
   refine hR.mono ?_;rintro e W3 (⟨rfl,hJ3,hk3⟩|⟨rfl,hJx3⟩)
   .have hB3:=(hB1.alloc hz (nO kd tx ky hd ol hs nw)).trans hk3.1;have hc3:=hk3.2 _ (aC (q') hc1);clear hR hy;gi_wp2
    go_roundw;case rel=>refine⟨pre++[⟨kd,tx,ky,hd,ol,hs,nw⟩],k+len,by go_num,⟨hlk1,HN.out.1,HN.out.2.1⟩,?_,hB3,hc3⟩;rw[HN.out.2.2,hcast];exact hJ3
    case measure=>simp[intOf];omega
   .clear hR hy;gi_wp2
    refine bodyPost_ret (results_none rfl _ _ _) rfl ?_;exact⟨⟨_,rfl⟩,.inr ⟨_,trivial,hJx3⟩⟩
theorem cB3(m Bn:Nat)(hm:1<=m)(a:Option Addr)(n cap:Nat)(zs:List Int)(w0 w:World)(h:CellsAt w0 a n (bts zs))(hb:IsB zs)(hn:n<=1048576)(hcap:n<=cap)
  (hW0:Below w0.heap.size w0 w) (hc:w.cell? ⟨Bn,0,O⟩=Y (Z a n cap)):
  SeqStopsK Fence.wide m prog 75 #[.pointer (Y ⟨Bn,0,O⟩)] dB8 (KpB w0.heap.size Bn) (fun ys=>ys=gS 0 (aU zs)) (fun _=>True) (aU zs).length w:=fun l J' Jx W hW hJ _ hY h0=>
 cY8 m l Bn hm a n cap zs w0 h hb hn hcap J' Jx _ hJ hY W (aC hW hc) (hW0.trans (hW.mono hW0.size)) h0
end
theorem dE2(rs:List Rec):∀u∈rc7 rs,u.oneCell'=A':=by intro u hu;unfold rc7 at hu;obtain⟨r,_,hr⟩:=List.mem_flatMap.1 hu;simp only[c7,List.mem_cons,List.not_mem_nil,or_false]at hr;rcases hr with rfl|rfl|rfl|rfl|rfl|rfl|rfl<;>rfl
theorem dD6{t:TypeId}{H:Nat}(hH:H=w.heap.size):CellsAt (w.alloc (M #[I J r.kd,I J r.tx,I J r.ky,X r.hd,I J r.ol,X r.hs,I J r.nw] t)) (Y ⟨H,0,O⟩) (1*7) (rc7 [r]):=by subst hH;refine⟨rfl,fun _=>⟨_,_,rfl,fun i hi=>?_⟩⟩;rw[Nat.zero_add];have:=cell_of_row (w.alloc (M #[I J r.kd,I J r.tx,I J r.ky,X r.hd,I J r.ol,X r.hs,I J r.nw] t)) _ i _ _ _ (heap_alloc_new w _);rw[this];simp[rc7,c7]
theorem cQ8{n ty:Nat}{c:Nat}(hown:w.ownsRow B 79 7 v n (rc7 rs))(hc:CellsAt w (Y ⟨g,0,O⟩) (1*7) (rc7 [r]))(hn:n<=1048576)(hbase:B<=w.heap.size):
  ∃a' c' w',(Builtin.append_ #[31,31] ty #[v,Z (Y ⟨g,0,O⟩) 1 c]).run prog w= .ok (Z a' (n+1) c') w'/\w'.ownsRow B 79 7 (Z a' (n+1) c') (n+1) (rc7 (rs++[r]))/\w.grownBy w' v.ownBlock/\
   ∀g,(Z a' (n+1) c').ownBlock=Y g->v.ownBlock=Y g\/w.heap.size<=g:=by
 obtain⟨i0,hi,hz0,hz1,hz2⟩:=info_parts Tryz.info79;obtain⟨v',w',hr,h2,h3,_,h5⟩:=run_append_own_at (P:=prog) w B 31 ty 79 i0 _ 7 56 underlying31 hi hz0 hz1 hz2 rfl (by omega) v n (rc7 rs) hown ⟨g,0,O⟩ 1 c (rc7 [r]) hc.1 (fun j u hj=>by
   have hjl:j<(rc7 [r]).length:=(List.getElem?_eq_some_iff.1 hj).1;have hl:=hc.1;obtain⟨b,off,ha,hcc⟩:=hc.2 (by omega);simp only[Option.some.injEq,Addr.mk.injEq,and_true]at ha;obtain⟨rfl,rfl⟩:=ha;have e:(⟨g,0,O⟩:Addr).add j=⟨g,0+j,O⟩:=by
    unfold Addr.add;split
    .next h0=>subst h0;rfl
    .rfl
   rw[e,hcc j (by omega),hj]) (dE2 [r]) (by unfold maxLen;omega) (by omega) hbase
 obtain⟨a',c',rfl⟩:=dI h2;refine⟨a',c',w',hr,by rw[aN8];simpa[rc7]using h2,h3,fun g hg=>?_⟩;rcases h5 with h5|h5
 .exact .inl (by rw[<-h5];exact hg)
 .right;rw[h5]at hg;simp at hg;omega
theorem bF1{a:Act}(s x:Operand)
  (ho:o.op= .call {callee:=.builtin .append,args:=#[s,x],argTypes:=#[31,31]}) (hgd:o.guard=O)
  (B:Nat) (v:Value) (n:Nat) (rs:List Rec) (g c:Nat) (r:Rec) (hs:a.eval s=v) (hx:a.eval x=Z (Y ⟨g,0,O⟩) 1 c)
  (hown:w.ownsRow B 79 7 v n (rc7 rs)) (hc:CellsAt w (Y ⟨g,0,O⟩) (1*7) (rc7 [r])) (hn:n<=1048576) (hbase:B<=w.heap.size)
  (hK:∀a' c' w',w'.ownsRow B 79 7 (Z a' (n+1) c') (n+1) (rc7 (rs++[r]))->w.grownBy w' v.ownBlock->(∀g,(Z a' (n+1) c').ownBlock=Y g->v.ownBlock=Y g\/w.heap.size<=g)->wpList prog ops Q rest (a.put o.dst (Z a' (n+1) c')) w'):
  wpList prog ops Q (o::rest) a w:=by
 obtain⟨a',c',w',hr,h2,h3,h4⟩:=cQ8 (ty:=o.type) (c:=c) hown hc hn hbase;exact Lib.wpList_append_run w hgd s x _ _ ho _ _ hs hx _ _ hr (hK a' c' w' h2 h3 h4)
theorem rY{t:TypeId}{u0 u1 u2:Value}(h:W.heap[g]? =Y (M #[u0,u1,u2] t (0,0))):
  W.cell? ⟨g,0,O⟩=Y u0/\W.cell? ⟨g,1,O⟩=Y u1/\W.cell? ⟨g,2,O⟩=Y u2/\W.frozen? ⟨g,0,O⟩=F'/\W.frozen? ⟨g,1,O⟩=F'/\W.frozen? ⟨g,2,O⟩=F':=
 ⟨cell_of_row _ _ _ _ _ _ h,cell_of_row _ _ _ _ _ _ h,cell_of_row _ _ _ _ _ _ h,by simp[World.frozen?,h],by simp[World.frozen?,h],by simp[World.frozen?,h]⟩
theorem bX6{R:Nat}{t:TypeId}{u0 u1 u2 u3 u4 u5 u6:Value}(h:w.heap[R]? =Y (M #[u0,u1,u2,u3,u4,u5,u6] t (0,0)))(v0 v1 v2 v3 v4 v5 v6:Value):(((((((w.setCell ⟨R,0,O⟩ v0).setCell ⟨R,1,O⟩ v1).setCell ⟨R,2,O⟩ v2).setCell ⟨R,3,O⟩ v3).setCell ⟨R,4,O⟩ v4).setCell ⟨R,5,O⟩ v5).setCell ⟨R,6,O⟩ v6).heap[R]? =Y (M #[v0,v1,v2,v3,v4,v5,v6] t (0,0)):=by have h0:=Joins.block_setCell (i:=0) h v0;have h1:=Joins.block_setCell (i:=1) h0 v1;have h2:=Joins.block_setCell (i:=2) h1 v2;have h3:=Joins.block_setCell (i:=3) h2 v3;have h4:=Joins.block_setCell (i:=4) h3 v4;have h5:=Joins.block_setCell (i:=5) h4 v5;have h6:=Joins.block_setCell (i:=6) h5 v6;simpa using h6
def LvK(w:World)(B K:Nat)(lv:Value)(m:Nat)(ls:List (List Row)):Prop:=
 ∃vs lo hi,OwnV w B lv m vs ls/\B<=lo/\hi<=w.heap.size/\(∀g,lv.ownBlock=Y g->lo<=g/\g<hi)/\(∀(i:Nat) (x:Value) (g:Nat),vs[i]? =Y x->x.ownBlock=Y g->lo<=g/\g<hi)/\(K<lo\/hi<=K)
def OwnO(w:World)(B O':Nat)(lv:Value)(m:Nat)(ls:List (List Row))(rv:Value)(p:Nat)(rs:List Rec):Prop:=
 ∃vs lo hi,OwnV w B lv m vs ls/\w.ownsRow B 79 7 rv p (rc7 rs)/\B<=lo/\hi<=w.heap.size/\(∀g,lv.ownBlock=Y g->lo<=g/\g<hi)/\(∀(i:Nat) (x:Value) (g:Nat),vs[i]? =Y x->x.ownBlock=Y g->lo<=g/\g<hi)/\(∀g,rv.ownBlock=Y g->(g<lo\/hi<=g)/\g≠O')/\(O'<lo\/hi<=O')
theorem OwnO.own{O' m p:Nat}{lv rv:Value}(h:OwnO w B O' lv m ls rv p rs):OwnU w B lv m ls rv p rs:=by obtain⟨vs,lo,hi,h1,h2,h3,h4,h5,h6,h7,_⟩:=h;exact⟨vs,lo,hi,h1,h2,h3,h4,h5,h6,fun g hg=>(h7 g hg).1⟩
theorem bH8(h:eE bs=0)(hk:k<bs.length):(bs.getD k Bf.zero).fault=0:=cL8 h _ (by simp[List.getD,hk])
theorem aR0{k v:Int}(hf:(⟨k,h,v⟩:Bf).fault=0):inB k 0 99=A':=by
 unfold Bf.fault at hf;by_cases h1:(!inB k 0 99||!inB v 0 9999)=A'
 .rw[if_pos h1]at hf;cases hf
 .simp only[Bool.or_eq_true,Bool.not_eq_true',not_or,Bool.not_eq_false]at h1;exact h1.1
theorem bH7{k v:Int}(hg:aL ls=0)(ht:inB tx 1 999=A')(hf:(⟨k,h,v⟩:Bf).fault=0):
  ((dO ls k h v).1=0->fL tx (0,ls,rs) ⟨k,h,v⟩=(0,(dO ls k h v).2,rs++[⟨3,tx,k,(Ch.bf k (Ch.has ls k)).h,(Ch.bf k (Ch.has ls k)).v,h,v⟩]))/\(∀c,(dO ls k h v).1=c->(c !=0)=A'->fL tx (0,ls,rs) ⟨k,h,v⟩=(c,[],[])):=by
 have hF:jQ ls tx [⟨k,h,v⟩]=0:=by rw[aO7 hg ht];exact hf
 refine⟨fun hs=>?_,fun c hs hc=>?_⟩
 .have e:=xX hF hs;rw[aH9 (b:=⟨k,h,v⟩) (by rw[e]),e];rfl
 .exact yG (b:=⟨k,h,v⟩) (by rw[sZ hF hs hc]) hc
theorem aI0{c:Int}(hc:(c !=0)=A')(h:cX tx ls (bs.drop k)=(c,l,rs)):cX tx ls bs=(c,l,rs):=by
 induction k with
 |zero=>rwa[List.drop_zero]at h
 |succ k ih=>
  by_cases hk:k<bs.length
  .exact ih (by rw[yH hk,h,yE hc])
  .refine ih ?_;rw[List.drop_of_length_le (by omega)]at h⊢;exact h
theorem bZ2(a:Option Addr)(n cap:Nat)(tx:Int)(ab:Option Addr)(nb cb:Nat)(ls:List (List Row))(bs:List Bf)(w:World)(h:LvAt w a n ls)(hg:aL ls=0)(ht:inB tx 1 999=A')(hf:eE bs=0)(hb:CellsAt w ab (nb*3) (bfcells bs))(hnb:nb<=40):
  Calls prog 216 #[Z a n cap,I J tx,Z ab nb cb] w fun e w'=>∃a' m c' r p q,e=R' (U #[I J (cX tx ls bs).1,Z a' m c',Z r p q])/\OwnU w' w.heap.size (Z a' m c') m (cX tx ls bs).2.1 (Z r p q) p (cX tx ls bs).2.2/\Below w.heap.size w w':=by
 have hs:=iV hg;have HL:=hb.bflen;have hgl:∀k,k<n->(ls.getD k []).length≠0:=fun k hk=>(fR hg k (by have:=h.len.out;omega)).1;have b0:=f' w (M #[I J 0,Z O 0 0,Z O 0 0] 285);go_enter func216,ntmps216
 go_wp2_with fail
 refine(oU a n cap ls _ (h.below b0) hs hgl).mono ?_;rintro e w1⟨a1,c1,rfl,o1,b1⟩;have hR1:=aR b1 (heap_alloc_new w _);have bE:=cL b1;have z1:=b1.size;simp at z1;obtain⟨vs,o1⟩:=o1.told;have o1':OwnV w1 (w.heap.size+1) (Z a1 n c1) n vs ls:=by simpa using o1
 clear o1 b1 b0;have hR2:=(Below.heap_alloc w1 (M #[I J 0,Z a1 n c1,Z O 0 0] 285) _ (by omega)).trans hR1;have kO:=f' w1 (M #[I J 0,Z a1 n c1,Z O 0 0] 285);go_wp2;go_loopw [8] (fun i wr=>∃(k:Nat) (al:Option Addr) (ml cl:Nat) (r:Option Addr) (p q:Nat),k<=nb/\i=I J ((k:Int)-1)/\Hid ((cX tx ls (bs.drop k)).1=0)/\wr.heap[w.heap.size]? =Y (M #[I J 0,Z O 0 0,Z O 0 0] 285 (0,0))/\wr.heap[w1.heap.size]? =Y (M #[I J 0,Z al ml cl,Z r p q] 285 (0,0))/\OwnO wr (w.heap.size+1) w1.heap.size (Z al ml cl) ml (cX tx ls (bs.drop k)).2.1 (Z r p q) p (cX tx ls (bs.drop k)).2.2/\w1.heap.size+1<=wr.heap.size/\Below w.heap.size w wr) (fun i _=>(intOf i+1).toNat)
 case atStart=>have hend:=bH6 (tx:=tx) (ls:=ls) (bs:=bs) (k:=nb) (by have:=HL.out;omega);refine⟨nb,a1,n,c1,O,0,0,z',rfl,by rw[hend];rfl,hR2,heap_alloc_new w1 _,?_,by simp,bE.alloc bE.size _⟩;rw[hend];exact⟨vs,w.heap.size+1,w1.heap.size,o1'.below kO,World.ownsRow_nil _ _ _ _,z',by simp,aG o1'.2.1,o1'.lt,fun g hg=>by simp[Value.ownBlock]at hg,.inr z'⟩
 case round=>
  clear hR2 kO o1' hR1;obtain⟨k,al,ml,cl,r,p,q,hk,rfl,H0,hR,hO,UO,hsz,hB⟩:=hrel;have hzw:w.heap.size<wr.heap.size:=(Array.getElem?_eq_some_iff.1 hR).1;have hzo:w1.heap.size<wr.heap.size:=(Array.getElem?_eq_some_iff.1 hO).1;obtain⟨x0,x1,x2,f0,f1,f2⟩:=rY hR;obtain⟨y0,y1,y2,g0,g1,g2⟩:=rY hO;cases k with
  |zero=>
   rw[List.drop_zero]at H0 UO;have hm1:(((0:Nat):Int)-1)= -1:=by omega
   rw[hm1];have hdec:decide ((0:Int)<= -1)=F':=by decide
   have UU:=UO.own;clear UO;go_wp2;refine bodyPost_ret (v:=U #[I J 0,Z al ml cl,Z r p q]) (by simp[results,Tryz.results216,go_sem,x0,x1,x2]) rfl ⟨al,ml,cl,r,p,q,by rw[H0.out],?_,((hB.setCell (p:=⟨w.heap.size,0,O⟩) z' _).setCell (p:=⟨w.heap.size,1,O⟩) z' _).setCell (p:=⟨w.heap.size,2,O⟩) z' _⟩;exact(((UU.low (Nat.lt_succ_self _) _).low (Nat.lt_succ_self _) _).low (Nat.lt_succ_self _) _).base (Nat.le_succ _)
  |succ i=>
   have hil:i<bs.length:=by have:=HL.out;omega
   have hin:i<nb:=by omega
   have hm1:(((i+1:Nat):Int)-1)=(i:Int):=by omega
   rw[hm1];have keep:=qX (tx:=tx) hg (bs.drop (i+1));have hnext:=hid (yH (tx:=tx) (ls:=ls) hil);have hfi:=bH8 hf hil;have hstand:=hid (fun c hc h=>aI0 (tx:=tx) (c:=c) (ls:=ls) (l:=[]) (rs:=[]) (bs:=bs) (k:=i) hc h);obtain⟨b,off,rfl,q0,q1,q2⟩:=(hb.below hB).bef (show i<nb by omega);have hbl:=aD q0;generalize bs.getD i Bf.zero=bb at*;obtain⟨bk,bh,bv⟩:=bb;simp only at q0 q1 q2;generalize hst:cX tx ls (bs.drop (i+1))=st at*;obtain⟨sc,l,rs⟩:=st;have hsc:sc=0:=H0.out;subst hsc;have hlg:aL l=0:=keep.2.2 rfl;have hpl:p<=1048576:=by have h1:=UO.own.len.2;have h2:=keep.2.1;have h3:=HL.out;simp at h1 h2;omega
   have hset:=hid (bH7 (rs:=rs) hlg ht hfi);have LV:=UO.own.lv (iV hlg);have SI:=fun W hW=>aW1 al ml cl tx bk bh bv l W hW hlg (aR0 hfi);generalize Ch.bf bk (Ch.has l bk)=bb at*;obtain⟨_,rh,ro⟩:=bb;generalize dO l bk bh bv=Y' at*;obtain⟨yc,nl⟩:=Y';simp only at hset SI;clear hst keep hfi H0;generalize hOO:w1.heap.size=O' at*;go_upto_region 5 with fail
   go_cut [9,10,11] (fun s9 s10 s11 wx=>∃K a2 m2 c2,s9=Z a2 m2 c2/\s10= .pointer (Y ⟨K,0,O⟩)/\s11=I J yc/\wx.heap[K]? =Y (M #[I J 2,I J tx,I J bk,X rh,I J ro,X bh,I J bv] 79 (0,0))/\LvK wx wr.heap.size K (Z a2 m2 c2) m2 nl/\wr.heap.size<=K/\Below wr.heap.size wr wx)
   case first=>
    have HS:Hid (∀W',Below wr.heap.size wr W'->W'.cell? ⟨O',1,O⟩=Y (Z al ml cl)/\W'.cell? ⟨b,off+i*3,O⟩=Y (I J bk)/\W'.cell? ⟨b,off+i*3+1,O⟩=Y (X bh)/\W'.cell? ⟨b,off+i*3+2,O⟩=Y (I J bv)/\Below wr.heap.size wr W'):=fun W' hW=>⟨aC hW y1,aC hW q0,aC hW q1,aC hW q2,hW⟩
    refine R0 (fun W'=>W'.cell? ⟨O',1,O⟩=Y (Z al ml cl)/\W'.cell? ⟨b,off+i*3,O⟩=Y (I J bk)/\W'.cell? ⟨b,off+i*3+1,O⟩=Y (X bh)/\W'.cell? ⟨b,off+i*3+2,O⟩=Y (I J bv)/\Below wr.heap.size wr W') (HS.out _ u'.drew) (fun hH=>?_);have hwd:wr.heap.size<=wr.drew.heap.size:=(Below.refl wr.heap.size wr).drew.size;generalize wr.drew=wd at*;refine R5 0 1 2 3 4 ?_;refine R5 5 6 7 8 9 ?_;refine R5 10 11 12 13 14 ?_;refine R3 15 16 17 ?_;refine wpAnyH_ready (rs:=[18,23]) (by kernel_rfl) (by simp) ?_;refine AllReadyH.cons rfl (fun K hK=>?_) (AllReadyH.cons rfl (fun K hK=>?_) AllReadyH.nil);focus
     go_simp;refine(SI _ (LV.below hH.2.2.2.2)).mono ?_;rintro e v1⟨a2,m2,c2,rfl,o2,bv1⟩;have Bv1:=hH.2.2.2.2.trans (bv1.mono hH.2.2.2.2.size);go_wp2_with fail
     refine hK.out _ _ ?_ (fun hH=>?_)
     .exact HS.out _ Bv1
     clear hK K;refine R4 19 20 21 22 ?_;refine R6 23 (fun K hK=>?_);go_simp;refine hK.out _ _ ?_ (fun hH=>?_)
     .exact HS.out _ (Bv1.alloc Bv1.size _)
     clear hK K;refine R1 24 ?_;refine R6 25 (fun K hK=>?_);go_simp;refine hK.out _ _ ?_ (fun hH=>?_)
     .exact HS.out _ (Bv1.alloc Bv1.size _)
     clear hK K;refine R1 26 ?_;refine R7 ?_;go_wp2_with fail
     go_meet;refine⟨v1.heap.size,a2,m2,c2,rfl,rfl,rfl,heap_alloc_new v1 _,?_,Bv1.size,Bv1.alloc Bv1.size _⟩;obtain⟨vs,o2⟩:=o2.told;exact⟨vs,wd.heap.size,v1.heap.size,(o2.below (q')).base hwd,hwd,by simp,aG o2.2.1,o2.lt,.inr z'⟩
    focus
     go_simp;refine hK.out _ _ ?_ (fun hH=>?_)
     .exact HS.out _ (hH.2.2.2.2.alloc hH.2.2.2.2.size _)
     clear hK K;have BA:=hH.2.2.2.2;refine R6 18 (fun K hK=>?_);go_simp;refine(SI _ (LV.below BA)).mono ?_;rintro e v1⟨a2,m2,c2,rfl,o2,bv1⟩;have hK1:=aR bv1 (heap_alloc_new wd _);have Bv1:=BA.trans (bv1.mono BA.size);have zv:=bv1.size;simp at zv;go_wp2_with fail
     refine hK.out _ _ ?_ (fun hH=>?_)
     .exact HS.out _ Bv1
     clear hK K;obtain⟨⟨k0,k1,k2,k3,k4,k5,k6⟩,fk⟩:=mP hK1;have f0:=fk 0;have f1:=fk 1;have f2:=fk 2;have f3:=fk 3;have f4:=fk 4;have f5:=fk 5;have f6:=fk 6;have hkz:=aD k0;clear fk;refine R5 19 20 21 22 24 ?_;refine R6 25 (fun K hK=>?_);go_simp;refine hK.out _ _ ?_ (fun hH=>?_)
     .exact HS.out _ (mG Bv1 hwd _ _ _ _ _ _ _)
     clear hK K;refine R1 26 ?_;refine R7 ?_;go_wp2_with fail
     go_meet;refine⟨wd.heap.size,a2,m2,c2,rfl,rfl,rfl,bX6 hK1 _ _ _ _ _ _ _,?_,hwd,mG Bv1 hwd _ _ _ _ _ _ _⟩;obtain⟨vs,o2⟩:=o2.told;have o3:OwnV v1 (wd.heap.size+1) (Z a2 m2 c2) m2 vs nl:=by simpa using o2
     exact⟨vs,wd.heap.size+1,v1.heap.size,(o3.store7 (Nat.lt_succ_self _) _ _ _ _ _ _ _).base (by omega),by omega,by simp,aG o3.2.1,o3.lt,.inl (Nat.lt_succ_self _)⟩
   case rest=>
    obtain⟨w2,hwn⟩:∃x:World,x=wc:=⟨_,rfl⟩
    subst hwn;obtain⟨K,a2,m2,c2,rfl,rfl,rfl,hK,LK,hwK,bC⟩:=hcut;have hR2:=aR bC hR;have hO2:=aR bC hO;obtain⟨x0,x1,x2,f0,f1,f2⟩:=rY hR2;obtain⟨y0,y1,y2,g0,g1,g2⟩:=rY hO2;obtain⟨⟨k0,k1,k2,k3,k4,k5,k6⟩,fk⟩:=mP hK;have fk0:=fk 0;have hkz:=aD k0;have bW:=hB.trans (bC.mono hB.size);clear fk;by_cases hy:yc=0;rotate_left
    .have hyc:(yc !=0)=A':=by simpa using hy
     have HX:=hid (hstand.out yc hyc (hnext.out.trans (hset.out.2 yc rfl hyc)));clear hset hstand hnext;go_wp2;exact bodyPost_ret (v:=U #[I J yc,Z O 0 0,Z O 0 0]) (by simp[results,Tryz.results216,go_sem,x0,x1,x2]) rfl ⟨O,0,0,O,0,0,by rw[HX.out],by rw[HX.out];exact OwnU.none _ _,((bW.setCell (p:=⟨w.heap.size,0,O⟩) z' _).setCell (p:=⟨w.heap.size,1,O⟩) z' _).setCell (p:=⟨w.heap.size,2,O⟩) z' _⟩
    subst hy;have HX:=hid (hnext.out.trans (hset.out.1 rfl));obtain⟨vs1,lo1,hi1,u1,u2,u3,u4,u5,u6,u7,u8⟩:=UO;have K2:=aG u2;have hOR:(Z r p q).ownBlock≠Y O':=fun e=>(u7 O' e).2 rfl;obtain⟨vs2,lo2,hi2,t1,t2,t3,t4,t5,t6⟩:=LK;clear hset hstand hnext u1 u3 u4 u5 u6 u7 u8;have hKO:K≠O':=by omega
    have hKR:K≠w.heap.size:=by omega
    have rK:∀g,(Z r p q).ownBlock=Y g->g≠K:=fun g hg=>by have:=(K2 g hg).2;omega
    have rO:∀g,(Z r p q).ownBlock=Y g->g≠O':=fun g hg e=>hOR (by rw[<-e];exact hg);have recV:=oA (o:=1) (oA (o:=0) (aF u2 bC) rK (I J 3)) rO (Z a2 m2 c2);have lvV:=(t1.store (p:=K) (o:=0) (u:=I J 3) (fun g hg=>by have:=t4 g hg;omega) (fun i x g hx hg=>by have:=t5 i x g hx hg;omega)).store3 (q:=O') (o:=1) (by omega) (Z a2 m2 c2);have hKV0:=Joins.block_setCell (i:=0) hK (I J 3);have hKV:((w2.setCell ⟨K,0,O⟩ (I J 3)).setCell ⟨O',1,O⟩ (Z a2 m2 c2)).heap[K]? =Y (M #[I J 3,I J tx,I J bk,X rh,I J ro,X bh,I J bv] 79 (0,0)):=(Below.heap_setCell _ _ _ _ (by exact hKO)).trans (by simpa using hKV0);have hOV:=cW6 ((Below.heap_setCell w2 ⟨K,0,O⟩ (I J 3) O' (by exact fun e=>hKO e.symm)).trans hO2) (Z a2 m2 c2);have hRV:((w2.setCell ⟨K,0,O⟩ (I J 3)).setCell ⟨O',1,O⟩ (Z a2 m2 c2)).heap[w.heap.size]? =Y (M #[I J 0,Z O 0 0,Z O 0 0] 285 (0,0)):=(Below.heap_setCell _ _ _ _ (by show w.heap.size≠O';omega)).trans ((Below.heap_setCell _ _ _ _ (by show w.heap.size≠K;omega)).trans hR2);have bV:=(bW.setCell (p:=⟨K,0,O⟩) (by show w.heap.size<=K;omega) (I J 3)).setCell (p:=⟨O',1,O⟩) (by show w.heap.size<=O';omega) (Z a2 m2 c2);have zV:((w2.setCell ⟨K,0,O⟩ (I J 3)).setCell ⟨O',1,O⟩ (Z a2 m2 c2)).heap.size=w2.heap.size:=by simp
    have zC:=bC.size;go_upto_region 10 with fail
    generalize(w2.setCell ⟨K,0,O⟩ (I J 3)).setCell ⟨O',1,O⟩ (Z a2 m2 c2)=V at*;clear k0 k1 k2 k3 k4 k5 k6 fk0 hkz x0 x1 x2 f0 f1 f2 y0 y1 y2 g0 g1 g2 hKV0 t1 u2 hR2 hO2;obtain⟨⟨k0,k1,k2,k3,k4,k5,k6⟩,_⟩:=mP hKV;obtain⟨y0,y1,y2,g0,g1,g2⟩:=rY hOV;have hkz:=aD k0;have hyz:=aD y0;have kN:=f' V (M #[I J 3,I J tx,I J bk,X rh,I J ro,X bh,I J bv] 79);have oN:=aF recV kN;have hC:=dD6 (w:=V) (r:=⟨3,tx,bk,rh,ro,bh,bv⟩) (t:=79) (H:=w2.heap.size) zV.symm;have hb3:w.heap.size+1<=(V.alloc (M #[I J 3,I J tx,I J bk,X rh,I J ro,X bh,I J bv] 79)).heap.size:=by simp;omega
    have hON:=aR kN hOV;go_wp2_with(at_builtin;go_must (refine bF1 (.tmp 53) (.tmp 55) ?_ ?_ (w.heap.size+1) (Z r p q) p rs w2.heap.size 1 ⟨3,tx,bk,rh,ro,bh,bv⟩ ?_ ?_ oN hC hpl hb3 ?_;exact rfl;exact rfl;exact rfl;exact rfl;intro a5 c5 w5 own5 gr5 at5;have hO5:=lQ gr5 hON hOR;obtain⟨e0,e1,e2,d0,d1,d2⟩:=rY hO5;have lv5:=aD e0))
    go_roundw;case rel=>
     have g5:=gr5.size;have gN:=kN.size;have hR5:=lQ gr5 (aR kN hRV) (fun e=>by have:=(K2 _ e).1;omega);have bN:=bV.trans (kN.mono bV.size);have b5:=bN.grown gr5 bN.size (fun g hg=>by have:=(K2 g hg).1;omega);refine⟨i,a2,m2,c2,a5,p+1,c5,by omega,by go_num,by rw[HX.out];rfl,(Below.heap_setCell _ _ _ _ (by show w.heap.size≠O';omega)).trans hR5,?_,?_,by simp;omega,b5.setCell (p:=⟨O',2,O⟩) (by show w.heap.size<=O';omega) _⟩
     .have:=Joins.block_setCell (i:=2) hO5 (Z a5 (p+1) c5);simpa using this
     .rw[HX.out];have hnO:∀g,(Z a5 (p+1) c5).ownBlock=Y g->g≠O':=fun g hg e=>by
       rcases at5 g hg with h|h
       .exact rO g h e
       .omega
      obtain⟨hl,ho,hi',hd,hd'⟩:=lvV.below kN;have l5:OwnV w5 wr.heap.size (Z a2 m2 c2) m2 vs2 nl:=by refine⟨hl,aK ho gr5 (fun g hg hk=>by have:=(K2 g hk).2;have:=t4 g hg;omega),fun j hlt=>?_,hd,hd'⟩;obtain⟨x,e1,e2⟩:=hi' j hlt;exact⟨x,e1,aK e2 gr5 (fun g hg hk=>by have:=(K2 g hk).2;have:=t5 j x g e1 hg;omega)⟩
      refine⟨vs2,lo2,hi2,(l5.store3 (q:=O') (o:=2) (by omega) (Z a5 (p+1) c5)).base (by omega),oA (o:=2) own5 hnO (Z a5 (p+1) c5),by omega,by simp;omega,t4,t5,fun g hg=>⟨?_,hnO g hg⟩,.inl (by omega)⟩;rcases at5 g hg with h|h
      .have:=(K2 g h).2;exact .inl (by omega)
      .exact .inr (by omega)
    case measure=>simp[intOf]
end Go.Proofs.YtpbbokalojdooaaGreat
