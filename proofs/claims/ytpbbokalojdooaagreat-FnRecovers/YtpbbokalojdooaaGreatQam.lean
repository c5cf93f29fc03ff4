import Derived.Test.YtpbbokalojdooaaGreatQal
import Derived.Test.YtpbbokalojdooaaGreatLosS
namespace Go.Proofs.YtpbbokalojdooaaGreat
open Go.RowKit Ch Go.Proofs.Tryz
set_option linter.unusedSimpArgs false
set_option linter.unusedVariables false
set_option maxRecDepth 20000
set_option maxHeartbeats 8000000
open Value renaming int->I,slice->Z,bool->X,agg->U
open IntKind renaming i64->J
open Option renaming none->O,some->Y
open Obj renaming cells->M
open Ending renaming returned->R'
open Bool renaming true->A',false->F'
variable {D:DataW Unit} {h:Hold} {m t:Int} {F:Int->Ft} {f:Int->Int} {vs:List (Value×Value)} {zs:List Int} {ls:List Lock} {left:Lit->Bool} {l:Lock} {b k n:Nat} {a au:Option Addr} {row:Option Nat} {T:TypeId} {v:Value} {p:Value×Value} {w w':World}
theorem dE3(w:World)(rk rt ry:Int)(rh:Bool)(ro:Int)(rx:Bool)(rn:Int):
  (w.alloc (M #[I J rk,I J rt,I J ry,X rh,I J ro,X rx,I J rn] 79)).cell? ⟨w.heap.size,0,O⟩=Y (I J rk)/\(w.alloc (M #[I J rk,I J rt,I J ry,X rh,I J ro,X rx,I J rn] 79)).cell? ⟨w.heap.size,1,O⟩=Y (I J rt):=
 ⟨cell_of_row _ _ _ _ _ _ (heap_alloc_new w _),cell_of_row _ _ _ _ _ _ (heap_alloc_new w _)⟩
theorem bJ9(a:Option Addr)(n cap:Nat)(rs:List Rec)(w:World)(h:CellsAt w a (n*7) (rc7 rs))(hn:n<=1048576):
  Calls prog 11 #[Z a n cap] w fun e w'=>∃a' m c',e=R' (U #[I J (zZ rs).1,Z a' m c'])/\m<=1048576/\w'.ownsRow w.heap.size 2 1 (Z a' m c') m (icells (zZ rs).2)/\Below w.heap.size w w':=by
 have IA:=fun W hW=>sQ a n cap rs W hW hn;have kA:∀o,Below w.heap.size w (w.alloc o):=fun o=>u'.alloc z' o;have HL:=h.len7;obtain⟨i0,hi0,hz0,hz1,hz2⟩:=info_parts Tryz.info2;obtain⟨c,HC⟩:∃c,Hid (eR rs=c):=⟨_,rfl⟩
 rw[HC.out]at IA;by_cases h0:c=0;rotate_left
 .have hc:(c !=0)=A':=by simpa using h0
  rw[cH4 HC.out hc];clear HC h0;go_enter func11,ntmps11
  go_wp2_with fail
  refine(IA _ (h.below (kA _))).mono ?_;rintro e w1⟨rfl,b1⟩;have hR:=aT b1 (heap_alloc_new w _);have b1:=cL b1;have lz:=(Array.getElem?_eq_some_iff.1 hR).1;obtain⟨x0,x1,f0,f1⟩:=aA9 hR;go_wp2;exact bodyPost_ret (v:=U #[I J c,Z O 0 0]) (by simp[results,Tryz.results11,go_sem,x0,x1]) rfl ⟨O,0,0,rfl,by omega,World.ownsRow_nil _ _ _ _,(b1.setCell (p:=⟨w.heap.size,0,O⟩) z' _).setCell (p:=⟨w.heap.size,1,O⟩) z' _⟩
 subst h0;rw[aP9 HC.out];clear HC;go_enter func11,ntmps11
 go_wp2_with fail
 refine(IA _ (h.below (kA _))).mono ?_;rintro e w1⟨rfl,b1⟩;have hR:=aT b1 (heap_alloc_new w _);have b1:=cL b1;have lz:=(Array.getElem?_eq_some_iff.1 hR).1;obtain⟨x0,x1,f0,f1⟩:=aA9 hR;go_wp2;go_loopw [15] (fun i wr=>∃(k m:Nat) (a':Option Addr) (c':Nat),k<=n/\m<=k/\i=I J k/\wr.heap[w.heap.size]? =Y (M #[I J 0,Z O 0 0] 36 (0,0))/\wr.heap[w1.heap.size]? =Y (M #[I J 0,Z a' m c'] 36 (0,0))/\wr.ownsRow (w1.heap.size+1) 2 1 (Z a' m c') m (icells (eP (rs.take k) 4))/\w1.heap.size+1<=wr.heap.size/\Below w.heap.size w wr) (fun i _=>n-(intOf i).toNat)
 case atStart=>exact⟨0,0,O,0,Nat.zero_le _,z',rfl,(dJ lz).trans hR,heap_alloc_new w1 _,World.ownsRow_nil _ _ _ _,by simp,b1.alloc b1.size _⟩
 case round=>
  clear hR x0 x1 f0 f1 IA;obtain⟨k,m,a',c',hk,hmk,rfl,hR,hX,own,hsz,hB⟩:=hrel;obtain⟨x0,x1,f0,f1⟩:=aA9 hR;obtain⟨y0,y1,g0,g1⟩:=aA9 hX;have lr:=(Array.getElem?_eq_some_iff.1 hR).1;by_cases hlt:k<n
  .have hkl:k<rs.length:=by have:=HL.out;omega
   have HY:=hid (fun h1 h2=>aD4 (kd:=4) hkl h1 h2);have HD:=hid (fun h2=>aD3 (kd:=4) hkl h2);have HN:=hid (fun h1=>aM3 (kd:=4) hkl h1);obtain⟨b,off,rfl,q0,q1,q2,q3,q4,q5,q6⟩:=(h.below hB).rec hlt;have hbl:=aD q0;generalize rs.getD k Rec.zero=r at*;obtain⟨rk,rt,ry,rh,ro,rx,rn⟩:=r;simp only at q0 q1 q2 q3 q4 q5 q6 HY HN HD;generalize eP (rs.take k) 4=zs at*;have hsum:m+1<=4194304:=by omega
   have IC:=fun W hW=>aQ3 a' m c' rt zs W hW (by omega);have kW:=f' wr (M #[I J rk,I J rt,I J ry,X rh,I J ro,X rx,I J rn] 79);have hR2:=aT kW hR;have hX2:=aT kW hX;have own2:=aF own kW;have b2':=hB.trans (kW.mono hB.size);have z2:=kW.size;obtain⟨s0,s1⟩:=dE3 wr rk rt ry rh ro rx rn;have t1:=aC kW y1;have ly:=aD y0;by_cases hh:rk=4;rotate_left
   .have e1:(rk==4)=F':=by simpa using hh
    clear IC HY HD;go_wp2;go_roundw;case rel=>exact⟨k+1,m,a',c',by omega,by omega,by go_num,hR2,hX2,by rw[HN.out e1];exact own2,by omega,b2'⟩
    case measure=>simp[intOf];omega
   .have e1:(rk==4)=A':=by simpa using hh
    replace HY:=hid (HY.out e1);clear HN hh;cases hc:zs.contains rt;rotate_left
    .rw[hc]at IC;replace HD:=hid (HD.out hc);clear HY hc;go_wp2_with(go_at_call 37;refine(IC _ (aJ own2)).mono ?_;rintro e w2⟨rfl,hw2⟩;obtain rfl:=hw2.symm)
     go_roundw;case rel=>exact⟨k+1,m,a',c',by omega,by omega,by go_num,hR2,hX2,by rw[HD.out];exact own2,by omega,b2'⟩
     case measure=>simp[intOf];omega
    .rw[hc]at IC;replace HY:=hid (HY.out hc);clear HD hc;have kQ:Below (wr.alloc (M #[I J rk,I J rt,I J ry,X rh,I J ro,X rx,I J rn] 79)).heap.size (wr.alloc (M #[I J rk,I J rt,I J ry,X rh,I J ro,X rx,I J rn] 79)) ((wr.alloc (M #[I J rk,I J rt,I J ry,X rh,I J ro,X rx,I J rn] 79)).alloc (M #[I J rt] 2)):=q';have own3:=aF own2 kQ;have hX3:=aT kQ hX2;have hR3:=aT kQ hR2;have hC3:=jP (wr.alloc (M #[I J rk,I J rt,I J ry,X rh,I J ro,X rx,I J rn] 79)) rt 2;rw[show(wr.alloc (M #[I J rk,I J rt,I J ry,X rh,I J ro,X rx,I J rn] 79)).heap.size=wr.heap.size+1 by simp]at hC3;have hb3:w1.heap.size+1<=((wr.alloc (M #[I J rk,I J rt,I J ry,X rh,I J ro,X rx,I J rn] 79)).alloc (M #[I J rt] 2)).heap.size:=by simp;omega
     have b3:=b2'.trans (kQ.mono b2'.size);go_wp2_with(first|(go_at_call 37;refine(IC _ (aJ own2)).mono ?_;rintro e w2⟨rfl,hw2⟩;obtain rfl:=hw2.symm)|(at_builtin;go_must (refine bK underlying27 underlying27 hi0 hz0 hz1 hz2 rfl (by omega) (by omega) (.tmp 31) (.tmp 34) ?_ ?_ (w1.heap.size+1) (Z a' m c') m (icells zs) _ 1 1 (icells [rt]) ?_ ?_ own3 hC3 (dN [rt]) hsum hb3 ?_;exact rfl;exact rfl;exact rfl;exact rfl;intro a5 c5 w5 own5 gr5 at5;have hX5:=iU gr5 hX3 (sW own3 (by omega));have hR5:=iU gr5 hR3 (sW own3 (by omega));obtain⟨v0,v1,e0,e1⟩:=aA9 hX5;have lv:=aD v0;go_frame)))
     go_roundw;case rel=>
      rw[<-eI,<-HY.out]at own5;have b5:=b3.grown gr5 b3.size (fun g hg=>by have:=(aG own3 g hg).1;omega);refine⟨k+1,m+1,a5,c5,by omega,by omega,by go_num,?_,?_,?_,?_,b5.setCell (p:=⟨w1.heap.size,1,O⟩) (by show w.heap.size<=w1.heap.size;omega) _⟩
      .exact(Below.heap_setCell _ _ _ _ (by show w.heap.size≠w1.heap.size;omega)).trans hR5
      .have:=Joins.block_setCell (i:=1) hX5 (Z a5 (m+1) c5);simpa using this
      .exact ownsRow_setCell_below own5 (by show w1.heap.size<w1.heap.size+1;omega) _
      .have:=gr5.size;simp at this⊢;omega
     case measure=>simp[intOf];omega
  .obtain rfl:k=n:=by omega
   have HWF:Hid (rs.take k=rs):=by have:=HL.out;show _=_;rw[this];exact List.take_length
   rw[HWF.out]at own;go_wp2;refine bodyPost_ret (v:=U #[I J 0,Z a' m c']) (by simp[results,Tryz.results11,go_sem,x0,x1]) rfl ⟨a',m,c',rfl,by omega,?_,?_⟩
   .refine aP (base:=w1.heap.size+1) (ownsRow_setCell_below (ownsRow_setCell_below own ?_ _) ?_ _) (by omega)
    .show w.heap.size<w1.heap.size+1;omega
    .show w.heap.size<w1.heap.size+1;omega
   .exact(hB.setCell (p:=⟨w.heap.size,0,O⟩) z' _).setCell (p:=⟨w.heap.size,1,O⟩) z' _
theorem cA2(a:Option Addr)(n cap:Nat)(v:Int)(zs:List Int)(w:World)(h:CellsAt w a (n*1) (icells zs))(hn:n<=4194304):
  Calls prog 12 #[Z a n cap,I J v] w fun e w'=>e=R' (X (zs.contains v))/\w'=w:=by
 have HL:=h.ilen;obtain⟨c,HC⟩:∃c,Hid (zs.contains v=c):=⟨_,rfl⟩
 rw[HC.out];go_enter func12,ntmps12
 go_wp2;go_loop [5] (fun i=>∃k:Nat,k<=n/\i=I J k/\Hid ((zs.take k).contains v=F')) (fun i=>n-(intOf i).toNat)
 case atStart=>exact⟨0,Nat.zero_le _,rfl,rfl⟩
 case round=>
  obtain⟨k,hk,rfl,HH⟩:=hrel;by_cases hlt:k<n
  .have hkl:k<zs.length:=by have:=HL.out;omega
   have HY:=hid (fun he=>uP (v:=v) hkl he);have HN:=hid (sO (v:=v) hkl);obtain⟨b,off,rfl,hc0⟩:=h.int hlt;have hbl:=aD hc0;generalize zs.getD k 0=z at*;by_cases he:z=v
   .replace HY:=hid (HY.out he);have e1:(z==v)=A':=by simpa using he
    clear he HN;go_wp2;go_ret;exact⟨vW (HY.out.symm.trans HC.out),rfl⟩
   .have e1:(z==v)=F':=by simpa using he
    rw[HH.out,e1]at HN;clear he HY;go_wp2;go_round
    case rel=>exact⟨k+1,by omega,by go_num,HN.out⟩
    case measure=>simp[intOf];omega
  .obtain rfl:k=n:=by omega
   go_wp2;go_ret;exact⟨vW (by have h1:=HH.out;have h2:=HL.out;rw[h2,List.take_length]at h1;exact h1.symm.trans HC.out),rfl⟩
theorem bB5(a a':Option Addr)(n cap cap':Nat)(zs:List Int)(w:World)(h:CellsAt w a (n*1) (icells zs))(h':CellsAt w a' (n*1) (icells zs))(hn:n<=4194304):
  Calls prog 15 #[Z a n cap,Z a' n cap'] w fun e w'=>e=R' (X A')/\Below w.heap.size w w':=by
 have hnn:((n:Int) !=n)=F':=by simp
 go_enter func15,ntmps15
 go_wp2;go_loopw [5] (fun i wr=>∃k:Nat,k<=n/\i=I J k/\Below w.heap.size w wr) (fun i _=>n-(intOf i).toNat)
 case atStart=>exact⟨0,Nat.zero_le _,rfl,u'⟩
 case round=>
  obtain⟨k,hk,rfl,hB⟩:=hrel;by_cases hlt:k<n
  .obtain⟨b,off,rfl,hc0⟩:=(h.below hB).int hlt;obtain⟨b',off',rfl,hd0⟩:=(h'.below hB).int hlt;generalize zs.getD k 0=r at*;have hbl:=aD hc0;have hbl':=aD hd0;have hrr:(r !=r)=F':=by simp
   go_wp2;go_quiet (fail)
   go_wp2;go_roundw;case rel=>exact⟨k+1,by omega,by go_num,hB.trans ⟨rfl,rfl,rfl,z',fun _ _=>rfl⟩⟩
   case measure=>simp[intOf];omega
  .obtain rfl:k=n:=by omega
   go_wp2;go_ret;exact⟨rfl,hB⟩
theorem cH3(a:Option Addr)(n cap:Nat)(w:World):
  Calls prog 5 #[Z a n cap] w fun e w'=>e=R' (X (decide ((1048576:Int)<n)))/\w'=w:=by
 go_enter func5,ntmps5
 go_wp2;go_ret;exact⟨rfl,rfl⟩
section
open Go.Maps Go.Sort
theorem pA(h:Below w.heap.size w w')(row:Option Nat):w.grownBy w' row:=⟨h.os,h.tape,h.output,h.size,fun k hk _=>h.block k hk⟩
theorem bM0(fb fe:Bool)(fn:Int)(w:World):
  Calls prog 78 #[U #[X fb,X fe,I J fn]] w fun e w'=>e=R' (X (Ft.lost ⟨fb,fe,fn⟩))/\Below w.heap.size w w':=by
 cases fb<;>cases fe
 all_goals
  go_enter func78,ntmps78
  go_wp2;go_ret;exact⟨rfl,q'⟩
theorem cR1(base g n cap:Nat)(zs:List Int)(w:World)(hrow:w.ownsRow base 2 1 (Z (Y ⟨g,0,O⟩) n cap) n (icells zs))(hn:n<=1048576):
  Calls prog 57 #[Z (Y ⟨g,0,O⟩) n cap] w fun e w'=>e=R' (.tuple #[])/\w'.ownsRow base 2 1 (Z (Y ⟨g,0,O⟩) n cap) n (icells (zs.mergeSort fun x y=>decide (x<=y)))/\w.grownBy w' (Y g):=by
 have hl:n=zs.length:=by have:=hrow.1;rw[pQ]at this;omega
 subst hl;rcases hrow.2 with⟨hnil,_⟩|⟨g',cap',cur,hv,hbase,hb,h1,h2,h3,h4⟩
 .cases hnil
 cases hv;have hH:Holds (I J) w g 0 zs.toArray:=holds_of_blockI hb (by rw[Nat.mul_one]at h4;exact h4);have hg:g<w.heap.size:=(Array.getElem?_eq_some_iff.1 hb).1;have hcon:=AnyM.slices_Sort_int Tryz.sortInts g 0 cap zs w hH hg (by omega);change Calls prog 57 _ _ _ at hcon
 refine hcon.mono ?_;rintro e w'⟨rfl,nn,os,rfl⟩;exact⟨rfl,ownsRow_sortedI (by simp) hbase hb h1 h2 h3,grownBy_sortedI _⟩
theorem cR2(p:Option Addr)(cap:Nat)(w:World):
  Calls prog 57 #[Z p 0 cap] w fun e w'=>e=R' (.tuple #[])/\w'=w:=by
 have hcon:=AnyM.slices_Sort_int_none Tryz.sortInts p cap w;change Calls prog 57 _ _ _ at hcon
 exact hcon
structure CollF(F:Int->Ft)(left:Lit->Bool)(zs:List Int):Prop where
 nd:zs.Nodup
 mem:∀t,t∈zs↔(F t).lost=A'/\left (kF t)=F'
theorem CollF.start(h:Fm F D):CollF F (Maps.has D) []:=by
 refine⟨List.nodup_nil,fun t=>?_⟩;constructor
 .intro h;simp at h
 .rintro⟨h1,h2⟩;rw[h.none h2]at h1;simp[Ft.lost,Ft.zero]at h1
theorem CollF.yes(h:CollF F left zs)(hl:left (kF t)=A')(hF:(F t).lost=A'):CollF F (fun z=>left z&&!z.sameKey (kF t)) (zs++[t]):=by
 have hnew:t∉zs:=fun hx=>by have:=((h.mem t).1 hx).2;rw[hl]at this;cases this
 refine⟨List.nodup_append.2 ⟨h.nd,by simp,fun a ha b hb=>by simp at hb;subst hb;exact fun e1=>hnew (e1▸ha)⟩,fun s=>?_⟩;by_cases e:s=t
 .subst e;rw[WideAt.sameKey_self (bK7 _)];simp[hF]
 .have hne:kF s≠kF t:=cI7 e;rw[sameKey_ne hne];simp[h.mem s,e]
theorem CollF.no(h:CollF F left zs)(hF:(F t).lost=F'):CollF F (fun z=>left z&&!z.sameKey (kF t)) zs:=by
 refine⟨h.nd,fun s=>?_⟩;by_cases e:s=t
 .subst e;rw[h.mem s,hF];simp
 .have hne:kF s≠kF t:=cI7 e;rw[sameKey_ne hne];simp[h.mem s]
theorem CollF.done{L:List Int}(h:CollF F left zs)(hl:∀kl,left kl=F')(hL:L.Pairwise (· < ·))(hm:∀t,t∈L↔(F t).lost=A'):(zs.mergeSort fun x y=>decide (x<=y))=L:=
 cT0 h.nd hL (fun t=>by rw[h.mem t,hm t];simp[hl])
theorem aN0(b q:Nat)(D:DataW Unit)(F:Int->Ft)(L:List Int)(w:World)(own:w.ownsMap prog 2 gR b q D)(mp:Fm F D)(hq:q<=1048576)(hL:L.Pairwise (· < ·))(hm:∀t,t∈L↔(F t).lost=A'):
  Calls prog 35 #[.map (Y b)] w fun e w'=>∃a n cap,e=R' (Z a n cap)/\n<=1048576/\w'.ownsRow w.heap.size 2 1 (Z a n cap) n (icells L)/\Below w.heap.size w w':=by
 obtain⟨i0,hi0,hz0,hz1,hz2⟩:=info_parts Tryz.info2;have hbl:=own.lt;have hq:Maps.size D<=1048576:=Nat.le_trans own.size_le hq;have HMP:=hid mp;have HD:=hid (fun(left:Lit->Bool) (zs:List Int) (h:CollF F left zs) (hl:∀kl,left kl=F')=>h.done hl hL hm);clear mp hL hm;go_enter func35,ntmps35
 go_wp2_with(at_range;go_must (refine wpList_range_own _ rfl _ 82 rfl 2 124 Tryz.keyedF underlying82 gR b q D rfl own ?_;intro w0 hrg0 hg0 hs0))
 go_frame
 have b0:Below w.heap.size w w0:=u'.grown hg0 z' (fun j hj=>by cases hj);have hsz0:w.heap.size<w0.heap.size:=by omega
 clear hs0;go_loopw [3] (fun v wr=>∃(left:Lit->Bool) (cnt n:Nat) (ss:List Int) (a:Option Addr) (cap:Nat),v=Z a n cap/\wr.ranges prog 2 gR b w.heap.size q D left cnt/\n+cnt<=Maps.size D/\
   wr.ownsRow (w.heap.size+1) 2 1 (Z a n cap) n (icells ss)/\CollF F left ss/\w.heap.size<wr.heap.size/\Below w.heap.size w wr)
  (fun _ wr=>wr.rangeLeft b w.heap.size)
 case atStart=>exact⟨_,_,0,[],O,0,rfl,hrg0,by omega,World.ownsRow_nil _ _ _ _,CollF.start HMP.out,hsz0,b0⟩
 case round=>
  clear hrg0 hg0 b0 hsz0;obtain⟨left,cnt,n,ss,a,cap,rfl,hrg,hcs,hrow,hC,hsz,hnx⟩:=hrel;go_wp2_with(at_next;go_must (refine wpList_next_ranges _ rfl _ rfl 2 Tryz.keyedF gR id id (fun key _ _=>⟨key,rfl⟩) (fun v _ _=>⟨v,rfl⟩) b w.heap.size q _ _ _ rfl hrg ?_ ?_))
  .intro hc0 hl0;have HS:=hid (HD.out left ss hC hl0);clear HD;rcases hrow.2 with⟨hnil,_⟩|⟨g,cap',cur,hv,_⟩
   .cases hnil;obtain rfl:ss=[]:=by have:=hrow.1;rw[pQ]at this;exact List.eq_nil_of_length_eq_zero (by omega)
    replace HS:Hid ([]=L):=by have h1:=HS.out;rw[List.mergeSort_nil]at h1;exact h1
    go_wp2_with(go_at_call 57;refine(cR2 _ _ _).mono ?_;rintro e w'⟨rfl,rfl⟩)
    go_ret;exact⟨O,0,0,rfl,by omega,by rw[<-HS.out];exact World.ownsRow_nil _ _ _ _,hnx⟩
   .cases hv;have hcon:=cR1 (w.heap.size+1) g n cap ss wr hrow (by omega);have hgb:=(gI hrow).1;rw[HS.out]at hcon;go_wp2_with(go_at_call 57;refine hcon.mono ?_;rintro e w'⟨rfl,own',gr'⟩)
    go_ret;exact⟨_,n,cap,rfl,by omega,aP own' (by omega),hnx.grown gr' hnx.size (fun j hj=>by cases hj;omega)⟩
  .intro x c kl yd yp w2 cnt2 hkey hlk hv hat hrg2 hlt hg2 hs2 hen;obtain⟨et,rfl,rfl,_⟩:=Maps.keyOf_int_inv underlying2 hkey;have hF:gR c=Y (ftD (F et),yp):=by have e1:=hat (ftD Ft.zero);rw[show(Lit.int J et)=kF et from rfl,HMP.out.at' et]at e1;rw[e1];exact hv
   have hc:=xN hF;have HY:=hid (fun hF=>hC.yes (t:=et) hlk hF);have HN:=hid (fun hF=>hC.no (t:=et) hF);have hrow2:=hrow.kept hg2 (Or.inr (row_ne_iter hrow hrg).symm);have hnx2:=hnx.grown hg2 hnx.size (fun j hj=>by cases hj;exact z');have hsz2:w.heap.size<w2.heap.size:=by omega
   clear hs2 hkey hv hat hrow hC hF HD;generalize F et=f at*;obtain⟨fb,fe,fn⟩:=f;simp only at hc;subst hc;have IL:=fun W=>bM0 fb fe fn W;have kQ:=f' w2 (M #[X fb,X fe,I J fn] 124);have own3:=aF hrow2 kQ;have hrg3:=hrg2.alloc (M #[X fb,X fe,I J fn] 124);have hnx3:=hnx2.trans (kQ.mono hnx2.size);have hsz3:=kQ.size;generalize HLB:Ft.lost ⟨fb,fe,fn⟩=lb at*;go_wp2_with fail
   refine(IL _).mono ?_;rintro e w4⟨rfl,b4⟩;have own4:=aF own3 b4;have gr4:=pA b4 O;have hrg4:=hrg3.kept gr4 (by simp) (by simp);have hnx4:=hnx3.trans (b4.mono hnx3.size);have hsz4:w.heap.size<w4.heap.size:=by have:=b4.size;omega
   clear own3 hrg3 hnx3 IL;cases lb
   .go_wp2;go_roundw;case rel=>exact⟨_,cnt2,n,ss,a,cap,rfl,hrg4,by omega,own4,HN.out trivial,hsz4,hnx4⟩
    case measure=>rw[hrg4.left_eq,hrg.left_eq];exact hlt
   .have kR:=f' w4 (M #[I J et] 2);have own5:=aF own4 kR;have hrg5:=hrg4.alloc (M #[I J et] 2);have hC5:=jP w4 et 2;have hb5:w.heap.size+1<=(w4.alloc (M #[I J et] 2)).heap.size:=by simp;omega
    have hnx5:=hnx4.trans (kR.mono hnx4.size);have hsz5:w.heap.size<(w4.alloc (M #[I J et] 2)).heap.size:=by simp;omega
    go_wp2_with(at_builtin;go_must (refine bK underlying27 underlying27 hi0 hz0 hz1 hz2 rfl (by omega) (by omega) (.tmp 15) (.tmp 17) ?_ ?_ (w.heap.size+1) (Z a n cap) n (icells ss) _ 1 1 (icells [et]) ?_ ?_ own5 hC5 (dN [et]) (by omega) hb5 ?_;exact rfl;exact rfl;exact rfl;exact rfl;intro a6 c6 w6 own6 gr6 at6;go_frame))
    have hrg6:=hrg5.kept gr6 (row_ne_low own5 (by omega)) (row_ne_iter own5 hrg5);go_roundw;case rel=>exact⟨_,cnt2,n+1,ss++[et],a6,c6,rfl,hrg6,by omega,by rw[eI];exact own6,HY.out trivial,Nat.lt_of_lt_of_le hsz5 gr6.size,hnx5.grown gr6 hnx5.size (fun g hg=>by have:=(aG own5 g hg).1;omega)⟩
    case measure=>rw[hrg6.left_eq,hrg.left_eq];exact hlt
end
theorem cB8{r:Int}(hf:∀x,f x<=r):∀(es:List (Int×Int)) (s:Int),s<=r->es.foldl (mQ f t) s<=r:=by
 intro es;induction es with
 |nil=>exact fun s h=>h
 |cons e es ih=>
  intro s h;rw[List.foldl_cons];apply ih;unfold mQ;split
  .exact hf _
  .exact h
theorem aF6(es:List (Int×Int))(f:Int->Int):∀k x,(fK es f k x).length=k:=by
 intro k;induction k with
 |zero=>intro x;rfl
 |succ k ih=>intro x;show(_::_).length=_;rw[List.length_cons,ih]
theorem bL4(a:Option Addr)(n cap:Nat)(es:List Hold)(t:Int)(w:World)(h:CellsAt w a (n*2) (hcells es))(hn:n<=400)(hin:∀k,k<n->1<=(es.getD k Hold.zero).t/\(es.getD k Hold.zero).t<=999/\1<=(es.getD k Hold.zero).m/\(es.getD k Hold.zero).m<=999)(ht:1<=t/\t<=999):
  Calls prog 182 #[Z a n cap,I J t] w fun e w'=>∃a' m c',e=R' (Z a' m c')/\m<=401/\m=(fF (prE es) t).length/\w'.ownsRow w.heap.size 2 1 (Z a' m c') m (icells (fF (prE es) t))/\Below w.heap.size w w':=by
 have HL:=h.hlen;have HLp:Hid ((prE es).length=n):=by show _=_;simp[prE];exact HL.out.symm
 have IF:=cO9 a n cap es t w h hn hin ht;obtain⟨f,HF⟩:∃f,Hid (cZ (prE es) t n=f):=⟨_,rfl⟩
 have HC:Hid (fF (prE es) t=if(prE es).foldl (mQ f t) (-1)<0 then []else t::fK (prE es) f ((prE es).foldl (mQ f t) (-1)).toNat t):=by show _=_;unfold fF;rw[HLp.out,HF.out];rfl
 have HI:Hid (∀x,f x<=(n:Int)):=by intro x;have:=(aK3 (prE es) t n).high x;rw[HF.out]at this;exact this
 rw[HF.out]at IF;clear HF;have HW:=hid (aF6 (prE es) f);obtain⟨i0,hi0,hz0,hz1,hz2⟩:=info_parts Tryz.info2;go_enter func182,ntmps182
 go_wp2_with fail
 refine IF.mono ?_;rintro e w1⟨g,c1,rfl,own1,b1⟩;have hF:=aJ own1;have hb:=h.below b1;clear IF own1;go_wp2;go_loop [6,7] (fun q i=>∃k:Nat,k<=n/\i=I J k/\q=I J (((prE es).take k).foldl (mQ f t) (-1))) (fun _ i=>n-(intOf i).toNat)
 case atStart=>exact⟨0,Nat.zero_le _,rfl,rfl⟩
 case round=>
  obtain⟨k,hk,rfl,rfl⟩:=hrel;by_cases hlt:k<n
  .have hkl:k<es.length:=by have:=HL.out;omega
   have HT:=hid (yT hkl (mQ f t) (-1));have hb4:=hin k hlt;obtain⟨b,off,rfl,q0,q1⟩:=hb.hold hlt;have hbl:=aD q0;generalize es.getD k Hold.zero=ed at*;obtain⟨rt,rm⟩:=ed;simp only at q0 q1 HT hb4;obtain⟨xm,rfl⟩:∃y:Nat,rm=(y:Int):=⟨rm.toNat,by omega⟩
   have hxm:xm<1000:=by omega
   obtain⟨b2,o2,e2,m0⟩:=hF.int (k:=xm) (by omega);cases e2;rw[Nat.zero_add,sT f hxm]at m0;have hgz:=aD m0;generalize((prE es).take k).foldl (mQ f t) (-1)=B at*;have HS:Hid (mQ f t B (rt,(xm:Int))=if rt=t/\0<=f xm/\(B<0\/f xm<B)then f xm else B):=rfl;generalize f xm=fm at*;clear hb4 HW HI HC;by_cases h1:rt=t
   .have d1:(rt==t)=A':=by simpa using h1
    by_cases h2:0<=fm
    .by_cases h3:B<0
     .rw[if_pos ⟨h1,h2,.inl h3⟩]at HS;clear h1;go_wp2;go_round
      case rel=>exact⟨k+1,by omega,by go_num,by rw[HT.out,HS.out]⟩
      case measure=>simp[intOf];omega
     .by_cases h4:fm<B
      .rw[if_pos ⟨h1,h2,.inr h4⟩]at HS;clear h1;go_wp2;go_round
       case rel=>exact⟨k+1,by omega,by go_num,by rw[HT.out,HS.out]⟩
       case measure=>simp[intOf];omega
      .rw[if_neg (fun hh=>hh.2.2.elim h3 h4)]at HS;clear h1;go_wp2;go_round
       case rel=>exact⟨k+1,by omega,by go_num,by rw[HT.out,HS.out]⟩
       case measure=>simp[intOf];omega
    .rw[if_neg (fun hh=>h2 hh.2.1)]at HS;clear h1;go_wp2;go_round
     case rel=>exact⟨k+1,by omega,by go_num,by rw[HT.out,HS.out]⟩
     case measure=>simp[intOf];omega
   .have d1:(rt==t)=F':=by simpa using h1
    rw[if_neg (fun hh=>h1 hh.1)]at HS;clear h1;go_wp2;go_round
    case rel=>exact⟨k+1,by omega,by go_num,by rw[HT.out,HS.out]⟩
    case measure=>simp[intOf];omega
  .obtain rfl:k=n:=by omega
   rw[List.take_of_length_le (by have:=HLp.out;omega)];have hsz:=cB8 (t:=t) HI.out (prE es) (-1) (by omega);generalize(prE es).foldl (mQ f t) (-1)=sz at*;by_cases hneg:sz<0
   .rw[if_pos hneg]at HC;go_wp2;go_ret;exact⟨O,0,0,rfl,by omega,by rw[HC.out];rfl,by rw[HC.out];exact World.ownsRow_nil _ _ _ _,b1⟩
   .obtain⟨s,rfl⟩:∃s:Nat,sz=(s:Int):=⟨sz.toNat,by omega⟩
    rw[if_neg hneg,Int.toNat_natCast]at HC;have hs4:s<=400:=by omega
    clear hsz HI;have oL:(w1.alloc (M #[I J t] 2)).ownsRow w1.heap.size 2 1 (Z (Y ⟨w1.heap.size,0,O⟩) 1 1) 1 (icells [t]):=World.ownsRow_lit w1 #[I J t] 1 z' (by unfold maxLen;omega) rfl;have bL:=f' w1 (M #[I J t] 2);go_wp2;go_loopw [9,10,11] (fun q at_ kk wx=>∃(j:Nat) (x:Int) (a':Option Addr) (c' m:Nat) (pre:List Int),j+m=s+1/\q=Z a' m c'/\at_=I J x/\kk=I J j/\wx.ownsRow w1.heap.size 2 1 (Z a' m c') m (icells pre)/\Hid (pre++fK (prE es) f j x=t::fK (prE es) f s t)/\Below w1.heap.size w1 wx) (fun _ _ kk _=>(intOf kk).toNat)
    case atStart=>exact⟨s,t,_,_,1,[t],by omega,rfl,rfl,rfl,oL,rfl,bL⟩
    case round=>
     clear oL bL;obtain⟨j,x,a',c',m,pre,hjm,rfl,rfl,rfl,own2,HP,hB2⟩:=hrel;cases j with
     |zero=>
      have HP':Hid (pre=t::fK (prE es) f s t):=by have:=HP.out;rw[show fK (prE es) f 0 x=[]from rfl,List.append_nil]at this;exact this
      go_wp2;go_ret;refine⟨a',m,c',rfl,by omega,?_,?_,b1.trans (hB2.mono b1.size)⟩
      .rw[HC.out,List.length_cons,HW.out];omega
      .rw[HC.out,<-HP'.out];exact aP own2 b1.size
     |succ j=>
      have IN:=bZ1 a k cap es x ((j:Int)+1) g c1 f wr (hb.below hB2) hn hin (hF.below hB2);have HP':Hid ((pre++[jD (prE es) f x ((j:Int)+1)])++fK (prE es) f j (jD (prE es) f x ((j:Int)+1))=t::fK (prE es) f s t):=by have:=HP.out;rw[show fK (prE es) f (j+1) x=jD (prE es) f x ((j:Int)+1)::fK (prE es) f j (jD (prE es) f x ((j:Int)+1))from rfl]at this;show _=_;rw[List.append_assoc];exact this
      clear HP;generalize jD (prE es) f x ((j:Int)+1)=y at*;have hj4:j<=400:=by omega
      go_wp2_with fail
      refine IN.mono ?_;rintro e w2⟨rfl,rfl⟩;clear IN;have kN:=f' w2 (M #[I J y] 2);have oN:=aF own2 kN;have hb3:w1.heap.size<=(w2.alloc (M #[I J y] 2)).heap.size:=by have:=hB2.size;simp;omega
      have hsum:m+1<=4194304:=by omega
      go_wp2_with(at_builtin;go_must (refine bK underlying27 underlying27 hi0 hz0 hz1 hz2 rfl (by omega) (by omega) (.tmp 65) (.tmp 67) ?_ ?_ w1.heap.size (Z a' m c') m (icells pre) _ 1 1 (icells [y]) ?_ ?_ oN (cJ4 w2 y 2) (dN [y]) hsum hb3 ?_;exact rfl;exact rfl;exact rfl;exact rfl;intro a5 c5 w5 own5 gr5 at5))
      go_roundw;case rel=>rw[<-eI]at own5;have bN:=hB2.trans (kN.mono hB2.size);exact⟨j,y,a5,c5,m+1,pre++[y],by omega,rfl,rfl,by go_num,own5,HP'.out,bN.grown gr5 bN.size (fun g hg=>(aG own2 g hg).1)⟩
      case measure=>simp[intOf]
theorem cX2{ls':List Lock}(h:ls.map (·.r)=ls'.map (·.r)):lcells ls vs=lcells ls' vs:=by
 induction ls generalizing ls' vs with
 |nil=>
  cases ls' with
  |nil=>rfl
  |cons l ls'=>simp at h
 |cons l ls ih=>
  cases ls' with
  |nil=>simp at h
  |cons l' ls'=>
   simp at h;cases vs with
   |nil=>rfl
   |cons v vs=>have:=ih (ls':=ls') (vs:=vs) h.2;simp only[lcells,List.zip_cons_cons,List.flatMap_cons]at*;rw[this,h.1]
theorem cP5(ls:List Lock)(k:Nat)(l:Lock)(h:l.r=(aH ls k).r):(ls.set k l).map (·.r)=ls.map (·.r):=by
 apply List.ext_getElem?;intro i;simp only[List.getElem?_map,List.getElem?_set];by_cases hik:k=i
 .subst hik;rw[if_pos rfl];by_cases hk:k<ls.length
  .rw[if_pos hk];unfold aH at h;simp[List.getD,hk]at h;simp[hk,h]
  .rw[if_neg hk];simp[List.getElem?_eq_none (Nat.le_of_not_lt hk)]
 .rw[if_neg hik]
theorem zT{α:Type}{l:List α}{v:α}(h:l[k]? =Y v):l.set k v=l:=by
 have hk:k<l.length:=(List.getElem?_eq_some_iff.1 h).1;apply List.ext_getElem?;intro i;by_cases e:k=i
 .subst e;rw[List.getElem?_set_self hk,h]
 .rw[List.getElem?_set_ne e]
theorem OwnK.turn{B:Nat}(h:OwnK T w B v n ls vs)(hp:vs[k]? =Y p)(hg:w.grownBy w' row)(hrow:∀g,row=Y g->g∈blks p)(l:Lock)(hr:l.r=(aH ls k).r)
  (o1:w'.ownsRow B 232 2 p.1 l.hs.length (hcells l.hs)) (o2:w'.ownsRow B 232 2 p.2 l.qs.length (hcells l.qs)):OwnK T w' B v n (ls.set k l) vs:=by
 have hk:=h.in hp;have hkl:k<ls.length:=by rw[h.len];exact hk
 refine⟨by simpa using h.len,h.vlen,?_,fun i q hq=>?_,fun i q hq=>?_,h.apart⟩
 .rw[cX2 (cP5 ls k l hr)];exact aK h.row hg fun g hgv e=>nG h.apart hp hgv (hrow g e)
 .rw[sS ls k i l hkl];by_cases hik:k=i
  .subst hik;rw[hp]at hq;cases hq;rw[if_pos rfl];exact o1
  .rw[if_neg hik];refine aK (h.hs i q hq) hg fun g hgq e=>?_;exact vR h.apart (fun e=>hik e.symm) hq hp (by simp[blks,hgq]) (hrow g e)
 .rw[sS ls k i l hkl];by_cases hik:k=i
  .subst hik;rw[hp]at hq;cases hq;rw[if_pos rfl];exact o2
  .rw[if_neg hik];refine aK (h.qs i q hq) hg fun g hgq e=>?_;exact vR h.apart (fun e=>hik e.symm) hq hp (by simp[blks,hgq]) (hrow g e)
theorem OwnK.rowAt{B cap:Nat}(h:OwnK T w B (Z a n cap) n ls vs)(hk:k<n):∃o,a=Y ⟨o,0,O⟩:=by
 rcases h.row.2 with⟨hv,h0⟩|⟨g,cp,cur,hv,_⟩
 .omega
 .simp only[Value.slice.injEq,true_and]at hv;exact⟨g,hv.1⟩
theorem lT(a:Option Addr)(n cap:Nat)(t:Int)(ls:List Lock)(w:World)(h:LkAt w a n ls)(hs:dC ls<=1048576):
  Calls prog 152 #[Z a n cap,I J t] w fun e w'=>e=R' (I J (dZ ls t))/\w'=w:=by
 have HL:=h.len;have hn:n<=1048576:=by unfold dC at hs;have:=HL.out;omega
 go_enter func152,ntmps152
 go_wp2;go_loop [5] (fun i=>∃k:Nat,k<=n/\i=I J k/\Hid (∀j,j<k->aV (aH ls j).qs t=F')) (fun i=>n-(intOf i).toNat)
 case atStart=>exact⟨0,Nat.zero_le _,rfl,(fun j hj=>by omega)⟩
 case round=>
  obtain⟨k,hk,rfl,HA⟩:=hrel;by_cases hlt:k<n
  .have hkl:k<ls.length:=by have:=HL.out;omega
   have HSz:=hid (iM hs k);have HY:=hid (fun he=>aF4 hkl HA.out he);have HN:=hid (fun he=>qJ (p:=fun j=>aV (aH ls j).qs t) HA.out he);obtain⟨b,off,ah,nh,ch,aq,nq,cq,rfl,c0,c1,c2,h3,h4,_,_,_,_⟩:=h.lock hlt;have hQ4:=h4.hlen;have hnq:nq<=1048576:=by have:=HSz.out;have:=hQ4.out;omega
   have hbl:=aD c0;have IH:=fun W hW=>fS aq nq cq t (aH ls k).qs W hW hnq;clear HSz hQ4;generalize aH ls k=l at*;obtain⟨r,lhs,lqs⟩:=l;simp only at c0 h3 h4 IH HY HN;rcases eA lqs t with⟨he,HAT,_⟩|⟨j,hj,HAT,he,_⟩
   .have HE:=hid he;clear he;rw[HAT]at IH;go_wp2_with fail
    refine(IH _ h4).mono ?_;rintro e w1⟨rfl,hw⟩;obtain rfl:=hw.symm;go_wp2;go_round
    case rel=>exact⟨k+1,by omega,by go_num,HN.out HE.out⟩
    case measure=>simp[intOf];omega
   .have HE:=hid he;clear he;rw[HAT]at IH;go_wp2_with fail
    refine(IH _ h4).mono ?_;rintro e w1⟨rfl,hw⟩;obtain rfl:=hw.symm;go_wp2;go_ret;exact⟨cK (HY.out HE.out).1.symm,rfl⟩
  .obtain rfl:k=n:=by omega
   have HY:=hid (aF5 (ls:=ls) (t:=t) (by have:=HL.out;rw[<-this];exact HA.out));go_wp2;go_ret;exact⟨cK HY.out.1.symm,rfl⟩
theorem pT(w:World)(r:Int)(ah:Option Addr)(nh ch:Nat)(aq:Option Addr)(nq cq:Nat)(t:TypeId):CellsAt (w.alloc (M #[I J r,Z ah nh ch,Z aq nq cq] t)) (Y ⟨w.heap.size,0,O⟩) (1*3) [I J r,Z ah nh ch,Z aq nq cq]:=by refine⟨rfl,fun _=>⟨_,_,rfl,fun i hi=>?_⟩⟩;rw[Nat.zero_add];have:=cell_of_row (w.alloc (M #[I J r,Z ah nh ch,Z aq nq cq] t)) _ i _ _ _ (heap_alloc_new w _);rw[this];simp
theorem nK(r:Int)(ah:Option Addr)(nh ch:Nat)(aq:Option Addr)(nq cq:Nat):∀u∈[I J r,Z ah nh ch,Z aq nq cq],u.oneCell'=A':=by intro u hu;simp at hu;rcases hu with rfl|rfl|rfl<;>rfl
def iD(l:Lock):Bool:=!(l.hs.length+l.qs.length==0)
def dE4(ls:List Lock)(t:Int):List Int:=(ls.filter fun l=>aV l.hs t).map (·.r)
def Ch.resR(ls:List Lock)(t:Int):Int×List Int:=if bH4 ls t !=0 then(bH4 ls t,[])else(0,dE4 ls t)
theorem qP(hs:List Hold)(k:Nat):hcells (hs.drop k)=(hcells hs).drop (k*2):=by
 rcases Nat.lt_or_ge hs.length k with h|h
 .rw[List.drop_of_length_le (by omega),List.drop_of_length_le (by rw[iF];omega)];rfl
 .have e:hcells hs=hcells (hs.take k)++hcells (hs.drop k):=by rw[<-bZ,List.take_append_drop]
  have hl:(hcells (hs.take k)).length=k*2:=by rw[iF];simp;omega
  rw[e];exact(List.drop_left' hl).symm
theorem wC(ls:List Lock)(k:Nat):ls.set k (aH ls k)=ls:=by
 rcases Nat.lt_or_ge k ls.length with h|h
 .unfold aH;rw[List.getD_eq_getElem?_getD,List.getElem?_eq_getElem h];simp
 .exact List.set_eq_of_length_le h
theorem wO(hq:20<=l.qs.length):dP l k h=(F',2,l):=by unfold dP;rw[if_pos hq]
theorem wP(hq:¬20<=l.qs.length):dP l k h=(F',0,⟨l.r,l.hs,l.qs.take k++[h]++l.qs.drop k⟩):=by unfold dP;rw[if_neg hq]
theorem bU1(h:eB (bQ l.hs t) m=A'):cO l t m=(A',0,l):=by unfold cO;rw[if_pos h]
theorem bU2(h:eB (bQ l.hs t) m=F')(h2:(bQ l.hs t==0&&(!eJ l.hs t (eN (bQ l.hs t) m)||decide (0<l.qs.length)))=A'):cO l t m=dP l l.qs.length ⟨t,eN (bQ l.hs t) m⟩:=by unfold cO;rw[if_neg (by simp[h]),if_pos h2]
theorem bH1(h:eB (bQ l.hs t) m=F')(h2:(bQ l.hs t==0&&(!eJ l.hs t (eN (bQ l.hs t) m)||decide (0<l.qs.length)))=F')(h3:eJ l.hs t (eN (bQ l.hs t) m)=F'):cO l t m=dP l (cY l.hs l.qs) ⟨t,eN (bQ l.hs t) m⟩:=by unfold cO;rw[if_neg (by simp[h]),if_neg (by simp[h2]),if_pos (by simp[h3])]
theorem bH2(h:eB (bQ l.hs t) m=F')(h2:(bQ l.hs t==0&&(!eJ l.hs t (eN (bQ l.hs t) m)||decide (0<l.qs.length)))=F')(h3:eJ l.hs t (eN (bQ l.hs t) m)=A')(h4:(aV l.hs t||decide (l.hs.length<20))=F'):cO l t m=(F',2,l):=by unfold cO;rw[if_neg (by simp[h]),if_neg (by simp[h2]),if_neg (by simp[h3]),if_pos (by simp[h4])]
theorem aH7(h:eB (bQ l.hs t) m=F')(h2:(bQ l.hs t==0&&(!eJ l.hs t (eN (bQ l.hs t) m)||decide (0<l.qs.length)))=F')(h3:eJ l.hs t (eN (bQ l.hs t) m)=A')(h4:(aV l.hs t||decide (l.hs.length<20))=A'):cO l t m=(A',0,⟨l.r,iS l.hs ⟨t,eN (bQ l.hs t) m⟩,l.qs⟩):=by unfold cO;rw[if_neg (by simp[h]),if_neg (by simp[h2]),if_neg (by simp[h3]),if_neg (by simp[h4])]
structure Ch.Tx where
 id:Int
 sy:Bool
 st:Int
 un:List Bf
 wk:Int
 wa:Int
 wb:Int
 wv:Int
def Ch.Tx.zero:Tx:=⟨0,F',0,[],0,0,0,0⟩
structure Ch.Eng where
 base:List Row
 lv:List (List Row)
 lk:List Lock
 tx:List Tx
 su:List Int
 lo:List Int
 ix:List Hold
 bt:Bool
 cm:List Int
 ac:List Ac
def aQ(ts:List Tx)(k:Nat):Tx:=ts.getD k Tx.zero
def TxOne(w:World)(b off:Nat)(au:Option Addr)(nu cu:Nat)(t:Tx):Prop:=
 w.cell? ⟨b,off,O⟩=Y (I J t.id)/\w.cell? ⟨b,off+1,O⟩=Y (X t.sy)/\w.cell? ⟨b,off+2,O⟩=Y (I J t.st)/\w.cell? ⟨b,off+3,O⟩=Y (Z au nu cu)/\
  w.cell? ⟨b,off+4,O⟩=Y (I J t.wk)/\w.cell? ⟨b,off+5,O⟩=Y (I J t.wa)/\w.cell? ⟨b,off+6,O⟩=Y (I J t.wb)/\w.cell? ⟨b,off+7,O⟩=Y (I J t.wv)/\
  CellsAt w au (nu*3) (bfcells t.un)/\nu<=1048576
theorem TxOne.below{off:Nat}{nu cu:Nat}{t:Tx}(h:TxOne w b off au nu cu t)(hb:Below w.heap.size w w'):TxOne w' b off au nu cu t:=by obtain⟨h0,h1,h2,h3,h4,h5,h6,h7,h8,h9⟩:=h;exact⟨aC hb h0,aC hb h1,aC hb h2,aC hb h3,aC hb h4,aC hb h5,aC hb h6,aC hb h7,h8.below hb,h9⟩
def TxAt(w:World)(a:Option Addr)(n:Nat)(ts:List Tx):Prop:=
 ts.length=n/\(0<n->∃b off,a=Y ⟨b,off,O⟩/\∀i,i<n->∃au nu cu,TxOne w b (off+i*8) au nu cu (aQ ts i))
theorem TxAt.below{ts:List Tx}(h:TxAt w a n ts)(hb:Below w.heap.size w w'):TxAt w' a n ts:=by refine⟨h.1,fun h0=>?_⟩;obtain⟨b,off,ha,hi⟩:=h.2 h0;refine⟨b,off,ha,fun i hlt=>?_⟩;obtain⟨au,nu,cu,h1⟩:=hi i hlt;exact⟨au,nu,cu,h1.below hb⟩
theorem TxAt.txn{ts:List Tx}(h:TxAt w a n ts)(hk:k<n):∃b off au nu cu,a=Y ⟨b,off,O⟩/\TxOne w b (off+k*8) au nu cu (aQ ts k):=by obtain⟨b,off,ha,hi⟩:=h.2 (by omega);obtain⟨au,nu,cu,h1⟩:=hi k hk;exact⟨b,off,au,nu,cu,ha,h1⟩
theorem TxAt.len{ts:List Tx}(h:TxAt w a n ts):Hid (n=ts.length):=h.1.symm
structure EgS where
 ba:Option Addr
 bn:Nat
 bc:Nat
 la:Option Addr
 ln:Nat
 lc:Nat
 ka:Option Addr
 kn:Nat
 kc:Nat
 ta:Option Addr
 tn:Nat
 tc:Nat
 sa:Option Addr
 sn:Nat
 sc:Nat
 oa:Option Addr
 on:Nat
 oc:Nat
 xa:Option Addr
 xn:Nat
 xc:Nat
 ma:Option Addr
 mn:Nat
 mc:Nat
 aa:Option Addr
 an:Nat
 ac:Nat
def EgS.cells(s:EgS)(bt:Bool):Array Value:=#[Z s.ba s.bn s.bc,Z s.la s.ln s.lc,Z s.ka s.kn s.kc,Z s.ta s.tn s.tc,Z s.sa s.sn s.sc,Z s.oa s.on s.oc,Z s.xa s.xn s.xc,X bt,Z s.ma s.mn s.mc,Z s.aa s.an s.ac]
structure EgR(w:World)(s:EgS)(e:Eng):Prop where
 base:CellsAt w s.ba (s.bn*3) (rcells e.base)
 lv:LvAt w s.la s.ln e.lv
 lk:LkAt w s.ka s.kn e.lk
 tx:TxAt w s.ta s.tn e.tx
 su:CellsAt w s.sa s.sn (bts e.su)
 lo:CellsAt w s.oa s.on (bts e.lo)
 ix:CellsAt w s.xa (s.xn*2) (hcells e.ix)
 cm:CellsAt w s.ma (s.mn*1) (icells e.cm)
 ac:AcAt w s.aa s.an e.ac
 bsu:IsB e.su
 blo:IsB e.lo
 n1:s.bn<=1048576
 n2:aW e.lv<=1048576
 n3:dC e.lk<=1048576
 n4:s.tn<=1048576
 n5:s.sn<=4100000
 n6:s.on<=4100000
 n7:s.xn<=1048576
 n8:s.mn<=1048576
 n9:s.an<=1048576
 n10:∀i,(eK e.ac i).an.length<=1048576
 c5:s.sn<=s.sc
 c6:s.on<=s.oc
 c8:s.mn<=s.mc
theorem EgR.below{s:EgS}{e:Eng}(h:EgR w s e)(hb:Below w.heap.size w w'):EgR w' s e:=
 ⟨h.base.below hb,h.lv.below hb,h.lk.below hb,h.tx.below hb,h.su.below hb,h.lo.below hb,h.ix.below hb,h.cm.below hb,h.ac.below hb,h.bsu,h.blo,h.n1,h.n2,h.n3,h.n4,h.n5,h.n6,h.n7,h.n8,h.n9,h.n10,h.c5,h.c6,h.c8⟩
def EgP(w:World)(b:Nat)(s:EgS)(e:Eng):Prop:=w.heap[b]? =Y (M (s.cells e.bt) 68 (0,0))/\EgR w s e
theorem EgP.below{s:EgS}{e:Eng}(h:EgP w b s e)(hb:Below w.heap.size w w'):EgP w' b s e:=⟨(hb.block b (Array.getElem?_eq_some_iff.1 h.1).1).trans h.1,h.2.below hb⟩
theorem EgP.lt{s:EgS}{e:Eng}(h:EgP w b s e):b<w.heap.size:=(Array.getElem?_eq_some_iff.1 h.1).1
theorem EgP.all{s:EgS}{e:Eng}(h:EgP w b s e):w.cell? ⟨b,0,O⟩=Y (Z s.ba s.bn s.bc)/\w.cell? ⟨b,1,O⟩=Y (Z s.la s.ln s.lc)/\w.cell? ⟨b,2,O⟩=Y (Z s.ka s.kn s.kc)/\w.cell? ⟨b,3,O⟩=Y (Z s.ta s.tn s.tc)/\w.cell? ⟨b,4,O⟩=Y (Z s.sa s.sn s.sc)/\w.cell? ⟨b,5,O⟩=Y (Z s.oa s.on s.oc)/\w.cell? ⟨b,6,O⟩=Y (Z s.xa s.xn s.xc)/\w.cell? ⟨b,7,O⟩=Y (X e.bt)/\w.cell? ⟨b,8,O⟩=Y (Z s.ma s.mn s.mc)/\w.cell? ⟨b,9,O⟩=Y (Z s.aa s.an s.ac):=by have h1:=h.1;exact⟨cell_of_row _ _ _ _ _ _ h1,cell_of_row _ _ _ _ _ _ h1,cell_of_row _ _ _ _ _ _ h1,cell_of_row _ _ _ _ _ _ h1,cell_of_row _ _ _ _ _ _ h1,cell_of_row _ _ _ _ _ _ h1,cell_of_row _ _ _ _ _ _ h1,cell_of_row _ _ _ _ _ _ h1,cell_of_row _ _ _ _ _ _ h1,cell_of_row _ _ _ _ _ _ h1⟩
def Ch.isT(e:Eng)(t:Int):Bool:=inB t 1 e.tx.length
theorem nX(b:Nat)(s:EgS)(e:Eng)(t:Int)(w:World)(h:EgP w b s e):
  Calls prog 174 #[.pointer (Y ⟨b,0,O⟩),I J t] w fun r w'=>r=R' (X (isT e t))/\w'=w:=by
 have HL:=h.2.tx.len;obtain⟨x0,x1,x2,x3,x4,x5,x6,x7,x8,x9⟩:=h.all;have hn:=h.2.n4;have HE:Hid (isT e t=inB t 1 (s.tn:Int)):=by show _=_;unfold isT;rw[<-HL.out]
 rw[HE.out];have hbl:=h.lt;have II:=fun W=>cU t 1 (s.tn:Int) W;clear HE HL h;go_enter func174,ntmps174
 go_wp2_with fail
 refine(II _).mono ?_;rintro r w1⟨rfl,hw1⟩;obtain rfl:=hw1.symm;go_wp2;go_ret;exact⟨rfl,rfl⟩
def gK(ls:List Lock)(t:Int)(k:Nat):Bool:=(ls.take k).any (fun l=>decide (0<=Ch.atH l.hs t)||decide (0<=Ch.atH l.qs t))
theorem aL6(h:k<ls.length):gK ls t (k+1)=(gK ls t k||(decide (0<=Ch.atH (aH ls k).hs t)||decide (0<=Ch.atH (aH ls k).qs t))):=by unfold gK;rw[List.take_add_one,List.getElem?_eq_getElem h,List.any_append];simp[aH,List.getD,h]
theorem aG1(h:gK ls t k=A'):gK ls t ls.length=A':=by unfold gK at*;rw[List.any_eq_true]at*;obtain⟨x,hx,hp⟩:=h;exact⟨x,by rw[List.take_length];exact List.mem_of_mem_take hx,hp⟩
theorem oU(a:Option Addr)(n cap:Nat)(ls:List (List Row))(w:World)(h:LvAt w a n ls)(hs:aW ls<=1048576)(hg:∀k,k<n->(ls.getD k []).length≠0):
  Calls prog 141 #[Z a n cap] w fun e w'=>∃a' c',e=R' (Z a' n c')/\OwnLv w' w.heap.size (Z a' n c') n ls/\Below w.heap.size w w':=by
 have HL:=h.len;have hn:n<=1048576:=by unfold aW at hs;have:=HL.out;omega
 have o0:=oQ w w.heap.size z';have O0:OwnLv (w.alloc (M #[] 200)) w.heap.size (Z (Y ⟨w.heap.size,0,O⟩) 0 0) 0 []:=⟨rfl,[],o0,fun i hi=>absurd hi (by omega),fun i j x y g _ hx=>by simp at hx,fun i x g hx=>by simp at hx⟩
 clear o0;go_enter func141,ntmps141
 go_wp2;go_loopw [3,4] (fun q i wr=>∃(k:Nat) (a':Option Addr) (c':Nat),k<=n/\i=I J k/\q=Z a' k c'/\OwnLv wr w.heap.size (Z a' k c') k (ls.take k)/\Below w.heap.size w wr) (fun _ i _=>n-(intOf i).toNat)
 case atStart=>exact⟨0,_,_,Nat.zero_le _,rfl,rfl,by simpa using O0,q'⟩
 case round=>
  clear O0;obtain⟨k,a',c',hk,rfl,rfl,own,hB⟩:=hrel;by_cases hlt:k<n
  .have hkl:k<ls.length:=by have:=HL.out;omega
   have HS:=hid (eZ hs k);have HT:=hid (bT ls [] k hkl);have hl0:=hg k hlt;obtain⟨b,off,ai,ni,ci,rfl,hc,hr,hni⟩:=h.leaf hlt;have HRl:=hr.rlen;have hni':ni<=1048576:=by have:=HS.out;have:=HRl.out;omega
   have hni0:0<ni:=by have:=HRl.out;omega
   generalize ls.getD k []=l at*;generalize ls.take k=DL at*;clear HS hl0;have hcr:=aC hB hc;have hrr:=hr.below hB;have hbl:=aD hcr;obtain⟨bi,oi,rfl,_⟩:=hr.2 (by omega);have e0:=jV wr wr.heap.size z';have bR:=f' wr (M #[] 86);have hr1:=hrr.below bR;obtain⟨vs,hV⟩:=own.told;have hoV:=hV.2.1;have hsum:k+1<=2097152:=by omega
   have hsum0:0+ni<=2097152:=by omega
   have bA:∀(W:World) o,Below W.heap.size W (W.alloc o):=fun W o=>q';have hBs:=hB.size;go_wp2_with(at_builtin;first|(refine fC (.tmp 13) (.tmp 18) wr.heap.size (Z (Y ⟨wr.heap.size,0,O⟩) 0 0) 0 [] ni l hsum0 ?_ ?_ ?_ ?_ ?_ ?_ ?_;exact rfl;exact rfl;exact rfl;exact⟨_,_,rfl,hr1⟩;exact e0;(focus(simp;done));intro a2 c2 w2 own2 b2;have b2':=bR.trans b2;have own2':=aF hoV b2';simp only[Nat.zero_add,List.nil_append]at own2)|(go_must (refine mU (.tmp 12) (.tmp 21) w.heap.size (Z a' k c') k vs 1 [Z a2 ni c2] hsum (by simp[Value.oneCell']) ?_ ?_ ?_ ?_ ?_ ?_ ?_ (by omega);exact rfl;exact rfl;exact rfl;exact⟨_,_,rfl,uX rfl⟩;exact aF own2' (bA _ _);(focus(have:=b2'.size;simp;omega));intro a3 c3 w3 own3 gr3 at3)))
   go_roundw;case rel=>
    have hbq:=hB.trans (b2'.mono hBs);refine⟨k+1,a3,c3,by omega,by go_num,rfl,?_,?_⟩
    .rw[HT.out];refine OwnLv.snoc hV b2' ?_ hBs rfl own3 gr3 at3;have:=HRl.out;rw[<-this];exact own2
    .refine(hbq.alloc hbq.size _).grown gr3 (by have:=hbq.size;simp;omega) ?_;intro j hj;exact(aG hoV j hj).1
   case measure=>simp[intOf];omega
  .obtain rfl:k=n:=by omega
   go_wp2;go_ret;have e1:=HL.out;rw[List.take_of_length_le (by omega)]at own;exact⟨a',c',rfl,own,hB⟩
end Go.Proofs.YtpbbokalojdooaaGreat
