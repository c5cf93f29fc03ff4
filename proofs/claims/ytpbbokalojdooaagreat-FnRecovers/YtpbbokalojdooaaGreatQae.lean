import Derived.Test.YtpbbokalojdooaaGreatQac
namespace Go.Proofs.YtpbbokalojdooaaGreat
open Go.RowKit Ch Go.Proofs.Tryz
set_option linter.unusedSimpArgs false
set_option linter.unusedVariables false
set_option maxRecDepth 20000
set_option maxHeartbeats 8000000
open Value renaming int->I,slice->Z,bool->X,agg->U
open IntKind renaming i64->J
open Option renaming none->O,some->Y
open Obj renaming cells->M
open Ending renaming returned->R'
open Bool renaming true->A',false->F'
variable {a:Act} {K:Act->World->Prop} {ops:Array Oper} {Q:Exit->Act->World->Prop} {t:Int} {ls:List Lock} {rest:List Oper} {p:Lock->Bool} {k n:Nat} {o:Oper} {w:World}
theorem Tryz.info5:(prog.info? 5).map (fun i=>(i.zero,i.size,i.bytes))=Y (Y (I .u8 0),1,1):=by kernel_rfl
theorem aF2(a:Option Addr)(n cap:Nat)(zs:List Int)(w:World)(h:CellsAt w a n (bts zs))(hb:IsB zs)(hn:n<=1099511627776):
  Calls prog 154 #[Z a n cap] w fun e w'=>e=R' (I J (gP zs))/\w'=w:=by
 have HL:=h.len;go_enter func154,ntmps154
 go_wp2;go_loop [3,4] (fun s i=>∃k:Nat,k<=n/\i=I J k/\s=I J (gP (zs.take k))) (fun _ i=>n-(intOf i).toNat)
 case atStart=>exact⟨0,Nat.zero_le _,rfl,rfl⟩
 case round=>
  obtain⟨k,hk,rfl,rfl⟩:=hrel;obtain⟨s0,s1⟩:=oW (zs.take k);by_cases hlt:k<n
  .obtain⟨b,off,rfl,hc⟩:=h.at hlt;obtain⟨z0,z1⟩:=hb k;have HS:Hid (gP (zs.take (k+1))=nQ (gP (zs.take k)) (zs.getD k 0)):=aF3 zs k (by have:=HL.out;omega);generalize zs.getD k 0=z at*;generalize gP (zs.take k)=s at*;go_wp2;go_round
   case rel=>exact⟨k+1,by omega,by go_num,by rw[HS.out];rfl⟩
   case measure=>simp[intOf];omega
  .go_wp2;go_ret;exact⟨cK (by rw[List.take_of_length_le (by have:=HL.out;omega)]),rfl⟩
theorem bK2(a:Option Addr)(n cap:Nat)(zs:List Int)(w:World)(h:CellsAt w a n (bts zs))(hb:IsB zs)(hn:n<=1099511627776):
  Calls prog 189 #[Z a n cap] w fun e w'=>e=R' (I J (gP zs))/\w'=w:=by
 have HL:=h.len;go_enter func189,ntmps189
 go_wp2;go_loop [3,8] (fun s i=>∃k:Nat,k<=n/\i=I J k/\s=I J (gP (zs.take k))) (fun _ i=>n-(intOf i).toNat)
 case atStart=>exact⟨0,Nat.zero_le _,rfl,rfl⟩
 case round=>
  obtain⟨k,hk,rfl,rfl⟩:=hrel;obtain⟨s0,s1⟩:=oW (zs.take k);by_cases hlt:k<n
  .obtain⟨b,off,rfl,hc⟩:=h.at hlt;obtain⟨z0,z1⟩:=hb k;have HS:Hid (gP (zs.take (k+1))=nQ (gP (zs.take k)) (zs.getD k 0)):=aF3 zs k (by have:=HL.out;omega);generalize zs.getD k 0=z at*;generalize gP (zs.take k)=s at*;go_wp2;go_round
   case rel=>exact⟨k+1,by omega,by go_num,by rw[HS.out];rfl⟩
   case measure=>simp[intOf];omega
  .go_wp2;go_ret;exact⟨cK (by rw[List.take_of_length_le (by have:=HL.out;omega)]),rfl⟩
def copied(zs:List Int)(n k:Nat):List Value:=bts (zs.take k)++List.replicate (n-k) (I .u8 0)
theorem vY(v:Int)(w:World)(h0:0<=v)(h1:v<65536):
  Calls prog 153 #[I J v] w fun e w'=>e=R' (Z (Y ⟨w.heap.size,0,O⟩) 2 2)/\w'=w.alloc (M #[I .u8 (v / 256),I .u8 (v%256)] 5):=by
 go_enter func153,ntmps153
 go_wp2;go_ret;exact⟨rfl,rfl⟩
structure Grew(B:Nat)(w w':World)(g g':Nat):Prop where
 below:Below B w w'
 size:w.heap.size<=w'.heap.size
 here:g'=g\/g'=w.heap.size
 lt:g'<w'.heap.size
 blk:∀h,h<w.heap.size->h≠g->w'.heap[h]? =w.heap[h]?
theorem Grew.cell{B:Nat}{w':World}{g g' b o:Nat}(h:Grew B w w' g g')(hb:b<B):w'.cell? ⟨b,o,O⟩=w.cell? ⟨b,o,O⟩:=h.below.cell (p:=⟨b,o,O⟩) hb
theorem aO{o:Obj}(h:n=w.heap.size):(w.alloc o).heap[n]? =Y o:=by subst h;exact heap_alloc_new w o
theorem dJ{o:Obj}(h:n<w.heap.size):(w.alloc o).heap[n]? =w.heap[n]? :=Below.heap_alloc w o n h
theorem dA3{E:Prop}(s x:Operand)
  (B g n cp:Nat) (xs:List Value) (m:Nat) (cs:Array Value) (hm:0<m/\cs.size=m/\n+m<=1099511627776/\B<=g)
  (ho:o.op= .call {callee:=.builtin .append,args:=#[s,x],argTypes:=#[22,22]}) (hgd:o.guard=O)
  (hs:a.eval s=Z (Y ⟨g,0,O⟩) n cp) (hx:∃h c t,a.eval x=Z (Y ⟨h,0,O⟩) m c/\w.heap[h]? =Y (M cs t (0,0)))
  (hown:w.ownsRow B 5 1 (Z (Y ⟨g,0,O⟩) n cp) n xs) (h1:∀u∈cs.toList,u.oneCell'=A') (hbase:B<=w.heap.size)
  (hK:∀g' cp' w',w'.ownsRow B 5 1 (Z (Y ⟨g',0,O⟩) (n+m) cp') (n+m) (xs++cs.toList)->Grew B w w' g g'->K (a.put o.dst (Z (Y ⟨g',0,O⟩) (n+m) cp')) w'):
  if Region.wanted o (yielded ops a.tmps)=A' then Oper.wp prog o a w K Q else E:=by
 obtain⟨hm,hl,hb,hgB⟩:=hm;obtain⟨h,c,t,hx,hblk⟩:=hx;obtain⟨i0,hi,hz0,hz1,hz2⟩:=info_parts Tryz.info5;refine step_append_lies _ hgd s x 22 ho B 5 i0 _ 1 1 underlying22 hi hz0 hz1 hz2 rfl (by omega) _ n xs hs hown ⟨h,0,O⟩ m c cs.toList hx (by simpa using hl) (World.news_of_block hblk) h1 hm (by unfold maxLen;omega) (by omega) hbase _ rfl ?_;intro g' cp' w' hown' hgrow hat hlt;refine hK g' cp' w' hown' ⟨u'.grown hgrow hbase (fun k hk=>?_),hgrow.size,?_,hlt,fun k hk hne=>hgrow.block k hk (by simpa[Value.ownBlock]using hne)⟩
 .simp[Value.ownBlock]at hk;omega
 .rcases hat with hat|hat
  .simp[Value.ownBlock]at hat;exact .inl hat.symm
  .exact .inr hat
theorem aP8(s x:Operand)
  (B g n cp:Nat) (xs:List Value) (m:Nat) (cs:Array Value) (hm:0<m/\cs.size=m/\n+m<=1099511627776/\B<=g)
  (ho:o.op= .call {callee:=.builtin .append,args:=#[s,x],argTypes:=#[22,22]}) (hgd:o.guard=O)
  (hs:a.eval s=Z (Y ⟨g,0,O⟩) n cp) (hx:∃h c t,a.eval x=Z (Y ⟨h,0,O⟩) m c/\w.heap[h]? =Y (M cs t (0,0)))
  (hown:w.ownsRow B 5 1 (Z (Y ⟨g,0,O⟩) n cp) n xs) (h1:∀u∈cs.toList,u.oneCell'=A') (hbase:B<=w.heap.size)
  (hK:∀g' cp' w',w'.ownsRow B 5 1 (Z (Y ⟨g',0,O⟩) (n+m) cp') (n+m) (xs++cs.toList)->Grew B w w' g g'->wpList prog ops Q rest (a.put o.dst (Z (Y ⟨g',0,O⟩) (n+m) cp')) w'):
  wpList prog ops Q (o::rest) a w:=by
 obtain⟨hm,hl,hb,hgB⟩:=hm;obtain⟨h,c,t,hx,hblk⟩:=hx;obtain⟨i0,hi,hz0,hz1,hz2⟩:=info_parts Tryz.info5;refine wpList_append_lies _ hgd s x 22 ho B 5 i0 _ 1 1 underlying22 hi hz0 hz1 hz2 rfl (by omega) _ n xs hs hown ⟨h,0,O⟩ m c cs.toList hx (by simpa using hl) (World.news_of_block hblk) h1 hm (by unfold maxLen;omega) (by omega) hbase _ rfl ?_;intro g' cp' w' hown' hgrow hat hlt;refine hK g' cp' w' hown' ⟨u'.grown hgrow hbase (fun k hk=>?_),hgrow.size,?_,hlt,fun k hk hne=>hgrow.block k hk (by simpa[Value.ownBlock]using hne)⟩
 .simp[Value.ownBlock]at hk;omega
 .rcases hat with hat|hat
  .simp[Value.ownBlock]at hat;exact .inl hat.symm
  .exact .inr hat
theorem yZ(v:Int)(w:World)(h0:0<=v)(h1:v<65536):
  Calls prog 157 #[I J v] w fun e w'=>e=R' (I .u8 (v / 256))/\w'=w:=by
 go_enter func157,ntmps157
 go_wp2;go_ret;exact⟨rfl,rfl⟩
theorem aG9(v:Int)(w:World)(h0:0<=v)(h1:v<65536):
  Calls prog 158 #[I J v] w fun e w'=>e=R' (I .u8 (v%256))/\w'=w:=by
 go_enter func158,ntmps158
 go_wp2;go_ret;exact⟨rfl,rfl⟩
theorem wL(B g n cp:Nat)(p:List Int)(w:World)(hown:w.ownsRow B 5 1 (Z (Y ⟨g,0,O⟩) n cp) n (bts p))(hB:B<=w.heap.size)(hn:n<=1000000)(hb:IsB p):
  Calls prog 160 #[Z (Y ⟨g,0,O⟩) n cp] w fun e w'=>∃g' cp',e=R' (Z (Y ⟨g',0,O⟩) (n+2) cp')/\w'.ownsRow B 5 1 (Z (Y ⟨g',0,O⟩) (n+2) cp') (n+2) (bts (gW p))/\Below B w w':=by
 have hgB:=gI hown;obtain⟨s0,s1⟩:=oW p;have HE:Hid (bts p++[I .u8 (gP p / 256),I .u8 (gP p%256)]=bts (gW p)):=by show _=_;simp[gW,bts]
 go_enter func160,ntmps160
 go_wp2_with fail
 refine(bK2 _ n cp p _ (by simpa using aJ hown) hb (by omega)).mono ?_;rintro e w1⟨rfl,rfl⟩;generalize gP p=q at*;go_wp2_with fail
 refine(yZ _ _ s0 (by omega)).mono ?_;rintro e w2⟨rfl,rfl⟩;go_wp2_with fail
 refine(aG9 _ _ s0 (by omega)).mono ?_;rintro e w3⟨rfl,rfl⟩;go_wp2_with(at_builtin;refine aP8 (.tmp 6) (.tmp 11) B g n cp (bts p) 2 #[I .u8 (q / 256),I .u8 (q%256)] ⟨by omega,rfl,by omega,by omega⟩ ?_ ?_ ?_ ?_ ?_ ?_ ?_ ?_;exact rfl;exact rfl;exact rfl;(refine⟨_,_,5,rfl,?_⟩;exact aO rfl);exact hown.alloc _;(simp[Value.oneCell']);(simp;omega);intro g1 c1 w4 own1 gr1)
 go_ret;refine⟨g1,c1,rfl,?_,(u'.alloc hB _).trans gr1.below⟩;rw[<-HE.out];exact own1
theorem dD8(x y:Int)(x0:0<=x)(x1:x<=255)(y0:0<=y)(y1:y<=255):bits .or .u16 (x*256) y=x*256+y:=by
 rw[u16_or _ _ (by omega) (by omega) y0 (by omega)];obtain⟨p,rfl⟩:=Int.eq_ofNat_of_zero_le x0;obtain⟨q,rfl⟩:=Int.eq_ofNat_of_zero_le y0;have e:((p:Int)*256).toNat=p<<<8:=by rw[Nat.shiftLeft_eq];omega
 rw[e,Int.toNat_natCast,<-Nat.shiftLeft_add_eq_or_of_lt (show q<2^8 by omega),Nat.shiftLeft_eq];omega
theorem aM2(x y:Int)(w:World)(x0:0<=x)(x1:x<=255)(y0:0<=y)(y1:y<=255):
  Calls prog 156 #[I .u8 x,I .u8 y] w fun e w'=>e=R' (I J (x*256+y))/\w'=w:=by
 have ho:=dD8 x y x0 x1 y0 y1;go_enter func156,ntmps156
 go_wp2;go_ret;exact⟨rfl,rfl⟩
theorem dA5(a:Option Addr)(n cap k:Nat)(zs:List Int)(w:World)(h:CellsAt w a n (bts zs))(hb:IsB zs)(hn:n<=1099511627776)(hk:k+1<n):
  Calls prog 111 #[Z a n cap,I J k] w fun e w'=>e=R' (I J (zs.getD k 0*256+zs.getD (k+1) 0))/\∃q,w'=w.drewN q:=by
 obtain⟨b,off,rfl,hc⟩:=h.at (show k<n by omega);obtain⟨b',off',hbo,hc'⟩:=h.at hk;simp only[Option.some.injEq,Addr.mk.injEq,and_true]at hbo;obtain⟨rfl,rfl⟩:=hbo;obtain⟨x0,x1⟩:=hb k;obtain⟨y0,y1⟩:=hb (k+1);generalize zs.getD k 0=x at*;generalize zs.getD (k+1) 0=y at*;go_enter func111,ntmps111
 go_wp2;go_quiet (fail)
 go_wp2;go_ret;exact⟨rfl,_,rfl⟩
theorem cA6{k a b v:Int}(hk:inB k 1 10=F'):aN k a b v=1:=by unfold aN;unfold inB at hk;simp only[Bool.and_eq_false_iff,decide_eq_false_iff_not]at hk;repeat rw[if_neg (by omega)]
theorem cC2(a b v:Int)(ha:inB a 0 99=F')(w:World):
  Calls prog 87 #[U #[I J 1,I J a,I J b,I J v]] w fun e w'=>e=R' (I J 3)/\Below w.heap.size w w':=by
 go_enter func87,ntmps87
 go_wp2_with(first|(go_at_call 101;refine(cU _ _ _ _).mono ?_;rintro e w'⟨rfl,rfl⟩)|(go_at_call 124;refine(cQ _ _).mono ?_;rintro e w'⟨rfl,rfl⟩)|(go_at_call 125;refine(bM _ _).mono ?_;rintro e w'⟨rfl,rfl⟩))
 go_ret;exact⟨by simp,q'⟩
theorem cC3(a b v:Int)(ha:inB a 0 99=A')(zb:(b !=0)=A')(w:World):
  Calls prog 87 #[U #[I J 1,I J a,I J b,I J v]] w fun e w'=>e=R' (I J 1)/\Below w.heap.size w w':=by
 go_enter func87,ntmps87
 go_wp2_with(first|(go_at_call 101;refine(cU _ _ _ _).mono ?_;rintro e w'⟨rfl,rfl⟩)|(go_at_call 124;refine(cQ _ _).mono ?_;rintro e w'⟨rfl,rfl⟩)|(go_at_call 125;refine(bM _ _).mono ?_;rintro e w'⟨rfl,rfl⟩))
 go_ret;exact⟨by simp,q'⟩
theorem cC4(a v:Int)(ha:inB a 0 99=A')(zv:(v !=0)=A')(w:World):
  Calls prog 87 #[U #[I J 1,I J a,I J 0,I J v]] w fun e w'=>e=R' (I J 1)/\Below w.heap.size w w':=by
 go_enter func87,ntmps87
 go_wp2_with(first|(go_at_call 101;refine(cU _ _ _ _).mono ?_;rintro e w'⟨rfl,rfl⟩)|(go_at_call 124;refine(cQ _ _).mono ?_;rintro e w'⟨rfl,rfl⟩)|(go_at_call 125;refine(bM _ _).mono ?_;rintro e w'⟨rfl,rfl⟩))
 go_ret;exact⟨by simp,q'⟩
theorem cC5(a:Int)(ha:inB a 0 99=A')(w:World):
  Calls prog 87 #[U #[I J 1,I J a,I J 0,I J 0]] w fun e w'=>e=R' (I J 0)/\Below w.heap.size w w':=by
 go_enter func87,ntmps87
 go_wp2_with(first|(go_at_call 101;refine(cU _ _ _ _).mono ?_;rintro e w'⟨rfl,rfl⟩)|(go_at_call 124;refine(cQ _ _).mono ?_;rintro e w'⟨rfl,rfl⟩)|(go_at_call 125;refine(bM _ _).mono ?_;rintro e w'⟨rfl,rfl⟩))
 go_ret;exact⟨by simp,q'⟩
theorem cC6(a b v:Int)(ha:inB a 0 99=F')(w:World):
  Calls prog 87 #[U #[I J 2,I J a,I J b,I J v]] w fun e w'=>e=R' (I J 3)/\Below w.heap.size w w':=by
 go_enter func87,ntmps87
 go_wp2_with(first|(go_at_call 101;refine(cU _ _ _ _).mono ?_;rintro e w'⟨rfl,rfl⟩)|(go_at_call 124;refine(cQ _ _).mono ?_;rintro e w'⟨rfl,rfl⟩)|(go_at_call 125;refine(bM _ _).mono ?_;rintro e w'⟨rfl,rfl⟩))
 go_ret;exact⟨by simp,q'⟩
theorem cC7(a b v:Int)(ha:inB a 0 99=A')(hv:inB v 0 9999=F')(w:World):
  Calls prog 87 #[U #[I J 2,I J a,I J b,I J v]] w fun e w'=>e=R' (I J 3)/\Below w.heap.size w w':=by
 go_enter func87,ntmps87
 go_wp2_with(first|(go_at_call 101;refine(cU _ _ _ _).mono ?_;rintro e w'⟨rfl,rfl⟩)|(go_at_call 124;refine(cQ _ _).mono ?_;rintro e w'⟨rfl,rfl⟩)|(go_at_call 125;refine(bM _ _).mono ?_;rintro e w'⟨rfl,rfl⟩))
 go_ret;exact⟨by simp,q'⟩
theorem cC8(a b v:Int)(ha:inB a 0 99=A')(hv:inB v 0 9999=A')(zb:(b !=0)=A')(w:World):
  Calls prog 87 #[U #[I J 2,I J a,I J b,I J v]] w fun e w'=>e=R' (I J 1)/\Below w.heap.size w w':=by
 go_enter func87,ntmps87
 go_wp2_with(first|(go_at_call 101;refine(cU _ _ _ _).mono ?_;rintro e w'⟨rfl,rfl⟩)|(go_at_call 124;refine(cQ _ _).mono ?_;rintro e w'⟨rfl,rfl⟩)|(go_at_call 125;refine(bM _ _).mono ?_;rintro e w'⟨rfl,rfl⟩))
 go_ret;exact⟨by simp,q'⟩
theorem cC9(a v:Int)(ha:inB a 0 99=A')(hv:inB v 0 9999=A')(w:World):
  Calls prog 87 #[U #[I J 2,I J a,I J 0,I J v]] w fun e w'=>e=R' (I J 0)/\Below w.heap.size w w':=by
 go_enter func87,ntmps87
 go_wp2_with(first|(go_at_call 101;refine(cU _ _ _ _).mono ?_;rintro e w'⟨rfl,rfl⟩)|(go_at_call 124;refine(cQ _ _).mono ?_;rintro e w'⟨rfl,rfl⟩)|(go_at_call 125;refine(bM _ _).mono ?_;rintro e w'⟨rfl,rfl⟩))
 go_ret;exact⟨by simp,q'⟩
theorem cD0(a b v:Int)(ha:inB a 0 99=F')(w:World):
  Calls prog 87 #[U #[I J 3,I J a,I J b,I J v]] w fun e w'=>e=R' (I J 3)/\Below w.heap.size w w':=by
 go_enter func87,ntmps87
 go_wp2_with(first|(go_at_call 101;refine(cU _ _ _ _).mono ?_;rintro e w'⟨rfl,rfl⟩)|(go_at_call 124;refine(cQ _ _).mono ?_;rintro e w'⟨rfl,rfl⟩)|(go_at_call 125;refine(bM _ _).mono ?_;rintro e w'⟨rfl,rfl⟩))
 go_ret;exact⟨by simp,q'⟩
theorem cD1(a b v:Int)(ha:inB a 0 99=A')(zb:(b !=0)=A')(w:World):
  Calls prog 87 #[U #[I J 3,I J a,I J b,I J v]] w fun e w'=>e=R' (I J 1)/\Below w.heap.size w w':=by
 go_enter func87,ntmps87
 go_wp2_with(first|(go_at_call 101;refine(cU _ _ _ _).mono ?_;rintro e w'⟨rfl,rfl⟩)|(go_at_call 124;refine(cQ _ _).mono ?_;rintro e w'⟨rfl,rfl⟩)|(go_at_call 125;refine(bM _ _).mono ?_;rintro e w'⟨rfl,rfl⟩))
 go_ret;exact⟨by simp,q'⟩
theorem cD2(a v:Int)(ha:inB a 0 99=A')(zv:(v !=0)=A')(w:World):
  Calls prog 87 #[U #[I J 3,I J a,I J 0,I J v]] w fun e w'=>e=R' (I J 1)/\Below w.heap.size w w':=by
 go_enter func87,ntmps87
 go_wp2_with(first|(go_at_call 101;refine(cU _ _ _ _).mono ?_;rintro e w'⟨rfl,rfl⟩)|(go_at_call 124;refine(cQ _ _).mono ?_;rintro e w'⟨rfl,rfl⟩)|(go_at_call 125;refine(bM _ _).mono ?_;rintro e w'⟨rfl,rfl⟩))
 go_ret;exact⟨by simp,q'⟩
theorem cD3(a:Int)(ha:inB a 0 99=A')(w:World):
  Calls prog 87 #[U #[I J 3,I J a,I J 0,I J 0]] w fun e w'=>e=R' (I J 0)/\Below w.heap.size w w':=by
 go_enter func87,ntmps87
 go_wp2_with(first|(go_at_call 101;refine(cU _ _ _ _).mono ?_;rintro e w'⟨rfl,rfl⟩)|(go_at_call 124;refine(cQ _ _).mono ?_;rintro e w'⟨rfl,rfl⟩)|(go_at_call 125;refine(bM _ _).mono ?_;rintro e w'⟨rfl,rfl⟩))
 go_ret;exact⟨by simp,q'⟩
theorem cD4(a b v:Int)(ha:inB a 0 99=F')(w:World):
  Calls prog 87 #[U #[I J 4,I J a,I J b,I J v]] w fun e w'=>e=R' (I J 3)/\Below w.heap.size w w':=by
 go_enter func87,ntmps87
 go_wp2_with(first|(go_at_call 101;refine(cU _ _ _ _).mono ?_;rintro e w'⟨rfl,rfl⟩)|(go_at_call 124;refine(cQ _ _).mono ?_;rintro e w'⟨rfl,rfl⟩)|(go_at_call 125;refine(bM _ _).mono ?_;rintro e w'⟨rfl,rfl⟩))
 go_ret;exact⟨by simp,q'⟩
theorem cD5(a b v:Int)(ha:inB a 0 99=A')(hb:inB b 0 99=F')(w:World):
  Calls prog 87 #[U #[I J 4,I J a,I J b,I J v]] w fun e w'=>e=R' (I J 3)/\Below w.heap.size w w':=by
 go_enter func87,ntmps87
 go_wp2_with(first|(go_at_call 101;refine(cU _ _ _ _).mono ?_;rintro e w'⟨rfl,rfl⟩)|(go_at_call 124;refine(cQ _ _).mono ?_;rintro e w'⟨rfl,rfl⟩)|(go_at_call 125;refine(bM _ _).mono ?_;rintro e w'⟨rfl,rfl⟩))
 go_ret;exact⟨by simp,q'⟩
theorem cD6(a b v:Int)(ha:inB a 0 99=A')(hb:inB b 0 99=A')(zv:(v !=0)=A')(w:World):
  Calls prog 87 #[U #[I J 4,I J a,I J b,I J v]] w fun e w'=>e=R' (I J 1)/\Below w.heap.size w w':=by
 go_enter func87,ntmps87
 go_wp2_with(first|(go_at_call 101;refine(cU _ _ _ _).mono ?_;rintro e w'⟨rfl,rfl⟩)|(go_at_call 124;refine(cQ _ _).mono ?_;rintro e w'⟨rfl,rfl⟩)|(go_at_call 125;refine(bM _ _).mono ?_;rintro e w'⟨rfl,rfl⟩))
 go_ret;exact⟨by simp,q'⟩
theorem cD7(a b:Int)(ha:inB a 0 99=A')(hb:inB b 0 99=A')(w:World):
  Calls prog 87 #[U #[I J 4,I J a,I J b,I J 0]] w fun e w'=>e=R' (I J 0)/\Below w.heap.size w w':=by
 go_enter func87,ntmps87
 go_wp2_with(first|(go_at_call 101;refine(cU _ _ _ _).mono ?_;rintro e w'⟨rfl,rfl⟩)|(go_at_call 124;refine(cQ _ _).mono ?_;rintro e w'⟨rfl,rfl⟩)|(go_at_call 125;refine(bM _ _).mono ?_;rintro e w'⟨rfl,rfl⟩))
 go_ret;exact⟨by simp,q'⟩
theorem cD8(a b v:Int)(hv:inB v 0 9999=F')(w:World):
  Calls prog 87 #[U #[I J 5,I J a,I J b,I J v]] w fun e w'=>e=R' (I J 3)/\Below w.heap.size w w':=by
 go_enter func87,ntmps87
 go_wp2_with(first|(go_at_call 101;refine(cU _ _ _ _).mono ?_;rintro e w'⟨rfl,rfl⟩)|(go_at_call 124;refine(cQ _ _).mono ?_;rintro e w'⟨rfl,rfl⟩)|(go_at_call 125;refine(bM _ _).mono ?_;rintro e w'⟨rfl,rfl⟩))
 go_ret;exact⟨by simp,q'⟩
theorem cD9(a b v:Int)(hv:inB v 0 9999=A')(za:(a !=0)=A')(w:World):
  Calls prog 87 #[U #[I J 5,I J a,I J b,I J v]] w fun e w'=>e=R' (I J 1)/\Below w.heap.size w w':=by
 go_enter func87,ntmps87
 go_wp2_with(first|(go_at_call 101;refine(cU _ _ _ _).mono ?_;rintro e w'⟨rfl,rfl⟩)|(go_at_call 124;refine(cQ _ _).mono ?_;rintro e w'⟨rfl,rfl⟩)|(go_at_call 125;refine(bM _ _).mono ?_;rintro e w'⟨rfl,rfl⟩))
 go_ret;exact⟨by simp,q'⟩
theorem cE0(b v:Int)(hv:inB v 0 9999=A')(zb:(b !=0)=A')(w:World):
  Calls prog 87 #[U #[I J 5,I J 0,I J b,I J v]] w fun e w'=>e=R' (I J 1)/\Below w.heap.size w w':=by
 go_enter func87,ntmps87
 go_wp2_with(first|(go_at_call 101;refine(cU _ _ _ _).mono ?_;rintro e w'⟨rfl,rfl⟩)|(go_at_call 124;refine(cQ _ _).mono ?_;rintro e w'⟨rfl,rfl⟩)|(go_at_call 125;refine(bM _ _).mono ?_;rintro e w'⟨rfl,rfl⟩))
 go_ret;exact⟨by simp,q'⟩
theorem cE1(v:Int)(hv:inB v 0 9999=A')(w:World):
  Calls prog 87 #[U #[I J 5,I J 0,I J 0,I J v]] w fun e w'=>e=R' (I J 0)/\Below w.heap.size w w':=by
 go_enter func87,ntmps87
 go_wp2_with(first|(go_at_call 101;refine(cU _ _ _ _).mono ?_;rintro e w'⟨rfl,rfl⟩)|(go_at_call 124;refine(cQ _ _).mono ?_;rintro e w'⟨rfl,rfl⟩)|(go_at_call 125;refine(bM _ _).mono ?_;rintro e w'⟨rfl,rfl⟩))
 go_ret;exact⟨by simp,q'⟩
theorem cE2(a b v:Int)(za:(a !=0)=A')(w:World):
  Calls prog 87 #[U #[I J 6,I J a,I J b,I J v]] w fun e w'=>e=R' (I J 1)/\Below w.heap.size w w':=by
 go_enter func87,ntmps87
 go_wp2_with(first|(go_at_call 101;refine(cU _ _ _ _).mono ?_;rintro e w'⟨rfl,rfl⟩)|(go_at_call 124;refine(cQ _ _).mono ?_;rintro e w'⟨rfl,rfl⟩)|(go_at_call 125;refine(bM _ _).mono ?_;rintro e w'⟨rfl,rfl⟩))
 go_ret;exact⟨by simp,q'⟩
theorem cE3(b v:Int)(zb:(b !=0)=A')(w:World):
  Calls prog 87 #[U #[I J 6,I J 0,I J b,I J v]] w fun e w'=>e=R' (I J 1)/\Below w.heap.size w w':=by
 go_enter func87,ntmps87
 go_wp2_with(first|(go_at_call 101;refine(cU _ _ _ _).mono ?_;rintro e w'⟨rfl,rfl⟩)|(go_at_call 124;refine(cQ _ _).mono ?_;rintro e w'⟨rfl,rfl⟩)|(go_at_call 125;refine(bM _ _).mono ?_;rintro e w'⟨rfl,rfl⟩))
 go_ret;exact⟨by simp,q'⟩
theorem cE4(v:Int)(zv:(v !=0)=A')(w:World):
  Calls prog 87 #[U #[I J 6,I J 0,I J 0,I J v]] w fun e w'=>e=R' (I J 1)/\Below w.heap.size w w':=by
 go_enter func87,ntmps87
 go_wp2_with(first|(go_at_call 101;refine(cU _ _ _ _).mono ?_;rintro e w'⟨rfl,rfl⟩)|(go_at_call 124;refine(cQ _ _).mono ?_;rintro e w'⟨rfl,rfl⟩)|(go_at_call 125;refine(bM _ _).mono ?_;rintro e w'⟨rfl,rfl⟩))
 go_ret;exact⟨by simp,q'⟩
theorem cE5(w:World):
  Calls prog 87 #[U #[I J 6,I J 0,I J 0,I J 0]] w fun e w'=>e=R' (I J 0)/\Below w.heap.size w w':=by
 go_enter func87,ntmps87
 go_wp2_with(first|(go_at_call 101;refine(cU _ _ _ _).mono ?_;rintro e w'⟨rfl,rfl⟩)|(go_at_call 124;refine(cQ _ _).mono ?_;rintro e w'⟨rfl,rfl⟩)|(go_at_call 125;refine(bM _ _).mono ?_;rintro e w'⟨rfl,rfl⟩))
 go_ret;exact⟨by simp,q'⟩
theorem cE6(a b v:Int)(za:(a !=0)=A')(w:World):
  Calls prog 87 #[U #[I J 7,I J a,I J b,I J v]] w fun e w'=>e=R' (I J 1)/\Below w.heap.size w w':=by
 go_enter func87,ntmps87
 go_wp2_with(first|(go_at_call 101;refine(cU _ _ _ _).mono ?_;rintro e w'⟨rfl,rfl⟩)|(go_at_call 124;refine(cQ _ _).mono ?_;rintro e w'⟨rfl,rfl⟩)|(go_at_call 125;refine(bM _ _).mono ?_;rintro e w'⟨rfl,rfl⟩))
 go_ret;exact⟨by simp,q'⟩
theorem cE7(b v:Int)(zb:(b !=0)=A')(w:World):
  Calls prog 87 #[U #[I J 7,I J 0,I J b,I J v]] w fun e w'=>e=R' (I J 1)/\Below w.heap.size w w':=by
 go_enter func87,ntmps87
 go_wp2_with(first|(go_at_call 101;refine(cU _ _ _ _).mono ?_;rintro e w'⟨rfl,rfl⟩)|(go_at_call 124;refine(cQ _ _).mono ?_;rintro e w'⟨rfl,rfl⟩)|(go_at_call 125;refine(bM _ _).mono ?_;rintro e w'⟨rfl,rfl⟩))
 go_ret;exact⟨by simp,q'⟩
theorem cE8(v:Int)(zv:(v !=0)=A')(w:World):
  Calls prog 87 #[U #[I J 7,I J 0,I J 0,I J v]] w fun e w'=>e=R' (I J 1)/\Below w.heap.size w w':=by
 go_enter func87,ntmps87
 go_wp2_with(first|(go_at_call 101;refine(cU _ _ _ _).mono ?_;rintro e w'⟨rfl,rfl⟩)|(go_at_call 124;refine(cQ _ _).mono ?_;rintro e w'⟨rfl,rfl⟩)|(go_at_call 125;refine(bM _ _).mono ?_;rintro e w'⟨rfl,rfl⟩))
 go_ret;exact⟨by simp,q'⟩
theorem cE9(w:World):
  Calls prog 87 #[U #[I J 7,I J 0,I J 0,I J 0]] w fun e w'=>e=R' (I J 0)/\Below w.heap.size w w':=by
 go_enter func87,ntmps87
 go_wp2_with(first|(go_at_call 101;refine(cU _ _ _ _).mono ?_;rintro e w'⟨rfl,rfl⟩)|(go_at_call 124;refine(cQ _ _).mono ?_;rintro e w'⟨rfl,rfl⟩)|(go_at_call 125;refine(bM _ _).mono ?_;rintro e w'⟨rfl,rfl⟩))
 go_ret;exact⟨by simp,q'⟩
theorem cF0(a b v:Int)(ha:inB a 0 99=F')(w:World):
  Calls prog 87 #[U #[I J 8,I J a,I J b,I J v]] w fun e w'=>e=R' (I J 3)/\Below w.heap.size w w':=by
 go_enter func87,ntmps87
 go_wp2_with(first|(go_at_call 101;refine(cU _ _ _ _).mono ?_;rintro e w'⟨rfl,rfl⟩)|(go_at_call 124;refine(cQ _ _).mono ?_;rintro e w'⟨rfl,rfl⟩)|(go_at_call 125;refine(bM _ _).mono ?_;rintro e w'⟨rfl,rfl⟩))
 go_ret;exact⟨by simp,q'⟩
theorem cF1(a b v:Int)(ha:inB a 0 99=A')(zb:(b !=0)=A')(w:World):
  Calls prog 87 #[U #[I J 8,I J a,I J b,I J v]] w fun e w'=>e=R' (I J 1)/\Below w.heap.size w w':=by
 go_enter func87,ntmps87
 go_wp2_with(first|(go_at_call 101;refine(cU _ _ _ _).mono ?_;rintro e w'⟨rfl,rfl⟩)|(go_at_call 124;refine(cQ _ _).mono ?_;rintro e w'⟨rfl,rfl⟩)|(go_at_call 125;refine(bM _ _).mono ?_;rintro e w'⟨rfl,rfl⟩))
 go_ret;exact⟨by simp,q'⟩
theorem cF2(a v:Int)(ha:inB a 0 99=A')(zv:(v !=0)=A')(w:World):
  Calls prog 87 #[U #[I J 8,I J a,I J 0,I J v]] w fun e w'=>e=R' (I J 1)/\Below w.heap.size w w':=by
 go_enter func87,ntmps87
 go_wp2_with(first|(go_at_call 101;refine(cU _ _ _ _).mono ?_;rintro e w'⟨rfl,rfl⟩)|(go_at_call 124;refine(cQ _ _).mono ?_;rintro e w'⟨rfl,rfl⟩)|(go_at_call 125;refine(bM _ _).mono ?_;rintro e w'⟨rfl,rfl⟩))
 go_ret;exact⟨by simp,q'⟩
theorem cF3(a:Int)(ha:inB a 0 99=A')(w:World):
  Calls prog 87 #[U #[I J 8,I J a,I J 0,I J 0]] w fun e w'=>e=R' (I J 0)/\Below w.heap.size w w':=by
 go_enter func87,ntmps87
 go_wp2_with(first|(go_at_call 101;refine(cU _ _ _ _).mono ?_;rintro e w'⟨rfl,rfl⟩)|(go_at_call 124;refine(cQ _ _).mono ?_;rintro e w'⟨rfl,rfl⟩)|(go_at_call 125;refine(bM _ _).mono ?_;rintro e w'⟨rfl,rfl⟩))
 go_ret;exact⟨by simp,q'⟩
theorem cF4(a b v:Int)(za:(a !=0)=A')(w:World):
  Calls prog 87 #[U #[I J 9,I J a,I J b,I J v]] w fun e w'=>e=R' (I J 1)/\Below w.heap.size w w':=by
 go_enter func87,ntmps87
 go_wp2_with(first|(go_at_call 101;refine(cU _ _ _ _).mono ?_;rintro e w'⟨rfl,rfl⟩)|(go_at_call 124;refine(cQ _ _).mono ?_;rintro e w'⟨rfl,rfl⟩)|(go_at_call 125;refine(bM _ _).mono ?_;rintro e w'⟨rfl,rfl⟩))
 go_ret;exact⟨by simp,q'⟩
theorem cF5(b v:Int)(zb:(b !=0)=A')(w:World):
  Calls prog 87 #[U #[I J 9,I J 0,I J b,I J v]] w fun e w'=>e=R' (I J 1)/\Below w.heap.size w w':=by
 go_enter func87,ntmps87
 go_wp2_with(first|(go_at_call 101;refine(cU _ _ _ _).mono ?_;rintro e w'⟨rfl,rfl⟩)|(go_at_call 124;refine(cQ _ _).mono ?_;rintro e w'⟨rfl,rfl⟩)|(go_at_call 125;refine(bM _ _).mono ?_;rintro e w'⟨rfl,rfl⟩))
 go_ret;exact⟨by simp,q'⟩
theorem cF6(v:Int)(zv:(v !=0)=A')(w:World):
  Calls prog 87 #[U #[I J 9,I J 0,I J 0,I J v]] w fun e w'=>e=R' (I J 1)/\Below w.heap.size w w':=by
 go_enter func87,ntmps87
 go_wp2_with(first|(go_at_call 101;refine(cU _ _ _ _).mono ?_;rintro e w'⟨rfl,rfl⟩)|(go_at_call 124;refine(cQ _ _).mono ?_;rintro e w'⟨rfl,rfl⟩)|(go_at_call 125;refine(bM _ _).mono ?_;rintro e w'⟨rfl,rfl⟩))
 go_ret;exact⟨by simp,q'⟩
theorem cF7(w:World):
  Calls prog 87 #[U #[I J 9,I J 0,I J 0,I J 0]] w fun e w'=>e=R' (I J 0)/\Below w.heap.size w w':=by
 go_enter func87,ntmps87
 go_wp2_with(first|(go_at_call 101;refine(cU _ _ _ _).mono ?_;rintro e w'⟨rfl,rfl⟩)|(go_at_call 124;refine(cQ _ _).mono ?_;rintro e w'⟨rfl,rfl⟩)|(go_at_call 125;refine(bM _ _).mono ?_;rintro e w'⟨rfl,rfl⟩))
 go_ret;exact⟨by simp,q'⟩
theorem bQ6(a b v:Int)(za:(a !=0)=A')(w:World):
  Calls prog 87 #[U #[I J 10,I J a,I J b,I J v]] w fun e w'=>e=R' (I J 1)/\Below w.heap.size w w':=by
 go_enter func87,ntmps87
 go_wp2_with(first|(go_at_call 101;refine(cU _ _ _ _).mono ?_;rintro e w'⟨rfl,rfl⟩)|(go_at_call 124;refine(cQ _ _).mono ?_;rintro e w'⟨rfl,rfl⟩)|(go_at_call 125;refine(bM _ _).mono ?_;rintro e w'⟨rfl,rfl⟩))
 go_ret;exact⟨by simp,q'⟩
theorem bQ7(b v:Int)(zb:(b !=0)=A')(w:World):
  Calls prog 87 #[U #[I J 10,I J 0,I J b,I J v]] w fun e w'=>e=R' (I J 1)/\Below w.heap.size w w':=by
 go_enter func87,ntmps87
 go_wp2_with(first|(go_at_call 101;refine(cU _ _ _ _).mono ?_;rintro e w'⟨rfl,rfl⟩)|(go_at_call 124;refine(cQ _ _).mono ?_;rintro e w'⟨rfl,rfl⟩)|(go_at_call 125;refine(bM _ _).mono ?_;rintro e w'⟨rfl,rfl⟩))
 go_ret;exact⟨by simp,q'⟩
theorem bQ8(v:Int)(zv:(v !=0)=A')(w:World):
  Calls prog 87 #[U #[I J 10,I J 0,I J 0,I J v]] w fun e w'=>e=R' (I J 1)/\Below w.heap.size w w':=by
 go_enter func87,ntmps87
 go_wp2_with(first|(go_at_call 101;refine(cU _ _ _ _).mono ?_;rintro e w'⟨rfl,rfl⟩)|(go_at_call 124;refine(cQ _ _).mono ?_;rintro e w'⟨rfl,rfl⟩)|(go_at_call 125;refine(bM _ _).mono ?_;rintro e w'⟨rfl,rfl⟩))
 go_ret;exact⟨by simp,q'⟩
theorem bQ9(w:World):
  Calls prog 87 #[U #[I J 10,I J 0,I J 0,I J 0]] w fun e w'=>e=R' (I J 0)/\Below w.heap.size w w':=by
 go_enter func87,ntmps87
 go_wp2_with(first|(go_at_call 101;refine(cU _ _ _ _).mono ?_;rintro e w'⟨rfl,rfl⟩)|(go_at_call 124;refine(cQ _ _).mono ?_;rintro e w'⟨rfl,rfl⟩)|(go_at_call 125;refine(bM _ _).mono ?_;rintro e w'⟨rfl,rfl⟩))
 go_ret;exact⟨by simp,q'⟩
theorem cZ3(a b v:Int)(w:World):
  Calls prog 87 #[U #[I J 1,I J a,I J b,I J v]] w fun e w'=>e=R' (I J (aN 1 a b v))/\Below w.heap.size w w':=by
 have ku:∀c:Int,aN 1 a b v=c->(Calls prog 87 #[U #[I J 1,I J a,I J b,I J v]] w fun e w'=>e=R' (I J c)/\Below w.heap.size w w')->(Calls prog 87 #[U #[I J 1,I J a,I J b,I J v]] w fun e w'=>e=R' (I J (aN 1 a b v))/\Below w.heap.size w w'):=fun c hc h=>by rw[hc];exact h
 cases ha:inB a 0 99
 .exact ku 3 (by simp[aN, *]) (cC2 a b v ha w)
 by_cases qb:b=0;rotate_left
 .have zb:(b !=0)=A':=by simpa using qb
  exact ku 1 (by simp[aN, *]) (cC3 a b v ha zb w)
 subst qb;by_cases qv:v=0;rotate_left
 .have zv:(v !=0)=A':=by simpa using qv
  exact ku 1 (by simp[aN, *]) (cC4 a v ha zv w)
 subst qv;exact ku 0 (by simp[aN, *]) (cC5 a ha w)
theorem cZ4(a b v:Int)(w:World):
  Calls prog 87 #[U #[I J 2,I J a,I J b,I J v]] w fun e w'=>e=R' (I J (aN 2 a b v))/\Below w.heap.size w w':=by
 have ku:∀c:Int,aN 2 a b v=c->(Calls prog 87 #[U #[I J 2,I J a,I J b,I J v]] w fun e w'=>e=R' (I J c)/\Below w.heap.size w w')->(Calls prog 87 #[U #[I J 2,I J a,I J b,I J v]] w fun e w'=>e=R' (I J (aN 2 a b v))/\Below w.heap.size w w'):=fun c hc h=>by rw[hc];exact h
 cases ha:inB a 0 99
 .exact ku 3 (by simp[aN, *]) (cC6 a b v ha w)
 cases hv:inB v 0 9999
 .exact ku 3 (by simp[aN, *]) (cC7 a b v ha hv w)
 by_cases qb:b=0;rotate_left
 .have zb:(b !=0)=A':=by simpa using qb
  exact ku 1 (by simp[aN, *]) (cC8 a b v ha hv zb w)
 subst qb;exact ku 0 (by simp[aN, *]) (cC9 a v ha hv w)
theorem cZ5(a b v:Int)(w:World):
  Calls prog 87 #[U #[I J 3,I J a,I J b,I J v]] w fun e w'=>e=R' (I J (aN 3 a b v))/\Below w.heap.size w w':=by
 have ku:∀c:Int,aN 3 a b v=c->(Calls prog 87 #[U #[I J 3,I J a,I J b,I J v]] w fun e w'=>e=R' (I J c)/\Below w.heap.size w w')->(Calls prog 87 #[U #[I J 3,I J a,I J b,I J v]] w fun e w'=>e=R' (I J (aN 3 a b v))/\Below w.heap.size w w'):=fun c hc h=>by rw[hc];exact h
 cases ha:inB a 0 99
 .exact ku 3 (by simp[aN, *]) (cD0 a b v ha w)
 by_cases qb:b=0;rotate_left
 .have zb:(b !=0)=A':=by simpa using qb
  exact ku 1 (by simp[aN, *]) (cD1 a b v ha zb w)
 subst qb;by_cases qv:v=0;rotate_left
 .have zv:(v !=0)=A':=by simpa using qv
  exact ku 1 (by simp[aN, *]) (cD2 a v ha zv w)
 subst qv;exact ku 0 (by simp[aN, *]) (cD3 a ha w)
theorem cZ6(a b v:Int)(w:World):
  Calls prog 87 #[U #[I J 4,I J a,I J b,I J v]] w fun e w'=>e=R' (I J (aN 4 a b v))/\Below w.heap.size w w':=by
 have ku:∀c:Int,aN 4 a b v=c->(Calls prog 87 #[U #[I J 4,I J a,I J b,I J v]] w fun e w'=>e=R' (I J c)/\Below w.heap.size w w')->(Calls prog 87 #[U #[I J 4,I J a,I J b,I J v]] w fun e w'=>e=R' (I J (aN 4 a b v))/\Below w.heap.size w w'):=fun c hc h=>by rw[hc];exact h
 cases ha:inB a 0 99
 .exact ku 3 (by simp[aN, *]) (cD4 a b v ha w)
 cases hb:inB b 0 99
 .exact ku 3 (by simp[aN, *]) (cD5 a b v ha hb w)
 by_cases qv:v=0;rotate_left
 .have zv:(v !=0)=A':=by simpa using qv
  exact ku 1 (by simp[aN, *]) (cD6 a b v ha hb zv w)
 subst qv;exact ku 0 (by simp[aN, *]) (cD7 a b ha hb w)
theorem cZ7(a b v:Int)(w:World):
  Calls prog 87 #[U #[I J 5,I J a,I J b,I J v]] w fun e w'=>e=R' (I J (aN 5 a b v))/\Below w.heap.size w w':=by
 have ku:∀c:Int,aN 5 a b v=c->(Calls prog 87 #[U #[I J 5,I J a,I J b,I J v]] w fun e w'=>e=R' (I J c)/\Below w.heap.size w w')->(Calls prog 87 #[U #[I J 5,I J a,I J b,I J v]] w fun e w'=>e=R' (I J (aN 5 a b v))/\Below w.heap.size w w'):=fun c hc h=>by rw[hc];exact h
 cases hv:inB v 0 9999
 .exact ku 3 (by simp[aN, *]) (cD8 a b v hv w)
 by_cases qa:a=0;rotate_left
 .have za:(a !=0)=A':=by simpa using qa
  exact ku 1 (by simp[aN, *]) (cD9 a b v hv za w)
 subst qa;by_cases qb:b=0;rotate_left
 .have zb:(b !=0)=A':=by simpa using qb
  exact ku 1 (by simp[aN, *]) (cE0 b v hv zb w)
 subst qb;exact ku 0 (by simp[aN, *]) (cE1 v hv w)
theorem cZ8(a b v:Int)(w:World):
  Calls prog 87 #[U #[I J 6,I J a,I J b,I J v]] w fun e w'=>e=R' (I J (aN 6 a b v))/\Below w.heap.size w w':=by
 have ku:∀c:Int,aN 6 a b v=c->(Calls prog 87 #[U #[I J 6,I J a,I J b,I J v]] w fun e w'=>e=R' (I J c)/\Below w.heap.size w w')->(Calls prog 87 #[U #[I J 6,I J a,I J b,I J v]] w fun e w'=>e=R' (I J (aN 6 a b v))/\Below w.heap.size w w'):=fun c hc h=>by rw[hc];exact h
 by_cases qa:a=0;rotate_left
 .have za:(a !=0)=A':=by simpa using qa
  exact ku 1 (by simp[aN, *]) (cE2 a b v za w)
 subst qa;by_cases qb:b=0;rotate_left
 .have zb:(b !=0)=A':=by simpa using qb
  exact ku 1 (by simp[aN, *]) (cE3 b v zb w)
 subst qb;by_cases qv:v=0;rotate_left
 .have zv:(v !=0)=A':=by simpa using qv
  exact ku 1 (by simp[aN, *]) (cE4 v zv w)
 subst qv;exact ku 0 (by simp[aN, *]) (cE5  w)
theorem cZ9(a b v:Int)(w:World):
  Calls prog 87 #[U #[I J 7,I J a,I J b,I J v]] w fun e w'=>e=R' (I J (aN 7 a b v))/\Below w.heap.size w w':=by
 have ku:∀c:Int,aN 7 a b v=c->(Calls prog 87 #[U #[I J 7,I J a,I J b,I J v]] w fun e w'=>e=R' (I J c)/\Below w.heap.size w w')->(Calls prog 87 #[U #[I J 7,I J a,I J b,I J v]] w fun e w'=>e=R' (I J (aN 7 a b v))/\Below w.heap.size w w'):=fun c hc h=>by rw[hc];exact h
 by_cases qa:a=0;rotate_left
 .have za:(a !=0)=A':=by simpa using qa
  exact ku 1 (by simp[aN, *]) (cE6 a b v za w)
 subst qa;by_cases qb:b=0;rotate_left
 .have zb:(b !=0)=A':=by simpa using qb
  exact ku 1 (by simp[aN, *]) (cE7 b v zb w)
 subst qb;by_cases qv:v=0;rotate_left
 .have zv:(v !=0)=A':=by simpa using qv
  exact ku 1 (by simp[aN, *]) (cE8 v zv w)
 subst qv;exact ku 0 (by simp[aN, *]) (cE9  w)
theorem dA0(a b v:Int)(w:World):
  Calls prog 87 #[U #[I J 8,I J a,I J b,I J v]] w fun e w'=>e=R' (I J (aN 8 a b v))/\Below w.heap.size w w':=by
 have ku:∀c:Int,aN 8 a b v=c->(Calls prog 87 #[U #[I J 8,I J a,I J b,I J v]] w fun e w'=>e=R' (I J c)/\Below w.heap.size w w')->(Calls prog 87 #[U #[I J 8,I J a,I J b,I J v]] w fun e w'=>e=R' (I J (aN 8 a b v))/\Below w.heap.size w w'):=fun c hc h=>by rw[hc];exact h
 cases ha:inB a 0 99
 .exact ku 3 (by simp[aN, *]) (cF0 a b v ha w)
 by_cases qb:b=0;rotate_left
 .have zb:(b !=0)=A':=by simpa using qb
  exact ku 1 (by simp[aN, *]) (cF1 a b v ha zb w)
 subst qb;by_cases qv:v=0;rotate_left
 .have zv:(v !=0)=A':=by simpa using qv
  exact ku 1 (by simp[aN, *]) (cF2 a v ha zv w)
 subst qv;exact ku 0 (by simp[aN, *]) (cF3 a ha w)
theorem dA1(a b v:Int)(w:World):
  Calls prog 87 #[U #[I J 9,I J a,I J b,I J v]] w fun e w'=>e=R' (I J (aN 9 a b v))/\Below w.heap.size w w':=by
 have ku:∀c:Int,aN 9 a b v=c->(Calls prog 87 #[U #[I J 9,I J a,I J b,I J v]] w fun e w'=>e=R' (I J c)/\Below w.heap.size w w')->(Calls prog 87 #[U #[I J 9,I J a,I J b,I J v]] w fun e w'=>e=R' (I J (aN 9 a b v))/\Below w.heap.size w w'):=fun c hc h=>by rw[hc];exact h
 by_cases qa:a=0;rotate_left
 .have za:(a !=0)=A':=by simpa using qa
  exact ku 1 (by simp[aN, *]) (cF4 a b v za w)
 subst qa;by_cases qb:b=0;rotate_left
 .have zb:(b !=0)=A':=by simpa using qb
  exact ku 1 (by simp[aN, *]) (cF5 b v zb w)
 subst qb;by_cases qv:v=0;rotate_left
 .have zv:(v !=0)=A':=by simpa using qv
  exact ku 1 (by simp[aN, *]) (cF6 v zv w)
 subst qv;exact ku 0 (by simp[aN, *]) (cF7  w)
theorem cR3(a b v:Int)(w:World):
  Calls prog 87 #[U #[I J 10,I J a,I J b,I J v]] w fun e w'=>e=R' (I J (aN 10 a b v))/\Below w.heap.size w w':=by
 have ku:∀c:Int,aN 10 a b v=c->(Calls prog 87 #[U #[I J 10,I J a,I J b,I J v]] w fun e w'=>e=R' (I J c)/\Below w.heap.size w w')->(Calls prog 87 #[U #[I J 10,I J a,I J b,I J v]] w fun e w'=>e=R' (I J (aN 10 a b v))/\Below w.heap.size w w'):=fun c hc h=>by rw[hc];exact h
 by_cases qa:a=0;rotate_left
 .have za:(a !=0)=A':=by simpa using qa
  exact ku 1 (by simp[aN, *]) (bQ6 a b v za w)
 subst qa;by_cases qb:b=0;rotate_left
 .have zb:(b !=0)=A':=by simpa using qb
  exact ku 1 (by simp[aN, *]) (bQ7 b v zb w)
 subst qb;by_cases qv:v=0;rotate_left
 .have zv:(v !=0)=A':=by simpa using qv
  exact ku 1 (by simp[aN, *]) (bQ8 v zv w)
 subst qv;exact ku 0 (by simp[aN, *]) (bQ9  w)
theorem cR4(k a b v:Int)(hk:inB k 1 10=F')(w:World):
  Calls prog 87 #[U #[I J k,I J a,I J b,I J v]] w fun e w'=>e=R' (I J 1)/\Below w.heap.size w w':=by
 go_enter func87,ntmps87
 go_wp2_with(first|(go_at_call 101;refine(cU _ _ _ _).mono ?_;rintro e w'⟨rfl,rfl⟩)|(go_at_call 124;refine(cQ _ _).mono ?_;rintro e w'⟨rfl,rfl⟩)|(go_at_call 125;refine(bM _ _).mono ?_;rintro e w'⟨rfl,rfl⟩))
 go_ret;exact⟨by simp,q'⟩
theorem qA(k a b v:Int)(w:World):
  Calls prog 87 #[U #[I J k,I J a,I J b,I J v]] w fun e w'=>e=R' (I J (aN k a b v))/\Below w.heap.size w w':=by
 rcases bN2 k with rfl|rfl|rfl|rfl|rfl|rfl|rfl|rfl|rfl|rfl|hk
 .exact cZ3 a b v w
 .exact cZ4 a b v w
 .exact cZ5 a b v w
 .exact cZ6 a b v w
 .exact cZ7 a b v w
 .exact cZ8 a b v w
 .exact cZ9 a b v w
 .exact dA0 a b v w
 .exact dA1 a b v w
 .exact cR3 a b v w
 .rw[cA6 hk];exact cR4 k a b v hk w
namespace Ch
theorem dC3(hk:k<ls.length)(h0:∀j,j<k->p (aH ls j)=F')(h1:p (aH ls k)=A'):ls.find? p=Y (aH ls k):=by rw[List.find?_eq_some_iff_getElem];refine⟨h1,k,hk,by simp[aH,List.getD,hk],fun j hj=>?_⟩;have:=h0 j hj;simpa[aH,List.getD,show j<ls.length by omega]using this
theorem dC5(h0:∀j,j<ls.length->p (aH ls j)=F'):ls.find? p=O:=by rw[List.find?_eq_none];intro x hx;obtain⟨i,hi,rfl⟩:=List.getElem_of_mem hx;have:=h0 i hi;simpa[aH,List.getD,hi]using this
theorem dC4{l:Lock}(h:ls.find? p=Y l):∃k,k<ls.length/\aH ls k=l/\p l=A'/\∀j,j<k->p (aH ls j)=F':=by rw[List.find?_eq_some_iff_getElem]at h;obtain⟨h1,k,hk,he,h0⟩:=h;refine⟨k,hk,by simpa[aH,List.getD,hk]using he,h1,fun j hj=>?_⟩;have:=h0 j hj;simpa[aH,List.getD,show j<ls.length by omega]using this
theorem bP1(h:aS ls=0){i j:Nat}(hij:i<j)(hj:j<ls.length):(aH ls i).r<(aH ls j).r:=by
 have hg:=(eL h).1;induction j with
 |zero=>omega
 |succ j ih=>
  have h1:=(iI (hg (j+1) hj)).2.2.1 (by omega);rw[show j+1-1=j from rfl]at h1;by_cases e:i=j
  .subst e;exact h1
  .have:=ih (by omega) (by omega);omega
def dZ(ls:List Lock)(t:Int):Int:=match ls.find? (fun l=>aV l.qs t)with
 |some l=>l.r
 |none=> -1
def gZ(ls:List Lock)(t:Int):Bool:=(ls.find? (fun l=>aV l.qs t)).isSome
def aB2(ls:List Lock)(t:Int):Int:=if gZ ls t then dZ ls t else 0
theorem aF4(hk:k<ls.length)(h0:∀j,j<k->aV (aH ls j).qs t=F')(h1:aV (aH ls k).qs t=A'):dZ ls t=(aH ls k).r/\gZ ls t=A'/\aB2 ls t=(aH ls k).r:=by
 have hf:=dC3 (p:=fun l=>aV l.qs t) hk h0 h1;have hb:gZ ls t=A':=by unfold gZ;rw[hf];rfl
 have hl:dZ ls t=(aH ls k).r:=by unfold dZ;rw[hf]
 exact⟨hl,hb,by unfold aB2;rw[hb,hl];rfl⟩
theorem aF5(h0:∀j,j<ls.length->aV (aH ls j).qs t=F'):dZ ls t= -1/\gZ ls t=F'/\aB2 ls t=0:=by
 have hf:=dC5 (p:=fun l=>aV l.qs t) h0;have hb:gZ ls t=F':=by unfold gZ;rw[hf];rfl
 have hl:dZ ls t= -1:=by unfold dZ;rw[hf]
 exact⟨hl,hb,by unfold aB2;rw[hb];rfl⟩
theorem dA6(ls:List Lock)(t:Int):(gZ ls t=F'/\dZ ls t= -1/\aB2 ls t=0/\∀j,j<ls.length->aV (aH ls j).qs t=F')\/(gZ ls t=A'/\∃k,k<ls.length/\dZ ls t=(aH ls k).r/\aB2 ls t=(aH ls k).r/\aV (aH ls k).qs t=A'/\∀j,j<k->aV (aH ls j).qs t=F'):=by
 cases hf:ls.find? (fun l=>aV l.qs t)with
 |none=>
  left;rw[List.find?_eq_none]at hf;have h0:∀j,j<ls.length->aV (aH ls j).qs t=F':=by intro j hj;have:=hf (aH ls j) (by simp[aH,List.getD,hj]);simpa using this
  have:=aF5 h0;exact⟨this.2.1,this.1,this.2.2,h0⟩
 |some l=>right;obtain⟨k,hk,rfl,h1,h0⟩:=dC4 hf;have:=aF4 hk h0 h1;exact⟨this.2.1,k,hk,this.1,this.2.2,h1,h0⟩
def bH4(ls:List Lock)(t:Int):Int:=if aS ls !=0 then aS ls else if inB t 1 999 then 0 else 3
end Ch
end Go.Proofs.YtpbbokalojdooaaGreat
