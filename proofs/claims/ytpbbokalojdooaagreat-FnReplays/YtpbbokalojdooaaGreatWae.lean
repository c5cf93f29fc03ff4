import Derived.Test.YtpbbokalojdooaaGreatWad
namespace Go.Proofs.YtpbbokalojdooaaGreat
open Go.RowKit Ch Go.Proofs.Tryz
set_option linter.unusedSimpArgs false
set_option linter.unusedVariables false
set_option maxRecDepth 20000
set_option maxHeartbeats 8000000
open Value renaming int->I,slice->Z,bool->X,agg->U
open IntKind renaming i64->J
open Option renaming none->O,some->Y
open Obj renaming cells->M
open Ending renaming returned->R'
open Bool renaming true->A',false->F'
variable {ops:Array Oper} {c:Array Value} {Q:Exit->Act->World->Prop} {b q y:Hold} {ls:List (List Row)} {es hs l qs:List Hold} {zs:List Int} {rest:List Oper} {x:List Row} {xs:List Value} {p:Lock->Bool} {B cap k m n size:Nat} {a:Option Addr} {r:Row} {e t:TypeId} {v:Value} {W w w':World}
def LvAt(w:World)(a:Option Addr)(n:Nat)(ls:List (List Row)):Prop:=
 ls.length=n/\∃vs:List Value,CellsAt w a n vs/\∀i,i<n->∃ai ni ci,vs[i]? =Y (Z ai ni ci)/\CellsAt w ai (ni*3) (rcells (ls.getD i []))/\ni<=9223372036854775807
theorem LvAt.below(h:LvAt w a n ls)(hb:V' w w'):LvAt w' a n ls:=by obtain⟨hl,vs,hc,hi⟩:=h;refine⟨hl,vs,hc.below hb,fun i hlt=>?_⟩;obtain⟨ai,ni,ci,h1,h2,h3⟩:=hi i hlt;exact⟨ai,ni,ci,h1,h2.below hb,h3⟩
theorem LvAt.len(h:LvAt w a n ls):Hid (n=ls.length):=h.1.symm
theorem LvAt.leaf(h:LvAt w a n ls)(hk:k<n):
  ∃b off ai ni ci,a=Y ⟨b,off,O⟩/\w.cell? ⟨b,off+k,O⟩=Y (Z ai ni ci)/\CellsAt w ai (ni*3) (rcells (ls.getD k []))/\ni<=9223372036854775807:=by
 obtain⟨hl,vs,hc,hi⟩:=h;obtain⟨ai,ni,ci,h1,h2,h3⟩:=hi k hk;obtain⟨b,off,ha,hcc⟩:=hc.2 (by omega);exact⟨b,off,ai,ni,ci,ha,(hcc k hk).trans h1,h2,h3⟩
def OwnLv(w:World)(B:Nat)(v:Value)(n:Nat)(ls:List (List Row)):Prop:=
 ls.length=n/\∃vs:List Value,w.ownsRow B 200 1 v n vs/\
  (∀i,i<n->∃x,vs[i]? =Y x/\w.ownsRow B 86 3 x (ls.getD i []).length (rcells (ls.getD i [])))/\
  (∀(i j:Nat) (x y:Value) (g:Nat),i<j->vs[i]? =Y x->vs[j]? =Y y->x.ownBlock=Y g->y.ownBlock≠Y g)/\
  (∀(i:Nat) (x:Value) (g:Nat),vs[i]? =Y x->v.ownBlock=Y g->x.ownBlock≠Y g)
theorem OwnLv.below(h:OwnLv w B v n ls)(hb:V' w w'):OwnLv w' B v n ls:=by obtain⟨hl,vs,ho,hi,hd,hd'⟩:=h;refine⟨hl,vs,aG ho hb,fun i hlt=>?_,hd,hd'⟩;obtain⟨x,h1,h2⟩:=hi i hlt;exact⟨x,h1,aG h2 hb⟩
theorem OwnLv.base{B':Nat}(h:OwnLv w B v n ls)(hb:B'<=B):OwnLv w B' v n ls:=by obtain⟨hl,vs,ho,hi,hd,hd'⟩:=h;refine⟨hl,vs,aQ ho hb,fun i hlt=>?_,hd,hd'⟩;obtain⟨x,h1,h2⟩:=hi i hlt;exact⟨x,h1,aQ h2 hb⟩
theorem OwnLv.at(h:OwnLv w B (Z a n cap) n ls)(hm:∀i,(ls.getD i []).length<=9223372036854775807):LvAt w a n ls:=by obtain⟨hl,vs,ho,hi,_⟩:=h;have hc:=aO ho;rw[Fb]at hc;refine⟨hl,vs,hc,fun i hlt=>?_⟩;obtain⟨x,h1,h2⟩:=hi i hlt;obtain⟨ai,ci,rfl⟩:=dT h2;exact⟨ai,_,ci,h1,aO h2,hm i⟩
theorem Tryz.info200:(prog.info? 200).map (fun i=>(i.zero,i.size,i.bytes))=Y (Y (U #[Z O 0 0]),1,24):=by kernel_rfl
def aW(ls:List (List Row)):Nat:=ls.length+(ls.map List.length).sum
theorem cH9(ls:List (List Row))(k:Nat)(h:k<ls.length):((ls.take (k+1)).map List.length).sum=((ls.take k).map List.length).sum+(ls.getD k []).length:=by rw[bZ ls [] k h];simp
theorem bQ5(ls:List (List Row))(k:Nat):((ls.take k).map List.length).sum<=(ls.map List.length).sum:=by
 induction ls generalizing k with
 |nil=>simp
 |cons l ls ih=>
  cases k with
  |zero=>simp
  |succ k=>have:=ih k;simp only[List.take_succ_cons,Ef,List.sum_cons];omega
theorem fI{N:Nat}(h:aW ls<=N)(i:Nat):(ls.getD i []).length<=N:=by
 by_cases hi:i<ls.length
 .have h1:=cH9 ls i hi;have h2:=bQ5 ls (i+1);unfold aW at h;omega
 .simp[List.getD,Bk (show ls.length<=i by omega)]
theorem pS(v:Int)(w:World):
  Calls prog 64 #[I J v] w fun e w'=>e=R' (X (inB v 1 999))/\w'=w:=by
 go_enter func64,ntmps64
 go_wp2_with(go_at_call 101;refine E' (cU _ _ _ _) ?_)
 go_ret;exact⟨rfl,rfl⟩
theorem vZ(v:Int)(w:World):
  Calls prog 55 #[I J v] w fun e w'=>e=R' (X (inB v 1 999))/\w'=w:=by
 unfold inB;by_cases h1:1<=v;all_goals by_cases h2:v<=999
 all_goals
  go_enter func55,ntmps55
  go_wp2;go_ret;exact⟨by simp[h1,h2],rfl⟩
theorem nX(v:Int)(w:World):
  Calls prog 112 #[I J v] w fun e w'=>e=R' (X (lL v))/\w'=w:=by
 unfold lL;cases h1:(v==2);all_goals
  go_enter func112,ntmps112
  go_wp2;go_ret;exact⟨by simp,rfl⟩
theorem mS(kd tx ky:Int)(hd:Bool)(ol:Int)(hs:Bool)(nw:Int)(w:World):
  Calls prog 113 #[U #[I J kd,I J tx,I J ky,X hd,I J ol,X hs,I J nw]] w fun e w'=>e=R' (I J (Rec.fault ⟨kd,tx,ky,hd,ol,hs,nw⟩))/\V' w w':=by
 unfold Rec.fault;dsimp only;cases h1:inB kd 1 5;case' true=>cases h2:inB tx 1 999
 case' true.true=>cases h3:lL kd
 case' true.true.true=>cases h4:inB ky 0 99
 case' true.true.true.true=>cases h5:inB ol 0 9999
 case' true.true.true.true.true=>cases h6:inB nw 0 9999
 case' true.true.false=>cases h4:(ky !=0)
 case' true.true.false.false=>cases hd
 case' true.true.false.false.false=>cases hs
 case' true.true.false.false.false.false=>cases h5:(ol !=0)
 case' true.true.false.false.false.false.false=>cases h6:(nw !=0)
 case' true.true.true.true.true.true=>(cases hd<;>cases hs<;>cases h7:(ol !=0)<;>cases h8:(nw !=0))
 all_goals
  go_enter func113,ntmps113
  go_wp2_with(first|(go_at_call 101;refine E' (cU _ _ _ _) ?_)|(go_at_call 64;refine E' (pS _ _) ?_)|(go_at_call 112;refine E' (nX _ _) ?_)|(go_at_call 124;refine E' (cT _ _) ?_)|(go_at_call 125;refine E' (bP _ _) ?_))
  go_ret;exact⟨by simp[*],(Aa _ _).alloc z' _⟩
theorem aO1{k a b v:Int}(hk:inB k 1 10=F'):aF k a b v=1:=by unfold aF;unfold inB at hk;simp only[Ca,Bp]at hk;repeat rw[if_neg (by omega)]
theorem bU8{k a b v c:Int}(h:aF k a b v=c)(hc:Calls prog 87 #[U #[I J k,I J a,I J b,I J v]] w fun e w'=>e=R' (I J c)/\V' w w'):
  Calls prog 87 #[U #[I J k,I J a,I J b,I J v]] w fun e w'=>e=R' (I J (aF k a b v))/\V' w w':=by
 rw[h];exact hc
theorem dH3(a b v:Int)(w:World):
  Calls prog 87 #[U #[I J 1,I J a,I J b,I J v]] w fun e w'=>e=R' (I J (aF 1 a b v))/\V' w w':=by
 cases ha:inB a 0 99;focus refine bU8 (c:=3) (by simp[aF, *]) ?_
 rotate_left;by_cases qb:b≠0;focus
  have zb:(b !=0)=A':=by simpa using qb
  refine bU8 (c:=1) (by simp[aF, *]) ?_;clear qb
 rotate_left;obtain rfl:b=0:=by omega
 clear qb;by_cases qv:v≠0;focus
  have zv:(v !=0)=A':=by simpa using qv
  refine bU8 (c:=1) (by simp[aF, *]) ?_;clear qv
 rotate_left;obtain rfl:v=0:=by omega
 clear qv;refine bU8 (c:=0) (by simp[aF, *]) ?_;all_goals
   go_enter func87,ntmps87
   go_wp2_with(first|(go_at_call 101;refine E' (cU _ _ _ _) ?_)|(go_at_call 124;refine E' (cT _ _) ?_)|(go_at_call 125;refine E' (bP _ _) ?_))
   go_ret;exact⟨by simp,(Aa _ _).alloc z' _⟩
theorem dH4(a b v:Int)(w:World):
  Calls prog 87 #[U #[I J 2,I J a,I J b,I J v]] w fun e w'=>e=R' (I J (aF 2 a b v))/\V' w w':=by
 cases ha:inB a 0 99;focus refine bU8 (c:=3) (by simp[aF, *]) ?_
 rotate_left;cases hv:inB v 0 9999;focus refine bU8 (c:=3) (by simp[aF, *]) ?_
 rotate_left;by_cases qb:b≠0;focus
  have zb:(b !=0)=A':=by simpa using qb
  refine bU8 (c:=1) (by simp[aF, *]) ?_;clear qb
 rotate_left;obtain rfl:b=0:=by omega
 clear qb;refine bU8 (c:=0) (by simp[aF, *]) ?_;all_goals
   go_enter func87,ntmps87
   go_wp2_with(first|(go_at_call 101;refine E' (cU _ _ _ _) ?_)|(go_at_call 124;refine E' (cT _ _) ?_)|(go_at_call 125;refine E' (bP _ _) ?_))
   go_ret;exact⟨by simp,(Aa _ _).alloc z' _⟩
theorem dH5(a b v:Int)(w:World):
  Calls prog 87 #[U #[I J 3,I J a,I J b,I J v]] w fun e w'=>e=R' (I J (aF 3 a b v))/\V' w w':=by
 cases ha:inB a 0 99;focus refine bU8 (c:=3) (by simp[aF, *]) ?_
 rotate_left;by_cases qb:b≠0;focus
  have zb:(b !=0)=A':=by simpa using qb
  refine bU8 (c:=1) (by simp[aF, *]) ?_;clear qb
 rotate_left;obtain rfl:b=0:=by omega
 clear qb;by_cases qv:v≠0;focus
  have zv:(v !=0)=A':=by simpa using qv
  refine bU8 (c:=1) (by simp[aF, *]) ?_;clear qv
 rotate_left;obtain rfl:v=0:=by omega
 clear qv;refine bU8 (c:=0) (by simp[aF, *]) ?_;all_goals
   go_enter func87,ntmps87
   go_wp2_with(first|(go_at_call 101;refine E' (cU _ _ _ _) ?_)|(go_at_call 124;refine E' (cT _ _) ?_)|(go_at_call 125;refine E' (bP _ _) ?_))
   go_ret;exact⟨by simp,(Aa _ _).alloc z' _⟩
theorem dH6(a b v:Int)(w:World):
  Calls prog 87 #[U #[I J 4,I J a,I J b,I J v]] w fun e w'=>e=R' (I J (aF 4 a b v))/\V' w w':=by
 cases ha:inB a 0 99;focus refine bU8 (c:=3) (by simp[aF, *]) ?_
 rotate_left;cases hb:inB b 0 99;focus refine bU8 (c:=3) (by simp[aF, *]) ?_
 rotate_left;by_cases qv:v≠0;focus
  have zv:(v !=0)=A':=by simpa using qv
  refine bU8 (c:=1) (by simp[aF, *]) ?_;clear qv
 rotate_left;obtain rfl:v=0:=by omega
 clear qv;refine bU8 (c:=0) (by simp[aF, *]) ?_;all_goals
   go_enter func87,ntmps87
   go_wp2_with(first|(go_at_call 101;refine E' (cU _ _ _ _) ?_)|(go_at_call 124;refine E' (cT _ _) ?_)|(go_at_call 125;refine E' (bP _ _) ?_))
   go_ret;exact⟨by simp,(Aa _ _).alloc z' _⟩
theorem dH7(a b v:Int)(w:World):
  Calls prog 87 #[U #[I J 5,I J a,I J b,I J v]] w fun e w'=>e=R' (I J (aF 5 a b v))/\V' w w':=by
 cases hv:inB v 0 9999;focus refine bU8 (c:=3) (by simp[aF, *]) ?_
 rotate_left;by_cases qa:a≠0;focus
  have za:(a !=0)=A':=by simpa using qa
  refine bU8 (c:=1) (by simp[aF, *]) ?_;clear qa
 rotate_left;obtain rfl:a=0:=by omega
 clear qa;by_cases qb:b≠0;focus
  have zb:(b !=0)=A':=by simpa using qb
  refine bU8 (c:=1) (by simp[aF, *]) ?_;clear qb
 rotate_left;obtain rfl:b=0:=by omega
 clear qb;refine bU8 (c:=0) (by simp[aF, *]) ?_;all_goals
   go_enter func87,ntmps87
   go_wp2_with(first|(go_at_call 101;refine E' (cU _ _ _ _) ?_)|(go_at_call 124;refine E' (cT _ _) ?_)|(go_at_call 125;refine E' (bP _ _) ?_))
   go_ret;exact⟨by simp,(Aa _ _).alloc z' _⟩
theorem dH8(a b v:Int)(w:World):
  Calls prog 87 #[U #[I J 6,I J a,I J b,I J v]] w fun e w'=>e=R' (I J (aF 6 a b v))/\V' w w':=by
 by_cases qa:a≠0;focus
  have za:(a !=0)=A':=by simpa using qa
  refine bU8 (c:=1) (by simp[aF, *]) ?_;clear qa
 rotate_left;obtain rfl:a=0:=by omega
 clear qa;by_cases qb:b≠0;focus
  have zb:(b !=0)=A':=by simpa using qb
  refine bU8 (c:=1) (by simp[aF, *]) ?_;clear qb
 rotate_left;obtain rfl:b=0:=by omega
 clear qb;by_cases qv:v≠0;focus
  have zv:(v !=0)=A':=by simpa using qv
  refine bU8 (c:=1) (by simp[aF, *]) ?_;clear qv
 rotate_left;obtain rfl:v=0:=by omega
 clear qv;refine bU8 (c:=0) (by simp[aF, *]) ?_;all_goals
   go_enter func87,ntmps87
   go_wp2_with(first|(go_at_call 101;refine E' (cU _ _ _ _) ?_)|(go_at_call 124;refine E' (cT _ _) ?_)|(go_at_call 125;refine E' (bP _ _) ?_))
   go_ret;exact⟨by simp,(Aa _ _).alloc z' _⟩
theorem dH9(a b v:Int)(w:World):
  Calls prog 87 #[U #[I J 7,I J a,I J b,I J v]] w fun e w'=>e=R' (I J (aF 7 a b v))/\V' w w':=by
 by_cases qa:a≠0;focus
  have za:(a !=0)=A':=by simpa using qa
  refine bU8 (c:=1) (by simp[aF, *]) ?_;clear qa
 rotate_left;obtain rfl:a=0:=by omega
 clear qa;by_cases qb:b≠0;focus
  have zb:(b !=0)=A':=by simpa using qb
  refine bU8 (c:=1) (by simp[aF, *]) ?_;clear qb
 rotate_left;obtain rfl:b=0:=by omega
 clear qb;by_cases qv:v≠0;focus
  have zv:(v !=0)=A':=by simpa using qv
  refine bU8 (c:=1) (by simp[aF, *]) ?_;clear qv
 rotate_left;obtain rfl:v=0:=by omega
 clear qv;refine bU8 (c:=0) (by simp[aF, *]) ?_;all_goals
   go_enter func87,ntmps87
   go_wp2_with(first|(go_at_call 101;refine E' (cU _ _ _ _) ?_)|(go_at_call 124;refine E' (cT _ _) ?_)|(go_at_call 125;refine E' (bP _ _) ?_))
   go_ret;exact⟨by simp,(Aa _ _).alloc z' _⟩
theorem dI0(a b v:Int)(w:World):
  Calls prog 87 #[U #[I J 8,I J a,I J b,I J v]] w fun e w'=>e=R' (I J (aF 8 a b v))/\V' w w':=by
 cases ha:inB a 0 99;focus refine bU8 (c:=3) (by simp[aF, *]) ?_
 rotate_left;by_cases qb:b≠0;focus
  have zb:(b !=0)=A':=by simpa using qb
  refine bU8 (c:=1) (by simp[aF, *]) ?_;clear qb
 rotate_left;obtain rfl:b=0:=by omega
 clear qb;by_cases qv:v≠0;focus
  have zv:(v !=0)=A':=by simpa using qv
  refine bU8 (c:=1) (by simp[aF, *]) ?_;clear qv
 rotate_left;obtain rfl:v=0:=by omega
 clear qv;refine bU8 (c:=0) (by simp[aF, *]) ?_;all_goals
   go_enter func87,ntmps87
   go_wp2_with(first|(go_at_call 101;refine E' (cU _ _ _ _) ?_)|(go_at_call 124;refine E' (cT _ _) ?_)|(go_at_call 125;refine E' (bP _ _) ?_))
   go_ret;exact⟨by simp,(Aa _ _).alloc z' _⟩
theorem dI1(a b v:Int)(w:World):
  Calls prog 87 #[U #[I J 9,I J a,I J b,I J v]] w fun e w'=>e=R' (I J (aF 9 a b v))/\V' w w':=by
 by_cases qa:a≠0;focus
  have za:(a !=0)=A':=by simpa using qa
  refine bU8 (c:=1) (by simp[aF, *]) ?_;clear qa
 rotate_left;obtain rfl:a=0:=by omega
 clear qa;by_cases qb:b≠0;focus
  have zb:(b !=0)=A':=by simpa using qb
  refine bU8 (c:=1) (by simp[aF, *]) ?_;clear qb
 rotate_left;obtain rfl:b=0:=by omega
 clear qb;by_cases qv:v≠0;focus
  have zv:(v !=0)=A':=by simpa using qv
  refine bU8 (c:=1) (by simp[aF, *]) ?_;clear qv
 rotate_left;obtain rfl:v=0:=by omega
 clear qv;refine bU8 (c:=0) (by simp[aF, *]) ?_;all_goals
   go_enter func87,ntmps87
   go_wp2_with(first|(go_at_call 101;refine E' (cU _ _ _ _) ?_)|(go_at_call 124;refine E' (cT _ _) ?_)|(go_at_call 125;refine E' (bP _ _) ?_))
   go_ret;exact⟨by simp,(Aa _ _).alloc z' _⟩
theorem cZ2(a b v:Int)(w:World):
  Calls prog 87 #[U #[I J 10,I J a,I J b,I J v]] w fun e w'=>e=R' (I J (aF 10 a b v))/\V' w w':=by
 by_cases qa:a≠0;focus
  have za:(a !=0)=A':=by simpa using qa
  refine bU8 (c:=1) (by simp[aF, *]) ?_;clear qa
 rotate_left;obtain rfl:a=0:=by omega
 clear qa;by_cases qb:b≠0;focus
  have zb:(b !=0)=A':=by simpa using qb
  refine bU8 (c:=1) (by simp[aF, *]) ?_;clear qb
 rotate_left;obtain rfl:b=0:=by omega
 clear qb;by_cases qv:v≠0;focus
  have zv:(v !=0)=A':=by simpa using qv
  refine bU8 (c:=1) (by simp[aF, *]) ?_;clear qv
 rotate_left;obtain rfl:v=0:=by omega
 clear qv;refine bU8 (c:=0) (by simp[aF, *]) ?_;all_goals
   go_enter func87,ntmps87
   go_wp2_with(first|(go_at_call 101;refine E' (cU _ _ _ _) ?_)|(go_at_call 124;refine E' (cT _ _) ?_)|(go_at_call 125;refine E' (bP _ _) ?_))
   go_ret;exact⟨by simp,(Aa _ _).alloc z' _⟩
theorem cZ3(k a b v:Int)(hk:inB k 1 10=F')(w:World):
  Calls prog 87 #[U #[I J k,I J a,I J b,I J v]] w fun e w'=>e=R' (I J 1)/\V' w w':=by
 go_enter func87,ntmps87
 go_wp2_with(first|(go_at_call 101;refine E' (cU _ _ _ _) ?_)|(go_at_call 124;refine E' (cT _ _) ?_)|(go_at_call 125;refine E' (bP _ _) ?_))
 go_ret;exact⟨by simp,(Aa _ _).alloc z' _⟩
theorem oH(k a b v:Int)(w:World):
  Calls prog 87 #[U #[I J k,I J a,I J b,I J v]] w fun e w'=>e=R' (I J (aF k a b v))/\V' w w':=by
 rcases rI k with rfl|rfl|rfl|rfl|rfl|rfl|rfl|rfl|rfl|rfl|hk
 .exact dH3 a b v w
 .exact dH4 a b v w
 .exact dH5 a b v w
 .exact dH6 a b v w
 .exact dH7 a b v w
 .exact dH8 a b v w
 .exact dH9 a b v w
 .exact dI0 a b v w
 .exact dI1 a b v w
 .exact cZ2 a b v w
 .rw[aO1 hk];exact cZ3 k a b v hk w
theorem bZ4{w1:World}{c0 c1 c2 c3 c4 c5 c6:Value}(b:Below (w.alloc (M #[c0,c1,c2,c3,c4,c5,c6] t)).heap.size (w.alloc (M #[c0,c1,c2,c3,c4,c5,c6] t)) w1):
  w1.cell? ⟨w.heap.size,0,O⟩=Y c0/\w1.cell? ⟨w.heap.size,1,O⟩=Y c1/\w1.cell? ⟨w.heap.size,2,O⟩=Y c2/\w1.cell? ⟨w.heap.size,3,O⟩=Y c3/\w1.cell? ⟨w.heap.size,4,O⟩=Y c4/\w1.cell? ⟨w.heap.size,5,O⟩=Y c5/\w1.cell? ⟨w.heap.size,6,O⟩=Y c6:=
 ⟨aU b 0,aU b 1,aU b 2,aU b 3,aU b 4,aU b 5,aU b 6⟩
theorem aW0(h:Below B w w')(q:Nat):Below B w (w'.drewN q):=⟨h.os,h.tape,h.output,h.size,h.block⟩
theorem dD0(k v:Int)(g:Bool)(k' v':Int)(g':Bool)(w:World):
  (Op.equalIn 10000 86 (U #[I J k,I J v,X g]) (U #[I J k',I J v',X g'])).run prog w= .ok (k==k'&&(v==v'&&g==g')) w:=by
 have hS:prog.underlying 86=Y (.struct (prog.fieldsOf 86)):=by kernel_rfl
 have hp:prog.stoodInHeld 86=F':=by kernel_rfl
 have u2:=underlying2;have a2:=isAgg2;have z2:=sizeOf2;have u4:=underlying4;have a4:=isAgg4;have z4:=sizeOf4;rw[show(10000:Nat)=9999+1 from rfl,run_equalIn_agg w 9999 86 _ _ hS hp];simp only[Program.fieldsOf,underlying86];go_simp;cases g<;>cases g'<;>by_cases h1:k=k'<;>by_cases h2:v=v'<;>simp[h1,h2]
theorem dP2(k v:Int)(g:Bool)(k' v':Int)(g':Bool)(w:World):
  (binOp .neq 86 (U #[I J k,I J v,X g]) (U #[I J k',I J v',X g'])).run prog w= .ok (X (!(k==k'&&(v==v'&&g==g')))) w:=by
 rw[run_neq_struct,dD0];rfl
theorem dH2(hs:aW ls<=1048576):∀i,(ls.getD i []).length<=9223372036854775807:=fun i=>by have:=fI hs i;omega
theorem nL{o:Oper}{a:Act}(s x:Operand)
  (B:Nat) (v:Value) (n:Nat) (xs:List Value) (m:Nat) (ys:List Value) (hm:n+m<=2097152) (h1:∀u∈ys,u.oneCell'=A')
  (ho:o.op= .call {callee:=.builtin .append,args:=#[s,x],argTypes:=#[61,61]}) (hgd:o.guard=O)
  (hs:a.eval s=v) (hx:∃ad c,a.eval x=Z (Y ad) m c/\CellsAt w (Y ad) m ys)
  (hown:w.ownsRow B 200 1 v n xs) (hbase:B<=w.heap.size)
  (hK:∀a' c' w',w'.ownsRow B 200 1 (Z a' (n+m) c') (n+m) (xs++ys)->w.grownBy w' v.ownBlock->(∀g,(Z a' (n+m) c').ownBlock=Y g->v.ownBlock=Y g\/w.heap.size<=g)->wpList prog ops Q rest (a.put o.dst (Z a' (n+m) c')) w') (hm0:0<m):
  wpList prog ops Q (o::rest) a w:=by
 obtain⟨ad,c,hx,hc⟩:=hx;obtain⟨i0,hi,hz0,hz1,hz2⟩:=Bz Tryz.info200;refine wpList_append_lies w hgd s x 61 ho B 200 i0 _ 1 24 underlying61 hi hz0 hz1 hz2 rfl (by omega) v n xs hs hown ad m c ys hx (by rw[Fb];exact hc.1) ?_ h1 hm0 (by unfold maxLen;omega) (by omega) hbase _ rfl ?_
 .intro j u hj;have hjl:j<ys.length:=(Di.1 hj).1;have hl:=hc.1;obtain⟨b,off,ha,hcc⟩:=hc.2 (by omega);simp only[Af]at ha;subst ha;have e:(⟨b,off,O⟩:Addr).add j=⟨b,off+j,O⟩:=by
   unfold Addr.add;split
   .next h0=>subst h0;rfl
   .rfl
  rw[e,hcc j (by omega),hj]
 .intro g cp' w' hown' hgrow hat hlt;refine hK _ _ w' hown' hgrow fun g' hg'=>?_;simp[Value.ownBlock]at hg';subst hg';rcases hat with hat|hat
  .exact .inl hat
  .exact .inr (by omega)
theorem pI(w:World)(B:Nat)(hB:B<=w.heap.size):(w.alloc (M #[] 200)).ownsRow B 200 1 (Z (Y ⟨w.heap.size,0,O⟩) 0 0) 0 []:=
 Cr w #[] 0 hB (by unfold maxLen;omega) rfl
namespace Ch
theorem aX9(r:Row)(l:List Row):1<=(eO r l).length:=by
 cases l with
 |nil=>simp[eO]
 |cons x l=>simp only[eO];split<;>simp
theorem aD6(r:Row)(l:List Row):(eO r l).length<=l.length+1:=by
 induction l with
 |nil=>simp[eO]
 |cons x l ih=>
  simp only[eO];split
  .simp;omega
  .have:=Dt (dX r.k) (x::l);simp at this⊢;omega
def gT(ls:List (List Row))(r:Row)(p:Nat):Nat->List (List Row)
 |0=>[]
 |k+1=>gT ls r p k++(if k=p then gZ (eO r (ls.getD k []))else [ls.getD k []])
theorem aE7(ls:List (List Row))(r:Row)(p:Nat):gT ls r p (p+1)=gT ls r p p++gZ (eO r (ls.getD p [])):=by rw[gT,if_pos rfl]
theorem yQ(ls:List (List Row))(r:Row){p:Nat}(h:k≠p):gT ls r p (k+1)=gT ls r p k++[ls.getD k []]:=by rw[gT,if_neg h]
theorem cI9(ls:List (List Row))(r:Row){p:Nat}:∀k,k<=p->k<=ls.length->gT ls r p k=ls.take k:=by
 intro k;induction k with
 |zero=>intro _ _;simp[gT]
 |succ k ih=>intro h1 h2;rw[yQ ls r (by omega),ih (by omega) (by omega),Du,List.getD];simp[show k<ls.length by omega]
theorem bS3(ls:List (List Row))(r:Row){p:Nat}(hp:p<ls.length):∀k,p+1<=k->k<=ls.length->gT ls r p k=ls.take p++gZ (eO r (ls.getD p []))++(ls.drop (p+1)).take (k-(p+1)):=by
 intro k;induction k with
 |zero=>intro h;omega
 |succ k ih=>
  intro h1 h2;by_cases h:k=p
  .subst h;rw[aE7,cI9 ls r k z' (by omega)];simp
  .rw[yQ ls r h,ih (by omega) (by omega),show k+1-(p+1)=(k-(p+1))+1 by omega,Du,Bw,Bw,Bw];congr 2;rw[Df,show p+1+(k-(p+1))=k by omega,List.getD];simp[show k<ls.length by omega]
theorem oQ{key:Int}(h:0<k):fW ls key k<k:=by
 cases k with
 |zero=>omega
 |succ k=>simp only[fW];split<;>have:=dD2 ls key k<;>omega
theorem bJ9{p:Nat}(h0:ls.length≠0)(hp:fW ls r.k ls.length=p):gT ls r p ls.length=put ls r:=by have:=oQ (ls:=ls) (key:=r.k) (k:=ls.length) (by omega);rw[bS3 ls r (by omega) _ (by omega) z',put,if_neg h0,hp,Bb (l:=ls.drop (p+1)) (by rw[Ej];omega)]
theorem cB5{l:List Row}(h:x∈gZ l)(h0:1<=l.length)(h5:l.length<=5):1<=x.length/\x.length<=5:=by
 unfold gZ at h;split at h
 .simp only[Cp]at h;subst h;omega
 .simp only[Am,Cu,Eh]at h;rcases h with rfl|rfl<;>simp<;>omega
theorem bG4(hg:aL ls=0)(h:x∈put ls r):1<=x.length/\x.length<=5:=by
 have old:∀y∈ls,1<=y.length/\y.length<=4:=by intro y hy;obtain⟨i,hi,rfl⟩:=Co hy;have h1:=fY hg i hi;rw[lT ls [] i hi]at h1;have:=(uN h1.2).2;omega
 unfold put at h;split at h
 .simp only[Cp]at h;subst h;simp
 .have hp:=oQ (ls:=ls) (key:=r.k) (k:=ls.length) (by omega);rcases Aj.1 h with h|h
  .rcases Aj.1 h with h|h
   .have:=old x (Cg h);omega
   .refine cB5 h (aX9 _ _) ?_;have h1:=aD6 r (ls.getD (fW ls r.k ls.length) []);have h2:=old (ls.getD (fW ls r.k ls.length) []) (by rw[lT ls [] _ hp];exact Ce hp);omega
  .have:=old x (Cz h);omega
theorem cB4(l:List Row):1<=(gZ l).length/\(gZ l).length<=2:=by unfold gZ;split<;>simp
theorem bS6(hg:aL ls=0):(put ls r).length<=61:=by
 have:=aX4 hg;unfold put;split
 .simp
 .have hp:=oQ (ls:=ls) (key:=r.k) (k:=ls.length) (by omega);have:=cB4 (eO r (ls.getD (fW ls r.k ls.length) []));simp only[Bv,Ey,Ej];omega
theorem cS4(ls:List (List Row))(q:Nat)(h:∀x∈ls,x.length<=q):(ls.map List.length).sum<=ls.length*q:=by
 induction ls with
 |nil=>simp
 |cons x ls ih=>have h1:=h x Bj;have h2:=ih (fun y hy=>h y (Ba _ hy));simp only[Ef,List.sum_cons,List.length_cons];rw[Nat.add_mul];omega
theorem cR7(hg:aL ls=0):aW (put ls r)<=1048576:=by have h1:=bS6 (r:=r) hg;have h2:=cS4 (put ls r) 5 (fun x hx=>(bG4 hg hx).2);unfold aW;omega
theorem cR6(hg:aL ls=0)(k:Nat)(hk:k<(put ls r).length):((put ls r).getD k []).length≠0:=by have:=(bG4 hg (x:=(put ls r).getD k []) (by rw[lT _ [] k hk];exact Ce hk)).1;omega
end Ch
namespace Ch
theorem dK1{ls:List Lock}(hk:k<ls.length)(h0:∀j,j<k->p (aI ls j)=F')(h1:p (aI ls k)=A'):ls.find? p=Y (aI ls k):=by rw[List.find?_eq_some_iff_getElem];refine⟨h1,k,hk,by simp[aI,List.getD,hk],fun j hj=>?_⟩;have:=h0 j hj;simpa[aI,List.getD,show j<ls.length by omega]using this
theorem dK3{ls:List Lock}(h0:∀j,j<ls.length->p (aI ls j)=F'):ls.find? p=O:=by rw[List.find?_eq_none];intro x hx;obtain⟨i,hi,rfl⟩:=Co hx;have:=h0 i hi;simpa[aI,List.getD,hi]using this
theorem dK2{ls:List Lock}{l:Lock}(h:ls.find? p=Y l):∃k,k<ls.length/\aI ls k=l/\p l=A'/\∀j,j<k->p (aI ls j)=F':=by rw[List.find?_eq_some_iff_getElem]at h;obtain⟨h1,k,hk,he,h0⟩:=h;refine⟨k,hk,by simpa[aI,List.getD,hk]using he,h1,fun j hj=>?_⟩;have:=h0 j hj;simpa[aI,List.getD,show j<ls.length by omega]using this
theorem bT5{ls:List Lock}(h:aT ls=0){i j:Nat}(hij:i<j)(hj:j<ls.length):(aI ls i).r<(aI ls j).r:=by
 have hg:=(eT h).1;induction j with
 |zero=>omega
 |succ j ih=>
  have h1:=(iM (hg (j+1) hj)).2.2.1 (by omega);rw[show j+1-1=j from rfl]at h1;by_cases e:i=j
  .subst e;exact h1
  .have:=ih (by omega) (by omega);omega
def eH(ls:List Lock)(t:Int):Int:=match ls.find? (fun l=>aV l.qs t)with
 |some l=>l.r
 |none=> -1
def iB(ls:List Lock)(t:Int):Bool:=(ls.find? (fun l=>aV l.qs t)).isSome
def aC2(ls:List Lock)(t:Int):Int:=if iB ls t then eH ls t else 0
theorem aF8{ls:List Lock}{t:Int}(hk:k<ls.length)(h0:∀j,j<k->aV (aI ls j).qs t=F')(h1:aV (aI ls k).qs t=A'):eH ls t=(aI ls k).r/\iB ls t=A'/\aC2 ls t=(aI ls k).r:=by
 have hf:=dK1 (p:=fun l=>aV l.qs t) hk h0 h1;have hb:iB ls t=A':=by unfold iB;rw[hf];rfl
 have hl:eH ls t=(aI ls k).r:=by unfold eH;rw[hf]
 exact⟨hl,hb,by unfold aC2;rw[hb,hl];rfl⟩
theorem aF9{ls:List Lock}{t:Int}(h0:∀j,j<ls.length->aV (aI ls j).qs t=F'):eH ls t= -1/\iB ls t=F'/\aC2 ls t=0:=by
 have hf:=dK3 (p:=fun l=>aV l.qs t) h0;have hb:iB ls t=F':=by unfold iB;rw[hf];rfl
 have hl:eH ls t= -1:=by unfold eH;rw[hf]
 exact⟨hl,hb,by unfold aC2;rw[hb];rfl⟩
theorem dI6(ls:List Lock)(t:Int):(iB ls t=F'/\eH ls t= -1/\aC2 ls t=0/\∀j,j<ls.length->aV (aI ls j).qs t=F')\/(iB ls t=A'/\∃k,k<ls.length/\eH ls t=(aI ls k).r/\aC2 ls t=(aI ls k).r/\aV (aI ls k).qs t=A'/\∀j,j<k->aV (aI ls j).qs t=F'):=by
 cases hf:ls.find? (fun l=>aV l.qs t)with
 |none=>
  left;rw[List.find?_eq_none]at hf;have h0:∀j,j<ls.length->aV (aI ls j).qs t=F':=by intro j hj;have:=hf (aI ls j) (by simp[aI,List.getD,hj]);simpa using this
  have:=aF9 h0;exact⟨this.2.1,this.1,this.2.2,h0⟩
 |some l=>right;obtain⟨k,hk,rfl,h1,h0⟩:=dK2 hf;have:=aF8 hk h0 h1;exact⟨this.2.1,k,hk,this.1,this.2.2,h1,h0⟩
end Ch
def hcells(hs:List Hold):List Value:=hs.flatMap fun h=>[I J h.t,I J h.m]
theorem iJ(hs:List Hold):(hcells hs).length=hs.length*2:=by
 induction hs with
 |nil=>rfl
 |cons r rs ih=>simp only[hcells,Cc,Bv,List.length_cons,List.length_nil]at*;omega
theorem cD(a b:List Hold):hcells (a++b)=hcells a++hcells b:=by simp[hcells]
theorem aX5(hs:List Hold)(k:Nat)(h:k<hs.length):(hcells hs)[k*2]? =Y (I J (hs.getD k Hold.zero).t)/\(hcells hs)[k*2+1]? =Y (I J (hs.getD k Hold.zero).m):=by
 induction hs generalizing k with
 |nil=>simp at h
 |cons r rs ih=>
  cases k with
  |zero=>simp[hcells]
  |succ k=>have:=ih k (by simpa using h);simp only[hcells,Cc]at*;rw[show(k+1)*2=k*2+1+1 by omega];simpa using this
theorem cB7(hs:List Hold)(k:Nat)(r:Hold)(h:k<hs.length):
  ((hcells hs).set (k*2) (I J r.t)).set (k*2+1) (I J r.m)=hcells (hs.set k r):=by
 induction hs generalizing k with
 |nil=>simp at h
 |cons q rs ih=>
  cases k with
  |zero=>simp[hcells]
  |succ k=>have:=ih k (by simpa using h);simp only[hcells,Cc,List.set_cons_succ]at*;rw[<-this,show(k+1)*2=k*2+1+1 by omega];simp
theorem CellsAt.hlen(h:CellsAt w a (n*2) (hcells hs)):Hid (n=hs.length):=by have:=h.1;rw[iJ]at this;exact(by omega:n=hs.length)
theorem CellsAt.hold(h:CellsAt w a (n*2) (hcells hs))(hk:k<n):
  ∃b off,a=Y ⟨b,off,O⟩/\w.cell? ⟨b,off+k*2,O⟩=Y (I J (hs.getD k Hold.zero).t)/\w.cell? ⟨b,off+k*2+1,O⟩=Y (I J (hs.getD k Hold.zero).m):=by
 obtain⟨b,off,ha,hc⟩:=h.2 (by omega);have hl:=h.hlen.out;obtain⟨h0,h1⟩:=aX5 hs k (by omega);exact⟨b,off,ha,(hc _ (by omega)).trans h0,by rw[Dm];exact(hc _ (by omega)).trans h1⟩
theorem cF(hs:List Hold):∀u∈hcells hs,u.oneCell'=A':=by intro x hx;simp only[hcells,Cf]at hx;obtain⟨r,_,hx⟩:=hx;simp at hx;rcases hx with rfl|rfl<;>rfl
theorem qD{b o:Nat}(h:w.heap[b]? =Y (M c t (0,0))):w.frozen? ⟨b,o,O⟩=F':=by simp[World.frozen?,h]
theorem cJ2{g:Nat}{u0 u1:Value}(h:W.heap[g]? =Y (M #[u0,u1] t (0,0))):
  W.cell? ⟨g,0,O⟩=Y u0/\W.cell? ⟨g,1,O⟩=Y u1/\W.frozen? ⟨g,0,O⟩=F'/\W.frozen? ⟨g,1,O⟩=F':=
 ⟨C' h,C' h,qD h,qD h⟩
theorem gA(w:World)(t m:Int)(ty:TypeId):CellsAt (w.alloc (M #[I J t,I J m] ty)) (Y ⟨w.heap.size,0,O⟩) (1*2) (hcells [⟨t,m⟩]):=by refine⟨rfl,fun _=>⟨_,_,rfl,fun i hi=>?_⟩⟩;rw[Al];have:=Ai (w.alloc (M #[I J t,I J m] ty)) _ i _ _ _ (Ar w _);rw[this];simp[hcells]
theorem kK(hs:List Hold)(k:Nat):hcells (hs.take k)=(hcells hs).take (k*2):=by
 induction hs generalizing k with
 |nil=>simp[hcells]
 |cons r rs ih=>
  cases k with
  |zero=>simp[hcells]
  |succ k=>have:=ih k;simp only[hcells,List.take_succ_cons,Cc]at*;rw[this,show(k+1)*2=k*2+1+1 by omega];simp
theorem zA(h:CellsAt w a m xs)(hk:k<=m):CellsAt w a k (xs.take k):=by refine⟨by rw[Ey,h.1];omega,fun h0=>?_⟩;obtain⟨b,off,ha,hc⟩:=h.2 (by omega);refine⟨b,off,ha,fun i hi=>?_⟩;rw[hc i (by omega),Eo hi]
theorem bM3{b off:Nat}(h:CellsAt w (Y ⟨b,off,O⟩) m xs)(hk:k<=m):CellsAt w (Y ⟨b,off+k,O⟩) (m-k) (xs.drop k):=by refine⟨by rw[Ej,h.1],fun hm=>?_⟩;obtain⟨b',off',ha,hc⟩:=h.2 (by omega);simp only[Af,Ap,Cn]at ha;obtain⟨rfl,rfl⟩:=ha;refine⟨b,off+k,rfl,fun i hi=>?_⟩;rw[Df,Dm,hc _ (by omega)]
theorem aX6(hs:List Hold)(k:Nat)(h:k<=hs.length):hcells (hs.drop k)=(hcells hs).drop (k*2):=by
 have e:hcells hs=hcells (hs.take k)++hcells (hs.drop k):=by rw[<-cD,Ci]
 have e2:(hcells (hs.take k)).length=k*2:=by rw[iJ];simp;omega
 rw[e,<-e2,List.drop_left]
theorem cI6{base:Nat}{c:Nat}(h:w.ownsRow base e size (Z a n c) n xs)(h0:0<n):∃g,a=Y ⟨g,0,O⟩:=by
 rcases h.2 with⟨hv,h1⟩|⟨g,cp,cur,hv,_⟩
 .omega
 .simp only[Bg]at hv;exact⟨g,hv.1⟩
theorem gI(h:w.ownsRow B e size (Z a n cap) n xs):n<=cap:=by
 rcases h.2 with⟨hv,h0⟩|⟨g,cp,cur,hv,_,_,h1,_⟩
 .omega
 .simp only[Bg,Es]at hv;obtain⟨_,rfl⟩:=hv;exact h1
def icells(zs:List Int):List Value:=zs.map (I J)
theorem yD(zs:List Int):(icells zs).length=zs.length:=by simp[icells]
theorem dW(a b:List Int):icells (a++b)=icells a++icells b:=by simp[icells]
theorem dC(zs:List Int):∀u∈icells zs,u.oneCell'=A':=by intro x hx;simp only[icells,Db]at hx;obtain⟨r,_,rfl⟩:=hx;rfl
theorem Tryz.info2:(prog.info? 2).map (fun i=>(i.zero,i.size,i.bytes))=Y (Y (I J 0),1,8):=by kernel_rfl
theorem CellsAt.ilen(h:CellsAt w a (n*1) (icells zs)):Hid (n=zs.length):=by have:=h.1;rw[yD]at this;exact(by omega:n=zs.length)
theorem CellsAt.int(h:CellsAt w a (n*1) (icells zs))(hk:k<n):
  ∃b off,a=Y ⟨b,off,O⟩/\w.cell? ⟨b,off+k,O⟩=Y (I J (zs.getD k 0)):=by
 obtain⟨b,off,ha,hc⟩:=h.2 (by omega);have hl:=h.ilen.out;refine⟨b,off,ha,(hc k (by omega)).trans ?_⟩;simp[icells,List.getD,show k<zs.length by omega]
theorem aM4(zs:List Int)(k:Nat)(v:Int):(icells zs).set k (I J v)=icells (zs.set k v):=by simp[icells,List.map_set]
theorem Tryz.info227:(prog.info? 227).map (fun i=>(i.zero,i.size,i.bytes))=Y (Y (U #[I J 0,Z O 0 0,Z O 0 0]),3,56):=by kernel_rfl
namespace Ch
def ltE(a b:Hold):Bool:=decide (a.t<b.t)||(decide (a.t=b.t)&&decide (a.m<b.m))
theorem rY{a:Hold}:ltE a b=A'↔a.t<b.t\/(a.t=b.t/\a.m<b.m):=by simp[ltE]
theorem cX2{a c:Hold}(h1:ltE a b=A')(h2:ltE b c=A'):ltE a c=A':=by rw[rY]at*;omega
theorem cX1{a:Hold}(h1:ltE a b=F')(h2:a≠b):ltE b a=A':=by
 rw[rY];have h:¬(a.t<b.t\/(a.t=b.t/\a.m<b.m)):=fun e=>by rw[rY.2 e]at h1;cases h1
 have:¬(a.t=b.t/\a.m=b.m):=fun e=>h2 (by cases a;cases b;simp at e;simp[e]);omega
def iV(a b:Hold):Bool:=decide (a.t=b.t)&&decide (a.m=b.m)
theorem aC1{a:Hold}:iV a b=A'↔a=b:=by cases a;cases b;simp[iV]
def pC:List Hold->Hold->List Hold
 |[],e=>[e]
 |x::l,e=>if ltE x e then x::pC l e else if iV x e then x::l else e::x::l
def yS(l:List Hold):Prop:=l.Pairwise fun a b=>ltE a b=A'
theorem bO5{e:Hold}:y∈pC l e↔y=e\/y∈l:=by
 induction l with
 |nil=>simp[pC]
 |cons x l ih=>
  unfold pC;split
  .simp only[Am,ih];constructor
   .rintro(h|h|h)
    .exact .inr (.inl h)
    .exact .inl h
    .exact .inr (.inr h)
   .rintro(h|h|h)
    .exact .inr (.inl h)
    .exact .inl h
    .exact .inr (.inr h)
  .split
   .next h=>rw[aC1]at h;subst h;simp
   .simp
theorem cV9(h:yS l)(e:Hold):yS (pC l e):=by
 unfold yS at*;induction l with
 |nil=>simp[pC]
 |cons x l ih=>
  rw[Cw]at h;unfold pC;split
  .next hx=>
   rw[Cw];refine⟨fun y hy=>?_,ih h.2⟩;rcases bO5.1 hy with rfl|hy
   .exact hx
   .exact h.1 y hy
  .next hx=>
   split
   .rw[Cw];exact h
   .next hne=>
    have hex:=cX1 (by simpa using hx) (fun e'=>hne (aC1.2 e'));rw[Cw,Cw];refine⟨fun y hy=>?_,h⟩;rcases Am.1 hy with rfl|hy
    .exact hex
    .exact cX2 hex (h.1 y hy)
theorem dA2{e:Hold}(hk:k<=l.length)(h1:∀j,j<k->ltE (l.getD j Hold.zero) e=A')(h2:k<l.length->ltE (l.getD k Hold.zero) e=F'):
  pC l e=if(decide (k<l.length)&&iV (l.getD k Hold.zero) e)=A' then l else l.take k++[e]++l.drop k:=by
 induction l generalizing k with
 |nil=>
  have:k=0:=by simpa using hk
  subst this;simp[pC]
 |cons x l ih=>
  cases k with
  |zero=>
   have hx:ltE x e=F':=by simpa using h2 (by simp)
   unfold pC;rw[hx];cases he:iV x e
   .simp[he]
   .simp[he]
  |succ k=>
   have hx:ltE x e=A':=by simpa using h1 0 (by omega)
   unfold pC;rw[hx,if_pos rfl,ih (k:=k) (by simpa using hk) (fun j hj=>by simpa using h1 (j+1) (by omega)) (fun hl=>by simpa using h2 (by simpa using hl))];have e2:(decide (k+1<(x::l).length)&&iV ((x::l).getD (k+1) Hold.zero) e)=(decide (k<l.length)&&iV (l.getD k Hold.zero) e):=by simp
   rw[e2];split
   .rfl
   .simp
def eW(l:List Hold):List Hold:=l.foldl pC []
theorem uC(l:List Hold)(e:Hold):eW (l++[e])=pC (eW l) e:=by simp[eW]
theorem bK7(l:List Hold):yS (eW l):=by
 unfold eW;suffices H:∀(l acc:List Hold),yS acc->yS (l.foldl pC acc)from H l [] (by simp[yS]);intro l;induction l with
 |nil=>intro acc h;exact h
 |cons x l ih=>intro acc h;exact ih _ (cV9 h x)
theorem wQ:y∈eW l↔y∈l:=by
 unfold eW;suffices H:∀(l acc:List Hold),y∈l.foldl pC acc↔y∈acc\/y∈l by simpa using H l []
 intro l;induction l with
 |nil=>intro acc;simp
 |cons x l ih=>
  intro acc;simp only[List.foldl_cons,Am];rw[ih,bO5];constructor
  .rintro((h|h)|h)
   .exact .inr (.inl h)
   .exact .inl h
   .exact .inr (.inr h)
  .rintro(h|h|h)
   .exact .inl (.inr h)
   .exact .inl (.inl h)
   .exact .inr h
def jL(q:Hold)(hs:List Hold):List Hold:=(hs.filter fun h=>h.t !=q.t&&!kU h.m q.m).map fun h=>⟨q.t,h.t⟩
def kS(q:Hold)(qs:List Hold):List Hold:=qs.map fun x=>⟨q.t,x.t⟩
def pV(l:Lock)(k:Nat):List Hold:=(List.range k).flatMap fun i=>jL (l.qs.getD i Hold.zero) l.hs++kS (l.qs.getD i Hold.zero) (l.qs.take i)
def gW(ls:List Lock):List Hold:=ls.flatMap fun l=>pV l l.qs.length
theorem bW0{ls:List Lock}(h:k<ls.length):gW (ls.take (k+1))=gW (ls.take k)++pV (aI ls k) (aI ls k).qs.length:=by unfold gW aI;rw[bZ ls Lock.zero k h];simp
theorem aZ7(l:Lock)(k:Nat):pV l (k+1)=pV l k++(jL (l.qs.getD k Hold.zero) l.hs++kS (l.qs.getD k Hold.zero) (l.qs.take k)):=by unfold pV;rw[Fg,Dc];simp
theorem bX8(h:k<hs.length)(hc:((hs.getD k Hold.zero).t !=q.t&&!kU (hs.getD k Hold.zero).m q.m)=A'):jL q (hs.take (k+1))=jL q (hs.take k)++[⟨q.t,(hs.getD k Hold.zero).t⟩]:=by unfold jL;rw[bZ hs Hold.zero k h,Bl,Dp];generalize hs.getD k Hold.zero=x at*;rw[List.filter_cons_of_pos (p:=fun h:Hold=>h.t !=q.t&&!kU h.m q.m) hc];rfl
theorem cS8(h:k<hs.length)(hc:((hs.getD k Hold.zero).t !=q.t&&!kU (hs.getD k Hold.zero).m q.m)=F'):jL q (hs.take (k+1))=jL q (hs.take k):=by unfold jL;rw[bZ hs Hold.zero k h,Bl,Dp];generalize hs.getD k Hold.zero=x at*;rw[Fh (p:=fun h:Hold=>h.t !=q.t&&!kU h.m q.m) (by simp only[hc];simp)];simp
theorem aV3(h:k<qs.length):kS q (qs.take (k+1))=kS q (qs.take k)++[⟨q.t,(qs.getD k Hold.zero).t⟩]:=by unfold kS;rw[bZ qs Hold.zero k h];simp
end Ch
theorem Tryz.info265:(prog.info? 265).map (fun i=>(i.zero,i.size,i.bytes))=Y (Y (U #[I J 0,I J 0]),2,16):=by kernel_rfl
def mC(e:Hold):Bool:=!inB e.t 1 999||!inB e.m 1 999||e.t==e.m
def eZ(es:List Hold):Int:=if 400<es.length then 2 else if es.any mC then 3 else 0
def sH(es:List Hold)(t:Int):Int:=if eZ es !=0 then eZ es else if inB t 1 999 then 0 else 3
theorem bY2(hk:k<es.length)(h:mC (es.getD k Hold.zero)=A'):es.any mC=A':=by rw[Ct];exact⟨_,by simp[List.getD,hk],h⟩
def eF(zs:List Int):Int:=zs.foldl max 0
theorem zQ(zs:List Int)(v:Int):eF (zs++[v])=max (eF zs) v:=by simp[eF]
theorem xE(zs:List Int)(b:Int):b<=zs.foldl max b:=by
 induction zs generalizing b with
 |nil=>exact Int.le_refl _
 |cons z zs ih=>have:=ih (max b z);simp only[List.foldl_cons];omega
theorem aS7(zs:List Int)(b:Int):∀v∈zs,v<=zs.foldl max b:=by
 induction zs generalizing b with
 |nil=>intro v hv;simp at hv
 |cons z zs ih=>
  intro v hv;simp only[List.foldl_cons];rcases Am.1 hv with rfl|hv
  .have:=xE zs (max b v);omega
  .exact ih _ v hv
theorem aL6(zs:List Int)(b:Int):zs.foldl max b=b\/zs.foldl max b∈zs:=by
 induction zs generalizing b with
 |nil=>exact Or.inl rfl
 |cons z zs ih=>
  simp only[List.foldl_cons];rcases ih (max b z)with h|h
  .rw[h];by_cases hz:z<=b
   .left;omega
   .right;rw[show max b z=z by omega];simp
  .right;exact Ba _ h
theorem mG{v:Int}(h:v∈zs):v<=eF zs:=aS7 zs 0 v h
theorem yI(zs:List Int):0<=eF zs:=xE zs 0
theorem oU(zs:List Int):eF zs=0\/eF zs∈zs:=aL6 zs 0
theorem bE6{a b:List Int}(h:∀v,v∈a↔v∈b):eF a=eF b:=by
 have h1:eF a<=eF b:=by
  rcases oU a with e|e
  .rw[e];exact yI b
  .exact mG ((h _).1 e)
 have h2:eF b<=eF a:=by
  rcases oU b with e|e
  .rw[e];exact yI a
  .exact mG ((h _).2 e)
 omega
def bB1(cyc sys:List Int):Int:=eF (sys.filter fun v=>cyc.contains v)
def oI(cyc sys:List Int):Int:=if inB (bB1 cyc sys) 1 999 then bB1 cyc sys else eF cyc
def tQ(cyc sys:List Int):Int×Int:=if cyc.length=0 then(4,0)else if cyc.any (fun v=>!inB v 1 999)then(3,0)else(0,oI cyc sys)
def qS(sys:List Int)(p:Int×Bool)(v:Int):Int×Bool:=
 if(sys.contains v&&!p.2)||((sys.contains v==p.2)&&decide (p.1<v))then(v,sys.contains v)else p
def iG(cyc sys:List Int):Int×Bool:=cyc.foldl (qS sys) (0,F')
theorem aA8(cyc sys:List Int)(v:Int):iG (cyc++[v]) sys=qS sys (iG cyc sys) v:=by simp[iG]
theorem cO5(cyc sys:List Int)(hc:∀v∈cyc,1<=v):iG cyc sys=if cyc.any (fun v=>sys.contains v)then(eF (cyc.filter fun v=>sys.contains v),A')else(eF cyc,F'):=by
 suffices H:∀(done todo:List Int),cyc=done++todo->iG done sys=if done.any (fun v=>sys.contains v)then(eF (done.filter fun v=>sys.contains v),A')else(eF done,F')by exact H cyc [] (by simp)
 intro done;induction hd:done.length generalizing done with
 |zero=>intro todo _;have:done=[]:=Dn hd;subst this;rfl
 |succ n ih=>
  intro todo e;have hne:done≠[]:=by intro h;rw[h]at hd;simp at hd
  obtain⟨ds,v,rfl⟩:∃ds v,done=ds++[v]:=⟨done.dropLast,done.getLast hne,(List.dropLast_concat_getLast hne).symm⟩
  have ih:=ih ds (by simpa using hd) (v::todo) (by simpa using e);have hv:1<=v:=hc v (by rw[e];simp);have hg:=yI (ds.filter fun v=>sys.contains v);rw[aA8,ih,List.any_append,Bl,zQ];unfold qS;cases hs:sys.contains v
  .cases ha:ds.any (fun v=>sys.contains v)
   .simp only[hs,List.any_cons,List.any_nil,Gg,Bool.false_eq_true,if_false,Dh,List.filter_nil,Dz,Bool.false_and,Bool.false_or,El,Ge];by_cases hl:eF ds<v
    .simp only[hl,decide_true,beq_self_eq_true,Bool.and_self,Fl];rw[show max (eF ds) v=v by omega]
    .simp only[hl,decide_false,Ge,Bool.false_eq_true,if_false];rw[show max (eF ds) v=eF ds by omega]
   .have hns:v∉sys:=by simpa using hs
    simp[hns,Dh]
  .cases ha:ds.any (fun v=>sys.contains v)
   .have hz:ds.filter (fun v=>sys.contains v)=[]:=by rw[Fj];intro x hx hh;rw[Ed]at ha;exact absurd hh (by simpa using ha x hx)
    have h1:max 0 v=v:=by omega
    simp only[hs,hz,List.any_cons,List.any_nil,Dh,List.filter_nil,Fl,List.nil_append,Gg,Bool.or_true,Bool.false_eq_true,if_false,Et,El,Bool.true_or];simp[eF,h1]
   .simp only[hs,List.any_cons,List.any_nil,Dh,List.filter_nil,Fl,Gg,Bool.or_true,Fm,Ge,Bool.false_or,beq_self_eq_true,Et];rw[zQ];by_cases hl:eF (ds.filter fun v=>sys.contains v)<v
    .simp only[hl,decide_true,Fl];rw[show max (eF (ds.filter fun v=>sys.contains v)) v=v by omega]
    .simp only[hl,decide_false,Bool.false_eq_true,if_false];rw[show max (eF (ds.filter fun v=>sys.contains v)) v=eF (ds.filter fun v=>sys.contains v)by omega]
theorem aJ2(cyc sys:List Int):bB1 cyc sys=eF (cyc.filter fun v=>sys.contains v):=by refine bE6 fun v=>?_;simp only[By,Eg];exact And.comm
theorem nW(v a b:Int):inB v a b=A'↔a<=v/\v<=b:=by simp[inB]
theorem bI4(cyc sys:List Int)(hc:∀v∈cyc,inB v 1 999=A'):(iG cyc sys).1=oI cyc sys:=by
 have hc':∀v∈cyc,1<=v/\v<=999:=fun v hv=>(nW v 1 999).1 (hc v hv);rw[cO5 cyc sys (fun v hv=>(hc' v hv).1)];unfold oI;rw[aJ2];cases ha:cyc.any (fun v=>sys.contains v)
 .have hz:cyc.filter (fun v=>sys.contains v)=[]:=by rw[Fj];intro x hx hh;rw[Ed]at ha;exact absurd hh (by simpa using ha x hx)
  rw[hz];rfl
 .obtain⟨x,hx,hs⟩:=Ct.1 ha;have hm:x∈cyc.filter (fun v=>sys.contains v):=By.2 ⟨hx,hs⟩;have h1:=mG hm;have h2:=(hc' x hx).1;rcases oU (cyc.filter fun v=>sys.contains v)with e|e
  .omega
  .have h3:=(hc' _ (By.1 e).1).2;rw[if_pos rfl,if_pos ((nW _ _ _).2 ⟨by omega,h3⟩)]
def eQ(k a:Int):List Hold:=
 if k=1 then [⟨0,1⟩,⟨a+1,3⟩]
 else if k=2\/k=3\/k=8 then [⟨0,2⟩,⟨a+1,5⟩]
 else if k=4\/k=5\/k=10 then [⟨0,3⟩]
 else if k=9 then [⟨0,1⟩]
 else []
end Go.Proofs.YtpbbokalojdooaaGreat
