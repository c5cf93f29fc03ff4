import Derived.Test.YtpbbokalojdooaaGreatWac
namespace Go.Proofs.YtpbbokalojdooaaGreat
open Go.RowKit Ch Go.Proofs.Tryz
set_option linter.unusedSimpArgs false
set_option linter.unusedVariables false
set_option maxRecDepth 20000
set_option maxHeartbeats 8000000
open Value renaming int->I,slice->Z,bool->X,agg->U
open IntKind renaming i64->J
open Option renaming none->O,some->Y
open Obj renaming cells->M
open Ending renaming returned->R'
open Bool renaming true->A',false->F'
variable {K:Act->World->Prop} {ops:Array Oper} {Q:Exit->Act->World->Prop} {b key rk rv:Int} {ls:List (List Row)} {ys zs:List Int} {rest:List Oper} {S l p q rs:List Row} {news xs:List Value} {base bytes k m n size t:Nat} {o:Oper} {A a:Option Addr} {row:Option Nat} {E:Prop} {r:Row} {α:Type} {e e' tn:TypeId} {i:TypeInfo} {v z:Value} {w w':World}
theorem cU(v lo hi:Int)(w:World):
  Calls prog 101 #[I J v,I J lo,I J hi] w fun e w'=>e=R' (X (inB v lo hi))/\w'=w:=by
 unfold inB;by_cases h1:lo<=v;all_goals by_cases h2:v<=hi
 all_goals
  go_enter func101,ntmps101
  go_wp2;go_ret;exact⟨by simp[h1,h2],rfl⟩
theorem cT(v:Int)(w:World):
  Calls prog 124 #[I J v] w fun e w'=>e=R' (X (inB v 0 99))/\w'=w:=by
 go_enter func124,ntmps124
 go_wp2_with(go_at_call 101;refine E' (cU _ _ _ _) ?_)
 go_ret;exact⟨rfl,rfl⟩
theorem bP(v:Int)(w:World):
  Calls prog 125 #[I J v] w fun e w'=>e=R' (X (inB v 0 9999))/\w'=w:=by
 go_enter func125,ntmps125
 go_wp2_with(go_at_call 101;refine E' (cU _ _ _ _) ?_)
 go_ret;exact⟨rfl,rfl⟩
theorem Tryz.info5:(prog.info? 5).map (fun i=>(i.zero,i.size,i.bytes))=Y (Y (I .u8 0),1,1):=by kernel_rfl
theorem cH{k:IntKind}{a:Int}(h:a=b):R' (I k a)=R' (I k b):=by rw[h]
theorem aF7(a:Option Addr)(n cap:Nat)(zs:List Int)(w:World)(h:CellsAt w a n (bts zs))(hb:IsB zs)(hn:n<=1099511627776):
  Calls prog 154 #[Z a n cap] w fun e w'=>e=R' (I J (nS zs))/\w'=w:=by
 have HL:=h.len;go_enter func154,ntmps154
 go_wp2;go_loop [3,4] (fun s i=>∃k:Nat,k<=n/\i=I J k/\s=I J (nS (zs.take k))) (fun _ i=>n-(intOf i).toNat)
 case atStart=>exact⟨0,Ad _,rfl,rfl⟩
 case round=>
  obtain⟨k,hk,rfl,rfl⟩:=hrel;obtain⟨s0,s1⟩:=wR (zs.take k);by_cases hlt:k<n
  .obtain⟨b,off,rfl,hc⟩:=h.at hlt;obtain⟨z0,z1⟩:=hb k;have HS:Hid (nS (zs.take (k+1))=qQ (nS (zs.take k)) (zs.getD k 0)):=bX6 zs k (by have:=HL.out;omega);generalize zs.getD k 0=z at*;generalize nS (zs.take k)=s at*;go_wp2;go_round
   case rel=>exact⟨k+1,by omega,by go_num,by rw[HS.out];rfl⟩
   case measure=>simp[intOf];omega
  .go_wp2;go_ret;exact⟨cH (by rw[Bb (by have:=HL.out;omega)]),rfl⟩
theorem hid{p:Prop}(h:p):Hid p:=h
theorem cC{a b c:World}{g:Nat}(h:a.grownBy b (Y g))(k:b.grownBy c (Y g)):a.grownBy c (Y g):=
 ⟨k.os.trans h.os,k.tape.trans h.tape,k.output.trans h.output,Ak h.size k.size,fun j hj hne=>(k.block j (At hj h.size) hne).trans (h.block j hj hne)⟩
theorem wI(v:Int)(w:World)(h0:0<=v)(h1:v<65536):
  Calls prog 153 #[I J v] w fun e w'=>e=R' (Z (Y ⟨w.heap.size,0,O⟩) 2 2)/\w'=w.alloc (M #[I .u8 (v / 256),I .u8 (v%256)] 5):=by
 go_enter func153,ntmps153
 go_wp2;go_ret;exact⟨rfl,rfl⟩
structure Grew(B:Nat)(w w':World)(g g':Nat):Prop where
 below:Below B w w'
 size:w.heap.size<=w'.heap.size
 here:g'=g\/g'=w.heap.size
 lt:g'<w'.heap.size
 blk:∀h,h<w.heap.size->h≠g->w'.heap[h]? =w.heap[h]?
theorem aP{o:Obj}(h:n=w.heap.size):(w.alloc o).heap[n]? =Y o:=by subst h;exact Ar w o
theorem cN{o:Obj}(h:n<w.heap.size):(w.alloc o).heap[n]? =w.heap[n]? :=Ex w o n h
theorem dI3{a:Act}(s x:Operand)
  (B g n cp:Nat) (xs:List Value) (m:Nat) (cs:Array Value) (hm:0<m/\cs.size=m/\n+m<=1099511627776/\B<=g)
  (ho:o.op= .call {callee:=.builtin .append,args:=#[s,x],argTypes:=#[22,22]}) (hgd:o.guard=O)
  (hs:a.eval s=Z (Y ⟨g,0,O⟩) n cp) (hx:∃h c t,a.eval x=Z (Y ⟨h,0,O⟩) m c/\w.heap[h]? =Y (M cs t (0,0)))
  (hown:w.ownsRow B 5 1 (Z (Y ⟨g,0,O⟩) n cp) n xs) (h1:∀u∈cs.toList,u.oneCell'=A') (hbase:B<=w.heap.size)
  (hK:∀g' cp' w',w'.ownsRow B 5 1 (Z (Y ⟨g',0,O⟩) (n+m) cp') (n+m) (xs++cs.toList)->Grew B w w' g g'->K (a.put o.dst (Z (Y ⟨g',0,O⟩) (n+m) cp')) w'):
  if Region.wanted o (yielded ops a.tmps)=A' then Oper.wp prog o a w K Q else E:=by
 obtain⟨hm,hl,hb,hgB⟩:=hm;obtain⟨h,c,t,hx,hblk⟩:=hx;obtain⟨i0,hi,hz0,hz1,hz2⟩:=Bz Tryz.info5;refine step_append_lies _ hgd s x 22 ho B 5 i0 _ 1 1 underlying22 hi hz0 hz1 hz2 rfl (by omega) _ n xs hs hown ⟨h,0,O⟩ m c cs.toList hx (by simpa using hl) (World.news_of_block hblk) h1 hm (by unfold maxLen;omega) (by omega) hbase _ rfl ?_;intro g' cp' w' hown' hgrow hat hlt;refine hK g' cp' w' hown' ⟨(Aa _ _).grown hgrow hbase (fun k hk=>?_),hgrow.size,?_,hlt,fun k hk hne=>hgrow.block k hk (by simpa[Value.ownBlock]using hne)⟩
 .simp[Value.ownBlock]at hk;omega
 .rcases hat with hat|hat
  .simp[Value.ownBlock]at hat;exact .inl hat.symm
  .exact .inr hat
theorem cO6{a:Act}(s x:Operand)
  (B g n cp:Nat) (xs:List Value) (m:Nat) (cs:Array Value) (hm:0<m/\cs.size=m/\n+m<=1099511627776/\B<=g)
  (ho:o.op= .call {callee:=.builtin .append,args:=#[s,x],argTypes:=#[22,22]}) (hgd:o.guard=O)
  (hs:a.eval s=Z (Y ⟨g,0,O⟩) n cp) (hx:∃h c t,a.eval x=Z (Y ⟨h,0,O⟩) m c/\w.heap[h]? =Y (M cs t (0,0)))
  (hown:w.ownsRow B 5 1 (Z (Y ⟨g,0,O⟩) n cp) n xs) (h1:∀u∈cs.toList,u.oneCell'=A') (hbase:B<=w.heap.size)
  (hK:∀g' cp' w',w'.ownsRow B 5 1 (Z (Y ⟨g',0,O⟩) (n+m) cp') (n+m) (xs++cs.toList)->Grew B w w' g g'->wpList prog ops Q rest (a.put o.dst (Z (Y ⟨g',0,O⟩) (n+m) cp')) w'):
  wpList prog ops Q (o::rest) a w:=by
 obtain⟨hm,hl,hb,hgB⟩:=hm;obtain⟨h,c,t,hx,hblk⟩:=hx;obtain⟨i0,hi,hz0,hz1,hz2⟩:=Bz Tryz.info5;refine wpList_append_lies _ hgd s x 22 ho B 5 i0 _ 1 1 underlying22 hi hz0 hz1 hz2 rfl (by omega) _ n xs hs hown ⟨h,0,O⟩ m c cs.toList hx (by simpa using hl) (World.news_of_block hblk) h1 hm (by unfold maxLen;omega) (by omega) hbase _ rfl ?_;intro g' cp' w' hown' hgrow hat hlt;refine hK g' cp' w' hown' ⟨(Aa _ _).grown hgrow hbase (fun k hk=>?_),hgrow.size,?_,hlt,fun k hk hne=>hgrow.block k hk (by simpa[Value.ownBlock]using hne)⟩
 .simp[Value.ownBlock]at hk;omega
 .rcases hat with hat|hat
  .simp[Value.ownBlock]at hat;exact .inl hat.symm
  .exact .inr hat
theorem dI5(a:Option Addr)(n cap k:Nat)(zs:List Int)(w:World)(h:CellsAt w a n (bts zs))(hb:IsB zs)(hn:n<=1099511627776)(hk:k+1<n):
  Calls prog 111 #[Z a n cap,I J k] w fun e w'=>e=R' (I J (zs.getD k 0*256+zs.getD (k+1) 0))/\∃q,w'=w.drewN q:=by
 obtain⟨b,off,rfl,hc⟩:=h.at (show k<n by omega);obtain⟨b',off',hbo,hc'⟩:=h.at hk;simp only[Af,Ap,Cn]at hbo;obtain⟨rfl,rfl⟩:=hbo;obtain⟨x0,x1⟩:=hb k;obtain⟨y0,y1⟩:=hb (k+1);generalize zs.getD k 0=x at*;generalize zs.getD (k+1) 0=y at*;go_enter func111,ntmps111
 go_wp2;go_quiet (fail)
 go_wp2;go_ret;exact⟨rfl,_,rfl⟩
theorem aH(h:w.ownsRow base e size v n xs)(g:Nat)(hg:v.ownBlock=Y g):base<=g/\g<w.heap.size:=by
 rcases h.2 with⟨hv,_⟩|⟨g',cap',cur,hv,hb,hh,_⟩
 .subst hv;simp[Value.ownBlock]at hg
 .subst hv;simp[Value.ownBlock]at hg;subst hg;refine⟨hb,?_⟩;by_cases hlt:g'<w.heap.size
  .exact hlt
  .rw[Ev (by omega)]at hh;cases hh
theorem aN(h:w.ownsRow base e size v n xs)(hg:w.grownBy w' row)(hne:∀g,v.ownBlock=Y g->row≠Y g):w'.ownsRow base e size v n xs:=by
 refine⟨h.1,?_⟩;rcases h.2 with h'|⟨g,cap,cur,hv,hb,hh,h1,h2,h3,h4⟩
 .exact .inl h'
 .refine .inr ⟨g,cap,cur,hv,hb,?_,h1,h2,h3,h4⟩;have hlt:=(aH h g (by rw[hv];rfl)).2;have:=hne g (by rw[hv];rfl);rw[hg.block g hlt (fun e=>this e.symm)];exact hh
theorem aK(hg:w.grownBy w' row){b o:Nat}(h:w.cell? ⟨b,o,O⟩=Y v)(hne:row≠Y b):w'.cell? ⟨b,o,O⟩=Y v:=
 (World.grownBy.cell_far hg ⟨b,o,O⟩ (aD h) (fun e=>hne e.symm)).trans h
theorem kG(h:CellsAt w a m xs)(hg:w.grownBy w' row)(hB:∀b off,a=Y ⟨b,off,O⟩->row≠Y b):CellsAt w' a m xs:=by
 refine⟨h.1,fun hm=>?_⟩;obtain⟨b,off,ha,hc⟩:=h.2 hm;refine⟨b,off,ha,fun i hi=>?_⟩;have hx:xs[i]? =Y (xs[i]'(by rw[h.1];exact hi)):=by simp
 rw[hx];exact aK hg ((hc i hi).trans hx) (hB b off ha)
theorem aV7{t ty:TypeId}(ht:prog.underlying t=Y (.slice e))(htn:prog.underlying tn=Y (.slice e'))(hi:prog.info? e=Y i)(a:Option Addr)(n cp:Nat)(x:Value)(w:World):
  (Builtin.append_ #[t,tn] ty #[Z a n cp,x]).run prog w=(Builtin.append_ #[t,t] ty #[Z a n cp,x]).run prog w:=by
 simp[Builtin.append_,Fr ht,Fr htn,sizeOf,typeInfo,hi]
theorem aI3(b off j:Nat):(⟨b,off,O⟩:Addr).add j=⟨b,off+j,O⟩:=by
 unfold Addr.add;split
 .next h0=>subst h0;rfl
 .rfl
theorem bU2{t ty:TypeId}(ht:prog.underlying t=Y (.slice e))(htn:prog.underlying tn=Y (.slice e'))(hi:prog.info? e=Y i)(hz:i.zero=Y z)
  (hsize:i.size=size) (hby:i.bytes=bytes) (hzs:z.cells.size=size) (hsz:0<size) (hbb:bytes<=1024)
  {B:Nat} (hown:w.ownsRow B e size v n xs) {c:Nat} (hc:CellsAt w A (m*size) news) (h1:∀u∈news,u.oneCell'=A')
  (hn:n+m<=4194304) (hbase:B<=w.heap.size):
  ∃a' c' w',(Builtin.append_ #[t,tn] ty #[v,Z A m c]).run prog w= .ok (Z a' (n+m) c') w'/\w'.ownsRow B e size (Z a' (n+m) c') (n+m) (xs++news)/\w.grownBy w' v.ownBlock/\
   ∀g,(Z a' (n+m) c').ownBlock=Y g->v.ownBlock=Y g\/w.heap.size<=g:=by
 obtain⟨av,cv,hv⟩:=dT hown;subst hv;rw[aV7 ht htn hi];cases A with
 |some ad=>
  obtain⟨v',w',hr,h2,h3,_,h5⟩:=run_append_own_at (P:=prog) w B t ty e i z size bytes ht hi hz hsize hby hzs hsz _ n xs hown ad m c news hc.1 (fun j u hj=>by
   have hjl:j<news.length:=(Di.1 hj).1;have hl:=hc.1;obtain⟨b,off,ha,hcc⟩:=hc.2 (by omega);simp only[Af]at ha;subst ha;rw[aI3,hcc j (by omega),hj]) h1 (by unfold maxLen;omega) (by have:=Nat.mul_le_mul hn hbb;omega) hbase
  obtain⟨a',c',rfl⟩:=dT h2;refine⟨a',c',w',hr,h2,h3,fun g hg=>?_⟩;rcases h5 with h5|h5
  .exact .inl (by rw[<-h5];exact hg)
  .right;rw[h5]at hg;simp at hg;omega
 |none=>
  have hm0:m=0:=by
   rcases Ei m with h|h
   .exact h
   .obtain⟨b,off,ha,_⟩:=hc.2 (Nat.mul_pos h hsz);simp at ha
  subst hm0;have hne:news=[]:=by have:=hc.1;rw[Ep]at this;exact Dd.1 this
  subst hne;refine⟨av,cv,w,?_,by simpa using hown,⟨rfl,rfl,rfl,z',fun _ _ _=>rfl⟩,fun g hg=>.inl (by simpa using hg)⟩;rcases hown.2 with⟨hv,h0⟩|⟨g,cp,cur,hv,_,_,h1,_⟩
  .simp only[Bg]at hv;obtain⟨rfl,_,rfl⟩:=hv;subst h0;simp[Builtin.append_,Fr ht,sizeOf,typeInfo,hi,Builtin.lenOf,Builtin.firstCells]
  .simp only[Bg,Es]at hv;obtain⟨rfl,rfl⟩:=hv;simp[Builtin.append_,Fr ht,sizeOf,typeInfo,hi,Builtin.lenOf,Builtin.firstCells,h1,storeCells]
theorem bM{a:Act}{t:TypeId}(ht:prog.underlying t=Y (.slice e))(htn:prog.underlying tn=Y (.slice e'))(hi:prog.info? e=Y i)(hz:i.zero=Y z)
  (hsize:i.size=size) (hby:i.bytes=bytes) (hzs:z.cells.size=size) (hsz:0<size) (hbb:bytes<=1024) (s x:Operand)
  (ho:o.op= .call {callee:=.builtin .append,args:=#[s,x],argTypes:=#[t,tn]}) (hgd:o.guard=O)
  (B:Nat) (v:Value) (n:Nat) (xs:List Value) (A:Option Addr) (m c:Nat) (news:List Value) (hs:a.eval s=v) (hx:a.eval x=Z A m c)
  (hown:w.ownsRow B e size v n xs) (hc:CellsAt w A (m*size) news) (h1:∀u∈news,u.oneCell'=A') (hn:n+m<=4194304) (hbase:B<=w.heap.size)
  (hK:∀a' c' w',w'.ownsRow B e size (Z a' (n+m) c') (n+m) (xs++news)->w.grownBy w' v.ownBlock->(∀g,(Z a' (n+m) c').ownBlock=Y g->v.ownBlock=Y g\/w.heap.size<=g)->wpList prog ops Q rest (a.put o.dst (Z a' (n+m) c')) w'):
  wpList prog ops Q (o::rest) a w:=by
 obtain⟨a',c',w',hr,h2,h3,h4⟩:=bU2 (ty:=o.type) (c:=c) ht htn hi hz hsize hby hzs hsz hbb hown hc h1 hn hbase;exact Lib.wpList_append_run w hgd s x t tn ho _ _ hs hx _ _ hr (hK a' c' w' h2 h3 h4)
theorem dP{a:Act}{t:TypeId}(ht:prog.underlying t=Y (.slice e))(htn:prog.underlying tn=Y (.slice e'))(hi:prog.info? e=Y i)(hz:i.zero=Y z)
  (hsize:i.size=size) (hby:i.bytes=bytes) (hzs:z.cells.size=size) (hsz:0<size) (hbb:bytes<=1024) (s x:Operand)
  (ho:o.op= .call {callee:=.builtin .append,args:=#[s,x],argTypes:=#[t,tn]}) (hgd:o.guard=O)
  (B:Nat) (v:Value) (n:Nat) (xs:List Value) (A:Option Addr) (m c:Nat) (news:List Value) (hs:a.eval s=v) (hx:a.eval x=Z A m c)
  (hown:w.ownsRow B e size v n xs) (hc:CellsAt w A (m*size) news) (h1:∀u∈news,u.oneCell'=A') (hn:n+m<=4194304) (hbase:B<=w.heap.size)
  (hK:∀a' c' w',w'.ownsRow B e size (Z a' (n+m) c') (n+m) (xs++news)->w.grownBy w' v.ownBlock->(∀g,(Z a' (n+m) c').ownBlock=Y g->v.ownBlock=Y g\/w.heap.size<=g)->K (a.put o.dst (Z a' (n+m) c')) w'):
  if Region.wanted o (yielded ops a.tmps)=A' then Oper.wp prog o a w K Q else E:=by
 have hw:Region.wanted o (yielded ops a.tmps)=A':=by simp[Region.wanted,hgd]
 rw[if_pos hw];obtain⟨a',c',w',hr,h2,h3,h4⟩:=bU2 (ty:=o.type) (c:=c) ht htn hi hz hsize hby hzs hsz hbb hown hc h1 hn hbase;exact Lib.wp_append_run w s x t tn ho _ _ hs hx _ _ hr (hK a' c' w' h2 h3 h4)
structure Ch.Bf where
 k:Int
 h:Bool
 v:Int
def Ch.Bf.zero:Bf:=⟨0,F',0⟩
def bfcells(rs:List Bf):List Value:=rs.flatMap fun r=>[I J r.k,X r.h,I J r.v]
theorem bL9(rs:List Bf):(bfcells rs).length=rs.length*3:=by
 induction rs with
 |nil=>rfl
 |cons r rs ih=>simp only[bfcells,Cc,Bv,List.length_cons,List.length_nil]at*;omega
theorem bZ3(rs:List Bf)(k:Nat)(h:k<rs.length):(bfcells rs)[k*3]? =Y (I J (rs.getD k Bf.zero).k)/\(bfcells rs)[k*3+1]? =Y (X (rs.getD k Bf.zero).h)/\(bfcells rs)[k*3+2]? =Y (I J (rs.getD k Bf.zero).v):=by
 induction rs generalizing k with
 |nil=>simp at h
 |cons r rs ih=>
  cases k with
  |zero=>simp[bfcells]
  |succ k=>have:=ih k (by simpa using h);simp only[bfcells,Cc]at*;rw[show(k+1)*3=k*3+1+1+1 by omega];simpa using this
theorem CellsAt.bflen{rs:List Bf}(h:CellsAt w a (n*3) (bfcells rs)):Hid (n=rs.length):=by have:=h.1;rw[bL9]at this;exact(by omega:n=rs.length)
theorem CellsAt.bef{rs:List Bf}(h:CellsAt w a (n*3) (bfcells rs))(hk:k<n):
  ∃b off,a=Y ⟨b,off,O⟩/\w.cell? ⟨b,off+k*3,O⟩=Y (I J (rs.getD k Bf.zero).k)/\w.cell? ⟨b,off+k*3+1,O⟩=Y (X (rs.getD k Bf.zero).h)/\w.cell? ⟨b,off+k*3+2,O⟩=Y (I J (rs.getD k Bf.zero).v):=by
 obtain⟨b,off,ha,hc⟩:=h.2 (by omega);have hl:=h.bflen.out;obtain⟨h0,h1,h2⟩:=bZ3 rs k (by omega);exact⟨b,off,ha,(hc _ (by omega)).trans h0,by rw[Dm];exact(hc _ (by omega)).trans h1,by rw[Dm];exact(hc _ (by omega)).trans h2⟩
theorem cU0(w:World)(a:Option Addr)(cap:Nat):(convert 22 9 (Z a 0 cap)).run prog w= .ok (.string (strOfNums [])) w:=by
 rw[run_convert_bytes_string w 22 9 5 _ 0 cap underlying22 underlying5 underlying9];cases a;all_goals
  simp[Conv.bytesToString,loadCells];rfl
theorem lS(h:CellsAt w a n (bts zs))(cap:Nat):
  (convert 22 9 (Z a n cap)).run prog w= .ok (.string (strOfNums zs)) w:=by
 have hl:=h.len.out;rcases Ei n with hn|hn
 .subst hn;obtain rfl:zs=[]:=Dn hl.symm;exact cU0 w a cap
 .obtain⟨b,off,rfl,hc⟩:=h.2 hn;refine run_convert_bytes_arg w 22 5 underlying22 underlying5 b off n cap zs hl.symm (fun i hi=>?_) 9 underlying9;rw[hc i hi];simp[bts,List.getD,show i<zs.length by omega]
theorem dB8{x y:Int}(h0:0<=x)(h1:x<=255)(k0:0<=y)(k1:y<=255)(h:UInt8.ofNat x.toNat=UInt8.ofNat y.toNat):x=y:=by have:=congrArg UInt8.toNat h;simp only[UInt8.toNat_ofNat']at this;omega
theorem cR5{xs:List Int}(hx:IsB xs)(hy:IsB ys):((strOfNums xs).toList==(strOfNums ys).toList)=decide (xs=ys):=by
 rw[ByteArray.toList_eq,ByteArray.toList_eq,strOfNums_data,strOfNums_data];by_cases h:xs=ys
 .subst h;simp
 .rw[Fz h,Cq];intro he;apply h;apply Ga;intro i;have hi:=congrArg (fun l=>l[i]?) he;simp only[List.getElem?_map]at hi;have bx:=hx i;have bY:=hy i;simp only[List.getD]at bx bY;cases hxi:xs[i]? with
  |none=>
   cases hyi:ys[i]? with
   |none=>rfl
   |some y=>rw[hxi,hyi]at hi;simp at hi
  |some x=>
   cases hyi:ys[i]? with
   |none=>rw[hxi,hyi]at hi;simp at hi
   |some y=>rw[hxi,hyi]at hi;rw[hxi]at bx;rw[hyi]at bY;simp only[Option.map_some,Af]at hi;simp only[Option.getD_some]at bx bY;rw[dB8 bx.1 bx.2 bY.1 bY.2 hi]
theorem CellsAt.take{xs:List Int}(h:CellsAt w a n (bts xs))(hm:m<=n):CellsAt w a m (bts (xs.take m)):=by have hl:=h.len.out;refine⟨by simp[bts];omega,fun h0=>?_⟩;obtain⟨b,off,ha,hc⟩:=h.2 (by omega);refine⟨b,off,ha,fun i hi=>?_⟩;rw[hc i (by omega)];simp[bts,hi]
theorem bO7{xs:List Int}(h:IsB xs)(m:Nat):IsB (xs.take m):=by
 intro i;have:=h i;by_cases hi:i<m
 .simpa[List.getD,Ez,hi]using this
 .simp[Ez,hi]
theorem dE8{xs:List Int}(h:IsB xs)(m:Nat):IsB (xs.drop m):=by intro i;have:=h (m+i);simpa[List.getD,Df]using this
theorem aO3{xs:List Int}:decide (xs.take ys.length=ys)=decide (ys<+:xs):=by
 by_cases hp:ys<+:xs
 .rw[Fa hp,Cs];exact(List.prefix_iff_eq_take.1 hp).symm
 .rw[Fz hp,Bp];intro he;exact hp (he▸List.take_prefix _ _)
def dJ(zs:List Int):Rec×Nat:=match Ch.first zs with
 |some r=>(r,r.len)
 |none=>(Rec.zero,0)
theorem uS(h0:(Ch.unp zs).fault=0)(h1:(Ch.unp zs).bytes<+:zs):dJ zs=(Ch.unp zs,(Ch.unp zs).len):=by unfold dJ Ch.first;rw[if_pos ⟨h0,h1⟩]
theorem iR(h:¬((Ch.unp zs).fault=0/\(Ch.unp zs).bytes<+:zs)):dJ zs=(Rec.zero,0):=by unfold dJ Ch.first;rw[if_neg h]
namespace Ch
def dX(key:Int)(r:Row):Bool:=r.k !=key
def aG8(l:List Row):Bool:=decide (0<l.length)
def fD(ls:List (List Row))(key:Int):List (List Row):=(ls.map (List.filter (dX key))).filter aG8
theorem aL2{p:α->Bool}{l:List α}(h:∀x∈l,p x=A'):l.filter p=l:=List.filter_eq_self.2 h
theorem dI2(l:List α)(d:α)(i:Nat)(h:i<l.length):l=l.take i++l.getD i d::l.drop (i+1):=by rw[lT l d i h,<-Ck h,Ci]
theorem bW2(ls:List (List Row))(key:Int)(k:Nat)(h:k<ls.length):fD (ls.take (k+1)) key=fD (ls.take k) key++(if aG8 ((ls.getD k []).filter (dX key))then [(ls.getD k []).filter (dX key)]else []):=by rw[bZ ls [] k h];unfold fD;rw[Dp,Bl];simp only[Ef,List.map_nil,Dh,List.filter_nil]
end Ch
namespace Ch
theorem aF3(l:List Row)(p:Option Int):iU p l=0↔(∀r∈l,r.fault=0)/\l.Pairwise (fun a b=>a.k<b.k)/\∀q,p=Y q->∀r∈l,q<r.k:=by
 induction l generalizing p with
 |nil=>simp[iU]
 |cons x l ih=>
  rw[gJ];by_cases hx:(x.fault !=0)=A'
  .rw[if_pos hx];refine⟨fun h=>by simp[h]at hx,fun h=>h.1 x Bj⟩
  .rw[if_neg hx];have hx0:x.fault=0:=by simpa using hx
   by_cases hl:low p x.k=A'
   .rw[if_pos hl];refine⟨fun h=>by omega,fun h=>?_⟩;cases p with
    |none=>simp[low]at hl
    |some q=>have:=h.2.2 q rfl x Bj;simp[low]at hl;omega
   .rw[if_neg hl,ih];have hl':=wC hl;constructor
    .rintro⟨h1,h2,h3⟩;refine⟨fun r hr=>?_,List.Pairwise.cons (fun r hr=>h3 x.k rfl r hr) h2,fun q hq r hr=>?_⟩
     .rcases Am.1 hr with rfl|hr
      .exact hx0
      .exact h1 r hr
     .have h4:=hl' q hq;rcases Am.1 hr with rfl|hr
      .exact h4
      .have:=h3 x.k rfl r hr;omega
    .rintro⟨h1,h2,h3⟩;obtain⟨h4,h5⟩:=Cw.1 h2;refine⟨fun r hr=>h1 r (Ba _ hr),h5,fun q hq r hr=>?_⟩;cases hq;exact h4 r hr
theorem bR8(l:List Row):cL l=0↔l.length<=4/\(∀r∈l,r.fault=0)/\l.Pairwise (fun a b=>a.k<b.k):=by
 unfold cL;by_cases h:4<l.length
 .rw[if_pos h];exact⟨fun h=>by omega,fun h=>by omega⟩
 .rw[if_neg h];show iU O l=0↔_;rw[aF3];exact⟨fun h'=>⟨by omega,h'.1,h'.2.1⟩,fun h'=>⟨h'.2.1,h'.2.2,fun q hq=>by cases hq⟩⟩
theorem aW9(h:l.length≠0):∃r∈l,r.k=gL l:=by refine⟨l.getD 0 Row.zero,?_,rfl⟩;rw[lT _ _ 0 (by omega)];exact Ce _
theorem dE9(h:l.length≠0):∃r∈l,r.k=nO l:=by refine⟨l.getD (l.length-1) Row.zero,?_,rfl⟩;rw[lT _ _ (l.length-1) (by omega)];exact Ce _
theorem dP0(ls:List (List Row))(p:Option Int):tF p ls=0↔(∀l∈ls,l.length≠0/\l.length<=4)/\(∀r∈ls.flatten,r.fault=0)/\ls.flatten.Pairwise (fun a b=>a.k<b.k)/\∀q,p=Y q->∀r∈ls.flatten,q<r.k:=by
 induction ls generalizing p with
 |nil=>simp[tF]
 |cons l ls ih=>
  rw[kM];by_cases h0:l.length=0
  .rw[if_pos h0];exact⟨fun h=>by omega,fun h=>absurd h0 (h.1 l Bj).1⟩
  .rw[if_neg h0];obtain⟨x,hx,ex⟩:=aW9 h0;obtain⟨y,hy,ey⟩:=dE9 h0;by_cases hp:(cL l !=0)=A'
   .rw[if_pos hp];refine⟨fun h=>by simp[h]at hp,fun h=>?_⟩;rw[List.flatten_cons]at h;refine(bR8 l).2 ⟨(h.1 l Bj).2,fun r hr=>h.2.1 r (Fp _ hr),(Fq.1 h.2.2.1).1⟩
   .rw[if_neg hp];have⟨p1,p2,p3⟩:=(bR8 l).1 (by simpa using hp);have hfi:=yJ p3;have hla:=aZ2 p3;by_cases hl:low p (gL l)=A'
    .rw[if_pos hl];refine⟨fun h=>by omega,fun h=>?_⟩;cases p with
     |none=>simp[low]at hl
     |some q=>have:=h.2.2.2 q rfl x (by rw[List.flatten_cons];exact Fp _ hx);simp[low]at hl;omega
    .rw[if_neg hl,ih,List.flatten_cons,Fq];have hl':=wC hl;constructor
     .rintro⟨h1,h2,h3,h4⟩;refine⟨fun m hm=>?_,fun r hr=>?_,⟨p3,h3,fun a ha b hb=>?_⟩,fun q hq r hr=>?_⟩
      .rcases Am.1 hm with rfl|hm
       .exact⟨h0,p1⟩
       .exact h1 m hm
      .rcases Aj.1 hr with hr|hr
       .exact p2 r hr
       .exact h2 r hr
      .have:=hla a ha;have:=h4 (nO l) rfl b hb;omega
      .have h5:=hl' q hq;rcases Aj.1 hr with hr|hr
       .have:=hfi r hr;omega
       .have h6:=h4 (nO l) rfl r hr;have h7:=hla x hx;omega
     .rintro⟨h1,h2,⟨_,h4,h5⟩,h6⟩;refine⟨fun m hm=>h1 m (Ba _ hm),fun r hr=>h2 r (List.mem_append_right _ hr),h4,fun q hq r hr=>?_⟩;cases hq;have:=h5 y hy r hr;omega
theorem kI(ls:List (List Row)):aL ls=0↔ls.length<=60/\(∀l∈ls,l.length≠0/\l.length<=4)/\(∀r∈ls.flatten,r.fault=0)/\ls.flatten.Pairwise (fun a b=>a.k<b.k):=by
 unfold aL;by_cases h:60<ls.length
 .rw[if_pos h];exact⟨fun h=>by omega,fun h=>by omega⟩
 .rw[if_neg h,dP0];exact⟨fun h'=>⟨by omega,h'.1,h'.2.1,h'.2.2.1⟩,fun h'=>⟨h'.2.1,h'.2.2.1,h'.2.2.2,fun q hq=>by cases hq⟩⟩
end Ch
namespace Ch
def eO(r:Row):List Row->List Row
 |[]=>[r]
 |x::l=>if x.k<r.k then x::eO r l else r::(x::l).filter (dX r.k)
theorem zM(h:∀x∈p,x.k<r.k):eO r (p++q)=p++eO r q:=by
 induction p with
 |nil=>rfl
 |cons x p ih=>simp only[List.cons_append,eO,if_pos (h x Bj),List.cons.injEq,Es];exact ih (fun y hy=>h y (Ba _ hy))
theorem aX7(h:∃x∈p,¬x.k<r.k):eO r (p++q)=eO r p++q.filter (dX r.k):=by
 induction p with
 |nil=>obtain⟨x,hx,_⟩:=h;simp at hx
 |cons x p ih=>
  by_cases hx:x.k<r.k
  .simp only[List.cons_append,eO,if_pos hx,List.cons.injEq,Es];apply ih;obtain⟨y,hy,hy'⟩:=h;rcases Am.1 hy with rfl|hy
   .exact absurd hx hy'
   .exact⟨y,hy,hy'⟩
  .simp only[List.cons_append,eO,if_neg hx];rw[<-List.cons_append,Bl]
theorem jP(h:t<l.length):l.take (t+1)=l.take t++[l.getD t Row.zero]:=by rw[Du,List.getD];simp[h]
def InSt(r:Row)(l:List Row)(t:Nat)(d:Bool)(S:List Row):Prop:=
 (d=F'/\S=l.take t/\∀x∈l.take t,x.k<r.k)\/(d=A'/\S=eO r (l.take t)/\∃x∈l.take t,¬x.k<r.k)
theorem InSt.start(r:Row)(l:List Row):InSt r l 0 F' []:=.inl ⟨rfl,rfl,by simp⟩
theorem InSt.low(h:InSt r l t F' S)(ht:t<l.length)(hx:(l.getD t Row.zero).k<r.k):InSt r l (t+1) F' (S++[l.getD t Row.zero]):=by
 rcases h with⟨_,rfl,h⟩|⟨h,_⟩
 .refine .inl ⟨rfl,(jP ht).symm,fun x hm=>?_⟩;rw[jP ht]at hm;rcases Aj.1 hm with hm|hm
  .exact h x hm
  .simp only[Cp]at hm;subst hm;exact hx
 .cases h
theorem InSt.same(h:InSt r l t F' S)(ht:t<l.length)(hx:(l.getD t Row.zero).k=r.k):InSt r l (t+1) A' (S++[r]):=by
 rcases h with⟨_,rfl,h⟩|⟨h,_⟩
 .refine .inr ⟨rfl,?_,l.getD t Row.zero,?_,by omega⟩
  .rw[jP ht,zM h];generalize l.getD t Row.zero=x at hx;simp[eO,hx,dX]
  .rw[jP ht];simp
 .cases h
theorem InSt.high(h:InSt r l t F' S)(ht:t<l.length)(hx:r.k<(l.getD t Row.zero).k):InSt r l (t+1) A' (S++[r]++[l.getD t Row.zero]):=by
 rcases h with⟨_,rfl,h⟩|⟨h,_⟩
 .have h1:¬(l.getD t Row.zero).k<r.k:=by omega
  have h2:dX r.k (l.getD t Row.zero)=A':=by unfold dX;simp only[bne_iff_ne,ne_eq];omega
  refine .inr ⟨rfl,?_,l.getD t Row.zero,?_,h1⟩
  .rw[jP ht,zM h,eO,if_neg h1,Dh,if_pos h2];simp
  .rw[jP ht];simp
 .cases h
theorem InSt.on(h:InSt r l t A' S)(ht:t<l.length)(hx:(l.getD t Row.zero).k≠r.k):InSt r l (t+1) A' (S++[l.getD t Row.zero]):=by
 rcases h with⟨h,_⟩|⟨_,rfl,h⟩
 .cases h
 .refine .inr ⟨rfl,?_,?_⟩
  .rw[jP ht,aX7 h];generalize l.getD t Row.zero=x at hx;have:dX r.k x=A':=by unfold dX;simpa using hx
   rw[Dh,if_pos this,List.filter_nil]
  .obtain⟨x,hm,hx'⟩:=h;exact⟨x,by rw[jP ht];exact Fp _ hm,hx'⟩
theorem InSt.over(h:InSt r l t A' S)(ht:t<l.length)(hx:(l.getD t Row.zero).k=r.k):InSt r l (t+1) A' S:=by
 rcases h with⟨h,_⟩|⟨_,rfl,h⟩
 .cases h
 .refine .inr ⟨rfl,?_,?_⟩
  .rw[jP ht,aX7 h];generalize l.getD t Row.zero=x at hx;simp[dX,hx]
  .obtain⟨x,hm,hx'⟩:=h;exact⟨x,by rw[jP ht];exact Fp _ hm,hx'⟩
theorem InSt.endNo(h:InSt r l t F' S)(ht:l.length<=t):eO r l=S++[r]:=by
 rcases h with⟨_,rfl,h⟩|⟨h,_⟩
 .rw[Bb ht]at h⊢;have:=zM (q:=[]) h;rw[Dz]at this;exact this
 .cases h
theorem InSt.endYes(h:InSt r l t A' S)(ht:l.length<=t):eO r l=S:=by
 rcases h with⟨h,_⟩|⟨_,rfl,h⟩
 .cases h
 .rw[Bb ht]
def gZ(l:List Row):List (List Row):=if l.length<=4 then [l]else [l.take (l.length / 2),l.drop (l.length / 2)]
def put(ls:List (List Row))(r:Row):List (List Row):=
 if ls.length=0 then [[r]]else ls.take (fW ls r.k ls.length)++gZ (eO r (ls.getD (fW ls r.k ls.length) []))++ls.drop (fW ls r.k ls.length+1)
theorem dA8(h:ls.length=0):put ls r=[[r]]:=if_pos h
end Ch
def Ch.Bf.fault(b:Bf):Int:=if !inB b.k 0 99||!inB b.v 0 9999 then 3 else if !b.h&&b.v !=0 then 1 else 0
def eN:List Bf->Int
 |[]=>0
 |b::bs=>if b.fault !=0 then b.fault else eN bs
def cY(bs:List Bf):Int:=if 40<bs.length then 2 else eN bs
theorem bY9{bs:List Bf}(h:40<bs.length):cY bs=2:=by rw[cY,if_pos h]
theorem bZ1{bs:List Bf}(h:bs.length<=40):cY bs=eN (bs.drop 0):=by rw[cY,if_neg (by omega),Gf]
theorem uO{bs:List Bf}(h:k<bs.length):bs.drop k=bs.getD k Bf.zero::bs.drop (k+1):=by rw[Ck h];simp[List.getD,h]
theorem cT5{bs:List Bf}(h:k<bs.length)(hf:((bs.getD k Bf.zero).fault !=0)=A'):eN (bs.drop k)=(bs.getD k Bf.zero).fault:=by rw[uO h,eN,if_pos hf]
theorem cT7{bs:List Bf}(h:k<bs.length)(hf:((bs.getD k Bf.zero).fault !=0)=F'):eN (bs.drop k)=eN (bs.drop (k+1)):=by rw[uO h,eN,if_neg (by rw[hf];exact Da)]
theorem bZ0{bs:List Bf}(h:bs.length<=k):eN (bs.drop k)=0:=by rw[Cb h];rfl
theorem cT6{bs:List Bf}(h:eN bs=0):∀b∈bs,b.fault=0:=by
 induction bs with
 |nil=>intro b hb;cases hb
 |cons c bs ih=>
  rw[eN]at h;by_cases hc:(c.fault !=0)=A'
  .rw[if_pos hc]at h;simp[h]at hc
  .rw[if_neg hc]at h;intro b hb;rcases Am.1 hb with rfl|hb
   .simpa using hc
   .exact ih h b hb
def Ch.has(ls:List (List Row))(key:Int):Option Int:=
 match iL ls key with
 |some r=>if r.g then O else Y r.v
 |none=>O
def Ch.bf(key:Int):Option Int->Bf
 |some v=>⟨key,A',v⟩
 |none=>⟨key,F',0⟩
theorem bN8(h:iL ls key=O):Ch.has ls key=O:=by rw[Ch.has,h]
theorem bD0(h:iL ls key=Y ⟨rk,rv,A'⟩):Ch.has ls key=O:=by rw[Ch.has,h];rfl
theorem cB6(h:iL ls key=Y ⟨rk,rv,F'⟩):Ch.has ls key=Y rv:=by rw[Ch.has,h];rfl
namespace Ch
theorem cV6(hg:aL ls=0){v:Int}(h:Ch.has ls key=Y v):inB v 0 9999=A':=by
 unfold Ch.has at h;cases hf:iL ls key with
 |none=>rw[hf]at h;cases h
 |some r=>
  rw[hf]at h;simp only at h;unfold iL at hf;have hm:=List.mem_of_find?_eq_some hf;have hr:=((kI ls).1 hg).2.2.1 r hm;by_cases hgh:r.g=A'
  .rw[if_pos hgh]at h;cases h
  .rw[if_neg hgh]at h;cases h;unfold Row.fault dQ at hr;cases hv:inB r.v 0 9999
   .rw[hv]at hr;simp at hr
   .rfl
theorem cP4(hg:aL ls=0)(hk:inB key 0 99=A'):(bf key (Ch.has ls key)).fault=0:=by
 cases h:Ch.has ls key with
 |none=>unfold bf Bf.fault;simp[hk,show inB 0 0 9999=A' from by decide]
 |some v=>unfold bf Bf.fault;simp[hk,cV6 hg h]
theorem aL4(hg:aL ls=0):ls.flatten.length<=240:=by
 obtain⟨h1,h2,_,_⟩:=(kI ls).1 hg;have:∀(xs:List (List Row)),(∀l∈xs,l.length<=4)->xs.flatten.length<=4*xs.length:=by
  intro xs;induction xs with
  |nil=>intro _;simp
  |cons x xs ih=>intro h;have:=ih (fun l hl=>h l (Ba _ hl));have:=h x (Bj ..);simp at*;omega
 have:=this ls (fun l hl=>(h2 l hl).2);omega
end Ch
namespace Ch
def gR(F:List Row)(i:Nat):List Row:=(F.drop (i*4)).take 4
def wP(F:List Row):Nat:=(F.length+3) / 4
def aE6(F:List Row):List (List Row):=(List.range (wP F)).map (gR F)
def Row.same(a b:Row):Bool:=a.k==b.k&&(a.v==b.v&&a.g==b.g)
def pH:List Row->List Row->Bool
 |[],[]=>A'
 |a::l,b::m=>a.same b&&pH l m
 |[],_::_=>F'
 |_::_,[]=>F'
theorem bX4(l m:List Row)(h:l.length≠m.length):pH l m=F':=by
 induction l generalizing m with
 |nil=>cases m with
  |nil=>simp at h
  |cons b m=>rfl
 |cons a l ih=>cases m with
  |nil=>rfl
  |cons b m=>simp[pH,ih m (by simpa using h)]
theorem cS0(l m:List Row)(k:Nat)(h:k<l.length)(h':k<m.length):pH (l.drop k) (m.drop k)=((l.getD k Row.zero).same (m.getD k Row.zero)&&pH (l.drop (k+1)) (m.drop (k+1))):=by rw[Ck h,Ck h',pH];simp[List.getD,h,h']
end Ch
namespace Ch
abbrev Sl:=Int->Option Int
def Sl.set(S:Sl)(k:Int)(o:Option Int):Sl:=fun q=>if q=k then o else S q
def uH(h:Bool)(v:Int):Option Int:=if h then Y v else O
def yR(S:Sl)(i:Nat):Option Row:=(S i).map (fun v=>⟨i,v,F'⟩)
def gY(S:Sl)(m:Nat):List Row:=(List.range m).filterMap (yR S)
def rowsS(S:Sl):List Row:=gY S 100
theorem bK5{S:Sl}{v:Int}(h:S m=Y v):gY S (m+1)=gY S m++[⟨m,v,F'⟩]:=by unfold gY;rw[Fg,List.filterMap_append];simp[yR,h]
theorem bX2{S:Sl}(h:S m=O):gY S (m+1)=gY S m:=by unfold gY;rw[Fg,List.filterMap_append];simp[yR,h]
theorem bK4(S:Sl)(m:Nat):(gY S m).length<=m:=by unfold gY;exact Ak (List.length_filterMap_le _ _) (by simp)
theorem iH(S:Sl)(m:Nat)(r:Row):r∈gY S m↔∃i:Nat,i<m/\r.k=i/\S i=Y r.v/\r.g=F':=by
 unfold gY yR;simp only[List.mem_filterMap,Dg,Option.map_eq_some_iff];constructor
 .rintro⟨i,hi,v,hv,rfl⟩;exact⟨i,hi,rfl,hv,rfl⟩
 .rintro⟨i,hi,hk,hs,hg⟩;refine⟨i,hi,r.v,hs,?_⟩;obtain⟨k,v,g⟩:=r;simp only at hk hg;rw[hk,hg]
theorem iA(S:Sl)(m:Nat):(gY S m).Pairwise (fun a b=>a.k<b.k):=by unfold gY;rw[List.pairwise_filterMap];refine List.Pairwise.imp ?_ List.pairwise_lt_range;intro i j hij a ha b hb;simp only[yR,Option.map_eq_some_iff]at ha hb;obtain⟨v,_,rfl⟩:=ha;obtain⟨u,_,rfl⟩:=hb;show(i:Int)<(j:Int);omega
theorem aF6:∀(l l':List Row),l.Pairwise (fun a b=>a.k<b.k)->l'.Pairwise (fun a b=>a.k<b.k)->(∀r,r∈l↔r∈l')->l=l':=by
 intro l;induction l with
 |nil=>
  intro l' _ _ h;cases l' with
  |nil=>rfl
  |cons a l'=>exact absurd ((h a).2 Bj) (by simp)
 |cons a l ih=>
  intro l' h1 h2 h;cases l' with
  |nil=>exact absurd ((h a).1 Bj) (by simp)
  |cons b l'=>
   have p1:=Cw.1 h1;have p2:=Cw.1 h2;have hab:a=b:=by
    rcases Am.1 ((h a).1 Bj)with e|e
    .exact e
    .rcases Am.1 ((h b).2 Bj)with e'|e'
     .exact e'.symm
     .have:=p1.1 b e';have:=p2.1 a e;omega
   subst hab;congr 1;refine ih l' p1.2 p2.2 (fun r=>?_);constructor
   .intro hr;rcases Am.1 ((h r).1 (Ba _ hr))with e|e
    .subst e;have:=p1.1 r hr;omega
    .exact e
   .intro hr;rcases Am.1 ((h r).2 (Ba _ hr))with e|e
    .subst e;have:=p2.1 r hr;omega
    .exact e
theorem aX8:∀{l:List Row},l.Pairwise (fun a b=>a.k<b.k)->∀x,x∈eO r l↔x=r\/(x∈l/\x.k≠r.k):=by
 intro l;induction l with
 |nil=>intro _ x;simp[eO]
 |cons a l ih=>
  intro hp x;have p1:=Cw.1 hp;by_cases h:a.k<r.k
  .simp only[eO,if_pos h,Am,ih p1.2 x];constructor
   .rintro(rfl|rfl|⟨h1,h2⟩)
    .exact .inr ⟨.inl rfl,by omega⟩
    .exact .inl rfl
    .exact .inr ⟨.inr h1,h2⟩
   .rintro(rfl|⟨rfl|h1,h2⟩)
    .exact .inr (.inl rfl)
    .exact .inl rfl
    .exact .inr (.inr ⟨h1,h2⟩)
  .simp only[eO,if_neg h,Am,By,dX];simp
theorem bD4:∀{l:List Row},l.Pairwise (fun a b=>a.k<b.k)->(eO r l).Pairwise (fun a b=>a.k<b.k):=by
 intro l;induction l with
 |nil=>intro _;simp[eO]
 |cons a l ih=>
  intro hp;have p1:=Cw.1 hp;by_cases h:a.k<r.k
  .simp only[eO,if_pos h];refine Cw.2 ⟨fun x hx=>?_,ih p1.2⟩;rcases(aX8 p1.2 x).1 hx with rfl|⟨h1,_⟩
   .exact h
   .exact p1.1 x h1
  .simp only[eO,if_neg h];refine Cw.2 ⟨fun x hx=>?_,hp.filter _⟩;rw[By]at hx;have hne:x.k≠r.k:=by simpa[dX]using hx.2
   rcases Am.1 hx.1 with rfl|h1
   .omega
   .have:=p1.1 x h1;omega
theorem bK3(S:Sl){k v:Int}(h0:0<=k)(h1:k<=99):eO ⟨k,v,F'⟩ (rowsS S)=rowsS (S.set k (Y v)):=by
 refine aF6 _ _ (bD4 (iA S 100)) (iA _ 100) (fun r=>?_);show r∈eO _ (gY S 100)↔r∈gY _ 100;rw[aX8 (iA S 100),iH,iH];constructor
 .rintro(rfl|⟨⟨i,hi,hk,hs,hg⟩,hne⟩)
  .exact⟨k.toNat,by omega,by simp;omega,by simp only[Sl.set];rw[if_pos (by omega)],rfl⟩
  .simp only at hne;exact⟨i,hi,hk,by simp only[Sl.set];rw[if_neg (by omega)];exact hs,hg⟩
 .rintro⟨i,hi,hk,hs,hg⟩;simp only[Sl.set]at hs;by_cases e:(i:Int)=k
  .rw[if_pos e]at hs;left;obtain⟨a,b,c⟩:=r;simp only[Af]at hk hs hg;rw[hk,e,<-hs,hg]
  .rw[if_neg e]at hs;exact .inr ⟨⟨i,hi,hk,hs,hg⟩,by simp only;omega⟩
theorem bK2(S:Sl)(k:Int):(rowsS S).filter (dX k)=rowsS (S.set k O):=by
 refine aF6 _ _ ((iA S 100).filter _) (iA _ 100) (fun r=>?_);rw[By,rowsS,rowsS,iH,iH];constructor
 .rintro⟨⟨i,hi,hk,hs,hg⟩,hn⟩;have hne:r.k≠k:=by simpa[dX]using hn
  exact⟨i,hi,hk,by simp only[Sl.set];rw[if_neg (by omega)];exact hs,hg⟩
 .rintro⟨i,hi,hk,hs,hg⟩;simp only[Sl.set]at hs;by_cases e:(i:Int)=k
  .rw[if_pos e]at hs;simp at hs
  .rw[if_neg e]at hs;exact⟨⟨i,hi,hk,hs,hg⟩,by simp only[dX];simp;omega⟩
def cX(rs:List Row)(k:Nat):Sl:=(rs.take k).foldl (fun S r=>S.set r.k (Y r.v)) (fun _=>O)
theorem pY(rs:List Row)(k:Nat)(h:k<rs.length):rs.take (k+1)=rs.take k++[rs.getD k Row.zero]:=by rw[Du,Ao h];simp[List.getD,h]
theorem aV9(h:k<rs.length):cX rs (k+1)=(cX rs k).set (rs.getD k Row.zero).k (Y (rs.getD k Row.zero).v):=by unfold cX;rw[pY rs k h,Em];rfl
end Ch
theorem bR9(F:List Row)(k t:Nat)(h:t=min (k*4+4) F.length):(F.drop (k*4)).take (t-k*4)=gR F k:=by
 unfold gR;by_cases h4:k*4+4<=F.length
 .rw[show t-k*4=4 by omega]
 .rw[Bb (by simp;omega),Bb (by simp;omega)]
theorem aO2(F:List Row)(k:Nat):(List.range (k+1)).map (gR F)=(List.range k).map (gR F)++[gR F k]:=by rw[Fg];simp
theorem cI7(F:List Row)(p:Nat)(h:p=(F.length+3) / 4):(List.range p).map (gR F)=aE6 F:=by subst h;rfl
theorem jN(v:Int)(w:World):
  Calls prog 60 #[I J v] w fun e w'=>e=R' (X (inB v 0 99))/\w'=w:=by
 unfold inB;by_cases h1:0<=v;all_goals by_cases h2:v<=99
 all_goals
  go_enter func60,ntmps60
  go_wp2;go_ret;exact⟨by simp[h1,h2],rfl⟩
theorem uY(v:Int)(w:World):
  Calls prog 122 #[I J v] w fun e w'=>e=R' (X (inB v 0 9999))/\w'=w:=by
 unfold inB;by_cases h1:0<=v;all_goals by_cases h2:v<=9999
 all_goals
  go_enter func122,ntmps122
  go_wp2;go_ret;exact⟨by simp[h1,h2],rfl⟩
theorem kJ{o:Obj}(h:(w.alloc o).grownBy w' row):w.grownBy w' row:=
 ⟨h.os,h.tape,h.output,by have:=h.size;simp at this;omega,fun k hk hne=>(h.block k (by simp;omega) hne).trans (Ex w o k hk)⟩
theorem mT(k v:Int)(g:Bool)(w:World):
  Calls prog 126 #[U #[I J k,I J v,X g]] w fun e w'=>e=R' (I J (dQ k v g))/\V' w w':=by
 unfold dQ;cases hk:inB k 0 99;all_goals cases hv:inB v 0 9999
 all_goals cases g
 all_goals cases h0:(v !=0)
 all_goals
  go_enter func126,ntmps126
  go_wp2_with(first|(go_at_call 124;refine E' (cT _ _) ?_)|(go_at_call 125;refine E' (bP _ _) ?_))
  go_ret;exact⟨by simp,(Aa _ _).alloc z' _⟩
theorem bO4(k v:Int)(g:Bool)(w:World):
  Calls prog 80 #[U #[I J k,I J v,X g]] w fun e w'=>e=R' (I J (dQ k v g))/\V' w w':=by
 unfold dQ;cases hk:inB k 0 99;all_goals cases hv:inB v 0 9999
 all_goals cases g
 all_goals cases h0:(v !=0)
 all_goals
  go_enter func80,ntmps80
  go_wp2_with(first|(go_at_call 60;refine E' (jN _ _) ?_)|(go_at_call 122;refine E' (uY _ _) ?_))
  go_ret;exact⟨by simp,(Aa _ _).alloc z' _⟩
theorem Tryz.info86:(prog.info? 86).map (fun i=>(i.zero,i.size,i.bytes))=Y (Y (U #[I J 0,I J 0,X F']),3,24):=by kernel_rfl
theorem lJ{k:IntKind}{a:Int}(h:a=b):R' (I k a)=R' (I k b):=by rw[h]
theorem bT6(a:Option Addr)(n cap:Nat)(rs:List Row)(w:World)(h:CellsAt w a (n*3) (rcells rs))(hn:n<=1099511627776):
  Calls prog 127 #[Z a n cap] w fun e w'=>e=R' (I J (iT rs))/\V' w w':=by
 have HL:=h.rlen;go_enter func127,ntmps127
 go_wp2;go_loopw [3] (fun i wr=>∃k:Nat,k<=n/\i=I J k/\Hid (iT rs=iN rs k)/\V' w wr) (fun i _=>n-(intOf i).toNat)
 case atStart=>exact⟨0,Ad _,rfl,rfl,Aa _ _⟩
 case round=>
  obtain⟨k,hk,rfl,HR,hB⟩:=hrel;by_cases hlt:k<n
  .have hkl:k<rs.length:=by have:=HL.out;omega
   have HF:Hid (((rs.getD k Row.zero).fault !=0)=A'->iT rs=(rs.getD k Row.zero).fault):=fun hf=>HR.out.trans (aR7 rs k hkl hf);obtain⟨b,off,rfl,hc0,hc1,hc2⟩:=(h.below hB).row hlt;cases k with
   |zero=>
    have HN:Hid (((rs.getD 0 Row.zero).fault !=0)=F'->iT rs=iN rs 1):=fun hf=>HR.out.trans (vJ rs hkl hf);generalize rs.getD 0 Row.zero=r at*;obtain⟨rk,rv,rg⟩:=r;simp only[Row.fault,Ep,Nat.add_zero]at hc0 hc1 hc2 HF HN;have hd:decide ((0:Int)<((0:Nat):Int))=F':=by simp
    cases hf:(dQ rk rv rg !=0)
    .go_wp2_with fail
     refine(mT _ _ _ _).mono ?_;rintro e w1⟨rfl,b1⟩;have hB1:=hB.trans (b1.mono hB.size);go_wp2;go_quiet (fail)
     go_wp2;go_roundw;case rel=>exact⟨1,by omega,by go_num,HN.out hf,Cj hB1 _⟩
     case measure=>simp[intOf];omega
    .go_wp2_with fail
     refine(mT _ _ _ _).mono ?_;rintro e w1⟨rfl,b1⟩;have hB1:=hB.trans (b1.mono hB.size);go_wp2;go_ret;exact⟨lJ (HF.out hf).symm,hB1⟩
   |succ j=>
    have HN:Hid (((rs.getD (j+1) Row.zero).fault !=0)=F'->¬(rs.getD (j+1) Row.zero).k<=(rs.getD j Row.zero).k->iT rs=iN rs (j+1+1)):=fun hf hl=>HR.out.trans (aF2 rs j hkl hf hl);have HM:Hid (((rs.getD (j+1) Row.zero).fault !=0)=F'->(rs.getD (j+1) Row.zero).k<=(rs.getD j Row.zero).k->iT rs=1):=fun hf hl=>HR.out.trans (zY rs j hkl hf hl);obtain⟨b',off',hbo,hp0,_,_⟩:=(h.below hB).row (show j<n by omega);simp only[Af,Ap,Cn]at hbo;obtain⟨rfl,rfl⟩:=hbo;generalize rs.getD (j+1) Row.zero=r at*;generalize(rs.getD j Row.zero).k=pk at*;obtain⟨rk,rv,rg⟩:=r;simp only[Row.fault]at hc0 hc1 hc2 HF HN HM;have hd:(0:Int)<((j+1:Nat):Int):=by omega
    cases hf:(dQ rk rv rg !=0)
    .by_cases hle:rk<=pk
     .go_wp2_with fail
      refine(mT _ _ _ _).mono ?_;rintro e w1⟨rfl,b1⟩;have hB1:=hB.trans (b1.mono hB.size);have d0:=keep_cell b1 hc0;have q0:=keep_cell b1 hp0;clear hc0 hc1 hc2 hp0;go_wp2;go_quiet (fail)
      go_wp2;go_ret;exact⟨lJ (HM.out hf hle).symm,Cj hB1 _⟩
     .go_wp2_with fail
      refine(mT _ _ _ _).mono ?_;rintro e w1⟨rfl,b1⟩;have hB1:=hB.trans (b1.mono hB.size);have d0:=keep_cell b1 hc0;have q0:=keep_cell b1 hp0;clear hc0 hc1 hc2 hp0;go_wp2;go_quiet (fail)
      go_wp2;go_roundw;case rel=>exact⟨j+1+1,by omega,by go_num,HN.out hf (by omega),Cj hB1 _⟩
      case measure=>simp[intOf];omega
    .go_wp2_with fail
     refine(mT _ _ _ _).mono ?_;rintro e w1⟨rfl,b1⟩;have hB1:=hB.trans (b1.mono hB.size);go_wp2;go_ret;exact⟨lJ (HF.out hf).symm,hB1⟩
  .obtain rfl:k=n:=by omega
   go_wp2;go_ret;exact⟨lJ (by rw[HR.out,zX _ _ (by have:=HL.out;omega)]),hB⟩
theorem tM(a:Option Addr)(n cap:Nat)(rs:List Row)(w:World)(h:CellsAt w a (n*3) (rcells rs))(hn:n<=1099511627776):
  Calls prog 168 #[Z a n cap] w fun e w'=>e=R' (I J (cL rs))/\V' w w':=by
 have HL:=h.rlen;by_cases h4:4<n
 .go_enter func168,ntmps168
  go_wp2;go_ret;exact⟨lJ (by rw[cL,if_pos (by have:=HL.out;omega)]),Aa _ _⟩
 .go_enter func168,ntmps168
  go_wp2_with fail
  refine(bT6 a n cap rs w h hn).mono ?_;rintro e w1⟨rfl,b1⟩;go_wp2;go_ret;exact⟨lJ (by rw[cL,if_neg (by have:=HL.out;omega)]),b1⟩
end Go.Proofs.YtpbbokalojdooaaGreat
