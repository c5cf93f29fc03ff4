import Derived.Test.YtpbbokalojdooaaGreatQac
namespace Go.Proofs.YtpbbokalojdooaaGreat
open Go.RowKit Ch Go.Proofs.Tryz
set_option linter.unusedSimpArgs false
set_option linter.unusedVariables false
set_option maxRecDepth 20000
set_option maxHeartbeats 8000000
open Value renaming int->I,slice->Z,bool->X,agg->U
open IntKind renaming i64->J
open Option renaming none->O,some->Y
open Obj renaming cells->M
open Ending renaming returned->R'
open Bool renaming true->A',false->F'
variable {K:Act->World->Prop} {ops:Array Oper} {held:Bool} {Q:Exit->Act->World->Prop} {key rk rv:Int} {ls:List (List Row)} {xs ys zs:List Int} {rest:List Oper} {rs:List Rec} {S l q x:List Row} {news:List Value} {B bytes cap k m n p size t:Nat} {spare:Nat->Bool} {o:Oper} {A a:Option Addr} {r:Row} {H:Type} {e e' tn:TypeId} {i:TypeInfo} {v z:Value} {w w':World}
theorem aT3{t ty:TypeId}(ht:prog.underlying t=Y (.slice e))(htn:prog.underlying tn=Y (.slice e'))(hi:prog.info? e=Y i)(a:Option Addr)(n cp:Nat)(x:Value)(w:World):
  (Builtin.append_ #[t,tn] ty #[Z a n cp,x]).run prog w=(Builtin.append_ #[t,t] ty #[Z a n cp,x]).run prog w:=by
 simp[Builtin.append_,run_underlying ht,run_underlying htn,sizeOf,typeInfo,hi]
theorem aH5(b off j:Nat):(⟨b,off,O⟩:Addr).add j=⟨b,off+j,O⟩:=by
 unfold Addr.add;split
 .next h0=>subst h0;rfl
 .rfl
theorem bQ0{t ty:TypeId}(ht:prog.underlying t=Y (.slice e))(htn:prog.underlying tn=Y (.slice e'))(hi:prog.info? e=Y i)(hz:i.zero=Y z)
  (hsize:i.size=size) (hby:i.bytes=bytes) (hzs:z.cells.size=size) (hsz:0<size) (hbb:bytes<=1024)
  {xs:List Value} (hown:w.ownsRow B e size v n xs) {c:Nat} (hc:CellsAt w A (m*size) news) (h1:∀u∈news,u.oneCell'=A')
  (hn:n+m<=4194304) (hbase:B<=w.heap.size):
  ∃a' c' w',(Builtin.append_ #[t,tn] ty #[v,Z A m c]).run prog w= .ok (Z a' (n+m) c') w'/\w'.ownsRow B e size (Z a' (n+m) c') (n+m) (xs++news)/\w.grownBy w' v.ownBlock/\
   ∀g,(Z a' (n+m) c').ownBlock=Y g->v.ownBlock=Y g\/w.heap.size<=g:=by
 obtain⟨av,cv,hv⟩:=dI hown;subst hv;rw[aT3 ht htn hi];cases A with
 |some ad=>
  obtain⟨v',w',hr,h2,h3,_,h5⟩:=run_append_own_at (P:=prog) w B t ty e i z size bytes ht hi hz hsize hby hzs hsz _ n xs hown ad m c news hc.1 (fun j u hj=>by
   have hjl:j<news.length:=(List.getElem?_eq_some_iff.1 hj).1;have hl:=hc.1;obtain⟨b,off,ha,hcc⟩:=hc.2 (by omega);simp only[Option.some.injEq]at ha;subst ha;rw[aH5,hcc j (by omega),hj]) h1 (by unfold maxLen;omega) (by have:=Nat.mul_le_mul hn hbb;omega) hbase
  obtain⟨a',c',rfl⟩:=dI h2;refine⟨a',c',w',hr,h2,h3,fun g hg=>?_⟩;rcases h5 with h5|h5
  .exact .inl (by rw[<-h5];exact hg)
  .right;rw[h5]at hg;simp at hg;omega
 |none=>
  have hm0:m=0:=by
   rcases Nat.eq_zero_or_pos m with h|h
   .exact h
   .obtain⟨b,off,ha,_⟩:=hc.2 (Nat.mul_pos h hsz);simp at ha
  subst hm0;have hne:news=[]:=by have:=hc.1;rw[Nat.zero_mul]at this;exact List.length_eq_zero_iff.1 this
  subst hne;refine⟨av,cv,w,?_,by simpa using hown,⟨rfl,rfl,rfl,z',fun _ _ _=>rfl⟩,fun g hg=>.inl (by simpa using hg)⟩;rcases hown.2 with⟨hv,h0⟩|⟨g,cp,cur,hv,_,_,h1,_⟩
  .simp only[Value.slice.injEq]at hv;obtain⟨rfl,_,rfl⟩:=hv;subst h0;simp[Builtin.append_,run_underlying ht,sizeOf,typeInfo,hi,Builtin.lenOf,Builtin.firstCells]
  .simp only[Value.slice.injEq,true_and]at hv;obtain⟨rfl,rfl⟩:=hv;simp[Builtin.append_,run_underlying ht,sizeOf,typeInfo,hi,Builtin.lenOf,Builtin.firstCells,h1,storeCells]
theorem bK{a:Act}{t:TypeId}(ht:prog.underlying t=Y (.slice e))(htn:prog.underlying tn=Y (.slice e'))(hi:prog.info? e=Y i)(hz:i.zero=Y z)
  (hsize:i.size=size) (hby:i.bytes=bytes) (hzs:z.cells.size=size) (hsz:0<size) (hbb:bytes<=1024) (s x:Operand)
  (ho:o.op= .call {callee:=.builtin .append,args:=#[s,x],argTypes:=#[t,tn]}) (hgd:o.guard=O)
  (B:Nat) (v:Value) (n:Nat) (xs:List Value) (A:Option Addr) (m c:Nat) (news:List Value) (hs:a.eval s=v) (hx:a.eval x=Z A m c)
  (hown:w.ownsRow B e size v n xs) (hc:CellsAt w A (m*size) news) (h1:∀u∈news,u.oneCell'=A') (hn:n+m<=4194304) (hbase:B<=w.heap.size)
  (hK:∀a' c' w',w'.ownsRow B e size (Z a' (n+m) c') (n+m) (xs++news)->w.grownBy w' v.ownBlock->(∀g,(Z a' (n+m) c').ownBlock=Y g->v.ownBlock=Y g\/w.heap.size<=g)->wpList prog ops Q rest (a.put o.dst (Z a' (n+m) c')) w'):
  wpList prog ops Q (o::rest) a w:=by
 obtain⟨a',c',w',hr,h2,h3,h4⟩:=bQ0 (ty:=o.type) (c:=c) ht htn hi hz hsize hby hzs hsz hbb hown hc h1 hn hbase;exact Lib.wpList_append_run w hgd s x t tn ho _ _ hs hx _ _ hr (hK a' c' w' h2 h3 h4)
theorem dK{a:Act}{E:Prop}{t:TypeId}(ht:prog.underlying t=Y (.slice e))(htn:prog.underlying tn=Y (.slice e'))(hi:prog.info? e=Y i)(hz:i.zero=Y z)
  (hsize:i.size=size) (hby:i.bytes=bytes) (hzs:z.cells.size=size) (hsz:0<size) (hbb:bytes<=1024) (s x:Operand)
  (ho:o.op= .call {callee:=.builtin .append,args:=#[s,x],argTypes:=#[t,tn]}) (hgd:o.guard=O)
  (B:Nat) (v:Value) (n:Nat) (xs:List Value) (A:Option Addr) (m c:Nat) (news:List Value) (hs:a.eval s=v) (hx:a.eval x=Z A m c)
  (hown:w.ownsRow B e size v n xs) (hc:CellsAt w A (m*size) news) (h1:∀u∈news,u.oneCell'=A') (hn:n+m<=4194304) (hbase:B<=w.heap.size)
  (hK:∀a' c' w',w'.ownsRow B e size (Z a' (n+m) c') (n+m) (xs++news)->w.grownBy w' v.ownBlock->(∀g,(Z a' (n+m) c').ownBlock=Y g->v.ownBlock=Y g\/w.heap.size<=g)->K (a.put o.dst (Z a' (n+m) c')) w'):
  if Region.wanted o (yielded ops a.tmps)=A' then Oper.wp prog o a w K Q else E:=by
 have hw:Region.wanted o (yielded ops a.tmps)=A':=by simp[Region.wanted,hgd]
 rw[if_pos hw];obtain⟨a',c',w',hr,h2,h3,h4⟩:=bQ0 (ty:=o.type) (c:=c) ht htn hi hz hsize hby hzs hsz hbb hown hc h1 hn hbase;exact Lib.wp_append_run w s x t tn ho _ _ hs hx _ _ hr (hK a' c' w' h2 h3 h4)
structure Ch.Bf where
 k:Int
 h:Bool
 v:Int
def Ch.Bf.zero:Bf:=⟨0,F',0⟩
def bfcells(rs:List Bf):List Value:=rs.flatMap fun r=>[I J r.k,X r.h,I J r.v]
theorem bH9(rs:List Bf):(bfcells rs).length=rs.length*3:=by
 induction rs with
 |nil=>rfl
 |cons r rs ih=>simp only[bfcells,List.flatMap_cons,List.length_append,List.length_cons,List.length_nil]at*;omega
theorem bV0(rs:List Bf)(k:Nat)(h:k<rs.length):(bfcells rs)[k*3]? =Y (I J (rs.getD k Bf.zero).k)/\(bfcells rs)[k*3+1]? =Y (X (rs.getD k Bf.zero).h)/\(bfcells rs)[k*3+2]? =Y (I J (rs.getD k Bf.zero).v):=by
 induction rs generalizing k with
 |nil=>simp at h
 |cons r rs ih=>
  cases k with
  |zero=>simp[bfcells]
  |succ k=>have:=ih k (by simpa using h);simp only[bfcells,List.flatMap_cons]at*;rw[show(k+1)*3=k*3+1+1+1 by omega];simpa using this
theorem CellsAt.bflen{rs:List Bf}(h:CellsAt w a (n*3) (bfcells rs)):Hid (n=rs.length):=by have:=h.1;rw[bH9]at this;exact(by omega:n=rs.length)
theorem CellsAt.bef{rs:List Bf}(h:CellsAt w a (n*3) (bfcells rs))(hk:k<n):
  ∃b off,a=Y ⟨b,off,O⟩/\w.cell? ⟨b,off+k*3,O⟩=Y (I J (rs.getD k Bf.zero).k)/\w.cell? ⟨b,off+k*3+1,O⟩=Y (X (rs.getD k Bf.zero).h)/\w.cell? ⟨b,off+k*3+2,O⟩=Y (I J (rs.getD k Bf.zero).v):=by
 obtain⟨b,off,ha,hc⟩:=h.2 (by omega);have hl:=h.bflen.out;obtain⟨h0,h1,h2⟩:=bV0 rs k (by omega);exact⟨b,off,ha,(hc _ (by omega)).trans h0,by rw[Nat.add_assoc];exact(hc _ (by omega)).trans h1,by rw[Nat.add_assoc];exact(hc _ (by omega)).trans h2⟩
def c7(r:Rec):List Value:=[I J r.kd,I J r.tx,I J r.ky,X r.hd,I J r.ol,X r.hs,I J r.nw]
def rc7(rs:List Rec):List Value:=rs.flatMap c7
theorem bC9(rs:List Rec):(rc7 rs).length=rs.length*7:=by
 induction rs with
 |nil=>rfl
 |cons r rs ih=>simp only[rc7,c7,List.flatMap_cons,List.length_append,List.length_cons,List.length_nil]at*;omega
theorem aN8(rs:List Rec)(r:Rec):rc7 (rs++[r])=rc7 rs++c7 r:=by simp[rc7]
theorem dH1(rs:List Rec)(k j:Nat)(h:k<rs.length)(hj:j<7):(rc7 rs)[k*7+j]? =(c7 (rs.getD k Rec.zero))[j]? :=by
 induction rs generalizing k with
 |nil=>simp at h
 |cons r rs ih=>
  cases k with
  |zero=>simp only[rc7,List.flatMap_cons,Nat.zero_mul,Nat.zero_add];rw[List.getElem?_append_left (by simp[c7];omega)];rfl
  |succ k=>have:=ih k (by simpa using h);simp only[rc7,List.flatMap_cons]at*;rw[List.getElem?_append_right (by simp[c7];omega)];rw[show(k+1)*7+j-(c7 r).length=k*7+j by simp[c7];omega];simpa using this
theorem CellsAt.len7(h:CellsAt w a (n*7) (rc7 rs)):Hid (n=rs.length):=by have:=h.1;rw[bC9]at this;show _=_;omega
def At7(w:World)(b o:Nat)(r:Rec):Prop:=w.cell? ⟨b,o,O⟩=Y (I J r.kd)/\w.cell? ⟨b,o+1,O⟩=Y (I J r.tx)/\w.cell? ⟨b,o+2,O⟩=Y (I J r.ky)/\w.cell? ⟨b,o+3,O⟩=Y (X r.hd)/\w.cell? ⟨b,o+4,O⟩=Y (I J r.ol)/\w.cell? ⟨b,o+5,O⟩=Y (X r.hs)/\w.cell? ⟨b,o+6,O⟩=Y (I J r.nw)
theorem CellsAt.rec(h:CellsAt w a (n*7) (rc7 rs))(hk:k<n):
  ∃b off,a=Y ⟨b,off,O⟩/\At7 w b (off+k*7) (rs.getD k Rec.zero):=by
 obtain⟨b,off,ha,hc⟩:=h.2 (by omega);have hl:=h.len7.out;have key:∀j,j<7->w.cell? ⟨b,off+k*7+j,O⟩=(c7 (rs.getD k Rec.zero))[j]? :=fun j hj=>by rw[Nat.add_assoc,hc _ (by omega),dH1 rs k j (by omega) hj]
 exact⟨b,off,ha,key 0 (by omega),key 1 (by omega),key 2 (by omega),key 3 (by omega),key 4 (by omega),key 5 (by omega),key 6 (by omega)⟩
theorem cM3(w:World)(a:Option Addr)(cap:Nat):(convert 22 9 (Z a 0 cap)).run prog w= .ok (.string (strOfNums [])) w:=by
 rw[run_convert_bytes_string w 22 9 5 _ 0 cap underlying22 underlying5 underlying9];cases a;all_goals
  simp[Conv.bytesToString,loadCells];rfl
theorem jB(h:CellsAt w a n (bts zs))(cap:Nat):
  (convert 22 9 (Z a n cap)).run prog w= .ok (.string (strOfNums zs)) w:=by
 have hl:=h.len.out;rcases Nat.eq_zero_or_pos n with hn|hn
 .subst hn;obtain rfl:zs=[]:=List.eq_nil_of_length_eq_zero hl.symm;exact cM3 w a cap
 .obtain⟨b,off,rfl,hc⟩:=h.2 hn;refine run_convert_bytes_arg w 22 5 underlying22 underlying5 b off n cap zs hl.symm (fun i hi=>?_) 9 underlying9;rw[hc i hi];simp[bts,List.getD,show i<zs.length by omega]
theorem cU1{x y:Int}(h0:0<=x)(h1:x<=255)(k0:0<=y)(k1:y<=255)(h:UInt8.ofNat x.toNat=UInt8.ofNat y.toNat):x=y:=by have:=congrArg UInt8.toNat h;simp only[UInt8.toNat_ofNat']at this;omega
theorem bC2(hx:IsB xs)(hy:IsB ys):((strOfNums xs).toList==(strOfNums ys).toList)=decide (xs=ys):=by
 rw[ByteArray.toList_eq,ByteArray.toList_eq,strOfNums_data,strOfNums_data];by_cases h:xs=ys
 .subst h;simp
 .rw[decide_eq_false h,beq_eq_false_iff_ne];intro he;apply h;apply List.ext_getElem?;intro i;have hi:=congrArg (fun l=>l[i]?) he;simp only[List.getElem?_map]at hi;have bx:=hx i;have bY:=hy i;simp only[List.getD]at bx bY;cases hxi:xs[i]? with
  |none=>
   cases hyi:ys[i]? with
   |none=>rfl
   |some y=>rw[hxi,hyi]at hi;simp at hi
  |some x=>
   cases hyi:ys[i]? with
   |none=>rw[hxi,hyi]at hi;simp at hi
   |some y=>rw[hxi,hyi]at hi;rw[hxi]at bx;rw[hyi]at bY;simp only[Option.map_some,Option.some.injEq]at hi;simp only[Option.getD_some]at bx bY;rw[cU1 bx.1 bx.2 bY.1 bY.2 hi]
theorem cM9(a a':Option Addr)(n m cap cap':Nat)(xs ys:List Int)(w:World)(h:CellsAt w a n (bts xs))(h':CellsAt w a' m (bts ys))(hx:IsB xs)(hy:IsB ys):
  Calls prog 161 #[Z a n cap,Z a' m cap'] w fun e w'=>e=R' (X (decide (xs=ys)))/\w'=w:=by
 have c1:=jB h cap;have c2:=jB h' cap';have E:=bC2 hx hy;go_enter func161,ntmps161
 go_wp2;go_ret;exact⟨by simp,rfl⟩
theorem CellsAt.take(h:CellsAt w a n (bts xs))(hm:m<=n):CellsAt w a m (bts (xs.take m)):=by have hl:=h.len.out;refine⟨by simp[bts];omega,fun h0=>?_⟩;obtain⟨b,off,ha,hc⟩:=h.2 (by omega);refine⟨b,off,ha,fun i hi=>?_⟩;rw[hc i (by omega)];simp[bts,hi]
theorem zF(h:IsB xs)(m:Nat):IsB (xs.take m):=by
 intro i;have:=h i;by_cases hi:i<m
 .simpa[List.getD,List.getElem?_take,hi]using this
 .simp[List.getElem?_take,hi]
theorem bK5(h:IsB xs)(m:Nat):IsB (xs.drop m):=by intro i;have:=h (m+i);simpa[List.getD,List.getElem?_drop]using this
theorem xW:decide (xs.take ys.length=ys)=decide (ys<+:xs):=by
 by_cases hp:ys<+:xs
 .rw[decide_eq_true hp,decide_eq_true_eq];exact(List.prefix_iff_eq_take.1 hp).symm
 .rw[decide_eq_false hp,decide_eq_false_iff_not];intro he;exact hp (he▸List.take_prefix _ _)
theorem aR3(a a':Option Addr)(n m cap cap':Nat)(xs ys:List Int)(w:World)(h:CellsAt w a n (bts xs))(h':CellsAt w a' m (bts ys))(hx:IsB xs)(hy:IsB ys)(hm:0<m)(hn:n<=1099511627776)(hm':m<=1099511627776)(hcap:n<=cap):
  Calls prog 120 #[Z a n cap,Z a' m cap'] w fun e w'=>e=R' (X (decide (ys<+:xs)))/\w'=w:=by
 have HL:=h.len;have HL':=h'.len;by_cases hle:m<=n
 .have ht:=h.take hle;obtain⟨b,off,rfl,_⟩:=h.2 (by omega);have i1:(m:Int)<=(n:Int):=by omega
  have i2:(m:Int)<=(cap:Int):=by omega
  have HP:=xW (xs:=xs) (ys:=ys);rw[<-HP,<-HL'.out];clear HP;go_enter func120,ntmps120
  go_wp2_with fail
  refine(cM9 _ _ m m _ _ _ _ _ ht h' (zF hx m) hy).mono ?_;rintro e w1⟨rfl,hw1⟩;subst w1;go_wp2;go_ret;exact⟨rfl,rfl⟩
 .have i1:¬(m:Int)<=(n:Int):=by omega
  have HP:Hid (¬ys<+:xs):=by intro hp;have:=hp.length_le;have:=HL.out;have:=HL'.out;omega
  rw[decide_eq_false HP.out];go_enter func120,ntmps120
  go_wp2_with fail
  go_ret;exact⟨rfl,rfl⟩
section
open Go.ChangeShapes Go.WideShapes Go.ChangeAt Go.Joins Go.Deep
theorem Tryz.own:ownKnob prog.godebug=O:=by kernel_rfl
theorem Tryz.laidOut:laidOutB prog=A':=by kernel_rfl
section
variable{H:Type}{enc:TypeId×Value->H}{P:Program}{w:World}{base:Nat}{spare:Nat->Bool}{held:Bool}
end
theorem bN3{enc:TypeId×Value->H}{base:Nat}{len fuel:Nat}{y:DataW H×List MemPlace}
  (hk:prog.cellsOf 5=1) (hf:DataW.trod enc prog w base spare held fuel 22 [Z a len cap]=Y y):(∃zs,CellsAt w a len (bts zs)/\IsB zs)/\len<=cap:=by
 rcases open_ints underlying22 underlying5 hk hf with⟨hcs,_⟩|⟨x,l,c,zs,hcs,_,hl,hm,hz,_,hcell,hwz⟩
 .simp at hcs;obtain⟨rfl,rfl,rfl⟩:=hcs;exact⟨⟨[],⟨rfl,fun h=>absurd h (by simp)⟩,fun i=>by simp⟩,z'⟩
 .simp at hcs;obtain⟨rfl,rfl,rfl⟩:=hcs;have hle:len<=zs.length:=by rw[hz];split<;>omega
  refine⟨⟨zs.take len,⟨by simp[bts,Nat.min_eq_left hle],fun hpos=>?_⟩,?_⟩,by omega⟩
  .obtain⟨b,off,spot⟩:=x;have hc0:=hcell 0 (by omega);have hspot:spot=O:=by simpa[Addr.add]using World.cell?_spot hc0
   subst hspot;refine⟨b,off,rfl,fun i hi=>?_⟩;have:=hcell i (by omega);rw[add_plain]at this;rw[this];simp[bts,hi,List.getD,show i<zs.length by omega]
  .have:=range_u8 (zs:=zs.take len) (fun n hn=>hwz n (List.mem_of_mem_take hn));simpa[IsB,List.getD]using this
theorem cA7{enc:TypeId×Value->H}{base:Nat}{len:Nat}{d:DataW H}{p:List MemPlace}
  (hk:prog.cellsOf 5=1) (h:DataW.Trod enc prog w base spare held 22 (Z a len cap) d p):∃zs,CellsAt w a len (bts zs)/\IsB zs:=by
 obtain⟨fuel,hf⟩:=h;exact(bN3 hk (by simpa[Value.cells]using hf)).1
end
namespace Ch
def eF(r:Row):List Row->List Row
 |[]=>[r]
 |x::l=>if x.k<r.k then x::eF r l else r::(x::l).filter (dQ r.k)
theorem zD{p:List Row}(h:∀x∈p,x.k<r.k):eF r (p++q)=p++eF r q:=by
 induction p with
 |nil=>rfl
 |cons x p ih=>simp only[List.cons_append,eF,if_pos (h x List.mem_cons_self),List.cons.injEq,true_and];exact ih (fun y hy=>h y (List.mem_cons_of_mem _ hy))
theorem aV2{p:List Row}(h:∃x∈p,¬x.k<r.k):eF r (p++q)=eF r p++q.filter (dQ r.k):=by
 induction p with
 |nil=>obtain⟨x,hx,_⟩:=h;simp at hx
 |cons x p ih=>
  by_cases hx:x.k<r.k
  .simp only[List.cons_append,eF,if_pos hx,List.cons.injEq,true_and];apply ih;obtain⟨y,hy,hy'⟩:=h;rcases List.mem_cons.1 hy with rfl|hy
   .exact absurd hx hy'
   .exact⟨y,hy,hy'⟩
  .simp only[List.cons_append,eF,if_neg hx];rw[<-List.cons_append,List.filter_append]
theorem jI(h:t<l.length):l.take (t+1)=l.take t++[l.getD t Row.zero]:=by rw[List.take_add_one,List.getD];simp[h]
def InSt(r:Row)(l:List Row)(t:Nat)(d:Bool)(S:List Row):Prop:=
 (d=F'/\S=l.take t/\∀x∈l.take t,x.k<r.k)\/(d=A'/\S=eF r (l.take t)/\∃x∈l.take t,¬x.k<r.k)
theorem InSt.start(r:Row)(l:List Row):InSt r l 0 F' []:=.inl ⟨rfl,rfl,by simp⟩
theorem InSt.low(h:InSt r l t F' S)(ht:t<l.length)(hx:(l.getD t Row.zero).k<r.k):InSt r l (t+1) F' (S++[l.getD t Row.zero]):=by
 rcases h with⟨_,rfl,h⟩|⟨h,_⟩
 .refine .inl ⟨rfl,(jI ht).symm,fun x hm=>?_⟩;rw[jI ht]at hm;rcases List.mem_append.1 hm with hm|hm
  .exact h x hm
  .simp only[List.mem_singleton]at hm;subst hm;exact hx
 .cases h
theorem InSt.same(h:InSt r l t F' S)(ht:t<l.length)(hx:(l.getD t Row.zero).k=r.k):InSt r l (t+1) A' (S++[r]):=by
 rcases h with⟨_,rfl,h⟩|⟨h,_⟩
 .refine .inr ⟨rfl,?_,l.getD t Row.zero,?_,by omega⟩
  .rw[jI ht,zD h];generalize l.getD t Row.zero=x at hx;simp[eF,hx,dQ]
  .rw[jI ht];simp
 .cases h
theorem InSt.high(h:InSt r l t F' S)(ht:t<l.length)(hx:r.k<(l.getD t Row.zero).k):InSt r l (t+1) A' (S++[r]++[l.getD t Row.zero]):=by
 rcases h with⟨_,rfl,h⟩|⟨h,_⟩
 .have h1:¬(l.getD t Row.zero).k<r.k:=by omega
  have h2:dQ r.k (l.getD t Row.zero)=A':=by unfold dQ;simp only[bne_iff_ne,ne_eq];omega
  refine .inr ⟨rfl,?_,l.getD t Row.zero,?_,h1⟩
  .rw[jI ht,zD h,eF,if_neg h1,List.filter_cons,if_pos h2];simp
  .rw[jI ht];simp
 .cases h
theorem InSt.on(h:InSt r l t A' S)(ht:t<l.length)(hx:(l.getD t Row.zero).k≠r.k):InSt r l (t+1) A' (S++[l.getD t Row.zero]):=by
 rcases h with⟨h,_⟩|⟨_,rfl,h⟩
 .cases h
 .refine .inr ⟨rfl,?_,?_⟩
  .rw[jI ht,aV2 h];generalize l.getD t Row.zero=x at hx;have:dQ r.k x=A':=by unfold dQ;simpa using hx
   rw[List.filter_cons,if_pos this,List.filter_nil]
  .obtain⟨x,hm,hx'⟩:=h;exact⟨x,by rw[jI ht];exact List.mem_append_left _ hm,hx'⟩
theorem InSt.over(h:InSt r l t A' S)(ht:t<l.length)(hx:(l.getD t Row.zero).k=r.k):InSt r l (t+1) A' S:=by
 rcases h with⟨h,_⟩|⟨_,rfl,h⟩
 .cases h
 .refine .inr ⟨rfl,?_,?_⟩
  .rw[jI ht,aV2 h];generalize l.getD t Row.zero=x at hx;simp[dQ,hx]
  .obtain⟨x,hm,hx'⟩:=h;exact⟨x,by rw[jI ht];exact List.mem_append_left _ hm,hx'⟩
theorem InSt.endNo(h:InSt r l t F' S)(ht:l.length<=t):eF r l=S++[r]:=by
 rcases h with⟨_,rfl,h⟩|⟨h,_⟩
 .rw[List.take_of_length_le ht]at h⊢;have:=zD (q:=[]) h;rw[List.append_nil]at this;exact this
 .cases h
theorem InSt.endYes(h:InSt r l t A' S)(ht:l.length<=t):eF r l=S:=by
 rcases h with⟨h,_⟩|⟨_,rfl,h⟩
 .cases h
 .rw[List.take_of_length_le ht]
def gX(l:List Row):List (List Row):=if l.length<=4 then [l]else [l.take (l.length / 2),l.drop (l.length / 2)]
def put(ls:List (List Row))(r:Row):List (List Row):=
 if ls.length=0 then [[r]]else ls.take (fP ls r.k ls.length)++gX (eF r (ls.getD (fP ls r.k ls.length) []))++ls.drop (fP ls r.k ls.length+1)
theorem cS9(h:ls.length=0):put ls r=[[r]]:=if_pos h
end Ch
def Ch.Bf.fault(b:Bf):Int:=if !inB b.k 0 99||!inB b.v 0 9999 then 3 else if !b.h&&b.v !=0 then 1 else 0
def eE:List Bf->Int
 |[]=>0
 |b::bs=>if b.fault !=0 then b.fault else eE bs
def cT(bs:List Bf):Int:=if 40<bs.length then 2 else eE bs
theorem bU6{bs:List Bf}(h:40<bs.length):cT bs=2:=by rw[cT,if_pos h]
theorem bU8{bs:List Bf}(h:bs.length<=40):cT bs=eE (bs.drop 0):=by rw[cT,if_neg (by omega),List.drop_zero]
theorem uI{bs:List Bf}(h:k<bs.length):bs.drop k=bs.getD k Bf.zero::bs.drop (k+1):=by rw[List.drop_eq_getElem_cons h];simp[List.getD,h]
theorem cL7{bs:List Bf}(h:k<bs.length)(hf:((bs.getD k Bf.zero).fault !=0)=A'):eE (bs.drop k)=(bs.getD k Bf.zero).fault:=by rw[uI h,eE,if_pos hf]
theorem cL9{bs:List Bf}(h:k<bs.length)(hf:((bs.getD k Bf.zero).fault !=0)=F'):eE (bs.drop k)=eE (bs.drop (k+1)):=by rw[uI h,eE,if_neg (by rw[hf];exact Bool.false_ne_true)]
theorem bU7{bs:List Bf}(h:bs.length<=k):eE (bs.drop k)=0:=by rw[List.drop_of_length_le h];rfl
theorem cL8{bs:List Bf}(h:eE bs=0):∀b∈bs,b.fault=0:=by
 induction bs with
 |nil=>intro b hb;cases hb
 |cons c bs ih=>
  rw[eE]at h;by_cases hc:(c.fault !=0)=A'
  .rw[if_pos hc]at h;simp[h]at hc
  .rw[if_neg hc]at h;intro b hb;rcases List.mem_cons.1 hb with rfl|hb
   .simpa using hc
   .exact ih h b hb
def Ch.has(ls:List (List Row))(key:Int):Option Int:=
 match iH ls key with
 |some r=>if r.g then O else Y r.v
 |none=>O
def Ch.bf(key:Int):Option Int->Bf
 |some v=>⟨key,A',v⟩
 |none=>⟨key,F',0⟩
theorem bJ8(h:iH ls key=O):Ch.has ls key=O:=by rw[Ch.has,h]
theorem bA3(h:iH ls key=Y ⟨rk,rv,A'⟩):Ch.has ls key=O:=by rw[Ch.has,h];rfl
theorem bX3(h:iH ls key=Y ⟨rk,rv,F'⟩):Ch.has ls key=Y rv:=by rw[Ch.has,h];rfl
namespace Ch
structure Ft where
 bg:Bool
 en:Bool
 bk:Int
def Ft.zero:Ft:=⟨F',F',0⟩
def Ft.lost(f:Ft):Bool:=f.bg&&!f.en
def Ft.step(f:Ft)(kd:Int):Ft:=if kd==1 then⟨A',f.en,f.bk⟩else if kd==3 then⟨f.bg,f.en,f.bk+1⟩else if kd==4||kd==5 then⟨f.bg,A',f.bk⟩else f
def bP(rs:List Rec)(t:Int):Ft:=rs.foldl (fun f r=>if r.tx==t then f.step r.kd else f) Ft.zero
theorem uB(hk:k<rs.length):bP (rs.take (k+1)) (rs.getD k Rec.zero).tx=(bP (rs.take k) (rs.getD k Rec.zero).tx).step (rs.getD k Rec.zero).kd:=by unfold bP;rw[qC rs k hk,List.foldl_append];simp
theorem sC(hk:k<rs.length){t:Int}(h:t≠(rs.getD k Rec.zero).tx):bP (rs.take (k+1)) t=bP (rs.take k) t:=by unfold bP;rw[qC rs k hk,List.foldl_append];have h':¬(rs.getD k Rec.zero).tx=t:=fun e=>h e.symm;simp only[List.foldl_cons,List.foldl_nil,beq_iff_eq];rw[if_neg h']
theorem cW5(l:List Int)(r:Rec)(kd t:Int):(if r.kd==kd&&!l.contains r.tx then l++[r.tx]else l).contains t=(l.contains t||(r.kd==kd&&r.tx==t)):=by
 by_cases h1:(r.kd==kd)=A'
 .by_cases h2:l.contains r.tx=A'
  .rw[h2];simp only[h1,Bool.not_true,Bool.and_false,Bool.true_and,if_neg (by simp:¬F'=A')];by_cases h3:r.tx=t
   .rw[<-h3,h2];rfl
   .have:(r.tx==t)=F':=by simpa using h3
    rw[this,Bool.or_false]
  .have h2':l.contains r.tx=F':=by simpa using h2
   rw[h2',h1];simp only[Bool.not_false,Bool.and_self,if_true,Bool.true_and];rw[Bool.eq_iff_iff];simp only[List.contains_iff_mem,List.mem_append,List.mem_singleton,Bool.or_eq_true,beq_iff_eq];exact or_congr_right ⟨fun h=>h.symm,fun h=>h.symm⟩
 .have h1':(r.kd==kd)=F':=by simpa using h1
  rw[h1'];simp
theorem cX0(rs:List Rec)(kd t:Int):∀l,(rs.foldl (fun l r=>if r.kd==kd&&!l.contains r.tx then l++[r.tx]else l) l).contains t=(l.contains t||rs.any (fun r=>r.kd==kd&&r.tx==t)):=by
 induction rs with
 |nil=>intro l;simp
 |cons r rs ih=>intro l;rw[List.foldl_cons,ih,cW5,List.any_cons,Bool.or_assoc]
theorem aA5(rs:List Rec)(kd t:Int):(eP rs kd).contains t=rs.any (fun r=>r.kd==kd&&r.tx==t):=by unfold eP;rw[cX0];simp
theorem dE6(f:Ft)(kd:Int):(f.step kd).bg=(f.bg||kd==1):=by unfold Ft.step;by_cases h1:kd=1<;>by_cases h3:kd=3<;>by_cases h4:kd=4<;>by_cases h5:kd=5<;>simp_all
theorem dE7(f:Ft)(kd:Int):(f.step kd).en=(f.en||(kd==4||kd==5)):=by unfold Ft.step;by_cases h1:kd=1<;>by_cases h3:kd=3<;>by_cases h4:kd=4<;>by_cases h5:kd=5<;>simp_all
theorem aG5(f:Ft)(kd:Int):(f.step kd).bk=f.bk+(if kd=3 then 1 else 0):=by unfold Ft.step;by_cases h1:kd=1<;>by_cases h3:kd=3<;>by_cases h4:kd=4<;>by_cases h5:kd=5<;>simp_all
theorem cV5(rs:List Rec)(t:Int):∀f:Ft,(rs.foldl (fun f r=>if r.tx==t then f.step r.kd else f) f).bg=(f.bg||rs.any (fun r=>r.kd==1&&r.tx==t))/\
  (rs.foldl (fun f r=>if r.tx==t then f.step r.kd else f) f).en=(f.en||(rs.any (fun r=>r.kd==4&&r.tx==t)||rs.any (fun r=>r.kd==5&&r.tx==t))):=by
 induction rs with
 |nil=>intro f;simp
 |cons r rs ih=>
  intro f;rw[List.foldl_cons];obtain⟨h1,h2⟩:=ih (if r.tx==t then f.step r.kd else f);rw[h1,h2];simp only[List.any_cons];cases ht:(r.tx==t)
  .simp
  .simp only[if_true,dE6,dE7,Bool.and_true];refine⟨by rw[Bool.or_assoc],?_⟩;cases f.en<;>cases(r.kd==4)<;>cases(r.kd==5)<;>simp
theorem bM1(rs:List Rec)(t:Int):(bP rs t).lost=((eP rs 1).contains t&&!(eP rs 4++eP rs 5).contains t):=by
 have h:=cV5 rs t Ft.zero;have e:(eP rs 4++eP rs 5).contains t=((eP rs 4).contains t||(eP rs 5).contains t):=by rw[Bool.eq_iff_iff];simp[List.mem_append]
 rw[e,aA5,aA5,aA5];unfold Ft.lost bP;rw[h.1,h.2];simp[Ft.zero]
theorem dG2(rs:List Rec)(t:Int):∀f:Ft,0<=f.bk->f.bk<=(rs.foldl (fun f r=>if r.tx==t then f.step r.kd else f) f).bk/\(rs.foldl (fun f r=>if r.tx==t then f.step r.kd else f) f).bk<=f.bk+rs.length:=by
 induction rs with
 |nil=>intro f _;simp
 |cons r rs ih=>
  intro f hf;rw[List.foldl_cons];have hs:=aG5 f r.kd;cases ht:(r.tx==t)
  .have:=ih f hf;simp only[if_neg (by simp:¬F'=A'),List.length_cons]at this⊢;omega
  .have:=ih (f.step r.kd) (by rw[hs];split<;>omega);simp only[if_true,List.length_cons]at this⊢;rw[hs]at this;split at this<;>omega
theorem uA(rs:List Rec)(t:Int):0<=(bP rs t).bk/\(bP rs t).bk<=rs.length:=by have:=dG2 rs t Ft.zero (by simp[Ft.zero]);simpa[Ft.zero,bP]using this
def oK(rs:List Rec)(m:Nat):List Int:=((List.range m).map (fun i:Nat=>(i:Int)+1)).filter (fun t=>(bP rs t).lost)
def jG(rs:List Rec):List Int:=oK rs 999
theorem bS9(h:(bP rs ((m:Int)+1)).lost=A'):oK rs (m+1)=oK rs m++[(m:Int)+1]:=by unfold oK;rw[List.range_succ,List.map_append,List.filter_append];simp[h]
theorem cJ1(h:(bP rs ((m:Int)+1)).lost=F'):oK rs (m+1)=oK rs m:=by unfold oK;rw[List.range_succ,List.map_append,List.filter_append];simp[h]
theorem tL(rs:List Rec)(t:Int):t∈jG rs↔1<=t/\t<=999/\(bP rs t).lost=A':=by
 unfold jG oK;simp only[List.mem_filter,List.mem_map,List.mem_range];constructor
 .rintro⟨⟨i,hi,rfl⟩,h⟩;exact⟨by omega,by omega,h⟩
 .rintro⟨h1,h2,h⟩;exact⟨⟨(t-1).toNat,by omega,by omega⟩,h⟩
theorem wX(rs:List Rec):(jG rs).Pairwise (· < ·):=by unfold jG oK;apply List.Pairwise.filter;rw[List.pairwise_map];exact List.Pairwise.imp (fun h=>by omega) List.pairwise_lt_range
theorem cT0(hz:zs.Nodup)(hy:ys.Pairwise (· < ·))(h:∀t,t∈zs↔t∈ys):(zs.mergeSort fun x y=>decide (x<=y))=ys:=by
 have hp:(zs.mergeSort fun x y=>decide (x<=y)).Perm ys:=by refine(List.mergeSort_perm _ _).trans ?_;refine(List.perm_ext_iff_of_nodup hz ?_).2 h;exact hy.imp (fun h e=>by omega)
 refine hp.eq_of_pairwise (le:=fun x y=>x<=y) ?_ ?_ ?_
 .intro a b _ _ h1 h2;omega
 .have:=List.pairwise_mergeSort (le:=fun x y:Int=>decide (x<=y)) (fun a b c h1 h2=>by simp at*;omega) (fun a b=>by simp;omega) zs;exact this.imp (fun h=>by simpa using h)
 .exact hy.imp (fun h=>by omega)
def aR6(rs:List Rec):Int×List Int:=if eR rs !=0 then(eR rs,[])else(0,jG rs)
theorem cJ0{c:Int}(h:eR rs=c)(hc:(c !=0)=A'):aR6 rs=(c,[]):=by unfold aR6;rw[h,if_pos hc]
theorem bL9(h:eR rs=0):aR6 rs=(0,jG rs):=by unfold aR6;rw[h];rfl
end Ch
namespace Ch
theorem cN8(hg:aL ls=0){v:Int}(h:Ch.has ls key=Y v):inB v 0 9999=A':=by
 unfold Ch.has at h;cases hf:iH ls key with
 |none=>rw[hf]at h;cases h
 |some r=>
  rw[hf]at h;simp only at h;unfold iH at hf;have hm:=List.mem_of_find?_eq_some hf;have hr:=((jW ls).1 hg).2.2.1 r hm;by_cases hgh:r.g=A'
  .rw[if_pos hgh]at h;cases h
  .rw[if_neg hgh]at h;cases h;unfold Row.fault dL at hr;cases hv:inB r.v 0 9999
   .rw[hv]at hr;simp at hr
   .rfl
theorem cH2(hg:aL ls=0)(hk:inB key 0 99=A'):(bf key (Ch.has ls key)).fault=0:=by
 cases h:Ch.has ls key with
 |none=>unfold bf Bf.fault;simp[hk,show inB 0 0 9999=A' from by decide]
 |some v=>unfold bf Bf.fault;simp[hk,cN8 hg h]
theorem aK7(hg:aL ls=0):ls.flatten.length<=240:=by
 obtain⟨h1,h2,_,_⟩:=(jW ls).1 hg;have:∀(xs:List (List Row)),(∀l∈xs,l.length<=4)->xs.flatten.length<=4*xs.length:=by
  intro xs;induction xs with
  |nil=>intro _;simp
  |cons x xs ih=>intro h;have:=ih (fun l hl=>h l (List.mem_cons_of_mem _ hl));have:=h x (List.mem_cons_self ..);simp at*;omega
 have:=this ls (fun l hl=>(h2 l hl).2);omega
end Ch
namespace Ch
theorem aV4(r:Row)(l:List Row):1<=(eF r l).length:=by
 cases l with
 |nil=>simp[eF]
 |cons x l=>simp only[eF];split<;>simp
theorem aC9(r:Row)(l:List Row):(eF r l).length<=l.length+1:=by
 induction l with
 |nil=>simp[eF]
 |cons x l ih=>
  simp only[eF];split
  .simp;omega
  .have:=List.length_filter_le (dQ r.k) (x::l);simp at this⊢;omega
def gO(ls:List (List Row))(r:Row)(p:Nat):Nat->List (List Row)
 |0=>[]
 |k+1=>gO ls r p k++(if k=p then gX (eF r (ls.getD k []))else [ls.getD k []])
theorem aE2(ls:List (List Row))(r:Row)(p:Nat):gO ls r p (p+1)=gO ls r p p++gX (eF r (ls.getD p [])):=by rw[gO,if_pos rfl]
theorem yB(ls:List (List Row))(r:Row)(h:k≠p):gO ls r p (k+1)=gO ls r p k++[ls.getD k []]:=by rw[gO,if_neg h]
theorem cB1(ls:List (List Row))(r:Row):∀k,k<=p->k<=ls.length->gO ls r p k=ls.take k:=by
 intro k;induction k with
 |zero=>intro _ _;simp[gO]
 |succ k ih=>intro h1 h2;rw[yB ls r (by omega),ih (by omega) (by omega),List.take_add_one,List.getD];simp[show k<ls.length by omega]
theorem bO2(ls:List (List Row))(r:Row)(hp:p<ls.length):∀k,p+1<=k->k<=ls.length->gO ls r p k=ls.take p++gX (eF r (ls.getD p []))++(ls.drop (p+1)).take (k-(p+1)):=by
 intro k;induction k with
 |zero=>intro h;omega
 |succ k ih=>
  intro h1 h2;by_cases h:k=p
  .subst h;rw[aE2,cB1 ls r k z' (by omega)];simp
  .rw[yB ls r h,ih (by omega) (by omega),show k+1-(p+1)=(k-(p+1))+1 by omega,List.take_add_one,List.append_assoc,List.append_assoc,List.append_assoc];congr 2;rw[List.getElem?_drop,show p+1+(k-(p+1))=k by omega,List.getD];simp[show k<ls.length by omega]
theorem nY(h:0<k):fP ls key k<k:=by
 cases k with
 |zero=>omega
 |succ k=>simp only[fP];split<;>have:=cV9 ls key k<;>omega
theorem bF9(h0:ls.length≠0)(hp:fP ls r.k ls.length=p):gO ls r p ls.length=put ls r:=by have:=nY (ls:=ls) (key:=r.k) (k:=ls.length) (by omega);rw[bO2 ls r (by omega) _ (by omega) z',put,if_neg h0,hp,List.take_of_length_le (l:=ls.drop (p+1)) (by rw[List.length_drop];omega)]
theorem bX2(h:x∈gX l)(h0:1<=l.length)(h5:l.length<=5):1<=x.length/\x.length<=5:=by
 unfold gX at h;split at h
 .simp only[List.mem_singleton]at h;subst h;omega
 .simp only[List.mem_cons,List.not_mem_nil,or_false]at h;rcases h with rfl|rfl<;>simp<;>omega
theorem bC7(hg:aL ls=0)(h:x∈put ls r):1<=x.length/\x.length<=5:=by
 have old:∀y∈ls,1<=y.length/\y.length<=4:=by intro y hy;obtain⟨i,hi,rfl⟩:=List.getElem_of_mem hy;have h1:=fR hg i hi;rw[lB ls [] i hi]at h1;have:=(uF h1.2).2;omega
 unfold put at h;split at h
 .simp only[List.mem_singleton]at h;subst h;simp
 .have hp:=nY (ls:=ls) (key:=r.k) (k:=ls.length) (by omega);rcases List.mem_append.1 h with h|h
  .rcases List.mem_append.1 h with h|h
   .have:=old x (List.mem_of_mem_take h);omega
   .refine bX2 h (aV4 _ _) ?_;have h1:=aC9 r (ls.getD (fP ls r.k ls.length) []);have h2:=old (ls.getD (fP ls r.k ls.length) []) (by rw[lB ls [] _ hp];exact List.getElem_mem hp);omega
  .have:=old x (List.mem_of_mem_drop h);omega
theorem bX1(l:List Row):1<=(gX l).length/\(gX l).length<=2:=by unfold gX;split<;>simp
theorem bO5(hg:aL ls=0):(put ls r).length<=61:=by
 have:=aU9 hg;unfold put;split
 .simp
 .have hp:=nY (ls:=ls) (key:=r.k) (k:=ls.length) (by omega);have:=bX1 (eF r (ls.getD (fP ls r.k ls.length) []));simp only[List.length_append,List.length_take,List.length_drop];omega
theorem cK2(ls:List (List Row))(q:Nat)(h:∀x∈ls,x.length<=q):(ls.map List.length).sum<=ls.length*q:=by
 induction ls with
 |nil=>simp
 |cons x ls ih=>have h1:=h x List.mem_cons_self;have h2:=ih (fun y hy=>h y (List.mem_cons_of_mem _ hy));simp only[List.map_cons,List.sum_cons,List.length_cons];rw[Nat.add_mul];omega
theorem cJ7(hg:aL ls=0):aW (put ls r)<=1048576:=by have h1:=bO5 (r:=r) hg;have h2:=cK2 (put ls r) 5 (fun x hx=>(bC7 hg hx).2);unfold aW;omega
theorem cJ6(hg:aL ls=0)(k:Nat)(hk:k<(put ls r).length):((put ls r).getD k []).length≠0:=by have:=(bC7 hg (x:=(put ls r).getD k []) (by rw[lB _ [] k hk];exact List.getElem_mem hk)).1;omega
end Ch
namespace Ch
def gL(F:List Row)(i:Nat):List Row:=(F.drop (i*4)).take 4
def wF(F:List Row):Nat:=(F.length+3) / 4
def aE1(F:List Row):List (List Row):=(List.range (wF F)).map (gL F)
def Row.same(a b:Row):Bool:=a.k==b.k&&(a.v==b.v&&a.g==b.g)
def oP:List Row->List Row->Bool
 |[],[]=>A'
 |a::l,b::m=>a.same b&&oP l m
 |[],_::_=>F'
 |_::_,[]=>F'
theorem Row.same_self(a:Row):a.same a=A':=by simp[Row.same]
theorem bG4(l:List Row):oP l l=A':=by
 induction l with
 |nil=>rfl
 |cons a l ih=>simp[oP,ih,Row.same_self]
theorem bT3(l m:List Row)(h:l.length≠m.length):oP l m=F':=by
 induction l generalizing m with
 |nil=>cases m with
  |nil=>simp at h
  |cons b m=>rfl
 |cons a l ih=>cases m with
  |nil=>rfl
  |cons b m=>simp[oP,ih m (by simpa using h)]
theorem cJ9(l m:List Row)(k:Nat)(h:k<l.length)(h':k<m.length):oP (l.drop k) (m.drop k)=((l.getD k Row.zero).same (m.getD k Row.zero)&&oP (l.drop (k+1)) (m.drop (k+1))):=by rw[List.drop_eq_getElem_cons h,List.drop_eq_getElem_cons h',oP];simp[List.getD,h,h']
end Ch
theorem bN7(F:List Row)(k t:Nat)(h:t=min (k*4+4) F.length):(F.drop (k*4)).take (t-k*4)=gL F k:=by
 unfold gL;by_cases h4:k*4+4<=F.length
 .rw[show t-k*4=4 by omega]
 .rw[List.take_of_length_le (by simp;omega),List.take_of_length_le (by simp;omega)]
theorem aN6(F:List Row)(k:Nat):(List.range (k+1)).map (gL F)=(List.range k).map (gL F)++[gL F k]:=by rw[List.range_succ];simp
theorem cA9(F:List Row)(p:Nat)(h:p=(F.length+3) / 4):(List.range p).map (gL F)=aE1 F:=by subst h;rfl
def LvAt(w:World)(a:Option Addr)(n:Nat)(ls:List (List Row)):Prop:=
 ls.length=n/\∃vs:List Value,CellsAt w a n vs/\∀i,i<n->∃ai ni ci,vs[i]? =Y (Z ai ni ci)/\CellsAt w ai (ni*3) (rcells (ls.getD i []))/\ni<=9223372036854775807
theorem LvAt.below(h:LvAt w a n ls)(hb:Below w.heap.size w w'):LvAt w' a n ls:=by obtain⟨hl,vs,hc,hi⟩:=h;refine⟨hl,vs,hc.below hb,fun i hlt=>?_⟩;obtain⟨ai,ni,ci,h1,h2,h3⟩:=hi i hlt;exact⟨ai,ni,ci,h1,h2.below hb,h3⟩
theorem LvAt.len(h:LvAt w a n ls):Hid (n=ls.length):=h.1.symm
theorem LvAt.leaf(h:LvAt w a n ls)(hk:k<n):
  ∃b off ai ni ci,a=Y ⟨b,off,O⟩/\w.cell? ⟨b,off+k,O⟩=Y (Z ai ni ci)/\CellsAt w ai (ni*3) (rcells (ls.getD k []))/\ni<=9223372036854775807:=by
 obtain⟨hl,vs,hc,hi⟩:=h;obtain⟨ai,ni,ci,h1,h2,h3⟩:=hi k hk;obtain⟨b,off,ha,hcc⟩:=hc.2 (by omega);exact⟨b,off,ai,ni,ci,ha,(hcc k hk).trans h1,h2,h3⟩
def OwnLv(w:World)(B:Nat)(v:Value)(n:Nat)(ls:List (List Row)):Prop:=
 ls.length=n/\∃vs:List Value,w.ownsRow B 200 1 v n vs/\
  (∀i,i<n->∃x,vs[i]? =Y x/\w.ownsRow B 86 3 x (ls.getD i []).length (rcells (ls.getD i [])))/\
  (∀(i j:Nat) (x y:Value) (g:Nat),i<j->vs[i]? =Y x->vs[j]? =Y y->x.ownBlock=Y g->y.ownBlock≠Y g)/\
  (∀(i:Nat) (x:Value) (g:Nat),vs[i]? =Y x->v.ownBlock=Y g->x.ownBlock≠Y g)
theorem OwnLv.below(h:OwnLv w B v n ls)(hb:Below w.heap.size w w'):OwnLv w' B v n ls:=by obtain⟨hl,vs,ho,hi,hd,hd'⟩:=h;refine⟨hl,vs,aF ho hb,fun i hlt=>?_,hd,hd'⟩;obtain⟨x,h1,h2⟩:=hi i hlt;exact⟨x,h1,aF h2 hb⟩
theorem OwnLv.base{B':Nat}(h:OwnLv w B v n ls)(hb:B'<=B):OwnLv w B' v n ls:=by obtain⟨hl,vs,ho,hi,hd,hd'⟩:=h;refine⟨hl,vs,aP ho hb,fun i hlt=>?_,hd,hd'⟩;obtain⟨x,h1,h2⟩:=hi i hlt;exact⟨x,h1,aP h2 hb⟩
theorem OwnLv.at(h:OwnLv w B (Z a n cap) n ls)(hm:∀i,(ls.getD i []).length<=9223372036854775807):LvAt w a n ls:=by obtain⟨hl,vs,ho,hi,_⟩:=h;have hc:=aJ ho;rw[Nat.mul_one]at hc;refine⟨hl,vs,hc,fun i hlt=>?_⟩;obtain⟨x,h1,h2⟩:=hi i hlt;obtain⟨ai,ci,rfl⟩:=dI h2;exact⟨ai,_,ci,h1,aJ h2,hm i⟩
theorem OwnLv.put{w0:World}{o:Nat}{x:Value}(h:OwnLv w0 B (Z (Y ⟨o,0,O⟩) n cap) n ls)(hb:Below w0.heap.size w0 w)
  (hx:w.ownsRow w0.heap.size 86 3 x l.length (rcells l)) (hk:k<n) (hB:B<=w0.heap.size):OwnLv (w.setCell ⟨o,k,O⟩ x) B (Z (Y ⟨o,0,O⟩) n cap) n (ls.set k l):=by
 obtain⟨hl,vs,ho,hi,hd,hd'⟩:=h;have ho1:=aF ho hb;have hvl:vs.length=n:=by have:=ho.1;omega
 have hst:=ho1.stored k x;have hob:=gI ho;have fresh:∀g,x.ownBlock=Y g->w0.heap.size<=g:=fun g hg=>(aG hx g hg).1;have old:∀(i:Nat) (y:Value) (g:Nat),vs[i]? =Y y->y.ownBlock=Y g->g<w0.heap.size:=by
  intro i y g hy hg;have hin:i<n:=by
   rcases Nat.lt_or_ge i n with h|h
   .exact h
   .rw[List.getElem?_eq_none (by omega)]at hy;cases hy
  obtain⟨y',h1,h2⟩:=hi i hin;rw[hy]at h1;cases h1;exact(aG h2 g hg).2
 refine⟨by simpa using hl,vs.set k x,hst.1,fun i hlt=>?_,?_,?_⟩
 .by_cases hik:k=i
  .subst hik;refine⟨x,by simp[hvl,hk],?_⟩;have e:(ls.set k l).getD k []=l:=by simp[List.getD,hl,hk]
   rw[e];refine aP (aK hx hst.2 fun g hg he=>?_) hB;have:=fresh g hg;simp at he;omega
  .obtain⟨y,h1,h2⟩:=hi i hlt;refine⟨y,by rw[List.getElem?_set_ne hik];exact h1,?_⟩;have e:(ls.set k l).getD i []=ls.getD i []:=by simp[List.getD,hik]
   rw[e];refine aK (aF h2 hb) hst.2 fun g hg he=>?_;simp at he;subst he;exact hd' i y _ h1 rfl hg
 .intro i j y z g hij hy hz hyg hzg;by_cases hik:k=i
  .subst hik;rw[List.getElem?_set_ne (by omega)]at hz;rw[List.getElem?_set_self (by omega)]at hy;cases hy;have:=fresh g hyg;have:=old j z g hz hzg;omega
  .rw[List.getElem?_set_ne hik]at hy;by_cases hjk:k=j
   .subst hjk;rw[List.getElem?_set_self (by omega)]at hz;cases hz;have:=fresh g hzg;have:=old i y g hy hyg;omega
   .rw[List.getElem?_set_ne hjk]at hz;exact hd i j y z g hij hy hz hyg hzg
 .intro i y g hy hg hyg;by_cases hik:k=i
  .subst hik;rw[List.getElem?_set_self (by omega)]at hy;cases hy;have:=fresh g hyg;simp[Value.ownBlock]at hg;omega
  .rw[List.getElem?_set_ne hik]at hy;exact hd' i y g hy hg hyg
end Go.Proofs.YtpbbokalojdooaaGreat
