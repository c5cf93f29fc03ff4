import Derived.Test.YtpbbokalojdooaaGreatQah
namespace Go.Proofs.YtpbbokalojdooaaGreat
open Go.RowKit Ch Go.Proofs.Tryz
set_option linter.unusedSimpArgs false
set_option linter.unusedVariables false
set_option maxRecDepth 20000
set_option maxHeartbeats 8000000
open Value renaming int->I,slice->Z,bool->X,agg->U
open IntKind renaming i64->J
open Option renaming none->O,some->Y
open Obj renaming cells->M
open Ending renaming returned->R'
open Bool renaming true->A',false->F'
variable {ops:Array Oper} {D:DataW Unit} {Q:Exit->Act->World->Prop} {f:Ft} {t:Int} {F G:Int->Ft} {ls nl:List (List Row)} {ts:List Ac} {es:List Hold} {zs:List Int} {ps:List MemPlace} {rest:List Oper} {l:List Row} {vs xs:List Value} {B b k m n:Nat} {o:Obj} {a ai an:Option Addr} {row:Option Nat} {e:TypeId} {v v':Value} {W w w' w2:World}
section
open Go.Maps
def gR(v:Value):Option (DataW Unit×List MemPlace):=
 match v with
 |U a=>match a.toList with
  |[X b,X e,I J n]=>Y (.agg [.lit (.bool b),.lit (.bool e),.lit (.int .i64 n)],[])
  |_=>O
 |_=>O
def kF(t:Int):Lit:=.int .i64 t
def ftD(f:Ft):DataW Unit:=.agg [.lit (.bool f.bg),.lit (.bool f.en),.lit (.int .i64 f.bk)]
theorem lS(b e:Bool)(n:Int):gR (U #[X b,X e,I J n])=Y (ftD ⟨b,e,n⟩,[]):=rfl
theorem xN(h:gR v=Y (ftD f,ps)):v=U #[X f.bg,X f.en,I J f.bk]:=by
 unfold gR at h;split at h
 .rename_i a
  split at h
  .rename_i b e n he
   simp[ftD]at h;obtain⟨⟨rfl,rfl,rfl⟩,_⟩:=h;have:a=#[X f.bg,X f.en,I J f.bk]:=by cases a;simpa using he
   rw[this]
  .simp at h
 .simp at h
theorem dC7{g:Ft}(h:ftD f=ftD g):f=g:=by obtain⟨a,b,c⟩:=f;obtain⟨x,y,z⟩:=g;simp[ftD]at h;obtain⟨rfl,rfl,rfl⟩:=h;rfl
theorem Tryz.keyedF:Keyed prog 2:=int_keyed underlying2
theorem bA9(h:1<=t/\t<=999):keyOf prog 2 (I J t)=Y (kF t):=keyOf_int_mk underlying2 (WalkArith.wf_i64 (by omega))
theorem bK7(t:Int):WideAt.IsKeyLit (kF t):=by unfold kF;simp[WideAt.IsKeyLit]
theorem cI7{a b:Int}(h:a≠b):kF a≠kF b:=by unfold kF;simpa using h
theorem Tryz.zeroFate(w:World):(zeroValue 124).run prog w= .ok (U #[X F',X F',I J 0]) w:=by kernel_rfl
structure Fm(F:Int->Ft)(D:DataW Unit):Prop where
 at':∀t,D.atKey (kF t) (ftD Ft.zero)=ftD (F t)
 has:∀t,Maps.has D (kF t)=A'->1<=t/\t<=999
theorem Fm.empty:Fm (fun _=>Ft.zero) (.map []):=⟨fun t=>by simp[DataW.atKey],fun t h=>by simp[Maps.has]at h⟩
theorem Fm.put(h:Fm F D)(hD:IsMap D)(ht:1<=t/\t<=999)(h1:G t=f)(h2:∀s,s≠t->G s=F s):Fm G (D.put (kF t) (ftD f)):=by
 refine⟨fun s=>?_,fun s hs=>?_⟩
 .by_cases e:s=t
  .subst e;rw[atKey_put_same hD (bK7 _),h1]
  .rw[atKey_put_other (cI7 e),h.at',h2 s e]
 .by_cases e:s=t
  .subst e;exact ht
  .rw[has_put_other (cI7 e)]at hs;exact h.has s hs
theorem Fm.none(h:Fm F D)(hn:Maps.has D (kF t)=F'):F t=Ft.zero:=by have:=h.at' t;rw[atKey_of_not_has hn]at this;exact(dC7 this).symm
theorem mV{o:Oper}{a:Act}(m x:Operand)(B N:Nat)(D:DataW Unit)(t:Int)(fb fe:Bool)(fn:Int)
  (hop:o.op=Op.lookup 82 m x F') (hg:o.guard=O) (hm:a.eval m= .map (Y B)) (hx:a.eval x=I J t) (hown:w.ownsMap prog 2 gR B N D) (ht:1<=t/\t<=999)
  (hat:D.atKey (kF t) (ftD Ft.zero)=ftD ⟨fb,fe,fn⟩) (hK:wpList prog ops Q rest (a.put o.dst (U #[X fb,X fe,I J fn])) w):wpList prog ops Q (o::rest) a w:=by
 refine wpList_plain hg fun K' hK'=>?_;obtain⟨v,ps,hrun,hv⟩:=hown.lookup Tryz.keyedF underlying82 (Tryz.zeroFate w) (lS F' F' 0) (bA9 ht);rw[show(ftD ⟨F',F',0⟩:DataW Unit)=ftD Ft.zero from rfl,hat]at hv;rw[xN hv]at hrun;unfold Oper.wp;simp[execOp,hop,hm,hx,hrun,Result.andThen];exact hK' _ _ hK
theorem dD2{kd:Int}(h:1<=kd/\kd<=5):kd=1\/kd=2\/kd=3\/kd=4\/kd=5:=by omega
theorem aU3(a:Option Addr)(n cap:Nat)(rs:List Rec)(w:World)(h:CellsAt w a (n*7) (rc7 rs))(hn:n<=800)(hf:∀k,k<rs.length->(rs.getD k Rec.zero).fault=0):
  Calls prog 36 #[Z a n cap] w fun e w'=>∃N D,e=R' (.map (Y w.heap.size))/\N<=800/\w'.ownsMap prog 2 gR w.heap.size N D/\Fm (bP rs) D/\Below w.heap.size w w':=by
 have HL:=h.len7;have HF:=hid hf;clear hf;have hmm:=@run_makeMap prog;have hmade:=World.ownsMap_made w prog 2 gR;go_enter func36,ntmps36
 go_wp2;go_loopw [10] (fun i wr=>∃(k:Nat) (D:DataW Unit),k<=n/\i=I J k/\wr.ownsMap prog 2 gR w.heap.size k D/\Fm (bP (rs.take k)) D/\Below w.heap.size w wr) (fun i _=>n-(intOf i).toNat)
 case atStart=>exact⟨0,_,Nat.zero_le _,rfl,hmade,Fm.empty,q'⟩
 case round=>
  clear hmade;obtain⟨k,D,hk,rfl,own,hP,hB⟩:=hrel;by_cases hlt:k<n
  .have hkl:k<rs.length:=by have:=HL.out;omega
   have HT:=hid (Rec.fit (HF.out k hkl));have HS:=hid (uB (rs:=rs) hkl);have HO:=hid (fun t (ht:t≠(rs.getD k Rec.zero).tx)=>sC (rs:=rs) hkl ht);have HPT:=hid (fun t=>hP.at' t);have HBK:=hid (fun t=>uA (rs.take k) t);have HTL:Hid ((rs.take k).length<=k):=by show _<=_;simp;omega
   have HPP:=hid (fun t ht f h1 h2=>hP.put (t:=t) own.isMap ht (f:=f) (G:=bP (rs.take (k+1))) h1 h2);clear hP;obtain⟨b,off,rfl,q0,q1,q2,q3,q4,q5,q6⟩:=(h.below hB).rec hlt;have hbl:=aD q0;generalize rs.getD k Rec.zero=r at*;obtain⟨kd,tx,ky,hd,ol,hs,nw⟩:=r;simp only at q0 q1 q2 q3 q4 q5 q6 HS HO;have htx:1<=tx/\tx<=999:=HT.out.tx;have hkd:=dD2 HT.out.kd;replace HPT:=hid (HPT.out tx);replace HBK:=hid (HBK.out tx);replace HPP:=hid (fun f h1 h2=>HPP.out tx htx f h1 h2);generalize bP (rs.take k) tx=F at*;obtain⟨fb,fe,fn⟩:=F;have hfn:0<=fn/\fn<=1000:=by have h1:=HBK.out;have h2:=HTL.out;simp only at h1;omega
   have hat:D.atKey (kF tx) (ftD Ft.zero)=ftD ⟨fb,fe,fn⟩:=HPT.out;have hkey:=bA9 htx;have hmx:k<maxLen:=by unfold maxLen;omega
   have hws:=hB.size;clear HT HBK HTL HF;rcases hkd with rfl|rfl|rfl|rfl|rfl
   .have HQ:=hid (HPP.out ⟨A',fe,fn⟩ HS.out HO.out);clear HPP HS HO;have own3:=((own.alloc (M #[I J 1,I J tx,I J ky,X hd,I J ol,X hs,I J nw] 79)).alloc (M #[X A',X fe,I J fn] 124))
    have b3:=((hB.alloc hB.size (M #[I J 1,I J tx,I J ky,X hd,I J ol,X hs,I J nw] 79)).alloc (by simp;omega) (M #[X A',X fe,I J fn] 124))
    go_wp2_with(first|(at_lookup;go_must (refine mV _ _ w.heap.size k D tx fb fe fn rfl rfl rfl rfl (own.alloc _) htx hat ?_))|(at_mapUpdate;go_must (refine wpList_mapUpdate_own _ rfl _ _ _ 82 rfl 2 124 Tryz.keyedF underlying82 gR w.heap.size k D rfl own3 hmx _ _ _ rfl rfl hkey _ [] (lS (A') (fe) (fn)) ?_;intro w1 own1 gr1)))
    go_roundw;case rel=>exact⟨k+1,_,by omega,by go_num,own1,HQ.out,b3.grown gr1 b3.size (fun j hj=>by cases hj;exact z')⟩
    case measure=>simp[intOf];omega
   .have HQ:=hid (HPP.out ⟨fb,fe,fn⟩ HS.out HO.out);clear HPP HS HO;have own3:=((own.alloc (M #[I J 2,I J tx,I J ky,X hd,I J ol,X hs,I J nw] 79)).alloc (M #[X fb,X fe,I J fn] 124))
    have b3:=((hB.alloc hB.size (M #[I J 2,I J tx,I J ky,X hd,I J ol,X hs,I J nw] 79)).alloc (by simp;omega) (M #[X fb,X fe,I J fn] 124))
    go_wp2_with(first|(at_lookup;go_must (refine mV _ _ w.heap.size k D tx fb fe fn rfl rfl rfl rfl (own.alloc _) htx hat ?_))|(at_mapUpdate;go_must (refine wpList_mapUpdate_own _ rfl _ _ _ 82 rfl 2 124 Tryz.keyedF underlying82 gR w.heap.size k D rfl own3 hmx _ _ _ rfl rfl hkey _ [] (lS (fb) (fe) (fn)) ?_;intro w1 own1 gr1)))
    go_roundw;case rel=>exact⟨k+1,_,by omega,by go_num,own1,HQ.out,b3.grown gr1 b3.size (fun j hj=>by cases hj;exact z')⟩
    case measure=>simp[intOf];omega
   .have HQ:=hid (HPP.out ⟨fb,fe,fn+1⟩ HS.out HO.out);clear HPP HS HO;have own3:=((own.alloc (M #[I J 3,I J tx,I J ky,X hd,I J ol,X hs,I J nw] 79)).alloc (M #[X fb,X fe,I J (fn+1)] 124))
    have b3:=((hB.alloc hB.size (M #[I J 3,I J tx,I J ky,X hd,I J ol,X hs,I J nw] 79)).alloc (by simp;omega) (M #[X fb,X fe,I J (fn+1)] 124))
    go_wp2_with(first|(at_lookup;go_must (refine mV _ _ w.heap.size k D tx fb fe fn rfl rfl rfl rfl (own.alloc _) htx hat ?_))|(at_mapUpdate;go_must (refine wpList_mapUpdate_own _ rfl _ _ _ 82 rfl 2 124 Tryz.keyedF underlying82 gR w.heap.size k D rfl own3 hmx _ _ _ rfl rfl hkey _ [] (lS (fb) (fe) (fn+1)) ?_;intro w1 own1 gr1)))
    go_roundw;case rel=>exact⟨k+1,_,by omega,by go_num,own1,HQ.out,b3.grown gr1 b3.size (fun j hj=>by cases hj;exact z')⟩
    case measure=>simp[intOf];omega
   .have HQ:=hid (HPP.out ⟨fb,A',fn⟩ HS.out HO.out);clear HPP HS HO;have own3:=((own.alloc (M #[I J 4,I J tx,I J ky,X hd,I J ol,X hs,I J nw] 79)).alloc (M #[X fb,X A',I J fn] 124))
    have b3:=((hB.alloc hB.size (M #[I J 4,I J tx,I J ky,X hd,I J ol,X hs,I J nw] 79)).alloc (by simp;omega) (M #[X fb,X A',I J fn] 124))
    go_wp2_with(first|(at_lookup;go_must (refine mV _ _ w.heap.size k D tx fb fe fn rfl rfl rfl rfl (own.alloc _) htx hat ?_))|(at_mapUpdate;go_must (refine wpList_mapUpdate_own _ rfl _ _ _ 82 rfl 2 124 Tryz.keyedF underlying82 gR w.heap.size k D rfl own3 hmx _ _ _ rfl rfl hkey _ [] (lS (fb) (A') (fn)) ?_;intro w1 own1 gr1)))
    go_roundw;case rel=>exact⟨k+1,_,by omega,by go_num,own1,HQ.out,b3.grown gr1 b3.size (fun j hj=>by cases hj;exact z')⟩
    case measure=>simp[intOf];omega
   .have HQ:=hid (HPP.out ⟨fb,A',fn⟩ HS.out HO.out);clear HPP HS HO;have own3:=((own.alloc (M #[I J 5,I J tx,I J ky,X hd,I J ol,X hs,I J nw] 79)).alloc (M #[X fb,X A',I J fn] 124))
    have b3:=((hB.alloc hB.size (M #[I J 5,I J tx,I J ky,X hd,I J ol,X hs,I J nw] 79)).alloc (by simp;omega) (M #[X fb,X A',I J fn] 124))
    go_wp2_with(first|(at_lookup;go_must (refine mV _ _ w.heap.size k D tx fb fe fn rfl rfl rfl rfl (own.alloc _) htx hat ?_))|(at_mapUpdate;go_must (refine wpList_mapUpdate_own _ rfl _ _ _ 82 rfl 2 124 Tryz.keyedF underlying82 gR w.heap.size k D rfl own3 hmx _ _ _ rfl rfl hkey _ [] (lS (fb) (A') (fn)) ?_;intro w1 own1 gr1)))
    go_roundw;case rel=>exact⟨k+1,_,by omega,by go_num,own1,HQ.out,b3.grown gr1 b3.size (fun j hj=>by cases hj;exact z')⟩
    case measure=>simp[intOf];omega
  .obtain rfl:k=n:=by omega
   have HWF:Hid (rs.take k=rs):=by have:=HL.out;show _=_;rw[this];exact List.take_length
   rw[HWF.out]at hP;go_wp2;go_ret;exact⟨k,D,rfl,hn,own,hP,hB⟩
end
def RefR(w:World)(v:Value)(ai:Option Addr)(ni:Nat)(l:List Row):Prop:=
 CellsAt w ai (ni*3) (rcells l)/\ni<=9223372036854775807/\∀b off,ai=Y ⟨b,off,O⟩->b<w.heap.size/\v.ownBlock≠Y b
def RefLv(w:World)(B:Nat)(v:Value)(n:Nat)(vs:List Value)(ls:List (List Row)):Prop:=
 ls.length=n/\w.ownsRow B 200 1 v n vs/\∀i,i<n->∃ai ni ci,vs[i]? =Y (Z ai ni ci)/\RefR w v ai ni (ls.getD i [])
theorem CellsAt.grown(h:CellsAt w a m xs)(hg:w.grownBy w' row)(hne:∀b off,a=Y ⟨b,off,O⟩->row≠Y b):CellsAt w' a m xs:=by
 refine⟨h.1,fun hm=>?_⟩;obtain⟨b,off,ha,hc⟩:=h.2 hm;refine⟨b,off,ha,fun i hi=>?_⟩;have:=hc i hi;have hx:xs[i]? =Y (xs[i]'(by rw[h.1];exact hi)):=by simp
 rw[hx]at this⊢;exact aM hg this (hne b off ha)
theorem RefR.move{ni:Nat}(h:RefR w v ai ni l)(hb:Below w.heap.size w W)(hg:W.grownBy w2 v.ownBlock)(hat:∀g,v'.ownBlock=Y g->v.ownBlock=Y g\/W.heap.size<=g):RefR w2 v' ai ni l:=by
 obtain⟨h1,h2,h3⟩:=h;refine⟨(h1.below hb).grown hg (fun b off e=>(h3 b off e).2),h2,fun b off e=>⟨?_,fun hv=>?_⟩⟩
 .have:=(h3 b off e).1;have:=hb.size;have:=hg.size;omega
 .have h4:=(h3 b off e).1;have:=hb.size;rcases hat b hv with h5|h5
  .exact(h3 b off e).2 h5
  .omega
theorem RefLv.at{cap:Nat}(h:RefLv w B (Z a n cap) n vs ls):LvAt w a n ls:=by obtain⟨hl,ho,hi⟩:=h;have hc:=aJ ho;rw[Nat.mul_one]at hc;refine⟨hl,vs,hc,fun i hlt=>?_⟩;obtain⟨ai,ni,ci,h1,h2⟩:=hi i hlt;exact⟨ai,ni,ci,h1,h2.1,h2.2.1⟩
theorem RefLv.app{w0:World}(h:RefLv w0 B v n vs ls)(hb:Below w0.heap.size w0 W)
  (hl:nl.length=xs.length) (hm:m=n+xs.length) (hx:∀i,i<xs.length->∃w1 ai ni ci,xs[i]? =Y (Z ai ni ci)/\Below w1.heap.size w1 W/\RefR w1 v ai ni (nl.getD i []))
  (h2:w2.ownsRow B 200 1 v' m (vs++xs)) (hg:W.grownBy w2 v.ownBlock) (hat:∀g,v'.ownBlock=Y g->v.ownBlock=Y g\/W.heap.size<=g):RefLv w2 B v' m (vs++xs) (ls++nl):=by
 subst hm;obtain⟨hll,ho,hi⟩:=h;have hvl:vs.length=n:=by have:=ho.1;omega
 refine⟨by simp[hll,hl],h2,fun i hlt=>?_⟩;by_cases hin:i<n
 .obtain⟨ai,ni,ci,h1,h3⟩:=hi i hin;refine⟨ai,ni,ci,by rw[List.getElem?_append_left (by omega)];exact h1,?_⟩;have e:(ls++nl).getD i []=ls.getD i []:=by simp[List.getD,List.getElem?_append_left (show i<ls.length by omega)]
  rw[e];exact h3.move hb hg hat
 .obtain⟨w1,ai,ni,ci,h1,hb1,h3⟩:=hx (i-n) (by omega);refine⟨ai,ni,ci,by rw[List.getElem?_append_right (by omega),hvl];exact h1,?_⟩;have e:(ls++nl).getD i []=nl.getD (i-n) []:=by simp only[List.getD];rw[List.getElem?_append_right (by omega),hll]
  rw[e];exact h3.move hb1 hg hat
theorem CellsAt.cutL{g o:Nat}(h:CellsAt w (Y ⟨g,o,O⟩) (n*3) (rcells l))(hk:k<=n):CellsAt w (Y ⟨g,o,O⟩) (k*3) (rcells (l.take k)):=by have hl:=h.rlen.out;refine⟨by rw[fW];simp;omega,fun hm=>?_⟩;obtain⟨b,off,ha,hc⟩:=h.2 (by omega);refine⟨b,off,ha,fun i hi=>?_⟩;rw[hc i (by omega),<-bO9,List.getElem?_take,if_pos hi]
theorem CellsAt.cutR{g o:Nat}(h:CellsAt w (Y ⟨g,o,O⟩) (n*3) (rcells l))(hk:k<=n):CellsAt w (Y ⟨g,o+k*3,O⟩) ((n-k)*3) (rcells (l.drop k)):=by have hl:=h.rlen.out;refine⟨by rw[fW];simp;omega,fun hm=>?_⟩;obtain⟨b,off,ha,hc⟩:=h.2 (by omega);simp only[Option.some.injEq,Addr.mk.injEq,and_true]at ha;obtain⟨rfl,rfl⟩:=ha;refine⟨g,o+k*3,rfl,fun i hi=>?_⟩;rw[show o+k*3+i=o+(k*3+i)by omega,hc (k*3+i) (by omega),<-bO6,List.getElem?_drop]
theorem cG3{x y:Value}{t:TypeId}{H:Nat}(hH:H=w.heap.size):CellsAt (w.alloc (M #[x,y] t)) (Y ⟨H,0,O⟩) 2 [x,y]:=by subst hH;refine⟨rfl,fun _=>⟨_,_,rfl,fun i hi=>?_⟩⟩;rw[Nat.zero_add];have:=cell_of_row (w.alloc (M #[x,y] t)) _ i _ _ _ (heap_alloc_new w _);rw[this];simp
theorem dD7(W:World)(B:Nat)(rk rv:Int)(rg:Bool)(hB:B<=W.heap.size):OwnLv ((W.alloc (M #[I J rk,I J rv,X rg] 86)).alloc (M #[Z (Y ⟨W.heap.size,0,O⟩) 1 1] 200)) B (Z (Y ⟨W.heap.size+1,0,O⟩) 1 1) 1 [[⟨rk,rv,rg⟩]]:=by
 have o1:(W.alloc (M #[I J rk,I J rv,X rg] 86)).ownsRow B 86 3 (Z (Y ⟨W.heap.size,0,O⟩) 1 1) 1 (rcells [⟨rk,rv,rg⟩]):=World.ownsRow_lit W #[I J rk,I J rv,X rg] 1 hB (by unfold maxLen;omega) rfl;have o2:=World.ownsRow_lit (base:=B) (e:=200) (size:=1) (W.alloc (M #[I J rk,I J rv,X rg] 86)) #[Z (Y ⟨W.heap.size,0,O⟩) 1 1] 1 (by simp;omega) (by unfold maxLen;omega) rfl;rw[show(W.alloc (M #[I J rk,I J rv,X rg] 86)).heap.size=W.heap.size+1 by simp]at o2;refine⟨rfl,[Z (Y ⟨W.heap.size,0,O⟩) 1 1],o2,fun i hi=>?_,?_,?_⟩
 .obtain rfl:i=0:=by omega
  exact⟨_,rfl,aF o1 (q')⟩
 .intro i j x y g hij hx hy;have:j<1:=by
   rcases Nat.lt_or_ge j 1 with h|h
   .exact h
   .rw[List.getElem?_eq_none (by simpa using h)]at hy;cases hy
  omega
 .intro i x g hx hv;have:i=0:=by
   rcases Nat.lt_or_ge i 1 with h|h
   .omega
   .rw[List.getElem?_eq_none (by simpa using h)]at hx;cases hx
  subst this;simp at hx;subst hx;simp[Value.ownBlock]at hv⊢;omega
theorem eX(hb:Below w.heap.size w w')(h:w.heap[b]? =Y o):w'.heap[b]? =Y o:=
 (hb.block b (Array.getElem?_eq_some_iff.1 h).1).trans h
theorem jP(w:World)(r:Int)(t:TypeId):CellsAt (w.alloc (M #[I J r] t)) (Y ⟨w.heap.size,0,O⟩) (1*1) (icells [r]):=by refine⟨rfl,fun _=>⟨_,_,rfl,fun i hi=>?_⟩⟩;rw[Nat.zero_add];have:=cell_of_row (w.alloc (M #[I J r] t)) _ i _ _ _ (heap_alloc_new w _);rw[this];simp[icells]
def AcOne(w:World)(b off:Nat)(an:Option Addr)(nn cn:Nat)(t:Ac):Prop:=
 w.cell? ⟨b,off,O⟩=Y (I J t.tx)/\w.cell? ⟨b,off+1,O⟩=Y (I J t.k)/\w.cell? ⟨b,off+2,O⟩=Y (I J t.a)/\w.cell? ⟨b,off+3,O⟩=Y (I J t.b)/\w.cell? ⟨b,off+4,O⟩=Y (I J t.v)/\w.cell? ⟨b,off+5,O⟩=Y (Z an nn cn)/\
  CellsAt w an (nn*1) (icells t.an)/\nn<=9223372036854775807
theorem AcOne.below{off:Nat}{nn cn:Nat}{t:Ac}(h:AcOne w b off an nn cn t)(hb:Below w.heap.size w w'):AcOne w' b off an nn cn t:=by obtain⟨h0,h1,h2,h3,h4,h5,h6,h7⟩:=h;exact⟨aC hb h0,aC hb h1,aC hb h2,aC hb h3,aC hb h4,aC hb h5,h6.below hb,h7⟩
def AcAt(w:World)(a:Option Addr)(n:Nat)(ts:List Ac):Prop:=
 ts.length=n/\(0<n->∃b off,a=Y ⟨b,off,O⟩/\∀i,i<n->∃au nu cu,AcOne w b (off+i*6) au nu cu (eK ts i))
theorem AcAt.below(h:AcAt w a n ts)(hb:Below w.heap.size w w'):AcAt w' a n ts:=by refine⟨h.1,fun h0=>?_⟩;obtain⟨b,off,ha,hi⟩:=h.2 h0;refine⟨b,off,ha,fun i hlt=>?_⟩;obtain⟨au,nu,cu,h1⟩:=hi i hlt;exact⟨au,nu,cu,h1.below hb⟩
theorem AcAt.act(h:AcAt w a n ts)(hk:k<n):∃b off an nn cn,a=Y ⟨b,off,O⟩/\AcOne w b (off+k*6) an nn cn (eK ts k):=by obtain⟨b,off,ha,hi⟩:=h.2 (by omega);obtain⟨au,nu,cu,h1⟩:=hi k hk;exact⟨b,off,au,nu,cu,ha,h1⟩
theorem AcAt.len(h:AcAt w a n ts):Hid (n=ts.length):=h.1.symm
def ac6(t:Ac)(x:Value)(j:Nat):Value:=match j with
 |0=>I J t.tx
 |1=>I J t.k
 |2=>I J t.a
 |3=>I J t.b
 |4=>I J t.v
 |_=>x
def Ch.prE(es:List Hold):List (Int×Int):=es.map (fun e=>(e.t,e.m))
def Ch.lst(f:Int->Int):List Int:=(List.range 1000).map (fun x=>f (x:Nat))
theorem sT(f:Int->Int)(h:k<1000):(lst f).getD k 0=f k:=by simp[lst,List.getD,h]
theorem aN1(f:Int->Int)(v:Int):(lst f).set k v=lst (fun y=>if y=(k:Int)then v else f y):=by
 apply List.ext_getElem?;intro i;by_cases hi:i<1000
 .by_cases hk:k=i
  .subst hk;simp[lst,hi]
  .have:¬(i:Int)=(k:Int):=by omega
   rw[List.getElem?_set_ne hk];simp[lst,hi,this]
 .rw[List.getElem?_eq_none (by simp[lst];omega),List.getElem?_eq_none (by simp[lst];omega)]
theorem cA0(t:Int)(hk:t=(k:Int)):(List.replicate 1000 (-1:Int)).set k 0=lst (fun x=>if x=t then 0 else -1):=by
 have:List.replicate 1000 (-1:Int)=lst (fun _=> -1):=by
  unfold lst;have hm:∀(m:Nat),List.replicate m (-1:Int)=(List.range m).map (fun _=>(-1:Int)):=by intro m;rw[List.map_const',List.length_range]
  exact hm 1000
 rw[this,aN1,hk]
theorem cB0(h:k<es.length)(r:Nat)(f:Int->Int):((prE es).take (k+1)).foldl (fD r) f=fD r (((prE es).take k).foldl (fD r) f) ((es.getD k Hold.zero).t,(es.getD k Hold.zero).m):=by
 have hl:k<(prE es).length:=by simp[prE];exact h
 rw[bT (prE es) (0,0) k hl,List.foldl_append];have:(prE es).getD k (0,0)=((es.getD k Hold.zero).t,(es.getD k Hold.zero).m):=by simp[prE,List.getD,h]
 rw[this];rfl
theorem cJ4(w:World)(r:Int)(t:TypeId):CellsAt (w.alloc (M #[I J r] t)) (Y ⟨w.heap.size,0,O⟩) (1*1) (icells [r]):=by refine⟨rfl,fun _=>⟨_,_,rfl,fun i hi=>?_⟩⟩;rw[Nat.zero_add];have:=cell_of_row (w.alloc (M #[I J r] t)) _ i _ _ _ (heap_alloc_new w _);rw[this];simp[icells]
theorem cO9(a:Option Addr)(n cap:Nat)(es:List Hold)(t:Int)(w:World)(h:CellsAt w a (n*2) (hcells es))(hn:n<=400)(hin:∀k,k<n->1<=(es.getD k Hold.zero).t/\(es.getD k Hold.zero).t<=999/\1<=(es.getD k Hold.zero).m/\(es.getD k Hold.zero).m<=999)(ht:1<=t/\t<=999):
  Calls prog 203 #[Z a n cap,I J t] w fun e w'=>∃g c',e=R' (Z (Y ⟨g,0,O⟩) 1000 c')/\w'.ownsRow w.heap.size 2 1 (Z (Y ⟨g,0,O⟩) 1000 c') 1000 (icells (lst (cZ (prE es) t n)))/\Below w.heap.size w w':=by
 have HL:=h.hlen;obtain⟨tn,rfl⟩:∃k:Nat,t=(k:Int):=⟨t.toNat,by omega⟩
 obtain⟨i0,hi0,hz0,hz1,hz2⟩:=info_parts Tryz.info2;have o0:(w.alloc (M #[] 2)).ownsRow w.heap.size 2 1 (Z (Y ⟨w.heap.size,0,O⟩) 0 0) 0 (icells []):=World.ownsRow_lit w #[] 0 z' (by unfold maxLen;omega) rfl;have b0:=f' w (M #[] 2);go_enter func203,ntmps203
 go_wp2;go_loopw [5,6] (fun q i wr=>∃(k:Nat) (a':Option Addr) (c':Nat),k<=1000/\i=I J k/\q=Z a' k c'/\wr.ownsRow w.heap.size 2 1 (Z a' k c') k (icells (List.replicate k (-1)))/\Below w.heap.size w wr) (fun _ i _=>1000-(intOf i).toNat)
 case atStart=>exact⟨0,_,_,by omega,rfl,rfl,by simpa using o0,b0⟩
 case round=>
  clear o0 b0;obtain⟨k,a',c',hk,rfl,rfl,own,hB⟩:=hrel;by_cases hlt:k<1000
  .have HR:Hid (List.replicate (k+1) (-1:Int)=List.replicate k (-1)++[-1]):=by show _=_;rw[List.replicate_succ']
   generalize List.replicate k (-1:Int)=zs at*;have kN:=f' wr (M #[I J (-1)] 2);have oN:=aF own kN;have hb3:w.heap.size<=(wr.alloc (M #[I J (-1)] 2)).heap.size:=by have:=hB.size;simp;omega
   have hsum:k+1<=4194304:=by omega
   have hlt':k<=999:=by omega
   go_wp2_with(at_builtin;go_must (refine bK underlying27 underlying27 hi0 hz0 hz1 hz2 rfl (by omega) (by omega) (.tmp 14) (.tmp 15) ?_ ?_ w.heap.size (Z a' k c') k (icells zs) _ 1 1 (icells [-1]) ?_ ?_ oN (cJ4 wr (-1) 2) (dN [-1]) hsum hb3 ?_;exact rfl;exact rfl;exact rfl;exact rfl;intro a5 c5 w5 own5 gr5 at5))
   go_roundw;case rel=>rw[<-eI,<-HR.out]at own5;have bN:=hB.trans (kN.mono hB.size);exact⟨k+1,a5,c5,by omega,by go_num,rfl,own5,bN.grown gr5 bN.size (fun g hg=>(aG own g hg).1)⟩
   case measure=>simp[intOf];omega
  .obtain rfl:k=1000:=by omega
   have hk9:¬((1000:Nat):Int)<=999:=by omega
   rcases own.2 with⟨hv,h0⟩|⟨g,cp,cur,hv,_⟩
   .omega
   simp only[Value.slice.injEq,true_and]at hv;obtain⟨rfl,rfl⟩:=hv;have hf0:=own.frozenAt tn;obtain⟨u0,hd0⟩:=nN own (j:=tn) (by omega);have htn:tn<1000:=by omega
   have hgw:=(gI own).1;have own1:=(own.stored tn (I J 0)).1;have hB1:=hB.grown (own.stored tn (I J 0)).2 hB.size (fun k hk=>by simp at hk;omega);rw[sP,cA0 (tn:Int) rfl]at own1;clear hB;go_wp2;go_loopw [7] (fun rr wx=>∃r:Nat,r<=n/\rr=I J r/\wx.ownsRow w.heap.size 2 1 (Z (Y ⟨g,0,O⟩) 1000 c') 1000 (icells (lst (cZ (prE es) tn r)))/\Below w.heap.size w wx) (fun rr _=>n-(intOf rr).toNat)
   case atStart=>exact⟨0,Nat.zero_le _,rfl,own1,hB1⟩
   case round=>
    clear own1 hB1 own hf0 hd0;rename_i wx
    obtain⟨r,hr,rfl,own2,hB2⟩:=hrel;by_cases hrn:r<n
    .go_wp2;go_loopw [8] (fun i wy=>∃k:Nat,k<=n/\i=I J k/\wy.ownsRow w.heap.size 2 1 (Z (Y ⟨g,0,O⟩) 1000 c') 1000 (icells (lst (((prE es).take k).foldl (fD r) (cZ (prE es) tn r))))/\Below w.heap.size w wy) (fun i _=>n-(intOf i).toNat)
     case atStart=>exact⟨0,Nat.zero_le _,rfl,by simpa using own2,hB2⟩
     case round=>
      clear own2 hB2;rename_i wy
      obtain⟨k,hk,rfl,own3,hB3⟩:=hrel;by_cases hlt:k<n
      .have hkl:k<es.length:=by have:=HL.out;omega
       have HT:=hid (cB0 hkl r (cZ (prE es) tn r));have hb4:=hin k hlt;obtain⟨b,off,rfl,q0,q1⟩:=(h.below hB3).hold hlt;have hbl:=aD q0;generalize es.getD k Hold.zero=ed at*;obtain⟨rt,rm⟩:=ed;simp only at q0 q1 HT hb4;obtain⟨xt,rfl⟩:∃x:Nat,rt=(x:Int):=⟨rt.toNat,by omega⟩
       obtain⟨xm,rfl⟩:∃x:Nat,rm=(x:Int):=⟨rm.toNat,by omega⟩
       have hxt:xt<1000:=by omega
       have hxm:xm<1000:=by omega
       clear hb4;generalize((prE es).take k).foldl (fD r) (cZ (prE es) tn r)=G at*;obtain⟨b1,o1,e1,m0⟩:=(aJ own3).int (k:=xm) (by omega);cases e1;obtain⟨b2,o2,e2,t0⟩:=(aJ own3).int (k:=xt) (by omega);cases e2;rw[Nat.zero_add,sT G hxm]at m0;rw[Nat.zero_add,sT G hxt]at t0;have hfz:=own3.frozenAt xt;have own4:=fun v=>(own3.stored xt (I J v)).1;have gr4:=fun v=>(own3.stored xt (I J v)).2;have hgz:=aD m0;by_cases hm:G xm=r
       .have em:(G xm==(r:Int))=A':=by simpa using hm
        by_cases hneg:G xt<0
        .have HG:Hid (fD r G ((xt:Int),(xm:Int))=fun y=>if y=(xt:Int)then(r:Int)+1 else G y):=by show _=_;unfold fD;rw[if_pos ⟨hm,hneg⟩]
         have Hst:=hid (own4 ((r:Int)+1));rw[sP,aN1]at Hst;have HB4:=hid (hB3.grown (gr4 ((r:Int)+1)) hB3.size (fun k hk=>by simp at hk;omega));clear own4 gr4;generalize G xm=gm at*;generalize G xt=gt at*;go_wp2;go_roundw;case rel=>exact⟨k+1,by omega,by go_num,by rw[HT.out,HG.out];exact Hst.out,HB4.out⟩
         case measure=>simp[intOf];omega
        .have HG:Hid (fD r G ((xt:Int),(xm:Int))=G):=by show _=_;unfold fD;rw[if_neg (fun hh=>hneg hh.2)]
         clear own4 gr4;generalize G xm=gm at*;generalize G xt=gt at*;go_wp2;go_roundw;case rel=>exact⟨k+1,by omega,by go_num,by rw[HT.out,HG.out];exact own3,hB3⟩
         case measure=>simp[intOf];omega
       .have em:(G xm==(r:Int))=F':=by simpa using hm
        have HG:Hid (fD r G ((xt:Int),(xm:Int))=G):=by show _=_;unfold fD;rw[if_neg (fun hh=>hm hh.1)]
        clear own4 gr4;generalize G xm=gm at*;generalize G xt=gt at*;go_wp2;go_roundw;case rel=>exact⟨k+1,by omega,by go_num,by rw[HT.out,HG.out];exact own3,hB3⟩
        case measure=>simp[intOf];omega
      .obtain rfl:k=n:=by omega
       have HE:Hid (((prE es).take k).foldl (fD r) (cZ (prE es) tn r)=cZ (prE es) tn (r+1)):=by show _=_;rw[List.take_of_length_le (by simp[prE];have:=HL.out;omega)];rfl
       rw[HE.out]at own3;go_wp2;go_roundw;case rel=>exact⟨r+1,by omega,by go_num,own3,hB3⟩
       case measure=>simp[intOf];omega
    .obtain rfl:r=n:=by omega
     go_wp2;go_ret;exact⟨g,c',rfl,own2,hB2⟩
theorem Tryz.info274:(prog.info? 274).map (fun i=>(i.zero,i.size,i.bytes))=Y (Y (U #[I J 0,I J 0]),2,16):=by kernel_rfl
def qV(k a:Int)(w:World)(e:Ending)(w':World):Prop:=
 ∃g m,e=R' (Z g m m)/\m<=2/\CellsAt w' g (m*2) (hcells (eH k a))/\(∀b o,g=Y ⟨b,o,O⟩->w.heap.size<=b)/\Below w.heap.size w w'
theorem bX8(a b v:Int)(ha:0<=a/\a<=99)(w:World):
  Calls prog 180 #[U #[I J 1,I J a,I J b,I J v]] w fun e w'=>qV 1 a w e w':=by
 unfold qV;rw[show eH 1 a=[⟨0,1⟩,⟨a+1,3⟩]from rfl];obtain⟨h1,h2⟩:=ha;go_enter func180,ntmps180
 go_wp2;go_ret;have o:=World.ownsRow_lit (base:=w.heap.size) (e:=232) (size:=2) (w.alloc (M #[I J 1,I J a,I J b,I J v] 54)) #[I J 0,I J 1,I J (a+1),I J 3] 2 (by simp) (by unfold maxLen;omega) (by simp);rw[show(w.alloc (M #[I J 1,I J a,I J b,I J v] 54)).heap.size=w.heap.size+1 by simp]at o;exact⟨_,_,rfl,by omega,aJ o,fun b' o' h=>(by simp only[Option.some.injEq,Addr.mk.injEq]at h;omega),(q').alloc (by simp) _⟩
theorem bX9(a b v:Int)(ha:0<=a/\a<=99)(w:World):
  Calls prog 180 #[U #[I J 2,I J a,I J b,I J v]] w fun e w'=>qV 2 a w e w':=by
 unfold qV;rw[show eH 2 a=[⟨0,2⟩,⟨a+1,5⟩]from rfl];obtain⟨h1,h2⟩:=ha;go_enter func180,ntmps180
 go_wp2;go_ret;have o:=World.ownsRow_lit (base:=w.heap.size) (e:=232) (size:=2) (w.alloc (M #[I J 2,I J a,I J b,I J v] 54)) #[I J 0,I J 2,I J (a+1),I J 5] 2 (by simp) (by unfold maxLen;omega) (by simp);rw[show(w.alloc (M #[I J 2,I J a,I J b,I J v] 54)).heap.size=w.heap.size+1 by simp]at o;exact⟨_,_,rfl,by omega,aJ o,fun b' o' h=>(by simp only[Option.some.injEq,Addr.mk.injEq]at h;omega),(q').alloc (by simp) _⟩
theorem bY0(a b v:Int)(ha:0<=a/\a<=99)(w:World):
  Calls prog 180 #[U #[I J 3,I J a,I J b,I J v]] w fun e w'=>qV 3 a w e w':=by
 unfold qV;rw[show eH 3 a=[⟨0,2⟩,⟨a+1,5⟩]from rfl];obtain⟨h1,h2⟩:=ha;go_enter func180,ntmps180
 go_wp2;go_ret;have o:=World.ownsRow_lit (base:=w.heap.size) (e:=232) (size:=2) (w.alloc (M #[I J 3,I J a,I J b,I J v] 54)) #[I J 0,I J 2,I J (a+1),I J 5] 2 (by simp) (by unfold maxLen;omega) (by simp);rw[show(w.alloc (M #[I J 3,I J a,I J b,I J v] 54)).heap.size=w.heap.size+1 by simp]at o;exact⟨_,_,rfl,by omega,aJ o,fun b' o' h=>(by simp only[Option.some.injEq,Addr.mk.injEq]at h;omega),(q').alloc (by simp) _⟩
theorem bY1(a b v:Int)(ha:0<=a/\a<=99)(w:World):
  Calls prog 180 #[U #[I J 4,I J a,I J b,I J v]] w fun e w'=>qV 4 a w e w':=by
 unfold qV;rw[show eH 4 a=[⟨0,3⟩]from rfl];obtain⟨h1,h2⟩:=ha;go_enter func180,ntmps180
 go_wp2;go_ret;have o:=World.ownsRow_lit (base:=w.heap.size) (e:=232) (size:=2) (w.alloc (M #[I J 4,I J a,I J b,I J v] 54)) #[I J 0,I J 3] 1 (by simp) (by unfold maxLen;omega) (by simp);rw[show(w.alloc (M #[I J 4,I J a,I J b,I J v] 54)).heap.size=w.heap.size+1 by simp]at o;exact⟨_,_,rfl,by omega,aJ o,fun b' o' h=>(by simp only[Option.some.injEq,Addr.mk.injEq]at h;omega),(q').alloc (by simp) _⟩
theorem bY2(a b v:Int)(ha:0<=a/\a<=99)(w:World):
  Calls prog 180 #[U #[I J 5,I J a,I J b,I J v]] w fun e w'=>qV 5 a w e w':=by
 unfold qV;rw[show eH 5 a=[⟨0,3⟩]from rfl];obtain⟨h1,h2⟩:=ha;go_enter func180,ntmps180
 go_wp2;go_ret;have o:=World.ownsRow_lit (base:=w.heap.size) (e:=232) (size:=2) (w.alloc (M #[I J 5,I J a,I J b,I J v] 54)) #[I J 0,I J 3] 1 (by simp) (by unfold maxLen;omega) (by simp);rw[show(w.alloc (M #[I J 5,I J a,I J b,I J v] 54)).heap.size=w.heap.size+1 by simp]at o;exact⟨_,_,rfl,by omega,aJ o,fun b' o' h=>(by simp only[Option.some.injEq,Addr.mk.injEq]at h;omega),(q').alloc (by simp) _⟩
theorem bY3(a b v:Int)(ha:0<=a/\a<=99)(w:World):
  Calls prog 180 #[U #[I J 6,I J a,I J b,I J v]] w fun e w'=>qV 6 a w e w':=by
 unfold qV;rw[show eH 6 a=[]from rfl];obtain⟨h1,h2⟩:=ha;go_enter func180,ntmps180
 go_wp2;go_ret;exact⟨O,0,rfl,by omega,⟨rfl,fun h=>by omega⟩,fun _ _ h=>(by cases h),q'⟩
theorem bY4(a b v:Int)(ha:0<=a/\a<=99)(w:World):
  Calls prog 180 #[U #[I J 7,I J a,I J b,I J v]] w fun e w'=>qV 7 a w e w':=by
 unfold qV;rw[show eH 7 a=[]from rfl];obtain⟨h1,h2⟩:=ha;go_enter func180,ntmps180
 go_wp2;go_ret;exact⟨O,0,rfl,by omega,⟨rfl,fun h=>by omega⟩,fun _ _ h=>(by cases h),q'⟩
theorem bY5(a b v:Int)(ha:0<=a/\a<=99)(w:World):
  Calls prog 180 #[U #[I J 8,I J a,I J b,I J v]] w fun e w'=>qV 8 a w e w':=by
 unfold qV;rw[show eH 8 a=[⟨0,2⟩,⟨a+1,5⟩]from rfl];obtain⟨h1,h2⟩:=ha;go_enter func180,ntmps180
 go_wp2;go_ret;have o:=World.ownsRow_lit (base:=w.heap.size) (e:=232) (size:=2) (w.alloc (M #[I J 8,I J a,I J b,I J v] 54)) #[I J 0,I J 2,I J (a+1),I J 5] 2 (by simp) (by unfold maxLen;omega) (by simp);rw[show(w.alloc (M #[I J 8,I J a,I J b,I J v] 54)).heap.size=w.heap.size+1 by simp]at o;exact⟨_,_,rfl,by omega,aJ o,fun b' o' h=>(by simp only[Option.some.injEq,Addr.mk.injEq]at h;omega),(q').alloc (by simp) _⟩
theorem bY6(a b v:Int)(ha:0<=a/\a<=99)(w:World):
  Calls prog 180 #[U #[I J 9,I J a,I J b,I J v]] w fun e w'=>qV 9 a w e w':=by
 unfold qV;rw[show eH 9 a=[⟨0,1⟩]from rfl];obtain⟨h1,h2⟩:=ha;go_enter func180,ntmps180
 go_wp2;go_ret;have o:=World.ownsRow_lit (base:=w.heap.size) (e:=232) (size:=2) (w.alloc (M #[I J 9,I J a,I J b,I J v] 54)) #[I J 0,I J 1] 1 (by simp) (by unfold maxLen;omega) (by simp);rw[show(w.alloc (M #[I J 9,I J a,I J b,I J v] 54)).heap.size=w.heap.size+1 by simp]at o;exact⟨_,_,rfl,by omega,aJ o,fun b' o' h=>(by simp only[Option.some.injEq,Addr.mk.injEq]at h;omega),(q').alloc (by simp) _⟩
theorem bK8(a b v:Int)(ha:0<=a/\a<=99)(w:World):
  Calls prog 180 #[U #[I J 10,I J a,I J b,I J v]] w fun e w'=>qV 10 a w e w':=by
 unfold qV;rw[show eH 10 a=[⟨0,3⟩]from rfl];obtain⟨h1,h2⟩:=ha;go_enter func180,ntmps180
 go_wp2;go_ret;have o:=World.ownsRow_lit (base:=w.heap.size) (e:=232) (size:=2) (w.alloc (M #[I J 10,I J a,I J b,I J v] 54)) #[I J 0,I J 3] 1 (by simp) (by unfold maxLen;omega) (by simp);rw[show(w.alloc (M #[I J 10,I J a,I J b,I J v] 54)).heap.size=w.heap.size+1 by simp]at o;exact⟨_,_,rfl,by omega,aJ o,fun b' o' h=>(by simp only[Option.some.injEq,Addr.mk.injEq]at h;omega),(q').alloc (by simp) _⟩
theorem bB0(k a b v:Int)(ha:0<=a/\a<=99)(hk:k=1\/k=2\/k=3\/k=4\/k=5\/k=6\/k=7\/k=8\/k=9\/k=10)(w:World):
  Calls prog 180 #[U #[I J k,I J a,I J b,I J v]] w fun e w'=>qV k a w e w':=by
 rcases hk with rfl|rfl|rfl|rfl|rfl|rfl|rfl|rfl|rfl|rfl
 .exact bX8 a b v ha w
 .exact bX9 a b v ha w
 .exact bY0 a b v ha w
 .exact bY1 a b v ha w
 .exact bY2 a b v ha w
 .exact bY3 a b v ha w
 .exact bY4 a b v ha w
 .exact bY5 a b v ha w
 .exact bY6 a b v ha w
 .exact bK8 a b v ha w
theorem vW{a b:Bool}(h:a=b):R' (X a)=R' (X b):=by rw[h]
theorem lW(w:World)(B:Nat)(e:TypeId)(size:Nat)(hB:B<=w.heap.size):(w.alloc (M #[] e)).ownsRow B e size (Z (Y ⟨w.heap.size,0,O⟩) 0 0) 0 []:=
 World.ownsRow_lit w #[] 0 hB (by unfold maxLen;omega) (by simp)
theorem sW{base:Nat}{size:Nat}(h:w.ownsRow base e size v n xs)(hb:b<base):v.ownBlock≠Y b:=by intro he;have:=(aG h b he).1;omega
theorem aT(hb:Below w.heap.size w w')(h:w.heap[b]? =Y o):w'.heap[b]? =Y o:=
 (hb.block b (Array.getElem?_eq_some_iff.1 h).1).trans h
theorem iU(hg:w.grownBy w' row)(h:w.heap[b]? =Y o)(hne:row≠Y b):w'.heap[b]? =Y o:=
 (hg.block b (Array.getElem?_eq_some_iff.1 h).1 (fun e=>hne e.symm)).trans h
theorem sO{v:Int}(hk:k<zs.length):(zs.take (k+1)).contains v=((zs.take k).contains v||(zs.getD k 0==v)):=by rw[List.take_add_one,List.getElem?_eq_getElem hk,Bool.eq_iff_iff];simp only[Option.toList_some,List.getD,List.getElem?_eq_getElem hk,Option.getD_some,List.contains_iff_mem,List.mem_append,List.mem_singleton,Bool.or_eq_true,beq_iff_eq];exact or_congr_right ⟨fun h=>h.symm,fun h=>h.symm⟩
theorem uP{v:Int}(hk:k<zs.length)(h:zs.getD k 0=v):zs.contains v=A':=by rw[List.contains_iff_mem,<-h];simp[List.getD,hk]
theorem nE(a:Option Addr)(n cap:Nat)(v:Int)(zs:List Int)(w:World)(h:CellsAt w a (n*1) (icells zs))(hn:n<=4194304):
  Calls prog 117 #[Z a n cap,I J v] w fun e w'=>e=R' (X (zs.contains v))/\w'=w:=by
 have HL:=h.ilen;obtain⟨c,HC⟩:∃c,Hid (zs.contains v=c):=⟨_,rfl⟩
 rw[HC.out];go_enter func117,ntmps117
 go_wp2;go_loop [5] (fun i=>∃k:Nat,k<=n/\i=I J k/\Hid ((zs.take k).contains v=F')) (fun i=>n-(intOf i).toNat)
 case atStart=>exact⟨0,Nat.zero_le _,rfl,rfl⟩
 case round=>
  obtain⟨k,hk,rfl,HH⟩:=hrel;by_cases hlt:k<n
  .have hkl:k<zs.length:=by have:=HL.out;omega
   have HY:=hid (fun he=>uP (v:=v) hkl he);have HN:=hid (sO (v:=v) hkl);obtain⟨b,off,rfl,hc0⟩:=h.int hlt;have hbl:=aD hc0;generalize zs.getD k 0=z at*;by_cases he:z=v
   .replace HY:=hid (HY.out he);have e1:(z==v)=A':=by simpa using he
    clear he HN;go_wp2;go_ret;exact⟨vW (HY.out.symm.trans HC.out),rfl⟩
   .have e1:(z==v)=F':=by simpa using he
    rw[HH.out,e1]at HN;clear he HY;go_wp2;go_round
    case rel=>exact⟨k+1,by omega,by go_num,HN.out⟩
    case measure=>simp[intOf];omega
  .obtain rfl:k=n:=by omega
   go_wp2;go_ret;exact⟨vW (by have h1:=HH.out;have h2:=HL.out;rw[h2,List.take_length]at h1;exact h1.symm.trans HC.out),rfl⟩
def aH3(c:Bool)(q:Int):Prop:=if c=A' then 0<=q else q<0
theorem cW7:aH3 F' (-1):=by unfold aH3;decide
theorem bX7(a:Option Addr)(n cap:Nat)(v:Int)(zs:List Int)(w:World)(h:CellsAt w a (n*1) (icells zs))(hn:n<=4194304):
  Calls prog 79 #[Z a n cap,I J v] w fun e w'=>∃q:Int,e=R' (I J q)/\aH3 (zs.contains v) q/\w'=w:=by
 have HL:=h.ilen;obtain⟨c,HC⟩:∃c,Hid (zs.contains v=c):=⟨_,rfl⟩
 rw[HC.out];go_enter func79,ntmps79
 go_wp2;go_loop [8] (fun i=>∃k:Nat,k<=n/\i=I J k/\Hid ((zs.take k).contains v=F')) (fun i=>n-(intOf i).toNat)
 case atStart=>exact⟨0,Nat.zero_le _,rfl,rfl⟩
 case round=>
  obtain⟨k,hk,rfl,HH⟩:=hrel;by_cases hlt:k<n
  .have hkl:k<zs.length:=by have:=HL.out;omega
   have HY:=hid (fun he=>uP (v:=v) hkl he);have HN:=hid (sO (v:=v) hkl);obtain⟨b,off,rfl,hc0⟩:=h.int hlt;have hbl:=aD hc0;generalize zs.getD k 0=z at*;by_cases he:v=z
   .replace HY:=hid (HY.out he.symm);have e1:(v==z)=A':=by simpa using he
    clear he HN;go_wp2;go_ret;refine⟨_,rfl,?_,rfl⟩;show aH3 c _;unfold aH3;rw[if_pos (HC.out.symm.trans HY.out)];omega
   .have e1:(v==z)=F':=by simpa using he
    have e2:(z==v)=F':=by simp only[beq_eq_false_iff_ne,ne_eq];exact fun h=>he h.symm
    rw[HH.out,e2]at HN;clear he HY e2;go_wp2;go_round
    case rel=>exact⟨k+1,by omega,by go_num,HN.out⟩
    case measure=>simp[intOf];omega
  .obtain rfl:k=n:=by omega
   go_wp2;go_ret;have hc:c=F':=by have h1:=HH.out;have h2:=HL.out;rw[h2,List.take_length]at h1;exact HC.out.symm.trans h1
   subst hc;exact⟨_,rfl,cW7,rfl⟩
theorem aQ3(a:Option Addr)(n cap:Nat)(v:Int)(zs:List Int)(w:World)(h:CellsAt w a (n*1) (icells zs))(hn:n<=4194304):
  Calls prog 37 #[Z a n cap,I J v] w fun e w'=>e=R' (X (zs.contains v))/\w'=w:=by
 have II:=fun W hW=>bX7 a n cap v zs W hW hn;generalize zs.contains v=c at*;go_enter func37,ntmps37
 go_wp2_with fail
 refine(II _ h).mono ?_;rintro e w1⟨q,rfl,hq,rfl⟩;clear II;cases c
 .have hq0:decide (0<=q)=F':=by
   have:q<0:=by simpa[aH3]using hq
   simpa using this
  clear hq;go_wp2;go_ret;exact⟨rfl,rfl⟩
 .have hq0:0<=q:=by simpa[aH3]using hq
  clear hq;go_wp2;go_ret;exact⟨rfl,rfl⟩
theorem cW9(a:Option Addr)(n cap:Nat)(kd:Int)(rs:List Rec)(w:World)(h:CellsAt w a (n*7) (rc7 rs))(hn:n<=1048576):
  Calls prog 155 #[Z a n cap,I J kd] w fun e w'=>∃a' m c',e=R' (Z a' m c')/\m<=n/\w'.ownsRow w.heap.size 2 1 (Z a' m c') m (icells (eP rs kd))/\Below w.heap.size w w':=by
 have HL:=h.len7;obtain⟨i0,hi0,hz0,hz1,hz2⟩:=info_parts Tryz.info2;have oE:=lW w w.heap.size 2 1 z';have kE:=f' w (M #[] 2);go_enter func155,ntmps155
 go_wp2;go_loopw [5,6] (fun q i wr=>∃(k m:Nat) (a':Option Addr) (c':Nat),k<=n/\m<=k/\i=I J k/\q=Z a' m c'/\wr.ownsRow w.heap.size 2 1 (Z a' m c') m (icells (eP (rs.take k) kd))/\Below w.heap.size w wr) (fun _ i _=>n-(intOf i).toNat)
 case atStart=>exact⟨0,0,_,_,Nat.zero_le _,z',rfl,rfl,oE,kE⟩
 case round=>
  clear oE kE;obtain⟨k,m,a',c',hk,hmk,rfl,rfl,own,hB⟩:=hrel;by_cases hlt:k<n
  .have hkl:k<rs.length:=by have:=HL.out;omega
   have HY:=hid (fun h1 h2=>aD4 (kd:=kd) hkl h1 h2);have HD:=hid (fun h2=>aD3 (kd:=kd) hkl h2);have HN:=hid (fun h1=>aM3 (kd:=kd) hkl h1);obtain⟨b,off,rfl,q0,q1,q2,q3,q4,q5,q6⟩:=(h.below hB).rec hlt;have hbl:=aD q0;generalize rs.getD k Rec.zero=r at*;obtain⟨rk,rt,ry,rh,ro,rx,rn⟩:=r;simp only at q0 q1 q2 q3 q4 q5 q6 HY HN HD;generalize eP (rs.take k) kd=zs at*;have hsum:m+1<=4194304:=by omega
   have IC:=fun W hW=>nE a' m c' rt zs W hW (by omega);by_cases hh:rk=kd;rotate_left
   .have e1:(rk==kd)=F':=by simpa using hh
    clear IC HY HD;go_wp2;go_roundw;case rel=>exact⟨k+1,m,a',c',by omega,by omega,by go_num,rfl,by rw[HN.out e1];exact own,hB⟩
    case measure=>simp[intOf];omega
   .have e1:(rk==kd)=A':=by simpa using hh
    replace HY:=hid (HY.out e1);clear HN hh;cases hc:zs.contains rt;rotate_left
    .rw[hc]at IC;replace HD:=hid (HD.out hc);clear HY hc;go_wp2_with(go_at_call 117;refine(IC _ (aJ own)).mono ?_;rintro e w1⟨rfl,rfl⟩)
     go_roundw;case rel=>exact⟨k+1,m,a',c',by omega,by omega,by go_num,rfl,by rw[HD.out];exact own,hB⟩
     case measure=>simp[intOf];omega
    .rw[hc]at IC;replace HY:=hid (HY.out hc);clear HD hc;have kQ:=f' wr (M #[I J rt] 2);have own3:=aF own kQ;have hC3:=jP wr rt 2;have hb3:w.heap.size<=(wr.alloc (M #[I J rt] 2)).heap.size:=by have:=hB.size;simp;omega
     have b3:=hB.trans (kQ.mono hB.size);go_wp2_with(first|(go_at_call 117;refine(IC _ (aJ own)).mono ?_;rintro e w1⟨rfl,hw1⟩;obtain rfl:=hw1.symm)|(at_builtin;go_must (refine bK underlying27 underlying27 hi0 hz0 hz1 hz2 rfl (by omega) (by omega) (.tmp 31) (.tmp 37) ?_ ?_ w.heap.size (Z a' m c') m (icells zs) _ 1 1 (icells [rt]) ?_ ?_ own3 hC3 (dN [rt]) hsum hb3 ?_;exact rfl;exact rfl;exact rfl;exact rfl;intro a5 c5 w5 own5 gr5 at5;go_frame)))
     go_roundw;case rel=>rw[<-eI,<-HY.out]at own5;exact⟨k+1,m+1,a5,c5,by omega,by omega,by go_num,rfl,own5,b3.grown gr5 b3.size (fun g hg=>(aG own3 g hg).1)⟩
     case measure=>simp[intOf];omega
  .obtain rfl:k=n:=by omega
   have HWF:Hid (rs.take k=rs):=by have:=HL.out;show _=_;rw[this];exact List.take_length
   rw[HWF.out]at own;go_wp2;go_ret;exact⟨a',m,c',rfl,by omega,own,hB⟩
end Go.Proofs.YtpbbokalojdooaaGreat
