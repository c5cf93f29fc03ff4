import Derived.Test.YtpbbokalojdooaaGreatWae
import Derived.Test.YtpbbokalojdooaaGreatLosS
import Derived.Test.YtpbbokalojdooaaGreatCmS
namespace Go.Proofs.YtpbbokalojdooaaGreat
open Go.RowKit Ch Go.Proofs.Tryz
set_option linter.unusedSimpArgs false
set_option linter.unusedVariables false
set_option maxRecDepth 20000
set_option maxHeartbeats 8000000
open Value renaming int->I,slice->Z,bool->X,agg->U
open IntKind renaming i64->J
open Option renaming none->O,some->Y
open Obj renaming cells->M
open Ending renaming returned->R'
open Bool renaming true->A',false->F'
variable {K:Act->World->Prop} {ops:Array Oper} {cs:Array Value} {h:Bool} {Q:Exit->Act->World->Prop} {ls:List (List Row)} {ts:List Ac} {zs:List Int} {rest:List Oper} {vs xs:List Value} {B b cap g k n p s size:Nat} {o:Obj} {a an:Option Addr} {row:Option Nat} {e t:TypeId} {u v:Value} {W w w' w1:World}
theorem sS{o:Oper}{a:Act}{E:Prop}(s x:Operand)
  (B n:Nat) (xs:List Value) (m:Nat) (cs:Array Value) (hm:0<m/\cs.size=m/\n+m<=1099511627776)
  (ho:o.op= .call {callee:=.builtin .append,args:=#[s,x],argTypes:=#[22,22]}) (hgd:o.guard=O)
  (hs:∃g cp,a.eval s=Z (Y ⟨g,0,O⟩) n cp/\w.ownsRow B 5 1 (Z (Y ⟨g,0,O⟩) n cp) n xs)
  (hx:∃h c t,a.eval x=Z (Y ⟨h,0,O⟩) m c/\w.heap[h]? =Y (M cs t (0,0)))
  (h1:∀u∈cs.toList,u.oneCell'=A') (hbase:B<=w.heap.size)
  (hK:∀g' cp' w',w'.ownsRow B 5 1 (Z (Y ⟨g',0,O⟩) (n+m) cp') (n+m) (xs++cs.toList)->Below B w w'->K (a.put o.dst (Z (Y ⟨g',0,O⟩) (n+m) cp')) w'):
  if Region.wanted o (yielded ops a.tmps)=A' then Oper.wp prog o a w K Q else E:=by
 obtain⟨g,cp,hs,hown⟩:=hs;exact dI3 s x B g n cp xs m cs ⟨hm.1,hm.2.1,hm.2.2,(iY hown).1⟩ ho hgd hs hx hown h1 hbase (fun g' cp' w' ho hg=>hK g' cp' w' ho hg.below)
theorem aG1{o:Oper}{a:Act}(s x:Operand)
  (B n:Nat) (xs:List Value) (m:Nat) (cs:Array Value) (hm:0<m/\cs.size=m/\n+m<=1099511627776)
  (ho:o.op= .call {callee:=.builtin .append,args:=#[s,x],argTypes:=#[22,22]}) (hgd:o.guard=O)
  (hs:∃g cp,a.eval s=Z (Y ⟨g,0,O⟩) n cp/\w.ownsRow B 5 1 (Z (Y ⟨g,0,O⟩) n cp) n xs)
  (hx:∃h c t,a.eval x=Z (Y ⟨h,0,O⟩) m c/\w.heap[h]? =Y (M cs t (0,0)))
  (h1:∀u∈cs.toList,u.oneCell'=A') (hbase:B<=w.heap.size)
  (hK:∀g' cp' w',w'.ownsRow B 5 1 (Z (Y ⟨g',0,O⟩) (n+m) cp') (n+m) (xs++cs.toList)->Below B w w'->wpList prog ops Q rest (a.put o.dst (Z (Y ⟨g',0,O⟩) (n+m) cp')) w'):
  wpList prog ops Q (o::rest) a w:=by
 obtain⟨g,cp,hs,hown⟩:=hs;exact cO6 s x B g n cp xs m cs ⟨hm.1,hm.2.1,hm.2.2,(iY hown).1⟩ ho hgd hs hx hown h1 hbase (fun g' cp' w' ho hg=>hK g' cp' w' ho hg.below)
abbrev bT2(kd tx ky:Int)(hd:Bool)(ol:Int)(hs:Bool)(nw:Int):Obj:=M #[I J kd,I J tx,I J ky,X hd,I J ol,X hs,I J nw] 79
theorem cQ8(xs:Array Value)(n:Nat)(hn:xs.size=n)(hB:B<=w.heap.size)(h1:n<=1000)(hg:g=w.heap.size):(w.alloc (M xs 5)).ownsRow B 5 1 (Z (Y ⟨g,0,O⟩) n n) n xs.toList:=by subst hn hg;exact Cr w xs xs.size hB (by unfold maxLen;omega) (Fb _).symm
theorem cO(b1:Below (w.heap.size+1) (w.alloc o) w1):V' w w1:=
 aZ (by simpa using b1)
theorem uP(b1:Below (w.heap.size+1) (w.alloc (M cs t)) w1)(i:Nat):w1.cell? ⟨w.heap.size,i,O⟩=cs[i]? :=
 aU (by simpa using b1) i
theorem qG(kd tx ky:Int)(hd:Bool)(ol:Int)(hs:Bool)(nw:Int)(w:World)(fit:Rec.Fit ⟨kd,tx,ky,hd,ol,hs,nw⟩):
  Calls prog 114 #[U #[I J kd,I J tx,I J ky,X hd,I J ol,X hs,I J nw]] w fun e w'=>∃g cp,e=R' (Z (Y ⟨g,0,O⟩) (Rec.len ⟨kd,tx,ky,hd,ol,hs,nw⟩) cp)/\w'.ownsRow w.heap.size 5 1 (Z (Y ⟨g,0,O⟩) (Rec.len ⟨kd,tx,ky,hd,ol,hs,nw⟩) cp) (Rec.len ⟨kd,tx,ky,hd,ol,hs,nw⟩) (bts (Rec.bytes ⟨kd,tx,ky,hd,ol,hs,nw⟩))/\V' w w':=by
 have hbts:=bD5 (Rec.body_bytes fit);obtain⟨⟨k0,k1⟩,⟨t0,t1⟩,⟨y0,y1⟩,⟨o0,o1⟩,⟨n0,n1⟩,hrest⟩:=fit;clear hrest;simp only at k0 k1 t0 t1 y0 y1 o0 o1 n0 n1;have hw0:IntKind.u8.wrap kd=kd:=by simp[IntKind.wrap_u8];omega
 have hw1:IntKind.u8.wrap ky=ky:=by simp[IntKind.wrap_u8];omega
 go_enter func114,ntmps114
 go_upto_region 1 with fail
 go_cut [3] (fun s wx=>∃g c,s=Z (Y ⟨g,0,O⟩) 3 c/\wx.ownsRow (w.heap.size+1) 5 1 (Z (Y ⟨g,0,O⟩) 3 c) 3 (bts [kd,tx / 256,tx%256])/\Below (w.heap.size+1) (w.alloc (bT2 kd tx ky hd ol hs nw)) wx)
 case first=>
  have HS:Hid (∀W',Below (w.heap.size+1) (w.alloc (bT2 kd tx ky hd ol hs nw)) W'->W'.cell? ⟨w.heap.size,0,O⟩=Y (I J kd)/\W'.cell? ⟨w.heap.size,1,O⟩=Y (I J tx)/\Below (w.heap.size+1) (w.alloc (bT2 kd tx ky hd ol hs nw)) W'):=fun W' hb=>⟨by simpa using uP hb 0,by simpa using uP hb 1,hb⟩
  refine R0 (fun W'=>W'.cell? ⟨w.heap.size,0,O⟩=Y (I J kd)/\W'.cell? ⟨w.heap.size,1,O⟩=Y (I J tx)/\Below (w.heap.size+1) (w.alloc (bT2 kd tx ky hd ol hs nw)) W') (HS.out _ (Aa _ _).drew) (fun hH=>?_);refine R5 0 1 2 4 5 ?_;refine Dr (rs:=[3,6]) (by kernel_rfl) (by simp) ?_;refine Bi rfl (fun K hK=>?_) (Bi rfl (fun K hK=>?_) Dk);focus
   go_simp;refine hK.out _ _ ?_ (fun hH=>?_)
   .exact HS.out _ (hH.2.2.alloc (by simp) _)
   clear hK K;refine R6 6 (fun K hK=>?_);go_simp;refine(wI _ _ (by omega) (by omega)).mono ?_;rintro e w'⟨rfl,rfl⟩;go_wp2_with fail
   refine hK.out _ _ ?_ (fun hH=>?_)
   .exact HS.out _ (hH.2.2.alloc (by simp) _)
   clear hK K;refine R6 7 (fun K hK=>?_);refine sS (.tmp 8) (.tmp 11) (w.heap.size+1) 1 [I .u8 kd] 2 #[I .u8 (tx / 256),I .u8 (tx%256)] ⟨by omega,rfl,by omega⟩ rfl rfl ⟨_,_,rfl,?_⟩ ⟨_,_,5,rfl,?_⟩ ?_ ?_ ?_
   .exact(cQ8 #[I .u8 kd] 1 rfl (by simp) (by omega) (by simp)).alloc _
   .exact aP (by simp)
   .simp[Value.oneCell']
   .simp
   intro g1 c1 w1 own1 gr1;have bw1:=hH.2.2.trans gr1;refine hK.out _ _ ?_ (fun hH=>?_)
   .exact HS.out _ bw1
   clear hK K;refine J3 ?_;refine R1 8 ?_;refine R7 ?_
  rotate_left;focus
   go_simp;refine(wI _ _ (by omega) (by omega)).mono ?_;rintro e w'⟨rfl,rfl⟩;go_wp2_with fail
   refine hK.out _ _ ?_ (fun hH=>?_)
   .exact HS.out _ (hH.2.2.alloc (by simp) _)
   clear hK K;refine R6 3 (fun K hK=>?_);go_simp;refine hK.out _ _ ?_ (fun hH=>?_)
   .exact HS.out _ (hH.2.2.alloc (by simp) _)
   clear hK K;refine R6 7 (fun K hK=>?_);refine sS (.tmp 8) (.tmp 11) (w.heap.size+1) 1 [I .u8 kd] 2 #[I .u8 (tx / 256),I .u8 (tx%256)] ⟨by omega,rfl,by omega⟩ rfl rfl ⟨_,_,rfl,?_⟩ ⟨_,_,5,rfl,?_⟩ ?_ ?_ ?_
   .refine World.ownsRow.drew ?_;exact cQ8 #[I .u8 kd] 1 rfl (by simp) (by omega) (by simp)
   .exact(cN (by simp)).trans (aP (by simp))
   .simp[Value.oneCell']
   .simp
   intro g1 c1 w1 own1 gr1;have bw1:=hH.2.2.trans gr1;refine hK.out _ _ ?_ (fun hH=>?_)
   .exact HS.out _ bw1
   clear hK K;refine J3 ?_;refine R1 8 ?_;refine R7 ?_
  rotate_left;all_goals
   go_wp2_with fail
   go_meet;exact⟨g1,c1,rfl,by simpa[bts]using own1,bw1⟩
 case rest=>
  obtain⟨g,c,rfl,own,hB⟩:=hcut;have q0:=uP hB 0;have q3:=uP hB 3;have q5:=uP hB 5;simp at q0 q3 q5;have zb:=hB.size;simp at zb;cases hset:lL kd
  .have HB:Hid (Rec.body ⟨kd,tx,ky,hd,ol,hs,nw⟩=[kd,tx / 256,tx%256]):=by show _=_;simp[Rec.body,hset]
   have HL:Hid (Rec.len ⟨kd,tx,ky,hd,ol,hs,nw⟩=5):=by show _=_;simp[Rec.len,hset]
   have HE:Hid (Rec.bytes ⟨kd,tx,ky,hd,ol,hs,nw⟩=pE [kd,tx / 256,tx%256]):=by show _=_;simp[Rec.bytes,HB.out]
   rw[HB.out]at hbts;clear HB;generalize hp:[kd,tx / 256,tx%256]=p at*;obtain⟨s0,s1⟩:=wR p;go_wp2_with(go_at_call 112;refine(nX _ _).mono ?_;rintro e w1⟨rfl,hw1⟩;subst w1)
   refine(aF7 _ 3 c p _ (by simpa using aO own) hbts (by omega)).mono ?_;rintro e w1⟨rfl,hw1⟩;subst w1;generalize hq:nS p=q at*;go_wp2_with fail
   refine(wI _ _ s0 (by omega)).mono ?_;rintro e w2⟨rfl,rfl⟩;go_wp2_with(at_builtin;refine aG1 (.tmp 37) (.tmp 40) (w.heap.size+1) 3 (bts p) 2 #[I .u8 (q / 256),I .u8 (q%256)] ⟨by omega,rfl,by omega⟩ ?_ ?_ ?_ ?_ ?_ ?_ ?_;exact rfl;exact rfl;exact⟨_,_,rfl,own.alloc _⟩;(refine⟨_,_,5,rfl,?_⟩;exact aP rfl);(simp[Value.oneCell']);(simp;omega);intro g1 c1 w1 own1 gr1)
   go_ret;rw[HL.out,HE.out];refine⟨g1,c1,rfl,?_,?_⟩
   .have:=aQ own1 (base':=w.heap.size) (by omega);simpa[pE,bts,hq]using this
   .exact cO (hB.trans (((Aa _ _).alloc zb _).trans gr1))
  .have HL:Hid (Rec.len ⟨kd,tx,ky,hd,ol,hs,nw⟩=11):=by show _=_;simp[Rec.len,hset]
   have HB:Hid (Rec.body ⟨kd,tx,ky,hd,ol,hs,nw⟩=[kd,tx / 256,tx%256,ky,Rec.flags ⟨kd,tx,ky,hd,ol,hs,nw⟩,ol / 256,ol%256,nw / 256,nw%256]):=by show _=_;simp[Rec.body,hset,Rec.more]
   have HE:Hid (Rec.bytes ⟨kd,tx,ky,hd,ol,hs,nw⟩=pE [kd,tx / 256,tx%256,ky,Rec.flags ⟨kd,tx,ky,hd,ol,hs,nw⟩,ol / 256,ol%256,nw / 256,nw%256]):=by show _=_;simp[Rec.bytes,HB.out]
   rw[HB.out]at hbts;clear HB;go_upto_if 17 with(go_at_call 112;refine(nX _ _).mono ?_;rintro e w1⟨rfl,hw1⟩;subst w1)
   go_cut [4] (fun s wx=>s=I .u8 (if hd then 1 else 0)/\wx=wc)
   case first=>
    cases hd;all_goals
     go_wp2_with fail
     go_meet;exact⟨rfl,rfl⟩
   case rest=>
   obtain⟨rfl,hwc⟩:=hcut;subst hwc;go_upto_if 19 with fail
   go_cut [4] (fun s wx=>s=I .u8 (Rec.flags ⟨kd,tx,ky,hd,ol,hs,nw⟩)/\wx=wc)
   case first=>
    cases hs<;>cases hd
    all_goals
     go_wp2_with fail
     go_meet;exact⟨rfl,rfl⟩
   case rest=>
   obtain⟨rfl,hwc⟩:=hcut;subst hwc;have hfl:=Rec.flags_bd ⟨kd,tx,ky,hd,ol,hs,nw⟩;generalize Rec.flags ⟨kd,tx,ky,hd,ol,hs,nw⟩=fl at*;go_upto_region 8 with fail
   go_cut [3] (fun s wx=>∃g c,s=Z (Y ⟨g,0,O⟩) 9 c/\wx.ownsRow (w.heap.size+1) 5 1 (Z (Y ⟨g,0,O⟩) 9 c) 9 (bts [kd,tx / 256,tx%256,ky,fl,ol / 256,ol%256,nw / 256,nw%256])/\Below (w.heap.size+1) (w.alloc (bT2 kd tx ky hd ol hs nw)) wx)
   case first=>
    have HS:Hid (∀W',Below (w.heap.size+1) (w.alloc (bT2 kd tx ky hd ol hs nw)) W'->W'.cell? ⟨w.heap.size,2,O⟩=Y (I J ky)/\W'.cell? ⟨w.heap.size,4,O⟩=Y (I J ol)/\W'.cell? ⟨w.heap.size,6,O⟩=Y (I J nw)/\Below (w.heap.size+1) (w.alloc (bT2 kd tx ky hd ol hs nw)) W'):=fun W' hb=>⟨by simpa using uP hb 2,by simpa using uP hb 4,by simpa using uP hb 6,hb⟩
    refine R0 (fun W'=>W'.cell? ⟨w.heap.size,2,O⟩=Y (I J ky)/\W'.cell? ⟨w.heap.size,4,O⟩=Y (I J ol)/\W'.cell? ⟨w.heap.size,6,O⟩=Y (I J nw)/\Below (w.heap.size+1) (w.alloc (bT2 kd tx ky hd ol hs nw)) W') (HS.out _ hB.drew) (fun hH=>?_);refine R5 0 1 2 3 4 ?_;refine R4 7 8 11 12 ?_;refine R6 5 (fun K hK=>?_);go_simp;refine hK.out _ _ ?_ (fun hH=>?_)
    .exact HS.out _ (hH.2.2.2.alloc (by simp;omega) _)
    clear hK K;refine R6 6 (fun K hK=>?_);refine sS (.tmp 22) (.tmp 27) (w.heap.size+1) 3 (bts [kd,tx / 256,tx%256]) 2 #[I .u8 ky,I .u8 fl] ⟨by omega,rfl,by omega⟩ rfl rfl ⟨_,_,rfl,?_⟩ ⟨_,_,5,rfl,?_⟩ ?_ ?_ ?_
    .exact(own.alloc _).drew
    .exact aP (by simp)
    .simp[Value.oneCell']
    .simp;omega
    intro g1 c1 w1 own1 gr1;have bw1:=hH.2.2.2.trans gr1;refine hK.out _ _ ?_ (fun hH=>?_)
    .exact HS.out _ bw1
    clear hK K;refine J3 ?_;refine R6 9 (fun K hK=>?_);go_simp;have zw1:=bw1.size;simp at zw1;refine(wI _ _ (by omega) (by omega)).mono ?_;rintro e w'⟨rfl,rfl⟩;go_wp2_with fail
    refine hK.out _ _ ?_ (fun hH=>?_)
    .exact HS.out _ (hH.2.2.2.alloc (by omega) _)
    clear hK K;refine R6 10 (fun K hK=>?_);refine sS (.tmp 28) (.tmp 31) (w.heap.size+1) 5 (bts [kd,tx / 256,tx%256]++[I .u8 ky,I .u8 fl]) 2 #[I .u8 (ol / 256),I .u8 (ol%256)] ⟨by omega,rfl,by omega⟩ rfl rfl ⟨_,_,rfl,?_⟩ ⟨_,_,5,rfl,?_⟩ ?_ ?_ ?_
    .exact own1.alloc _
    .exact aP (by simp)
    .simp[Value.oneCell']
    .simp;omega
    intro g2 c2 w2 own2 gr2;have bw2:=hH.2.2.2.trans gr2;refine hK.out _ _ ?_ (fun hH=>?_)
    .exact HS.out _ bw2
    clear hK K;refine J3 ?_;refine R6 13 (fun K hK=>?_);go_simp;have zw2:=bw2.size;simp at zw2;refine E' (wI _ _ (by omega) (by omega)) ?_;go_wp2_with fail
    refine hK.out _ _ ?_ (fun hH=>?_)
    .exact HS.out _ (hH.2.2.2.alloc (by omega) _)
    clear hK K;refine R6 14 (fun K hK=>?_);refine sS (.tmp 32) (.tmp 35) (w.heap.size+1) 7 (bts [kd,tx / 256,tx%256]++[I .u8 ky,I .u8 fl]++[I .u8 (ol / 256),I .u8 (ol%256)]) 2 #[I .u8 (nw / 256),I .u8 (nw%256)] ⟨by omega,rfl,by omega⟩ rfl rfl ⟨_,_,rfl,?_⟩ ⟨_,_,5,rfl,?_⟩ ?_ ?_ ?_
    .exact own2.alloc _
    .exact aP (by simp)
    .simp[Value.oneCell']
    .simp;omega
    intro g3 c3 w3 own3 gr3;have bw3:=hH.2.2.2.trans gr3;refine hK.out _ _ ?_ (fun hH=>?_)
    .exact HS.out _ bw3
    clear hK K;refine J3 ?_;refine R1 15 ?_;refine R7 ?_;go_wp2_with fail
    go_meet;exact⟨g3,c3,rfl,by simpa[bts]using own3,bw3⟩
   case rest=>
   clear own hB q0 q3 q5 zb;obtain⟨g,c,rfl,own,hB⟩:=hcut;have zb:=hB.size;simp at zb;generalize hp:[kd,tx / 256,tx%256,ky,fl,ol / 256,ol%256,nw / 256,nw%256]=p at*;obtain⟨s0,s1⟩:=wR p;go_wp2_with fail
   refine(aF7 _ 9 c p _ (by simpa using aO own) hbts (by omega)).mono ?_;rintro e w1⟨rfl,hw1⟩;subst w1;generalize hq:nS p=q at*;go_wp2_with fail
   refine E' (wI _ _ s0 (by omega)) ?_;go_wp2_with(at_builtin;refine aG1 (.tmp 37) (.tmp 40) (w.heap.size+1) 9 (bts p) 2 #[I .u8 (q / 256),I .u8 (q%256)] ⟨by omega,rfl,by omega⟩ ?_ ?_ ?_ ?_ ?_ ?_ ?_;exact rfl;exact rfl;exact⟨_,_,rfl,own.alloc _⟩;(refine⟨_,_,5,rfl,?_⟩;exact aP rfl);(simp[Value.oneCell']);(simp;omega);intro g1 c1 w1 own1 gr1)
   go_ret;rw[HL.out,HE.out];refine⟨g1,c1,rfl,?_,?_⟩
   .have:=aQ own1 (base':=w.heap.size) (by omega);simpa[pE,bts,hq]using this
   .exact cO (hB.trans (((Aa _ _).alloc zb _).trans gr1))
def OwnV(w:World)(B:Nat)(v:Value)(n:Nat)(vs:List Value)(ls:List (List Row)):Prop:=
 ls.length=n/\w.ownsRow B 200 1 v n vs/\
  (∀i,i<n->∃x,vs[i]? =Y x/\w.ownsRow B 86 3 x (ls.getD i []).length (rcells (ls.getD i [])))/\
  (∀(i j:Nat) (x y:Value) (g:Nat),i<j->vs[i]? =Y x->vs[j]? =Y y->x.ownBlock=Y g->y.ownBlock≠Y g)/\
  (∀(i:Nat) (x:Value) (g:Nat),vs[i]? =Y x->v.ownBlock=Y g->x.ownBlock≠Y g)
theorem OwnLv.told(h:OwnLv w B v n ls):∃vs,OwnV w B v n vs ls:=by obtain⟨hl,vs,ho,hi,hd,hd'⟩:=h;exact⟨vs,hl,ho,hi,hd,hd'⟩
theorem OwnV.own(h:OwnV w B v n vs ls):OwnLv w B v n ls:=by obtain⟨hl,ho,hi,hd,hd'⟩:=h;exact⟨hl,vs,ho,hi,hd,hd'⟩
theorem OwnV.lt(h:OwnV w B v n vs ls):∀(i:Nat) (x:Value) (g:Nat),vs[i]? =Y x->x.ownBlock=Y g->B<=g/\g<w.heap.size:=by
 intro i x g hx hg;obtain⟨hl,ho,hi,hd,hd'⟩:=h;have hvl:vs.length=n:=by have:=ho.1;omega
 have hin:i<n:=by
  rcases Cd i n with h|h
  .exact h
  .rw[Bk (by omega)]at hx;cases hx
 obtain⟨y,h1,h2⟩:=hi i hin;rw[hx]at h1;cases h1;exact aH h2 g hg
theorem OwnV.below(h:OwnV w B v n vs ls)(hb:V' w w'):OwnV w' B v n vs ls:=by obtain⟨hl,ho,hi,hd,hd'⟩:=h;refine⟨hl,aG ho hb,fun i hlt=>?_,hd,hd'⟩;obtain⟨x,h1,h2⟩:=hi i hlt;exact⟨x,h1,aG h2 hb⟩
theorem bU6(a:Option Addr)(n cap:Nat)(key:Int)(ls:List (List Row))(w:World)(h:LvAt w a n ls)(hs:aW ls<=1048576)(hg:∀k,k<n->(ls.getD k []).length≠0):
  Calls prog 140 #[Z a n cap,I J key] w fun e w'=>e=R' (I J (fW ls key n))/\w'=w:=by
 have HL:=h.len;have hn:n<=1048576:=by unfold aW at hs;have:=HL.out;omega
 go_enter func140,ntmps140
 go_wp2;go_loop [5,6] (fun q i=>∃k:Nat,k<=n/\i=I J k/\q=I J (fW ls key k)) (fun _ i=>n-(intOf i).toNat)
 case atStart=>exact⟨0,Ad _,rfl,rfl⟩
 case round=>
  obtain⟨k,hk,rfl,rfl⟩:=hrel;by_cases hlt:k<n
  .have HS:=hid (fI hs k);have HY:=hid (fun hle=>aL7 (ls:=ls) (key:=key) (k:=k) hle);have HN:=hid (fun hle=>aX0 (ls:=ls) (key:=key) (k:=k) hle);have hg0:=hg k hlt;obtain⟨b,off,ai,ni,ci,rfl,hc,hr,hni⟩:=h.leaf hlt;have HRl:=hr.rlen;have hni':ni<=1048576:=by have:=HS.out;have:=HRl.out;omega
   obtain⟨m,rfl⟩:∃m,ni=m+1:=⟨ni-1,by have:=HRl.out;omega⟩
   obtain⟨b1,o1,rfl,q0,_,_⟩:=hr.row (k:=0) (by omega);simp only[Ep,Nat.add_zero]at q0;have HFK:Hid (gL (ls.getD k [])=((ls.getD k []).getD 0 Row.zero).k):=rfl;generalize ls.getD k []=l at*;generalize(l.getD 0 Row.zero).k=fk at*;generalize fW ls key k=q at*;by_cases hle:fk<=key
   .go_wp2;go_round
    case rel=>exact⟨k+1,by omega,by go_num,by rw[HY.out (by rw[HFK.out];exact hle)]⟩
    case measure=>simp[intOf];omega
   .go_wp2;go_round
    case rel=>exact⟨k+1,by omega,by go_num,by rw[HN.out (by rw[HFK.out];exact hle)]⟩
    case measure=>simp[intOf];omega
  .obtain rfl:k=n:=by omega
   go_wp2;go_ret;exact⟨rfl,rfl⟩
theorem aJ3(b:Below (w.alloc (M cs t)).heap.size (w.alloc (M cs t)) w1)(i:Nat):w1.frozen? ⟨w.heap.size,i,O⟩=F':=by rw[(dH b).2 w.heap.size i (by simp)];simp[go_sem]
section
open Go.Maps
theorem OwnLv.nil(w:World)(B:Nat):OwnLv w B (Z O 0 0) 0 []:=⟨rfl,[],Aw _ _ _ _,fun i hi=>absurd hi (by omega),fun i j x y g _ hx=>by simp at hx,fun i x g hx=>by simp at hx⟩
theorem oY{base:Nat}(h:w.ownsRow base e size v n xs){o:Nat}(hne:∀g,v.ownBlock=Y g->g≠p)(u:Value):(w.setCell ⟨p,o,O⟩ u).ownsRow base e size v n xs:=by
 refine⟨h.1,?_⟩;rcases h.2 with h'|⟨g,cap,cur,hv,hb,hh,h1,h2,h3,h4⟩
 .exact .inl h'
 .refine .inr ⟨g,cap,cur,hv,hb,?_,h1,h2,h3,h4⟩;rw[Bu _ _ _ _ (hne g (by rw[hv];rfl))];exact hh
theorem OwnLv.box(h:OwnLv w B v n ls){o:Nat}(hp:p<B)(u:Value):OwnLv (w.setCell ⟨p,o,O⟩ u) B v n ls:=by obtain⟨hl,vs,ho,hi,hd,hd'⟩:=h;refine⟨hl,vs,oY ho (fun g hg=>by have:=aH ho g hg;omega) u,fun i hlt=>?_,hd,hd'⟩;obtain⟨x,h1,h2⟩:=hi i hlt;exact⟨x,h1,oY h2 (fun g hg=>by have:=aH h2 g hg;omega) u⟩
end
theorem aC8{k v:Int}(hr:(!inB k 0 99||!inB v 0 9999)=A'):(⟨k,h,v⟩:Bf).fault=3:=by unfold Bf.fault;rw[if_pos hr]
theorem bZ2{k v:Int}(hr:(!inB k 0 99||!inB v 0 9999)=F')(hf:(!h&&v !=0)=A'):(⟨k,h,v⟩:Bf).fault=1:=by unfold Bf.fault;rw[if_neg (by rw[hr];exact Da),if_pos hf]
theorem aJ1{k v:Int}(hr:(!inB k 0 99||!inB v 0 9999)=F')(hf:(!h&&v !=0)=F'):(⟨k,h,v⟩:Bf).fault=0:=by unfold Bf.fault;rw[if_neg (by rw[hr];exact Da),if_neg (by rw[hf];exact Da)]
theorem aH3(a:Option Addr)(n cap:Nat)(bs:List Bf)(w:World)(h:CellsAt w a (n*3) (bfcells bs))(hn:n<=1048576):
  Calls prog 172 #[Z a n cap] w fun e w'=>e=R' (I J (cY bs))/\V' w w':=by
 have HL:=h.bflen;by_cases hbig:40<n
 .have HF:Hid (cY bs=2):=bY9 (by have:=HL.out;omega);go_enter func172,ntmps172
  go_wp2;go_ret;exact⟨cH HF.out.symm,Aa _ _⟩
 have hn4:n<=40:=by omega
 clear hbig;have HF:=hid (bZ1 (bs:=bs) (by have:=HL.out;omega));go_enter func172,ntmps172
 go_wp2;go_loopw [3] (fun i wr=>∃k:Nat,k<=n/\i=I J k/\Hid (cY bs=eN (bs.drop k))/\V' w wr) (fun i _=>n-(intOf i).toNat)
 case atStart=>exact⟨0,Ad _,rfl,HF.out,Aa _ _⟩
 case round=>
  clear HF;obtain⟨k,hk,rfl,HH,hB⟩:=hrel;by_cases hlt:k<n
  .have hkl:k<bs.length:=by have:=HL.out;omega
   have HS:=hid (fun he=>HH.out.trans (cT5 hkl he));have HN:=hid (fun he=>HH.out.trans (cT7 hkl he));obtain⟨b,off,rfl,q0,q1,q2⟩:=(h.below hB).bef hlt;have hbl:=aD q0;generalize bs.getD k Bf.zero=r at*;obtain⟨rk,rh,rv⟩:=r;simp only at q0 q1 q2;have IT:=fun W=>cT rk W;have IM:=fun W=>bP rv W;cases ht:inB rk 0 99
   .rw[ht]at IT;have HX:=hid (aC8 (k:=rk) (v:=rv) (h:=rh) (by rw[ht];rfl));replace HS:=hid (HS.out (by rw[HX.out];rfl));clear HN IM;go_wp2_with fail
    refine(IT _).mono ?_;rintro e w'⟨rfl,rfl⟩;go_wp2;go_ret;exact⟨cH (HS.out.trans HX.out).symm,hB⟩
   rw[ht]at IT;cases hm:inB rv 0 9999
   .rw[hm]at IM;have HX:=hid (aC8 (k:=rk) (v:=rv) (h:=rh) (by rw[ht,hm];rfl));replace HS:=hid (HS.out (by rw[HX.out];rfl));clear HN;go_wp2_with fail
    refine(IT _).mono ?_;rintro e w'⟨rfl,rfl⟩;go_wp2_with fail
    refine(IM _).mono ?_;rintro e w'⟨rfl,rfl⟩;go_wp2;go_ret;exact⟨cH (HS.out.trans HX.out).symm,hB⟩
   rw[hm]at IM;cases rh
   .cases hv:(rv !=0)
    .have HX:=hid (aJ1 (k:=rk) (v:=rv) (h:=F') (by rw[ht,hm];rfl) (by rw[hv];rfl));replace HN:=hid (HN.out (by rw[HX.out];rfl));clear HS;go_wp2_with fail
     refine(IT _).mono ?_;rintro e w'⟨rfl,rfl⟩;go_wp2_with fail
     refine(IM _).mono ?_;rintro e w'⟨rfl,rfl⟩;go_wp2;go_roundw;case rel=>exact⟨k+1,by omega,by go_num,HN.out,hB⟩
     case measure=>simp[intOf];omega
    .have HX:=hid (bZ2 (k:=rk) (v:=rv) (h:=F') (by rw[ht,hm];rfl) (by rw[hv];rfl));replace HS:=hid (HS.out (by rw[HX.out];rfl));clear HN;go_wp2_with fail
     refine(IT _).mono ?_;rintro e w'⟨rfl,rfl⟩;go_wp2_with fail
     refine(IM _).mono ?_;rintro e w'⟨rfl,rfl⟩;go_wp2;go_ret;exact⟨cH (HS.out.trans HX.out).symm,hB⟩
   .have HX:=hid (aJ1 (k:=rk) (v:=rv) (h:=A') (by rw[ht,hm];rfl) rfl);replace HN:=hid (HN.out (by rw[HX.out];rfl));clear HS;go_wp2_with fail
    refine(IT _).mono ?_;rintro e w'⟨rfl,rfl⟩;go_wp2_with fail
    refine E' (IM _) ?_;go_wp2;go_roundw;case rel=>exact⟨k+1,by omega,by go_num,HN.out,hB⟩
    case measure=>simp[intOf];omega
  .obtain rfl:k=n:=by omega
   have HZ:=hid (HH.out.trans (bZ0 (by have:=HL.out;omega)));go_wp2;go_ret;exact⟨cH HZ.out.symm,hB⟩
theorem cI0(a a':Option Addr)(n cap n' cap':Nat)(rs qs:List Row)(w:World)(h:CellsAt w a (n*3) (rcells rs))(h':CellsAt w a' (n'*3) (rcells qs))(hn:n<=1048576)(hn':n'<=1048576):
  Calls prog 16 #[Z a n cap,Z a' n' cap'] w fun e w'=>e=R' (X (pH rs qs))/\V' w w':=by
 have HL:=h.rlen;have HL':=h'.rlen;by_cases hnn:n=n'
 .subst hnn;have hne:((n:Int) !=n)=F':=by simp
  go_enter func16,ntmps16
  go_wp2;go_loopw [5] (fun i wr=>∃k:Nat,k<=n/\i=I J k/\Hid (pH rs qs=pH (rs.drop k) (qs.drop k))/\V' w wr) (fun i _=>n-(intOf i).toNat)
  case atStart=>exact⟨0,Ad _,rfl,rfl,Aa _ _⟩
  case round=>
   obtain⟨k,hk,rfl,HS,hB⟩:=hrel;by_cases hlt:k<n
   .have HA:=hid (cS0 rs qs k (by have:=HL.out;omega) (by have:=HL'.out;omega));obtain⟨b,off,rfl,hc0,hc1,hc2⟩:=(h.below hB).row hlt;obtain⟨b',off',rfl,hd0,hd1,hd2⟩:=(h'.below hB).row hlt;generalize rs.getD k Row.zero=r at*;generalize qs.getD k Row.zero=q at*;obtain⟨rk,rv,rg⟩:=r;obtain⟨qk,qv,qg⟩:=q;simp only at hc0 hc1 hc2 hd0 hd1 hd2;have hneq:=fun W=>dP2 rk rv rg qk qv qg W;have HE:Hid (Row.same ⟨rk,rv,rg⟩ ⟨qk,qv,qg⟩=(rk==qk&&(rv==qv&&rg==qg))):=rfl;generalize(rk==qk&&(rv==qv&&rg==qg))=same at*;cases same
    .simp only[El]at hneq;go_wp2;go_quiet (fail)
     go_wp2;go_ret;exact⟨by rw[HS.out,HA.out,HE.out];rfl,aW0 hB _⟩
    .simp only[Fm]at hneq;go_wp2;go_quiet (fail)
     go_wp2;go_roundw;case rel=>exact⟨k+1,by omega,by go_num,(by show _=_;rw[HS.out,HA.out,HE.out];rfl),aW0 hB _⟩
     case measure=>simp[intOf];omega
   .obtain rfl:k=n:=by omega
    go_wp2;go_ret;refine⟨?_,hB⟩;rw[HS.out,Cb (by have:=HL.out;omega),Cb (by have:=HL'.out;omega)];rfl
 .have hne:((n:Int) !=(n':Int))=A':=by simp;omega
  have hne2:¬(n:Int)=(n':Int):=by omega
  go_enter func16,ntmps16
  go_wp2;go_ret;exact⟨by rw[bX4 _ _ (by have:=HL.out;have:=HL'.out;omega)];rfl,Aa _ _⟩
theorem fG(hb:V' w w')(h:w.heap[b]? =Y o):w'.heap[b]? =Y o:=
 (hb.block b (Ab.1 h).1).trans h
theorem jE(w:World)(r:Int)(t:TypeId):CellsAt (w.alloc (M #[I J r] t)) (Y ⟨w.heap.size,0,O⟩) (1*1) (icells [r]):=by refine⟨rfl,fun _=>⟨_,_,rfl,fun i hi=>?_⟩⟩;rw[Al];have:=Ai (w.alloc (M #[I J r] t)) _ i _ _ _ (Ar w _);rw[this];simp[icells]
def AcOne(w:World)(b off:Nat)(an:Option Addr)(nn cn:Nat)(t:Ac):Prop:=
 w.cell? ⟨b,off,O⟩=Y (I J t.tx)/\w.cell? ⟨b,off+1,O⟩=Y (I J t.k)/\w.cell? ⟨b,off+2,O⟩=Y (I J t.a)/\w.cell? ⟨b,off+3,O⟩=Y (I J t.b)/\w.cell? ⟨b,off+4,O⟩=Y (I J t.v)/\w.cell? ⟨b,off+5,O⟩=Y (Z an nn cn)/\
  CellsAt w an (nn*1) (icells t.an)/\nn<=9223372036854775807
theorem AcOne.below{off:Nat}{nn cn:Nat}{t:Ac}(h:AcOne w b off an nn cn t)(hb:V' w w'):AcOne w' b off an nn cn t:=by obtain⟨h0,h1,h2,h3,h4,h5,h6,h7⟩:=h;exact⟨keep_cell hb h0,keep_cell hb h1,keep_cell hb h2,keep_cell hb h3,keep_cell hb h4,keep_cell hb h5,h6.below hb,h7⟩
def AcAt(w:World)(a:Option Addr)(n:Nat)(ts:List Ac):Prop:=
 ts.length=n/\(0<n->∃b off,a=Y ⟨b,off,O⟩/\∀i,i<n->∃au nu cu,AcOne w b (off+i*6) au nu cu (aM ts i))
theorem AcAt.below(h:AcAt w a n ts)(hb:V' w w'):AcAt w' a n ts:=by refine⟨h.1,fun h0=>?_⟩;obtain⟨b,off,ha,hi⟩:=h.2 h0;refine⟨b,off,ha,fun i hlt=>?_⟩;obtain⟨au,nu,cu,h1⟩:=hi i hlt;exact⟨au,nu,cu,h1.below hb⟩
theorem AcAt.act(h:AcAt w a n ts)(hk:k<n):∃b off an nn cn,a=Y ⟨b,off,O⟩/\AcOne w b (off+k*6) an nn cn (aM ts k):=by obtain⟨b,off,ha,hi⟩:=h.2 (by omega);obtain⟨au,nu,cu,h1⟩:=hi k hk;exact⟨b,off,au,nu,cu,ha,h1⟩
theorem AcAt.len(h:AcAt w a n ts):Hid (n=ts.length):=h.1.symm
def ac6(t:Ac)(x:Value)(j:Nat):Value:=match j with
 |0=>I J t.tx
 |1=>I J t.k
 |2=>I J t.a
 |3=>I J t.b
 |4=>I J t.v
 |_=>x
theorem aZ8{a b:Bool}(h:a=b):R' (X a)=R' (X b):=by rw[h]
theorem gE(w:World)(B:Nat)(e:TypeId)(size:Nat)(hB:B<=w.heap.size):(w.alloc (M #[] e)).ownsRow B e size (Z (Y ⟨w.heap.size,0,O⟩) 0 0) 0 []:=
 Cr w #[] 0 hB (by unfold maxLen;omega) (by simp)
theorem tG{base:Nat}(h:w.ownsRow base e size v n xs)(hb:b<base):v.ownBlock≠Y b:=by intro he;have:=(aH h b he).1;omega
theorem fF(hb:V' w w')(h:w.heap[b]? =Y o):w'.heap[b]? =Y o:=
 (hb.block b (Ab.1 h).1).trans h
theorem cV(hg:w.grownBy w' row)(h:w.heap[b]? =Y o)(hne:row≠Y b):w'.heap[b]? =Y o:=
 (hg.block b (Ab.1 h).1 (fun e=>hne e.symm)).trans h
theorem bD1{v:Int}(hk:k<zs.length):(zs.take (k+1)).contains v=((zs.take k).contains v||(zs.getD k 0==v)):=by rw[Du,Ao hk,Fe];simp only[Option.toList_some,List.getD,Ao hk,Option.getD_some,Eg,Aj,Cp,Dy,Dx];exact or_congr_right ⟨fun h=>h.symm,fun h=>h.symm⟩
theorem bN9{v:Int}(hk:k<zs.length)(h:zs.getD k 0=v):zs.contains v=A':=by rw[Eg,<-h];simp[List.getD,hk]
theorem aI5(a:Option Addr)(n cap:Nat)(v:Int)(zs:List Int)(w:World)(h:CellsAt w a (n*1) (icells zs))(hn:n<=4194304):
  Calls prog 117 #[Z a n cap,I J v] w fun e w'=>e=R' (X (zs.contains v))/\w'=w:=by
 have HL:=h.ilen;obtain⟨c,HC⟩:∃c,Hid (zs.contains v=c):=⟨_,rfl⟩
 rw[HC.out];go_enter func117,ntmps117
 go_wp2;go_loop [5] (fun i=>∃k:Nat,k<=n/\i=I J k/\Hid ((zs.take k).contains v=F')) (fun i=>n-(intOf i).toNat)
 case atStart=>exact⟨0,Ad _,rfl,rfl⟩
 case round=>
  obtain⟨k,hk,rfl,HH⟩:=hrel;by_cases hlt:k<n
  .have hkl:k<zs.length:=by have:=HL.out;omega
   have HY:=hid (fun he=>bN9 (v:=v) hkl he);have HN:=hid (bD1 (v:=v) hkl);obtain⟨b,off,rfl,hc0⟩:=h.int hlt;have hbl:=aD hc0;generalize zs.getD k 0=z at*;by_cases he:z=v
   .replace HY:=hid (HY.out he);have e1:(z==v)=A':=by simpa using he
    clear he HN;go_wp2;go_ret;exact⟨aZ8 (HY.out.symm.trans HC.out),rfl⟩
   .have e1:(z==v)=F':=by simpa using he
    rw[HH.out,e1]at HN;clear he HY;go_wp2;go_round
    case rel=>exact⟨k+1,by omega,by go_num,HN.out⟩
    case measure=>simp[intOf];omega
  .obtain rfl:k=n:=by omega
   go_wp2;go_ret;exact⟨aZ8 (by have h1:=HH.out;have h2:=HL.out;rw[h2,Be]at h1;exact h1.symm.trans HC.out),rfl⟩
theorem Tryz.info274:(prog.info? 274).map (fun i=>(i.zero,i.size,i.bytes))=Y (Y (U #[I J 0,I J 0]),2,16):=by kernel_rfl
section
open Go.Maps Go.Sort
theorem aB6(h:V' w w')(row:Option Nat):w.grownBy w' row:=⟨h.os,h.tape,h.output,h.size,fun k hk _=>h.block k hk⟩
theorem cZ0(base g n cap:Nat)(zs:List Int)(w:World)(hrow:w.ownsRow base 2 1 (Z (Y ⟨g,0,O⟩) n cap) n (icells zs))(hn:n<=1048576):
  Calls prog 57 #[Z (Y ⟨g,0,O⟩) n cap] w fun e w'=>e=R' (.tuple #[])/\w'.ownsRow base 2 1 (Z (Y ⟨g,0,O⟩) n cap) n (icells (zs.mergeSort fun x y=>decide (x<=y)))/\w.grownBy w' (Y g):=by
 have hl:n=zs.length:=by have:=hrow.1;rw[yD]at this;omega
 subst hl;rcases hrow.2 with⟨hnil,_⟩|⟨g',cap',cur,hv,hbase,hb,h1,h2,h3,h4⟩
 .cases hnil
 cases hv;have hH:Holds (I J) w g 0 zs.toArray:=holds_of_blockI hb (by rw[Fb]at h4;exact h4);have hg:g<w.heap.size:=(Ab.1 hb).1;have hcon:=AnyM.slices_Sort_int Tryz.sortInts g 0 cap zs w hH hg (by omega);change Calls prog 57 _ _ _ at hcon
 refine hcon.mono ?_;rintro e w'⟨rfl,nn,os,rfl⟩;exact⟨rfl,ownsRow_sortedI (by simp) hbase hb h1 h2 h3,grownBy_sortedI _⟩
theorem cZ1(p:Option Addr)(cap:Nat)(w:World):
  Calls prog 57 #[Z p 0 cap] w fun e w'=>e=R' (.tuple #[])/\w'=w:=by
 have hcon:=AnyM.slices_Sort_int_none Tryz.sortInts p cap w;change Calls prog 57 _ _ _ at hcon
 exact hcon
end
theorem bE4(a a':Option Addr)(n cap cap':Nat)(zs:List Int)(w:World)(h:CellsAt w a (n*1) (icells zs))(h':CellsAt w a' (n*1) (icells zs))(hn:n<=4194304):
  Calls prog 15 #[Z a n cap,Z a' n cap'] w fun e w'=>e=R' (X A')/\V' w w':=by
 have hnn:((n:Int) !=n)=F':=by simp
 go_enter func15,ntmps15
 go_wp2;go_loopw [5] (fun i wr=>∃k:Nat,k<=n/\i=I J k/\V' w wr) (fun i _=>n-(intOf i).toNat)
 case atStart=>exact⟨0,Ad _,rfl,Aa _ _⟩
 case round=>
  obtain⟨k,hk,rfl,hB⟩:=hrel;by_cases hlt:k<n
  .obtain⟨b,off,rfl,hc0⟩:=(h.below hB).int hlt;obtain⟨b',off',rfl,hd0⟩:=(h'.below hB).int hlt;generalize zs.getD k 0=r at*;have hbl:=aD hc0;have hbl':=aD hd0;have hrr:(r !=r)=F':=by simp
   go_wp2;go_quiet (fail)
   go_wp2;go_roundw;case rel=>exact⟨k+1,by omega,by go_num,hB.trans ⟨rfl,rfl,rfl,z',fun _ _=>rfl⟩⟩
   case measure=>simp[intOf];omega
  .obtain rfl:k=n:=by omega
   go_wp2;go_ret;exact⟨rfl,hB⟩
theorem mL(k:Int)(w:World):Calls prog 56 #[I J k] w fun e w'=>e=R' (X (isW k))/\w'=w:=by
 unfold isW;by_cases h2:(k==2)=A'
 .go_enter func56,ntmps56
  go_wp2;go_ret;exact⟨by simp[h2],rfl⟩
 .have h2':(k==2)=F':=by simpa using h2
  clear h2;go_enter func56,ntmps56
  go_wp2;go_ret;exact⟨by simp[h2'],rfl⟩
theorem mK(k:Int)(w:World):Calls prog 62 #[I J k] w fun e w'=>e=R' (X (isE k))/\w'=w:=by
 unfold isE;by_cases h2:(k==6)=A'
 .go_enter func62,ntmps62
  go_wp2;go_ret;exact⟨by simp[h2],rfl⟩
 .have h2':(k==6)=F':=by simpa using h2
  clear h2;go_enter func62,ntmps62
  go_wp2;go_ret;exact⟨by simp[h2'],rfl⟩
theorem xG(k a b v:Int)(w:World):Calls prog 65 #[U #[I J k,I J a,I J b,I J v]] w fun e w'=>e=R' (X (isW k))/\V' w w':=by
 unfold isW;by_cases h2:(k==2)=A'
 .go_enter func65,ntmps65
  go_wp2;go_ret;exact⟨by simp[h2],(Aa _ _).alloc z' _⟩
 .have h2':(k==2)=F':=by simpa using h2
  clear h2;go_enter func65,ntmps65
  go_wp2;go_ret;exact⟨by simp[h2'],(Aa _ _).alloc z' _⟩
theorem aD9(k a b v:Int)(w:World):Calls prog 99 #[U #[I J k,I J a,I J b,I J v]] w fun e w'=>e=R' (X (isE k))/\V' w w':=by
 unfold isE;by_cases h2:(k==6)=A'
 .go_enter func99,ntmps99
  go_wp2;go_ret;exact⟨by simp[h2],(Aa _ _).alloc z' _⟩
 .have h2':(k==6)=F':=by simpa using h2
  clear h2;go_enter func99,ntmps99
  go_wp2;go_ret;exact⟨by simp[h2'],(Aa _ _).alloc z' _⟩
section
open Go.Shelf Go.Lib Go.Sort
theorem bB3(base g n cap:Nat)(zs:List Int)(w:World)(hrow:w.ownsRow base 2 1 (Z (Y ⟨g,0,O⟩) n cap) n (icells zs))(hn:n<=1048576):
  Calls prog 58 #[Z (Y ⟨g,0,O⟩) n cap] w fun e w'=>e=R' (Z (Y ⟨g,0,O⟩) (Lib.compact zs).length cap)/\w'.ownsRow base 2 1 (Z (Y ⟨g,0,O⟩) (Lib.compact zs).length cap) (Lib.compact zs).length (icells (Lib.compact zs))/\w.grownBy w' (Y g):=by
 obtain⟨g',cap',hv,_,_,hcap,_,hl,hH⟩:=Lib.holds_of_ownsRow hrow (by simp);cases hv;subst hl;have hcon:=AnyG.slices_Compact_int Tryz.compactI g 0 cap zs w hH (by omega) hcap;change Calls prog 58 _ _ _ at hcon
 refine hcon.mono ?_;rintro e w'⟨rfl,q,rfl⟩;have hle:=Lib.compact_length_le zs;have hc:=Lib.ownsRow_putRow (q:=q) (k:=(Lib.compact zs).length) (ys:=Lib.compact zs++List.replicate (zs.length-(Lib.compact zs).length) 0) hrow (by simp;omega) hle;rw[List.take_left]at hc;refine⟨rfl,hc,⟨rfl,rfl,rfl,by simp[putRow,mapBlock,Sort.ahead],fun k hk hne=>?_⟩⟩;have:g≠k:=fun e=>hne (by rw[e]);simp[putRow,mapBlock,Sort.ahead,Array.getElem?_modify,this]
theorem bB4(p:Option Addr)(cap:Nat)(w:World):
  Calls prog 58 #[Z p 0 cap] w fun e w'=>e=R' (Z p 0 cap)/\w'=w:=by
 have hcon:=AnyG.slices_Compact_int_empty Tryz.compactI p cap w;change Calls prog 58 _ _ _ at hcon
 exact hcon
end
structure Src(w:World)(s:Nat)(a:Option Addr)(n cap k:Nat)(zs:List Int):Prop where
 box:w.heap[s]? =Y (M #[Z a n cap,I J k] 108 (0,0))
 far:0<n->∀b off,a=Y ⟨b,off,O⟩->b<s
 bytes:CellsAt w a n (bts zs)
theorem Src.lt(h:Src w s a n cap k zs):s<w.heap.size:=(Ab.1 h.box).1
theorem Src.below(h:Src w s a n cap k zs)(hb:Below B w w')(hB:s<B):Src w' s a n cap k zs:=by refine⟨by rw[hb.block s hB];exact h.box,h.far,h.bytes.1,fun hm=>?_⟩;obtain⟨b,off,ha,hc⟩:=h.bytes.2 hm;refine⟨b,off,ha,fun i hi=>?_⟩;rw[<-hc i hi];exact hb.cell (p:=⟨b,off+i,O⟩) (by have:=h.far hm b off ha;show b<B;omega)
theorem Src.step(h:Src w s a n cap k zs){i:Int}(hi:i=(k:Int)+1):Src (w.setCell ⟨s,1,O⟩ (I J i)) s a n cap (k+1) zs:=by
 subst hi;refine⟨?_,h.far,h.bytes.1,fun hm=>?_⟩
 .simp only[World.setCell,Array.getElem?_modify,Fl,h.box];simp
 .obtain⟨b,off,ha,hc⟩:=h.bytes.2 hm;refine⟨b,off,ha,fun i hi=>?_⟩;rw[<-hc i hi];exact Eu (Bu _ _ _ _ (by have:=h.far hm b off ha;show b≠s;omega))
theorem Src.drewN(h:Src w s a n cap k zs)(q:Nat):Src (w.drewN q) s a n cap k zs:=⟨h.box,h.far,h.bytes⟩
theorem iI{o:Nat}:w.grownBy (w.setCell ⟨s,o,O⟩ v) (Y s):=⟨rfl,rfl,rfl,by simp[World.setCell],fun k _ hne=>Bu _ _ _ _ (by intro e;exact hne (by rw[e]))⟩
theorem bN6(h:w.grownBy w' row)(q:Nat):w.grownBy (w'.drewN q) row:=⟨h.os,h.tape,h.output,h.size,h.block⟩
theorem eD(N:Int)(s:Nat)(a:Option Addr)(n cap k:Nat)(zs:List Int)(w:World)(h:Src w s a n cap k zs)(hb:IsB zs)(hn:n<=1048580)(hk:k<=1000)(h1:1<=N)(h2:N<=256):
  Calls prog 28 #[.pointer (Y ⟨s,0,O⟩),I J N] w fun e w'=>(∃v:Int,0<=v/\v<N/\e=R' (I J v))/\Src w' s a n cap (k+1) zs/\w.grownBy w' (Y s):=by
 have hS:=h.step (i:=(k:Int)+1) rfl;have q0:w.cell? ⟨s,0,O⟩=Y (Z a n cap):=C' h.box;have q1:w.cell? ⟨s,1,O⟩=Y (I J k):=C' h.box;have hfz:w.frozen? ⟨s,1,O⟩=F':=by simp[World.frozen?,h.box]
 have hgr:w.grownBy (w.setCell ⟨s,1,O⟩ (I J ((k:Int)+1))) (Y s):=iI;have hlt1:¬N<1:=by omega
 by_cases h0:n=0
 .subst h0;have m0:0<=((k:Int)*7)%N:=Int.emod_nonneg _ (by omega);have m1:((k:Int)*7)%N<N:=Fy _ (by omega);go_enter func28,ntmps28
  go_wp2;go_ret;exact⟨⟨_,m0,m1,rfl⟩,hS,hgr⟩
 .obtain⟨j,hj,hjn⟩:∃j:Nat,(k:Int)%(n:Int)=j/\j<n:=⟨k%n,by simp,Nat.mod_lt _ (by omega)⟩
  obtain⟨j',hj',hjn'⟩:∃j:Nat,((k:Int)+1)%(n:Int)=j/\j<n:=⟨(k+1)%n,by simp,Nat.mod_lt _ (by omega)⟩
  obtain⟨p,hp,hpk⟩:∃p:Nat,(k:Int) / (n:Int)=p/\p<=k:=⟨k / n,by simp,Nat.div_le_self _ _⟩
  obtain⟨b,off,rfl,hc⟩:=h.bytes.at hjn;obtain⟨b',off',hbo,hc'⟩:=h.bytes.at hjn';simp only[Af,Ap,Cn]at hbo;obtain⟨rfl,rfl⟩:=hbo;obtain⟨x0,x1⟩:=hb j;obtain⟨y0,y1⟩:=hb j';generalize zs.getD j 0=x at*;generalize zs.getD j' 0=y at*;have hfar:b≠s:=by have:=h.far (by omega) _ _ rfl;omega
  have hn0:((n:Int)==0)=F':=by simpa using h0
  have hn1:(n:Int)≠0:=by omega
  by_cases hN:200<N
  .have m0:0<=((x+(p:Int)*37)*251+y*13+k)%N:=Int.emod_nonneg _ (by omega);have m1:((x+(p:Int)*37)*251+y*13+k)%N<N:=Fy _ (by omega);go_enter func28,ntmps28
   go_wp2;go_quiet (fail)
   go_wp2;go_quiet (fail)
   go_wp2;go_ret;exact⟨⟨_,m0,m1,rfl⟩,hS.drewN _,bN6 hgr _⟩
  .have m0:0<=(x+(p:Int)*37)%N:=Int.emod_nonneg _ (by omega);have m1:(x+(p:Int)*37)%N<N:=Fy _ (by omega);go_enter func28,ntmps28
   go_wp2;go_quiet (fail)
   go_wp2;go_ret;exact⟨⟨_,m0,m1,rfl⟩,hS.drewN _,bN6 hgr _⟩
theorem mF(N:Int)(s:Nat)(a:Option Addr)(n cap k:Nat)(zs:List Int)(w:World)(h:Src w s a n cap k zs)(hb:IsB zs)(hn:n<=1048580)(hk:k<=1000)(h1:1<=N)(h2:N<=256):
  Calls prog 29 #[.pointer (Y ⟨s,0,O⟩),I J N] w fun e w'=>(∃v:Bool,e=R' (X v))/\Src w' s a n cap (k+1) zs/\w.grownBy w' (Y s):=by
 go_enter func29,ntmps29
 go_wp2_with fail
 refine(eD N s a n cap k zs w h hb hn hk h1 h2).mono ?_;rintro e w1⟨⟨v,v0,v1,rfl⟩,s1,g1⟩;go_wp2;go_ret;exact⟨⟨_,rfl⟩,s1,g1⟩
theorem rB{o:Nat}(h:w.grownBy w' row)(hb:w.heap.size<=b):w.grownBy (w'.setCell ⟨b,o,O⟩ v) row:=
 ⟨h.os,h.tape,h.output,by have:=h.size;simpa[World.setCell]using this,fun k hk hne=>(Bu _ _ _ _ (by show k≠b;omega)).trans (h.block k hk hne)⟩
theorem bC8(h:w.grownBy w' row):w.grownBy (w'.alloc o) row:=
 ⟨h.os,h.tape,h.output,by have:=h.size;simp;omega,fun k hk hne=>(Ex _ _ _ (by have:=h.size;omega)).trans (h.block k hk hne)⟩
theorem Src.set{o:Nat}(h:Src w s a n cap k zs)(hb:s<b):Src (w.setCell ⟨b,o,O⟩ v) s a n cap k zs:=
 h.below (B:=b) ((Aa _ _).setCell (p:=⟨b,o,O⟩) z' _) hb
theorem Src.new(h:Src w s a n cap k zs):Src (w.alloc o) s a n cap k zs:=
 h.below (B:=w.heap.size) ((Aa _ _).alloc z' _) h.lt
theorem cK0(a:Option Addr)(n cap:Nat)(zs:List Int)(w:World)(h:CellsAt w a n (bts zs)):
  Calls prog 26 #[Z a n cap] w fun e w'=>e=R' (.pointer (Y ⟨w.heap.size,0,O⟩))/\Src w' w.heap.size a n cap 0 zs/\V' w w':=by
 have b0:V' w (w.alloc (M #[Z a n cap,I J 0] 108)):=(Aa _ _).alloc z' _;go_enter func26,ntmps26
 go_wp2;go_ret;refine⟨rfl,⟨Ar w _,fun hn b off ha=>?_,h.below b0⟩,b0⟩;subst ha;obtain⟨b',off',hb,hc⟩:=h.at hn;simp only[Af,Ap,Cn]at hb;obtain⟨rfl,rfl⟩:=hb;exact aD hc
theorem dD5{w'':World}(h:w.grownBy w' row)(hb:Below w.heap.size w' w''):w.grownBy w'' row:=
 ⟨hb.os.trans h.os,hb.tape.trans h.tape,hb.output.trans h.output,Ak h.size hb.size,fun k hk hne=>(hb.block k hk).trans (h.block k hk hne)⟩
theorem cP5(a:Option Addr)(n cap:Nat)(w:World):
  Calls prog 5 #[Z a n cap] w fun e w'=>e=R' (X (decide ((1048576:Int)<n)))/\w'=w:=by
 go_enter func5,ntmps5
 go_wp2;go_ret;exact⟨rfl,rfl⟩
theorem qL(g m:Nat)(us:List Int)(s:Nat)(a:Option Addr)(n cap k:Nat)(zs:List Int)(w:World)(h:Src w s a n cap k zs)(hb:IsB zs)(hn:n<=1048580)(hk:k<=1000)
  (hg:w.heap[g]? =Y (M (us.map (I J)).toArray 2 (0,0))) (hs:g≠s) (hm:us.length=m) (h1:1<=m) (h2:m<=256):
  Calls prog 85 #[.pointer (Y ⟨s,0,O⟩),Z (Y ⟨g,0,O⟩) m m] w fun e w'=>(∃v:Int,v∈us/\e=R' (I J v))/\Src w' s a n cap (k+1) zs/\w.grownBy w' (Y s):=by
 go_enter func85,ntmps85
 go_wp2_with fail
 refine(eD (m:Int) s a n cap k zs w h hb hn hk (by omega) (by omega)).mono ?_;rintro e w1⟨⟨v,v0,v1,rfl⟩,s1,g1⟩;obtain⟨j,rfl⟩:∃j:Nat,v=(j:Int):=⟨v.toNat,by omega⟩
 have hj:j<us.length:=by omega
 have q:=bS g1 hg (by simp;omega);have q0:w1.cell? ⟨g,j,O⟩=Y (I J us[j]):=by rw[C' q];simp[hj]
 have hmem:us[j]∈us:=Ce hj;generalize us[j]=x at*;go_wp2;go_ret;exact⟨⟨x,hmem,rfl⟩,s1,g1⟩
theorem OwnV.grownN(h:OwnV w B v n vs ls)(hg:w.grownBy w' row)(h1:∀g,v.ownBlock=Y g->row≠Y g)(h2:∀(i:Nat) (x:Value) (g:Nat),vs[i]? =Y x->x.ownBlock=Y g->row≠Y g):OwnV w' B v n vs ls:=by obtain⟨hl,ho,hi,hd,hd'⟩:=h;refine⟨hl,aN ho hg h1,fun i hlt=>?_,hd,hd'⟩;obtain⟨x,a,b⟩:=hi i hlt;exact⟨x,a,aN b hg (fun g hg=>h2 i x g a hg)⟩
theorem iC{u0 u1 u2 u3 u4 u5 u6 u7 u8 u9 u10 u11 u12 u13 u14:Value}(h:W.heap[g]? =Y (M #[u0,u1,u2,u3,u4,u5,u6,u7,u8,u9,u10,u11,u12,u13,u14] t (0,0))):
  W.cell? ⟨g,0,O⟩=Y u0/\W.cell? ⟨g,1,O⟩=Y u1/\W.cell? ⟨g,2,O⟩=Y u2/\W.cell? ⟨g,3,O⟩=Y u3/\W.cell? ⟨g,4,O⟩=Y u4/\W.cell? ⟨g,5,O⟩=Y u5/\W.cell? ⟨g,6,O⟩=Y u6/\W.cell? ⟨g,7,O⟩=Y u7/\W.cell? ⟨g,8,O⟩=Y u8/\W.cell? ⟨g,9,O⟩=Y u9/\W.cell? ⟨g,10,O⟩=Y u10/\W.cell? ⟨g,11,O⟩=Y u11/\W.cell? ⟨g,12,O⟩=Y u12/\W.cell? ⟨g,13,O⟩=Y u13/\W.cell? ⟨g,14,O⟩=Y u14/\∀i,W.frozen? ⟨g,i,O⟩=F':=
 ⟨C' h,C' h,C' h,C' h,C' h,C' h,C' h,C' h,C' h,C' h,C' h,C' h,C' h,C' h,C' h,fun i=>by simp[World.frozen?,h]⟩
theorem uW(w:World)(row:Option Nat):w.grownBy w row:=⟨rfl,rfl,rfl,z',fun _ _ _=>rfl⟩
theorem cM{o:Nat}(h:w.grownBy w' (Y s)):w.grownBy (w'.setCell ⟨s,o,O⟩ v) (Y s):=
 ⟨h.os,h.tape,h.output,by simpa[World.setCell]using h.size,fun k hk hne=>(Bu _ _ _ _ (by intro e;exact hne (by rw[e]))).trans (h.block k hk hne)⟩
theorem dF8(w:World)(B:Nat):OwnV w B (Z O 0 0) 0 [] []:=
 ⟨rfl,Aw _ _ _ _,fun i hi=>by omega,fun i j x y g _ hx=>by simp at hx,fun i x g hx=>by simp at hx⟩
theorem OwnV.base{B':Nat}(h:OwnV w B v n vs ls)(hb:B'<=B):OwnV w B' v n vs ls:=by obtain⟨hl,ho,hi,hd,hd'⟩:=h;refine⟨hl,aQ ho hb,fun i hlt=>?_,hd,hd'⟩;obtain⟨x,h1,h2⟩:=hi i hlt;exact⟨x,h1,aQ h2 hb⟩
theorem OwnV.store(h:OwnV w B v n vs ls){o:Nat}(hv:∀g,v.ownBlock=Y g->g≠p)(hx:∀(i:Nat) (x:Value) (g:Nat),vs[i]? =Y x->x.ownBlock=Y g->g≠p):OwnV (w.setCell ⟨p,o,O⟩ u) B v n vs ls:=by obtain⟨hl,ho,hi,hd,hd'⟩:=h;refine⟨hl,oY ho hv u,fun i hlt=>?_,hd,hd'⟩;obtain⟨x,h1,h2⟩:=hi i hlt;exact⟨x,h1,oY h2 (fun g hg=>hx i x g h1 hg) u⟩
end Go.Proofs.YtpbbokalojdooaaGreat
