import Derived.Test.YtpbbokalojdooaaGreatQau
namespace Go.Proofs.YtpbbokalojdooaaGreat
open Go.RowKit Ch Go.Proofs.Tryz
set_option linter.unusedSimpArgs false
set_option linter.unusedVariables false
set_option maxRecDepth 20000
set_option maxHeartbeats 8000000
open Value renaming int->I,slice->Z,bool->X,agg->U
open IntKind renaming i64->J
open Option renaming none->O,some->Y
open Obj renaming cells->M
open Ending renaming returned->R'
open Bool renaming true->A',false->F'
variable {a a0:Act} {K:Act->World->Prop} {ops:Array Oper} {xs:Array Operand} {t:Array TypeId} {Q:Exit->Act->World->Prop} {f:FuncId} {ky:Int} {L:List Nat} {rs:List Rec} {zs:List Row} {g i k:Nat} {T d:Nat->Nat} {vs:Nat->Value} {o:Oper} {x y:Operand} {E:Prop} {u v:Value} {W w w':World}
theorem bJ0(h:k<zs.length)(hk:((zs.getD k Row.zero).k !=ky)=A'):(zs.take (k+1)).filter (dQ ky)=(zs.take k).filter (dQ ky)++[zs.getD k Row.zero]:=by rw[tX zs k h,List.filter_append];have:dQ ky (zs.getD k Row.zero)=A':=hk;simp only[List.filter_cons,this,if_true,List.filter_nil]
theorem bW4(h:k<zs.length)(hk:((zs.getD k Row.zero).k !=ky)=F'):(zs.take (k+1)).filter (dQ ky)=(zs.take k).filter (dQ ky):=by rw[tX zs k h,List.filter_append];have:dQ ky (zs.getD k Row.zero)=F':=hk;simp only[List.filter_cons,this,List.filter_nil,if_neg (by simp:¬F'=A'),List.append_nil]
def aH2(zs:List Row)(ky:Int)(hs:Bool)(v:Int):List Row:=if hs then eF ⟨ky,v,F'⟩ zs else zs.filter (dQ ky)
theorem aF1(a:Option Addr)(n cap:Nat)(ky:Int)(hs:Bool)(v:Int)(zs:List Row)(w:World)(h:CellsAt w a (n*3) (rcells zs))(hn:n<=1048576):
  Calls prog 91 #[Z a n cap,I J ky,X hs,I J v] w fun e w'=>∃a' m c',e=R' (Z a' m c')/\w'.ownsRow w.heap.size 86 3 (Z a' m c') m (rcells (aH2 zs ky hs v))/\Below w.heap.size w w':=by
 have HL:=h.rlen;cases hs;rotate_left
 .have HE:Hid (aH2 zs ky A' v=eF ⟨ky,v,F'⟩ zs):=rfl;rw[HE.out];have IP:=fun W hW=>zU a n cap zs ky v F' W hW hn;go_enter func91,ntmps91
  go_wp2_with fail
  refine(IP _ h).mono ?_;rintro e w1⟨a',m,c',rfl,o1,b1⟩;clear IP;go_wp2;go_ret;exact⟨a',m,c',rfl,o1,b1⟩
 .have HE:Hid (aH2 zs ky F' v=zs.filter (dQ ky)):=rfl;rw[HE.out];obtain⟨i0,hi0,hz0,hz1,hz2⟩:=info_parts Tryz.info86;have oE:=lW w w.heap.size 86 3 z';have kE:=f' w (M #[] 86);go_enter func91,ntmps91
  go_wp2;go_loopw [9,10] (fun q i wr=>∃(k m:Nat) (a':Option Addr) (c':Nat),k<=n/\m<=k/\i=I J k/\q=Z a' m c'/\wr.ownsRow w.heap.size 86 3 (Z a' m c') m (rcells ((zs.take k).filter (dQ ky)))/\Below w.heap.size w wr) (fun _ i _=>n-(intOf i).toNat)
  case atStart=>exact⟨0,0,_,_,Nat.zero_le _,z',rfl,rfl,oE,kE⟩
  case round=>
   clear oE kE;obtain⟨k,m,a',c',hk,hmk,rfl,rfl,own,hB⟩:=hrel;by_cases hlt:k<n
   .have hkl:k<zs.length:=by have:=HL.out;omega
    have HY:=hid (fun h1=>bJ0 (ky:=ky) hkl h1);have HN:=hid (fun h1=>bW4 (ky:=ky) hkl h1);obtain⟨b,off,rfl,q0,q1,q2⟩:=(h.below hB).row hlt;have hbl:=aD q0;generalize zs.getD k Row.zero=r at*;obtain⟨rk,rv,rg⟩:=r;simp only at q0 q1 q2 HY HN;generalize(zs.take k).filter (dQ ky)=ys at*;have hsum:m+1<=4194304:=by omega
    cases e1:(rk !=ky)
    .replace HN:=hid (HN.out e1);clear HY;go_wp2;go_roundw;case rel=>exact⟨k+1,m,a',c',by omega,by omega,by go_num,rfl,by rw[HN.out];exact own,hB⟩
     case measure=>simp[intOf];omega
    .replace HY:=hid (HY.out e1);clear HN;have kQ:=f' wr (M #[I J rk,I J rv,X rg] 86);have own3:=aF own kQ;have hC3:=bM8 wr rk rv rg 86;have hb3:w.heap.size<=(wr.alloc (M #[I J rk,I J rv,X rg] 86)).heap.size:=by have:=hB.size;simp;omega
     have b3:=hB.trans (kQ.mono hB.size);go_wp2_with(at_builtin;go_must (refine bK underlying24 underlying24 hi0 hz0 hz1 hz2 rfl (by omega) (by omega) (.tmp 31) (.tmp 36) ?_ ?_ w.heap.size (Z a' m c') m (rcells ys) _ 1 1 (rcells [⟨rk,rv,rg⟩]) ?_ ?_ own3 hC3 (uZ _) hsum hb3 ?_;exact rfl;exact rfl;exact rfl;exact rfl;intro a5 c5 w5 own5 gr5 at5;go_frame))
     go_roundw;case rel=>rw[<-uY,<-HY.out]at own5;exact⟨k+1,m+1,a5,c5,by omega,by omega,by go_num,rfl,own5,b3.grown gr5 b3.size (fun g hg=>(aG own3 g hg).1)⟩
     case measure=>simp[intOf];omega
   .obtain rfl:k=n:=by omega
    have HWF:Hid (zs.take k=zs):=by have:=HL.out;show _=_;rw[this];exact List.take_length
    rw[HWF.out]at own;go_wp2;go_ret;exact⟨a',m,c',rfl,own,hB⟩
def Ch.bkL(b:Int->Int):List Int:=(List.range 1000).map (fun i:Nat=>b i)
theorem aI4(b:Int->Int):(bkL b).length=1000:=by simp[bkL]
theorem aI5(b:Int->Int)(h:i<1000)(v:Int):(bkL b).set i v=bkL (fun t=>if t=i then v else b t):=by
 apply List.ext_getElem?;intro q;simp only[bkL,List.getElem?_set,List.getElem?_map,List.length_map,List.length_range];by_cases hq:q<1000
 .rw[List.getElem?_range hq];by_cases e:i=q
  .subst e;simp[hq]
  .have:¬((q:Int)=(i:Int)):=by omega
   simp[e,this]
 .rw[List.getElem?_eq_none (by simp;omega)];have:i≠q:=by omega
  simp[this]
theorem cP3(n:Nat):(madeCells (I J 0).cells (n*1)).toList=icells (List.replicate n 0):=by
 apply List.ext_getElem?;intro j;by_cases hj:j<n
 .simp[madeCells,icells,Value.cells,hj,Nat.mod_one]
 .rw[List.getElem?_eq_none (by simp[madeCells];omega),List.getElem?_eq_none (by simp[icells];omega)]
theorem bM4(n:Nat):(List.range n).map (fun _:Nat=>(0:Int))=List.replicate n 0:=by rw[List.eq_replicate_iff];simp
theorem bI0:bkL (fun _=>0)=List.replicate 1000 0:=bM4 1000
theorem bV1(hk:k<rs.length)(h:(rs.getD k Rec.zero).kd=3):(fun t=>(bP (rs.take (k+1)) t).bk)=fun t=>if t=(rs.getD k Rec.zero).tx then(bP (rs.take k) (rs.getD k Rec.zero).tx).bk+1 else(bP (rs.take k) t).bk:=by
 funext t
 by_cases e:t=(rs.getD k Rec.zero).tx
 .rw[if_pos e,e,uB hk,aG5,if_pos h]
 .rw[if_neg e,sC hk e]
theorem bV2(hk:k<rs.length)(h:(rs.getD k Rec.zero).kd≠3):(fun t=>(bP (rs.take (k+1)) t).bk)=fun t=>(bP (rs.take k) t).bk:=by
 funext t
 by_cases e:t=(rs.getD k Rec.zero).tx
 .rw[e,uB hk,aG5,if_neg h];omega
 .rw[sC hk e]
theorem cL5(a:Option Addr)(n cap:Nat)(rs:List Rec)(w:World)(h:CellsAt w a (n*7) (rc7 rs))(hn:n<=800)(hf:∀k,k<rs.length->(rs.getD k Rec.zero).fault=0):
  Calls prog 116 #[Z a n cap] w fun e w'=>e=R' (Z (Y ⟨w.heap.size,0,O⟩) 1000 1000)/\w'.ownsRow w.heap.size 2 1 (Z (Y ⟨w.heap.size,0,O⟩) 1000 1000) 1000 (icells (bkL (fun t=>(bP rs t).bk)))/\Below w.heap.size w w':=by
 have HL:=h.len7;have HF:=hid hf;clear hf;obtain⟨i0,hi,hz0,hz1,hz2⟩:=info_parts Tryz.info2;go_enter func116,ntmps116
 go_wp2_with(at_make;refine wpList_make_full _ rfl _ _ 27 rfl w.heap.size 2 i0 (I J 0) 1 underlying27 hi hz0 hz1 J J _ _ 1000 rfl rfl rfl rfl (by rw[hz2];omega) (by unfold maxLen;omega) z' ?_;intro w0 hown0 hgrow0)
 have hB0:Below w.heap.size w w0:=u'.grown hgrow0 z' (by simp);rw[cP3,<-bI0]at hown0;go_loopw [4] (fun i wr=>∃k:Nat,k<=n/\i=I J k/\wr.ownsRow w.heap.size 2 1 (Z (Y ⟨w.heap.size,0,O⟩) 1000 1000) 1000 (icells (bkL (fun t=>(bP (rs.take k) t).bk)))/\Below w.heap.size w wr) (fun i _=>n-(intOf i).toNat)
 case atStart=>exact⟨0,Nat.zero_le _,rfl,hown0,hB0⟩
 case round=>
  clear hown0 hgrow0 hB0;obtain⟨k,hk,rfl,own,hB⟩:=hrel;by_cases hlt:k<n
  .have hkl:k<rs.length:=by have:=HL.out;omega
   have HT:=hid (Rec.fit (HF.out k hkl)).tx;have HY:=hid (fun h1=>bV1 (rs:=rs) hkl h1);have HN:=hid (fun h1=>bV2 (rs:=rs) hkl h1);have HBK:=hid (fun t=>uA (rs.take k) t);have HTL:Hid ((rs.take k).length<=k):=by show _<=_;simp;omega
   obtain⟨b,off,rfl,q0,q1,q2,q3,q4,q5,q6⟩:=(h.below hB).rec hlt;have hbl:=aD q0;generalize rs.getD k Rec.zero=r at*;obtain⟨kd,tx,ky,hd,ol,hs,nw⟩:=r;simp only at q0 q1 q2 q3 q4 q5 q6 HY HN;by_cases h3:kd=3;rotate_left
   .have e1:(kd==3)=F':=by simpa using h3
    replace HN:=hid (HN.out h3);clear HY h3;go_wp2;go_roundw;case rel=>exact⟨k+1,by omega,by go_num,by rw[HN.out];exact own,hB⟩
    case measure=>simp[intOf];omega
   .subst h3;replace HY:=hid (HY.out rfl);clear HN;obtain⟨t,rfl⟩:∃t:Nat,tx=t:=⟨tx.toNat,by have:=HT.out;simp only at this;omega⟩
    have ht:t<1000:=by have:=HT.out;simp only at this;omega
    have hbt:Hid (0<=(bP (rs.take k) (t:Int)).bk/\(bP (rs.take k) (t:Int)).bk<=800):=by have h1:=HBK.out t;have h2:=HTL.out;show _/\_;omega
    have c0:=own.cellAt t (by simp[pQ,aI4];omega);have f0:=own.frozenAt t;have hst:=own.stored t (I J ((bP (rs.take k) (t:Int)).bk+1));rw[sP,aI5 _ ht,<-HY.out]at hst;have e0:(icells (bkL (fun t=>(bP (rs.take k) t).bk)))[t]? =Y (I J (bP (rs.take k) (t:Int)).bk):=by simp[icells,bkL,ht]
    rw[e0]at c0;clear HY HBK HTL e0;generalize(bP (rs.take k) (t:Int)).bk=fn at*;have hfn:0<=fn/\fn<=800:=hbt.out;go_wp2;go_roundw;case rel=>exact⟨k+1,by omega,by go_num,hst.1,hB.grown hst.2 hB.size (fun j hj=>by cases hj;exact z')⟩
    case measure=>simp[intOf];omega
  .obtain rfl:k=n:=by omega
   have HWF:Hid (rs.take k=rs):=by have:=HL.out;show _=_;rw[this];exact List.take_length
   rw[HWF.out]at own;go_wp2;go_ret;exact⟨rfl,own,hB⟩
theorem dY(d:Nat->Nat)(vs:Nat->Value)(x:Nat):∀(E:List Nat) (a0:Act),(E.all fun j=>d j !=x)=A'->(dV a0 d E vs).eval (.tmp x)=a0.eval (.tmp x):=by
 intro E;induction E with
 |nil=>intro a0 _;rfl
 |cons j E ih=>intro a0 h;simp only[List.all_cons,Bool.and_eq_true]at h;show(dV (a0.put (Y (d j)) (vs j)) d E vs).eval (.tmp x)=_;rw[ih _ h.2];exact Act.eval_put_ne a0 (d j) x (vs j) (by simpa using h.1)
theorem mH(d:Nat->Nat)(vs:Nat->Value)(i:Nat):∀(E:List Nat) (a0:Act),(E.all fun j=>E.all fun k=>d j !=d k||j==k)=A'->E.Nodup->i∈E->(decide (d i<a0.tmps.size))=A'->(dV a0 d E vs).eval (.tmp (d i))=vs i:=by
 intro E;induction E with
 |nil=>intro a0 _ _ h;cases h
 |cons j E ih=>
  intro a0 hd hn hi hs;have hn':=List.nodup_cons.1 hn;have hd':∀k∈E,d j≠d k:=by intro k hk he;have:=List.all_eq_true.1 (List.all_eq_true.1 hd j List.mem_cons_self) k (List.mem_cons_of_mem _ hk);simp only[he,bne_self_eq_false,Bool.false_or,beq_iff_eq]at this;subst this;exact hn'.1 hk
  show(dV (a0.put (Y (d j)) (vs j)) d E vs).eval (.tmp (d i))=vs i;by_cases hij:j=i
  .subst hij;rw[dY d vs (d j) E _ (List.all_eq_true.2 fun k hk=>by simpa using fun he=>hd' k hk he.symm)];exact Act.eval_put_same _ _ _ (by simpa using hs)
  .rcases List.mem_cons.1 hi with h|h
   .exact absurd h.symm hij
   .refine ih _ ?_ hn'.2 h (by rw[Act.size_put];exact hs);refine List.all_eq_true.2 fun a ha=>List.all_eq_true.2 fun b hb=>?_;exact List.all_eq_true.1 (List.all_eq_true.1 hd a (List.mem_cons_of_mem _ ha)) b (List.mem_cons_of_mem _ hb)
theorem tF
  (ho:o.op= .call {callee:=.value (.func f),args:=#[x],argTypes:=t}) (hgd:o.guard=O) (hx:a.eval x=v) (hcf:(callFunc f #[v]).run prog w= .ok (.enter f #[v]) w)
  (hc:Calls prog f #[v] w fun e w'=>∃u,e=R' u/\K (a.put o.dst u) w'):
  if Region.wanted o (yielded ops a.tmps)=A' then Oper.wp prog o a w K Q else E:=by
 have hw:Region.wanted o (yielded ops a.tmps)=A':=by simp[Region.wanted,hgd]
 rw[if_pos hw];unfold Oper.wp;have hf:a.eval (.func f)= .func (.func f) #[] #[]:=rfl;simp[execOp,ho,resolve,invoke,hx,hf,Deferred.ofValue,hcf,Oper.upon];refine hc.mono ?_;rintro e w'⟨u,rfl,h⟩;exact h
theorem qB{vs:Array Value}
  (ho:o.op= .call {callee:=.value (.func f),args:=xs,argTypes:=t}) (hgd:o.guard=O) (hx:xs.map a.eval=vs) (hcf:(callFunc f vs).run prog w= .ok (.enter f vs) w)
  (hc:Calls prog f vs w fun e w'=>∃u,e=R' u/\K (a.put o.dst u) w'):
  if Region.wanted o (yielded ops a.tmps)=A' then Oper.wp prog o a w K Q else E:=by
 have hw:Region.wanted o (yielded ops a.tmps)=A':=by simp[Region.wanted,hgd]
 rw[if_pos hw];unfold Oper.wp;have hf:a.eval (.func f)= .func (.func f) #[] #[]:=rfl;simp[execOp,ho,resolve,invoke,hx,hf,Deferred.ofValue,hcf,Oper.upon];refine hc.mono ?_;rintro e w'⟨u,rfl,h⟩;exact h
theorem dG6(h1:a.eval x=u)(h2:a.eval y=v):(#[x,y]:Array Operand).map a.eval=#[u,v]:=by simp[h1,h2]
theorem dI6{z:Operand}{r:Value}(h1:a.eval x=u)(h2:a.eval y=v)(h3:a.eval z=r):(#[x,y,z]:Array Operand).map a.eval=#[u,v,r]:=by simp[h1,h2,h3]
theorem vK(hinj:(L.all fun j=>L.all fun k=>d j !=d k||j==k)=A')(hnd:L.Nodup)
  (hsz:(L.all fun i=>decide (d i<a0.tmps.size))=A') (hgd:o.guard=O)
  (hr:∀ev:Operand->Value,(∀i,L.contains i=A'->ev (.tmp (d i))=vs i)->(∀x,(L.all fun j=>d j !=x)=A'->ev (.tmp x)=a0.eval (.tmp x))->(execOp ev o).run prog w= .ok (.value v) w)
  (hK:K ((dV a0 d L vs).put o.dst v) w):
  if Region.wanted o (yielded ops (dV a0 d L vs).tmps)=A' then Oper.wp prog o (dV a0 d L vs) w K Q else E:=by
 have hw:Region.wanted o (yielded ops (dV a0 d L vs).tmps)=A':=by simp[Region.wanted,hgd]
 rw[if_pos hw];unfold Oper.wp;rw[hr _ (fun i hi=>mH d vs i L a0 hinj hnd (by simpa using hi) (List.all_eq_true.1 hsz i (by simpa using hi))) (fun x hx=>dY d vs x L a0 hx)];exact hK
theorem cF9(hinj:(L.all fun j=>L.all fun k=>d j !=d k||j==k)=A')(hnd:L.Nodup)
  (hsz:(L.all fun i=>decide (d i<a0.tmps.size))=A') (hgd:o.guard=O)
  (hr:∀ev:Operand->Value,(∀i,L.contains i=A'->ev (.tmp (d i))=vs i)->(∀x,(L.all fun j=>d j !=x)=A'->ev (.tmp x)=a0.eval (.tmp x))->(execOp ev o).run prog w= .ok .skip w')
  (hK:K ((dV a0 d L vs).put o.dst undef) w'):
  if Region.wanted o (yielded ops (dV a0 d L vs).tmps)=A' then Oper.wp prog o (dV a0 d L vs) w K Q else E:=by
 have hw:Region.wanted o (yielded ops (dV a0 d L vs).tmps)=A':=by simp[Region.wanted,hgd]
 rw[if_pos hw];unfold Oper.wp;rw[hr _ (fun i hi=>mH d vs i L a0 hinj hnd (by simpa using hi) (List.all_eq_true.1 hsz i (by simpa using hi))) (fun x hx=>dY d vs x L a0 hx)];exact hK
theorem kD(o:Oper)(v:Value)(ho:ops[i]? =Y o)(hinj:(L.all fun j=>L.all fun k=>d j !=d k||j==k)=A')(hnd:L.Nodup)
  (hsz:(L.all fun i=>decide (d i<a0.tmps.size))=A') (hgd:o.guard=O)
  (hr:∀ev:Operand->Value,(∀i,L.contains i=A'->ev (.tmp (d i))=vs i)->(∀x,(L.all fun j=>d j !=x)=A'->ev (.tmp x)=a0.eval (.tmp x))->(execOp ev o).run prog w= .ok (.value v) w)
  (hK:K ((dV a0 d L vs).put o.dst v) w):wpOp prog ops Q i K (dV a0 d L vs) w:=
 wpOp_step ho fun _ hK'=>vK hinj hnd hsz hgd hr (hK' _ _ hK)
theorem vZ(o:Oper)(v:Value)(w':World)(ho:ops[i]? =Y o)(hinj:(L.all fun j=>L.all fun k=>d j !=d k||j==k)=A')(hnd:L.Nodup)
  (hsz:(L.all fun i=>decide (d i<a0.tmps.size))=A') (hgd:o.guard=O)
  (hr:∀ev:Operand->Value,(∀i,L.contains i=A'->ev (.tmp (d i))=vs i)->(∀x,(L.all fun j=>d j !=x)=A'->ev (.tmp x)=a0.eval (.tmp x))->(execOp ev o).run prog w= .ok (.value v) w')
  (hK:K ((dV a0 d L vs).put o.dst v) w'):wpOp prog ops Q i K (dV a0 d L vs) w:=by
 refine wpOp_step ho fun K' hK'=>?_;have hw:Region.wanted o (yielded ops (dV a0 d L vs).tmps)=A':=by simp[Region.wanted,hgd]
 rw[if_pos hw];unfold Oper.wp;rw[hr _ (fun i hi=>mH d vs i L a0 hinj hnd (by simpa using hi) (List.all_eq_true.1 hsz i (by simpa using hi))) (fun x hx=>dY d vs x L a0 hx)];exact hK' _ _ hK
theorem tI(o:Oper)(w':World)(ho:ops[i]? =Y o)(hinj:(L.all fun j=>L.all fun k=>d j !=d k||j==k)=A')(hnd:L.Nodup)
  (hsz:(L.all fun i=>decide (d i<a0.tmps.size))=A') (hgd:o.guard=O)
  (hr:∀ev:Operand->Value,(∀i,L.contains i=A'->ev (.tmp (d i))=vs i)->(∀x,(L.all fun j=>d j !=x)=A'->ev (.tmp x)=a0.eval (.tmp x))->(execOp ev o).run prog w= .ok .skip w')
  (hK:K ((dV a0 d L vs).put o.dst undef) w'):wpOp prog ops Q i K (dV a0 d L vs) w:=
 wpOp_step ho fun _ hK'=>cF9 hinj hnd hsz hgd hr (hK' _ _ hK)
theorem bO1{t:TypeId}{u0 u1 u2 u3 u4 u5 u6 u7 u8 u9:Value}(v0 v1 v2 v3 v4 v5 v6 v7 v8 v9:Value)(h:W.heap[g]? =Y (M #[u0,u1,u2,u3,u4,u5,u6,u7,u8,u9] t (0,0))):
  ((((((((((W.setCell ⟨g,0,O⟩ v0).setCell ⟨g,1,O⟩ v1).setCell ⟨g,2,O⟩ v2).setCell ⟨g,3,O⟩ v3).setCell ⟨g,4,O⟩ v4).setCell ⟨g,5,O⟩ v5).setCell ⟨g,6,O⟩ v6).setCell ⟨g,7,O⟩ v7).setCell ⟨g,8,O⟩ v8).setCell ⟨g,9,O⟩ v9).heap[g]? =Y (M #[v0,v1,v2,v3,v4,v5,v6,v7,v8,v9] t (0,0))/\W.grownBy ((((((((((W.setCell ⟨g,0,O⟩ v0).setCell ⟨g,1,O⟩ v1).setCell ⟨g,2,O⟩ v2).setCell ⟨g,3,O⟩ v3).setCell ⟨g,4,O⟩ v4).setCell ⟨g,5,O⟩ v5).setCell ⟨g,6,O⟩ v6).setCell ⟨g,7,O⟩ v7).setCell ⟨g,8,O⟩ v8).setCell ⟨g,9,O⟩ v9) (Y g):=by
 have h0:=heap_setCell_same _ g 0 _ t v0 h;rw[show(#[u0,u1,u2,u3,u4,u5,u6,u7,u8,u9]:Array Value).setIfInBounds 0 v0=#[v0,u1,u2,u3,u4,u5,u6,u7,u8,u9]from rfl]at h0;have h1:=heap_setCell_same _ g 1 _ t v1 h0;rw[show(#[v0,u1,u2,u3,u4,u5,u6,u7,u8,u9]:Array Value).setIfInBounds 1 v1=#[v0,v1,u2,u3,u4,u5,u6,u7,u8,u9]from rfl]at h1;have h2:=heap_setCell_same _ g 2 _ t v2 h1;rw[show(#[v0,v1,u2,u3,u4,u5,u6,u7,u8,u9]:Array Value).setIfInBounds 2 v2=#[v0,v1,v2,u3,u4,u5,u6,u7,u8,u9]from rfl]at h2;have h3:=heap_setCell_same _ g 3 _ t v3 h2;rw[show(#[v0,v1,v2,u3,u4,u5,u6,u7,u8,u9]:Array Value).setIfInBounds 3 v3=#[v0,v1,v2,v3,u4,u5,u6,u7,u8,u9]from rfl]at h3;have h4:=heap_setCell_same _ g 4 _ t v4 h3;rw[show(#[v0,v1,v2,v3,u4,u5,u6,u7,u8,u9]:Array Value).setIfInBounds 4 v4=#[v0,v1,v2,v3,v4,u5,u6,u7,u8,u9]from rfl]at h4;have h5:=heap_setCell_same _ g 5 _ t v5 h4;rw[show(#[v0,v1,v2,v3,v4,u5,u6,u7,u8,u9]:Array Value).setIfInBounds 5 v5=#[v0,v1,v2,v3,v4,v5,u6,u7,u8,u9]from rfl]at h5;have h6:=heap_setCell_same _ g 6 _ t v6 h5;rw[show(#[v0,v1,v2,v3,v4,v5,u6,u7,u8,u9]:Array Value).setIfInBounds 6 v6=#[v0,v1,v2,v3,v4,v5,v6,u7,u8,u9]from rfl]at h6;have h7:=heap_setCell_same _ g 7 _ t v7 h6;rw[show(#[v0,v1,v2,v3,v4,v5,v6,u7,u8,u9]:Array Value).setIfInBounds 7 v7=#[v0,v1,v2,v3,v4,v5,v6,v7,u8,u9]from rfl]at h7;have h8:=heap_setCell_same _ g 8 _ t v8 h7;rw[show(#[v0,v1,v2,v3,v4,v5,v6,v7,u8,u9]:Array Value).setIfInBounds 8 v8=#[v0,v1,v2,v3,v4,v5,v6,v7,v8,u9]from rfl]at h8;have h9:=heap_setCell_same _ g 9 _ t v9 h8;rw[show(#[v0,v1,v2,v3,v4,v5,v6,v7,v8,u9]:Array Value).setIfInBounds 9 v9=#[v0,v1,v2,v3,v4,v5,v6,v7,v8,v9]from rfl]at h9;exact⟨h9,cN (cN (cN (cN (cN (cN (cN (cN (cN nI))))))))⟩
theorem iW(hg:w.grownBy w' (Y g)){j:Nat}(hr:T g=j)(hk:k≠j):Kp k T T w w':=by intro x hx ht;refine⟨hg.block x hx fun he=>hk ?_,ht⟩;simp only[Option.some.injEq]at he;subst he;omega
end Go.Proofs.YtpbbokalojdooaaGreat
