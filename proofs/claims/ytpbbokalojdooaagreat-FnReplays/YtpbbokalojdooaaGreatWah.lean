import Derived.Test.YtpbbokalojdooaaGreatWag
namespace Go.Proofs.YtpbbokalojdooaaGreat
open Go.RowKit Ch Go.Proofs.Tryz
set_option linter.unusedSimpArgs false
set_option linter.unusedVariables false
set_option maxRecDepth 20000
set_option maxHeartbeats 8000000
open Value renaming int->I,slice->Z,bool->X,agg->U
open IntKind renaming i64->J
open Option renaming none->O,some->Y
open Obj renaming cells->M
open Ending renaming returned->R'
open Bool renaming true->A',false->F'
variable {ops:Array Oper} {Q:Exit->Act->World->Prop} {r:Int} {cyc sys:List Int} {ls:List Lock} {rest:List Oper} {k:Nat} {w:World}
theorem oM(a b:List Row):rcells (a++b)=rcells a++rcells b:=by simp[rcells]
theorem aO6(rs:List Row):∀u∈rcells rs,u.oneCell'=A':=by intro u hu;simp only[rcells,Cf,Am,Cu,Eh]at hu;obtain⟨r,_,rfl|rfl|rfl⟩:=hu<;>rfl
theorem fC{o:Oper}{a:Act}(s x:Operand)
  (B:Nat) (v:Value) (n:Nat) (rs:List Row) (m:Nat) (zs:List Row) (hm:n+m<=2097152)
  (ho:o.op= .call {callee:=.builtin .append,args:=#[s,x],argTypes:=#[24,24]}) (hgd:o.guard=O)
  (hs:a.eval s=v) (hx:∃ad c,a.eval x=Z (Y ad) m c/\CellsAt w (Y ad) (m*3) (rcells zs))
  (hown:w.ownsRow B 86 3 v n (rcells rs)) (hbase:B<=w.heap.size)
  (hK:∀a' c' w',w'.ownsRow B 86 3 (Z a' (n+m) c') (n+m) (rcells (rs++zs))->Below B w w'->wpList prog ops Q rest (a.put o.dst (Z a' (n+m) c')) w'):
  wpList prog ops Q (o::rest) a w:=by
 obtain⟨ad,c,hx,hc⟩:=hx;obtain⟨i0,hi,hz0,hz1,hz2⟩:=Bz Tryz.info86;refine wpList_append_own w hgd s x 24 ho B 86 i0 _ 3 24 underlying24 hi hz0 hz1 hz2 rfl (by omega) v n (rcells rs) hs hown ad m c (rcells zs) hx hc.1 ?_ (aO6 zs) (by unfold maxLen;omega) (by omega) hbase ?_
 .intro j u hj;have hjl:j<(rcells zs).length:=(Di.1 hj).1;have hl:=hc.1;obtain⟨b,off,ha,hcc⟩:=hc.2 (by omega);simp only[Af]at ha;subst ha;have e:(⟨b,off,O⟩:Addr).add j=⟨b,off+j,O⟩:=by
   unfold Addr.add;split
   .next h0=>subst h0;rfl
   .rfl
  rw[e,hcc j (by omega),hj]
 .intro v' w' hown' hgrow _;rw[<-oM]at hown';obtain⟨a',c',rfl⟩:=dT hown';refine hK a' c' w' hown' ((Aa _ _).grown hgrow hbase (fun k hk=>?_));rcases hown.2 with⟨hv,_⟩|⟨g,cap',cur,hv,hb,_⟩
  .subst hv;simp[Value.ownBlock]at hk
  .subst hv;simp[Value.ownBlock]at hk;omega
theorem kH(w:World)(B:Nat)(hB:B<=w.heap.size):(w.alloc (M #[] 86)).ownsRow B 86 3 (Z (Y ⟨w.heap.size,0,O⟩) 0 0) 0 (rcells []):=
 Cr w #[] 0 hB (by unfold maxLen;omega) rfl
theorem bC5(ls:List (List Row))(k:Nat)(h:k<ls.length):(ls.take (k+1)).flatten=(ls.take k).flatten++ls.getD k []:=by rw[bZ ls [] k h];simp
theorem bN3(ls:List (List Row)):ls.flatten.length=(ls.map List.length).sum:=by simp[List.length_flatten]
theorem oJ{ls:List (List Row)}(hs:aW ls<=1048576)(k:Nat):(ls.take k).flatten.length<=1048576:=by have:=bQ5 ls k;rw[bN3];unfold aW at hs;omega
theorem tN(a:Option Addr)(n cap:Nat)(ls:List (List Row))(w:World)(h:LvAt w a n ls)(hs:aW ls<=1048576)(hg:∀k,k<n->(ls.getD k []).length≠0):
  Calls prog 197 #[Z a n cap] w fun e w'=>∃a' c',e=R' (Z a' ls.flatten.length c')/\w'.ownsRow w.heap.size 86 3 (Z a' ls.flatten.length c') ls.flatten.length (rcells ls.flatten)/\V' w w':=by
 have HL:=h.len;have hn:n<=1048576:=by unfold aW at hs;have:=HL.out;omega
 have o0:=kH w w.heap.size z';go_enter func197,ntmps197
 go_wp2;go_loopw [3,4] (fun q i wr=>∃(k m:Nat) (a':Option Addr) (c':Nat),k<=n/\i=I J k/\q=Z a' m c'/\Hid (m=(ls.take k).flatten.length)/\wr.ownsRow w.heap.size 86 3 (Z a' m c') m (rcells (ls.take k).flatten)/\V' w wr) (fun _ i _=>n-(intOf i).toNat)
 case atStart=>exact⟨0,0,_,_,Ad _,rfl,rfl,rfl,by simpa using o0,(Aa _ _).alloc z' _⟩
 case round=>
  obtain⟨k,m,a',c',hk,rfl,rfl,HM,own,hB⟩:=hrel;by_cases hlt:k<n
  .have HS:=hid (fI hs k);have HF:=hid (bC5 ls k (by have:=HL.out;omega));have HZ:=hid (oJ hs k);have hg0:=hg k hlt;obtain⟨b,off,ai,ni,ci,rfl,hc,hr,hni⟩:=(h.below hB).leaf hlt;have HRl:=hr.rlen;obtain⟨b1,o1,rfl,_⟩:=hr.row (k:=0) (by have:=HRl.out;omega);have hsum:m+ni<=2097152:=by have:=HZ.out;have:=HM.out;have:=HS.out;have:=HRl.out;omega
   generalize ls.getD k []=l at*;generalize(ls.take k).flatten=F at*;go_wp2_with(at_builtin;go_must (refine fC (.tmp 12) (.tmp 17) w.heap.size (Z a' m c') m F ni l hsum ?_ ?_ ?_ ?_ ?_ ?_ ?_;exact rfl;exact rfl;exact rfl;exact⟨_,_,rfl,hr⟩;exact own;exact hB.size;intro a3 c3 w3 own3 b3))
   go_roundw;case rel=>exact⟨k+1,m+ni,a3,c3,by omega,by go_num,rfl,(by show _=_;rw[HF.out];have h1:=HM.out;have h2:=HRl.out;simp;omega),by rw[HF.out];exact own3,hB.trans b3⟩
   case measure=>simp[intOf];omega
  .obtain rfl:k=n:=by omega
   go_wp2;go_ret;have e1:=HL.out;have e2:=HM.out;rw[Bb (by omega)]at own e2;subst e2;exact⟨a',c',rfl,own,hB⟩
theorem dJ9(k a b v k' a' b' v':Int)(w:World):
  (Op.equalIn 10000 54 (U #[I J k,I J a,I J b,I J v]) (U #[I J k',I J a',I J b',I J v'])).run prog w= .ok (k==k'&&a==a'&&b==b'&&v==v') w:=by
 have hS:prog.underlying 54=Y (.struct (prog.fieldsOf 54)):=by kernel_rfl
 have hp:prog.stoodInHeld 54=F':=by kernel_rfl
 have u2:=underlying2;have a2:=isAgg2;have z2:=sizeOf2;rw[show(10000:Nat)=9999+1 from rfl,run_equalIn_agg w 9999 54 _ _ hS hp];simp only[Program.fieldsOf,underlying54];go_simp;by_cases h1:k=k'<;>by_cases h2:a=a'<;>by_cases h3:b=b'<;>by_cases h4:v=v'<;>simp[h1,h2,h3,h4]
theorem gD(k a b v k' a' b' v':Int)(w:World):
  (binOp .neq 54 (U #[I J k,I J a,I J b,I J v]) (U #[I J k',I J a',I J b',I J v'])).run prog w= .ok (X (!(k==k'&&a==a'&&b==b'&&v==v'))) w:=by
 rw[run_neq_struct,dJ9];rfl
theorem bF1(a b v:Int)(w:World):
  Calls prog 94 #[U #[I J 1,I J a,I J b,I J v]] w fun e w'=>e=R' (.iface 187 (U #[I J a]))/\V' w w':=by
 go_enter func94,ntmps94
 go_wp2;go_ret;exact⟨rfl,(Aa _ _).alloc z' _⟩
theorem bF2(a b v:Int)(w:World):
  Calls prog 94 #[U #[I J 2,I J a,I J b,I J v]] w fun e w'=>e=R' (.iface 189 (U #[I J a,I J v]))/\V' w w':=by
 go_enter func94,ntmps94
 go_wp2;go_ret;exact⟨rfl,(Aa _ _).alloc z' _⟩
theorem bF4(a b v:Int)(w:World):
  Calls prog 94 #[U #[I J 3,I J a,I J b,I J v]] w fun e w'=>e=R' (.iface 190 (U #[I J a]))/\V' w w':=by
 go_enter func94,ntmps94
 go_wp2;go_ret;exact⟨rfl,(Aa _ _).alloc z' _⟩
theorem bF5(a b v:Int)(w:World):
  Calls prog 94 #[U #[I J 4,I J a,I J b,I J v]] w fun e w'=>e=R' (.iface 192 (U #[I J a,I J b]))/\V' w w':=by
 go_enter func94,ntmps94
 go_wp2;go_ret;exact⟨rfl,(Aa _ _).alloc z' _⟩
theorem bF6(a b v:Int)(w:World):
  Calls prog 94 #[U #[I J 5,I J a,I J b,I J v]] w fun e w'=>e=R' (.iface 194 (U #[I J v]))/\V' w w':=by
 go_enter func94,ntmps94
 go_wp2;go_ret;exact⟨rfl,(Aa _ _).alloc z' _⟩
theorem bF7(a b v:Int)(w:World):
  Calls prog 94 #[U #[I J 6,I J a,I J b,I J v]] w fun e w'=>e=R' (.iface 198 (U #[]))/\V' w w':=by
 go_enter func94,ntmps94
 go_wp2;go_ret;exact⟨rfl,(Aa _ _).alloc z' _⟩
theorem bF8(a b v:Int)(w:World):
  Calls prog 94 #[U #[I J 7,I J a,I J b,I J v]] w fun e w'=>e=R' (.iface 198 (U #[]))/\V' w w':=by
 go_enter func94,ntmps94
 go_wp2;go_ret;exact⟨rfl,(Aa _ _).alloc z' _⟩
theorem bF9(a b v:Int)(w:World):
  Calls prog 94 #[U #[I J 8,I J a,I J b,I J v]] w fun e w'=>e=R' (.iface 190 (U #[I J a]))/\V' w w':=by
 go_enter func94,ntmps94
 go_wp2;go_ret;exact⟨rfl,(Aa _ _).alloc z' _⟩
theorem bG0(a b v:Int)(w:World):
  Calls prog 94 #[U #[I J 9,I J a,I J b,I J v]] w fun e w'=>e=R' (.iface 197 (U #[]))/\V' w w':=by
 go_enter func94,ntmps94
 go_wp2;go_ret;exact⟨rfl,(Aa _ _).alloc z' _⟩
theorem aH8(a b v:Int)(w:World):
  Calls prog 94 #[U #[I J 10,I J a,I J b,I J v]] w fun e w'=>e=R' (.iface 196 (U #[]))/\V' w w':=by
 go_enter func94,ntmps94
 go_wp2;go_ret;exact⟨rfl,(Aa _ _).alloc z' _⟩
theorem dL7(k a b v:Int)(hk:inB k 1 10=F')(w:World):
  Calls prog 94 #[U #[I J k,I J a,I J b,I J v]] w fun e w'=>e=R' .nilIface/\V' w w':=by
 have h1:(k==1)=F':=by(unfold inB at hk;simp only[Ca,Bp]at hk;simp;omega)
 have h2:(k==2)=F':=by(unfold inB at hk;simp only[Ca,Bp]at hk;simp;omega)
 have h3:(k==3)=F':=by(unfold inB at hk;simp only[Ca,Bp]at hk;simp;omega)
 have h4:(k==4)=F':=by(unfold inB at hk;simp only[Ca,Bp]at hk;simp;omega)
 have h5:(k==5)=F':=by(unfold inB at hk;simp only[Ca,Bp]at hk;simp;omega)
 have h6:(k==6)=F':=by(unfold inB at hk;simp only[Ca,Bp]at hk;simp;omega)
 have h7:(k==7)=F':=by(unfold inB at hk;simp only[Ca,Bp]at hk;simp;omega)
 have h8:(k==8)=F':=by(unfold inB at hk;simp only[Ca,Bp]at hk;simp;omega)
 have h9:(k==9)=F':=by(unfold inB at hk;simp only[Ca,Bp]at hk;simp;omega)
 have h10:(k==10)=F':=by(unfold inB at hk;simp only[Ca,Bp]at hk;simp;omega)
 clear hk;go_enter func94,ntmps94
 go_wp2;go_ret;exact⟨rfl,(Aa _ _).alloc z' _⟩
theorem mZ(a:Int)(w:World):
  Calls prog 95 #[.iface 187 (U #[I J a])] w fun e w'=>e=R' (.tuple #[U #[I J 0,I J a,I J 0,I J 0],X (inB a 0 99)])/\V' w w':=by
 have hta0:∀W,(Instr.typeAssert (.iface 187 (U #[I J a])) 143 187 A').run prog W= .ok (.tuple #[U #[I J a],X A']) W:=fun W=>by kernel_rfl
 go_enter func95,ntmps95
 go_wp2;refine R0 (fun W'=>W'.cell? ⟨w.heap.size+1,0,O⟩=Y (I J a)) (by go_simp) (fun hH=>?_);refine R5 0 1 2 3 4 ?_;refine R6 5 (fun K hK=>?_);go_simp;refine E' (jN _ _) ?_;refine hK.out _ _ ?_ (fun hH=>?_)
 .exact hH
 clear hK K;refine R6 6 (fun K hK=>?_);go_simp;refine hK.out _ _ ?_ (fun hH=>?_)
 .go_simp
 clear hK K;refine R1 7 ?_;refine R7 ?_;go_wp2;refine Ae (v:=.tuple #[U #[I J 0,I J a,I J 0,I J 0],X (inB a 0 99)]) (by simp[results,Tryz.results95,go_sem]) rfl ⟨rfl,?_⟩;repeat(first|with_reducible exact Aa _ _|with_reducible refine Dw ?_|with_reducible refine De ?_ (by first|exact z'|(simp;done)|(simp;omega)) _|with_reducible refine Dj ?_ (by simp) _)
theorem fO(a:Int)(w:World):
  Calls prog 95 #[.iface 190 (U #[I J a])] w fun e w'=>e=R' (.tuple #[U #[I J 0,I J a,I J 0,I J 0],X (inB a 0 99)])/\V' w w':=by
 have hta0:∀W,(Instr.typeAssert (.iface 190 (U #[I J a])) 143 187 A').run prog W= .ok (.tuple #[U #[I J 0],X F']) W:=fun W=>by kernel_rfl
 have hta1:∀W,(Instr.typeAssert (.iface 190 (U #[I J a])) 143 189 A').run prog W= .ok (.tuple #[U #[I J 0,I J 0],X F']) W:=fun W=>by kernel_rfl
 have hta2:∀W,(Instr.typeAssert (.iface 190 (U #[I J a])) 143 190 A').run prog W= .ok (.tuple #[U #[I J a],X A']) W:=fun W=>by kernel_rfl
 go_enter func95,ntmps95
 go_wp2;refine R0 (fun W'=>W'.cell? ⟨w.heap.size+1,0,O⟩=Y (I J a)) (by go_simp) (fun hH=>?_);refine R5 0 1 2 3 4 ?_;refine R6 5 (fun K hK=>?_);go_simp;refine E' (jN _ _) ?_;refine hK.out _ _ ?_ (fun hH=>?_)
 .exact hH
 clear hK K;refine R6 6 (fun K hK=>?_);go_simp;refine hK.out _ _ ?_ (fun hH=>?_)
 .go_simp
 clear hK K;refine R1 7 ?_;refine R7 ?_;go_wp2;refine Ae (v:=.tuple #[U #[I J 0,I J a,I J 0,I J 0],X (inB a 0 99)]) (by simp[results,Tryz.results95,go_sem]) rfl ⟨rfl,?_⟩;repeat(first|with_reducible exact Aa _ _|with_reducible refine Dw ?_|with_reducible refine De ?_ (by first|exact z'|(simp;done)|(simp;omega)) _|with_reducible refine Dj ?_ (by simp) _)
theorem lA(v:Int)(w:World):
  Calls prog 95 #[.iface 194 (U #[I J v])] w fun e w'=>e=R' (.tuple #[U #[I J 0,I J 0,I J 0,I J v],X (inB v 0 9999)])/\V' w w':=by
 have hta0:∀W,(Instr.typeAssert (.iface 194 (U #[I J v])) 143 187 A').run prog W= .ok (.tuple #[U #[I J 0],X F']) W:=fun W=>by kernel_rfl
 have hta1:∀W,(Instr.typeAssert (.iface 194 (U #[I J v])) 143 189 A').run prog W= .ok (.tuple #[U #[I J 0,I J 0],X F']) W:=fun W=>by kernel_rfl
 have hta2:∀W,(Instr.typeAssert (.iface 194 (U #[I J v])) 143 190 A').run prog W= .ok (.tuple #[U #[I J 0],X F']) W:=fun W=>by kernel_rfl
 have hta3:∀W,(Instr.typeAssert (.iface 194 (U #[I J v])) 143 192 A').run prog W= .ok (.tuple #[U #[I J 0,I J 0],X F']) W:=fun W=>by kernel_rfl
 have hta4:∀W,(Instr.typeAssert (.iface 194 (U #[I J v])) 143 194 A').run prog W= .ok (.tuple #[U #[I J v],X A']) W:=fun W=>by kernel_rfl
 go_enter func95,ntmps95
 go_wp2;refine R0 (fun W'=>W'.cell? ⟨w.heap.size+1,0,O⟩=Y (I J v)) (by go_simp) (fun hH=>?_);refine R5 0 1 2 3 4 ?_;refine R6 5 (fun K hK=>?_);go_simp;refine E' (uY _ _) ?_;refine hK.out _ _ ?_ (fun hH=>?_)
 .exact hH
 clear hK K;refine R6 6 (fun K hK=>?_);go_simp;refine hK.out _ _ ?_ (fun hH=>?_)
 .go_simp
 clear hK K;refine R1 7 ?_;refine R7 ?_;go_wp2;refine Ae (v:=.tuple #[U #[I J 0,I J 0,I J 0,I J v],X (inB v 0 9999)]) (by simp[results,Tryz.results95,go_sem]) rfl ⟨rfl,?_⟩;repeat(first|with_reducible exact Aa _ _|with_reducible refine Dw ?_|with_reducible refine De ?_ (by first|exact z'|(simp;done)|(simp;omega)) _|with_reducible refine Dj ?_ (by simp) _)
theorem aB3(a v:Int)(ha:inB a 0 99=F')(w:World):
  Calls prog 95 #[.iface 189 (U #[I J a,I J v])] w fun e w'=>e=R' (.tuple #[U #[I J 0,I J a,I J 0,I J v],X F'])/\V' w w':=by
 have hta0:∀W,(Instr.typeAssert (.iface 189 (U #[I J a,I J v])) 143 187 A').run prog W= .ok (.tuple #[U #[I J 0],X F']) W:=fun W=>by kernel_rfl
 have hta1:∀W,(Instr.typeAssert (.iface 189 (U #[I J a,I J v])) 143 189 A').run prog W= .ok (.tuple #[U #[I J a,I J v],X A']) W:=fun W=>by kernel_rfl
 go_enter func95,ntmps95
 go_wp2;refine R0 (fun W'=>W'.cell? ⟨w.heap.size+1,0,O⟩=Y (I J a)/\W'.cell? ⟨w.heap.size+1,1,O⟩=Y (I J v)) (⟨by go_simp,by go_simp⟩) (fun hH=>?_);refine R5 0 1 2 3 4 ?_;refine R2 5 6 ?_;refine R6 7 (fun K hK=>?_);go_simp;have hc:=jN a;rw[ha]at hc;refine E' (hc _) ?_;refine hK.out _ _ ?_ (fun hH=>?_)
 .exact hH
 clear hK K;refine R8 8 (h:=R9 9 (h:=R9 10 (h:=R9 11 (h:=R8 12 (h:=J3 ?_)))));refine R6 13 (fun K hK=>?_);go_simp;refine hK.out _ _ ?_ (fun hH=>?_)
 .constructor<;>go_simp
 clear hK K;refine R1 14 ?_;refine R7 ?_;go_wp2;refine Ae (v:=.tuple #[U #[I J 0,I J a,I J 0,I J v],X F']) (by simp[results,Tryz.results95,go_sem]) rfl ⟨rfl,?_⟩;repeat(first|with_reducible exact Aa _ _|with_reducible refine Dw ?_|with_reducible refine De ?_ (by first|exact z'|(simp;done)|(simp;omega)) _|with_reducible refine Dj ?_ (by simp) _)
theorem rW(a v:Int)(ha:inB a 0 99=A')(w:World):
  Calls prog 95 #[.iface 189 (U #[I J a,I J v])] w fun e w'=>e=R' (.tuple #[U #[I J 0,I J a,I J 0,I J v],X (inB v 0 9999)])/\V' w w':=by
 have hta0:∀W,(Instr.typeAssert (.iface 189 (U #[I J a,I J v])) 143 187 A').run prog W= .ok (.tuple #[U #[I J 0],X F']) W:=fun W=>by kernel_rfl
 have hta1:∀W,(Instr.typeAssert (.iface 189 (U #[I J a,I J v])) 143 189 A').run prog W= .ok (.tuple #[U #[I J a,I J v],X A']) W:=fun W=>by kernel_rfl
 go_enter func95,ntmps95
 go_wp2;refine R0 (fun W'=>W'.cell? ⟨w.heap.size+1,0,O⟩=Y (I J a)/\W'.cell? ⟨w.heap.size+1,1,O⟩=Y (I J v)) (⟨by go_simp,by go_simp⟩) (fun hH=>?_);refine R5 0 1 2 3 4 ?_;refine R2 5 6 ?_;refine R6 7 (fun K hK=>?_);go_simp;have hc:=jN a;rw[ha]at hc;refine(hc _).mono ?_;rintro e w9⟨rfl,rfl⟩;refine hK.out _ _ ?_ (fun hH=>?_)
 .exact hH
 clear hK K;refine R3 8 9 10 ?_;refine R6 11 (fun K hK=>?_);go_simp;refine E' (uY _ _) ?_;refine hK.out _ _ ?_ (fun hH=>?_)
 .exact hH
 clear hK K;refine R1 12 ?_;refine R6 13 (fun K hK=>?_);go_simp;refine hK.out _ _ ?_ (fun hH=>?_)
 .constructor<;>go_simp
 clear hK K;refine R1 14 ?_;refine R7 ?_;go_wp2;refine Ae (v:=.tuple #[U #[I J 0,I J a,I J 0,I J v],X (inB v 0 9999)]) (by simp[results,Tryz.results95,go_sem]) rfl ⟨rfl,?_⟩;repeat(first|with_reducible exact Aa _ _|with_reducible refine Dw ?_|with_reducible refine De ?_ (by first|exact z'|(simp;done)|(simp;omega)) _|with_reducible refine Dj ?_ (by simp) _)
theorem wK(a b:Int)(ha:inB a 0 99=F')(w:World):
  Calls prog 95 #[.iface 192 (U #[I J a,I J b])] w fun e w'=>e=R' (.tuple #[U #[I J 0,I J a,I J b,I J 0],X F'])/\V' w w':=by
 have hta0:∀W,(Instr.typeAssert (.iface 192 (U #[I J a,I J b])) 143 187 A').run prog W= .ok (.tuple #[U #[I J 0],X F']) W:=fun W=>by kernel_rfl
 have hta1:∀W,(Instr.typeAssert (.iface 192 (U #[I J a,I J b])) 143 189 A').run prog W= .ok (.tuple #[U #[I J 0,I J 0],X F']) W:=fun W=>by kernel_rfl
 have hta2:∀W,(Instr.typeAssert (.iface 192 (U #[I J a,I J b])) 143 190 A').run prog W= .ok (.tuple #[U #[I J 0],X F']) W:=fun W=>by kernel_rfl
 have hta3:∀W,(Instr.typeAssert (.iface 192 (U #[I J a,I J b])) 143 192 A').run prog W= .ok (.tuple #[U #[I J a,I J b],X A']) W:=fun W=>by kernel_rfl
 go_enter func95,ntmps95
 go_wp2;refine R0 (fun W'=>W'.cell? ⟨w.heap.size+1,0,O⟩=Y (I J a)/\W'.cell? ⟨w.heap.size+1,1,O⟩=Y (I J b)) (⟨by go_simp,by go_simp⟩) (fun hH=>?_);refine R5 0 1 2 3 4 ?_;refine R2 5 6 ?_;refine R6 7 (fun K hK=>?_);go_simp;have hc:=jN a;rw[ha]at hc;refine E' (hc _) ?_;refine hK.out _ _ ?_ (fun hH=>?_)
 .exact hH
 clear hK K;refine R8 8 (h:=R9 9 (h:=R9 10 (h:=R9 11 (h:=R8 12 (h:=J3 ?_)))));refine R6 13 (fun K hK=>?_);go_simp;refine hK.out _ _ ?_ (fun hH=>?_)
 .constructor<;>go_simp
 clear hK K;refine R1 14 ?_;refine R7 ?_;go_wp2;refine Ae (v:=.tuple #[U #[I J 0,I J a,I J b,I J 0],X F']) (by simp[results,Tryz.results95,go_sem]) rfl ⟨rfl,?_⟩;repeat(first|with_reducible exact Aa _ _|with_reducible refine Dw ?_|with_reducible refine De ?_ (by first|exact z'|(simp;done)|(simp;omega)) _|with_reducible refine Dj ?_ (by simp) _)
theorem nV(a b:Int)(ha:inB a 0 99=A')(w:World):
  Calls prog 95 #[.iface 192 (U #[I J a,I J b])] w fun e w'=>e=R' (.tuple #[U #[I J 0,I J a,I J b,I J 0],X (inB b 0 99)])/\V' w w':=by
 have hta0:∀W,(Instr.typeAssert (.iface 192 (U #[I J a,I J b])) 143 187 A').run prog W= .ok (.tuple #[U #[I J 0],X F']) W:=fun W=>by kernel_rfl
 have hta1:∀W,(Instr.typeAssert (.iface 192 (U #[I J a,I J b])) 143 189 A').run prog W= .ok (.tuple #[U #[I J 0,I J 0],X F']) W:=fun W=>by kernel_rfl
 have hta2:∀W,(Instr.typeAssert (.iface 192 (U #[I J a,I J b])) 143 190 A').run prog W= .ok (.tuple #[U #[I J 0],X F']) W:=fun W=>by kernel_rfl
 have hta3:∀W,(Instr.typeAssert (.iface 192 (U #[I J a,I J b])) 143 192 A').run prog W= .ok (.tuple #[U #[I J a,I J b],X A']) W:=fun W=>by kernel_rfl
 go_enter func95,ntmps95
 go_wp2;refine R0 (fun W'=>W'.cell? ⟨w.heap.size+1,0,O⟩=Y (I J a)/\W'.cell? ⟨w.heap.size+1,1,O⟩=Y (I J b)) (⟨by go_simp,by go_simp⟩) (fun hH=>?_);refine R5 0 1 2 3 4 ?_;refine R2 5 6 ?_;refine R6 7 (fun K hK=>?_);go_simp;have hc:=jN a;rw[ha]at hc;refine(hc _).mono ?_;rintro e w9⟨rfl,rfl⟩;refine hK.out _ _ ?_ (fun hH=>?_)
 .exact hH
 clear hK K;refine R3 8 9 10 ?_;refine R6 11 (fun K hK=>?_);go_simp;refine E' (jN _ _) ?_;refine hK.out _ _ ?_ (fun hH=>?_)
 .exact hH
 clear hK K;refine R1 12 ?_;refine R6 13 (fun K hK=>?_);go_simp;refine hK.out _ _ ?_ (fun hH=>?_)
 .constructor<;>go_simp
 clear hK K;refine R1 14 ?_;refine R7 ?_;go_wp2;refine Ae (v:=.tuple #[U #[I J 0,I J a,I J b,I J 0],X (inB b 0 99)]) (by simp[results,Tryz.results95,go_sem]) rfl ⟨rfl,?_⟩;repeat(first|with_reducible exact Aa _ _|with_reducible refine Dw ?_|with_reducible refine De ?_ (by first|exact z'|(simp;done)|(simp;omega)) _|with_reducible refine Dj ?_ (by simp) _)
theorem mY(w:World):
  Calls prog 95 #[.iface 196 (U #[])] w fun e w'=>e=R' (.tuple #[U #[I J 0,I J 0,I J 0,I J 0],X A'])/\V' w w':=by
 have hta0:∀W,(Instr.typeAssert (.iface 196 (U #[])) 143 187 A').run prog W= .ok (.tuple #[U #[I J 0],X F']) W:=fun W=>by kernel_rfl
 have hta1:∀W,(Instr.typeAssert (.iface 196 (U #[])) 143 189 A').run prog W= .ok (.tuple #[U #[I J 0,I J 0],X F']) W:=fun W=>by kernel_rfl
 have hta2:∀W,(Instr.typeAssert (.iface 196 (U #[])) 143 190 A').run prog W= .ok (.tuple #[U #[I J 0],X F']) W:=fun W=>by kernel_rfl
 have hta3:∀W,(Instr.typeAssert (.iface 196 (U #[])) 143 192 A').run prog W= .ok (.tuple #[U #[I J 0,I J 0],X F']) W:=fun W=>by kernel_rfl
 have hta4:∀W,(Instr.typeAssert (.iface 196 (U #[])) 143 194 A').run prog W= .ok (.tuple #[U #[I J 0],X F']) W:=fun W=>by kernel_rfl
 go_enter func95,ntmps95
 go_wp2;refine Ae (v:=.tuple #[U #[I J 0,I J 0,I J 0,I J 0],X A']) (by simp[results,Tryz.results95,go_sem]) rfl ⟨rfl,?_⟩;repeat(first|with_reducible exact Aa _ _|with_reducible refine Dw ?_|with_reducible refine De ?_ (by first|exact z'|(simp;done)|(simp;omega)) _|with_reducible refine Dj ?_ (by simp) _)
theorem mD(w:World):
  Calls prog 95 #[.iface 197 (U #[])] w fun e w'=>e=R' (.tuple #[U #[I J 0,I J 0,I J 0,I J 0],X A'])/\V' w w':=by
 have hta0:∀W,(Instr.typeAssert (.iface 197 (U #[])) 143 187 A').run prog W= .ok (.tuple #[U #[I J 0],X F']) W:=fun W=>by kernel_rfl
 have hta1:∀W,(Instr.typeAssert (.iface 197 (U #[])) 143 189 A').run prog W= .ok (.tuple #[U #[I J 0,I J 0],X F']) W:=fun W=>by kernel_rfl
 have hta2:∀W,(Instr.typeAssert (.iface 197 (U #[])) 143 190 A').run prog W= .ok (.tuple #[U #[I J 0],X F']) W:=fun W=>by kernel_rfl
 have hta3:∀W,(Instr.typeAssert (.iface 197 (U #[])) 143 192 A').run prog W= .ok (.tuple #[U #[I J 0,I J 0],X F']) W:=fun W=>by kernel_rfl
 have hta4:∀W,(Instr.typeAssert (.iface 197 (U #[])) 143 194 A').run prog W= .ok (.tuple #[U #[I J 0],X F']) W:=fun W=>by kernel_rfl
 go_enter func95,ntmps95
 go_wp2;refine Ae (v:=.tuple #[U #[I J 0,I J 0,I J 0,I J 0],X A']) (by simp[results,Tryz.results95,go_sem]) rfl ⟨rfl,?_⟩;repeat(first|with_reducible exact Aa _ _|with_reducible refine Dw ?_|with_reducible refine De ?_ (by first|exact z'|(simp;done)|(simp;omega)) _|with_reducible refine Dj ?_ (by simp) _)
theorem gP(w:World):
  Calls prog 95 #[.iface 198 (U #[])] w fun e w'=>e=R' (.tuple #[U #[I J 0,I J 0,I J 0,I J 0],X A'])/\V' w w':=by
 have hta0:∀W,(Instr.typeAssert (.iface 198 (U #[])) 143 187 A').run prog W= .ok (.tuple #[U #[I J 0],X F']) W:=fun W=>by kernel_rfl
 have hta1:∀W,(Instr.typeAssert (.iface 198 (U #[])) 143 189 A').run prog W= .ok (.tuple #[U #[I J 0,I J 0],X F']) W:=fun W=>by kernel_rfl
 have hta2:∀W,(Instr.typeAssert (.iface 198 (U #[])) 143 190 A').run prog W= .ok (.tuple #[U #[I J 0],X F']) W:=fun W=>by kernel_rfl
 have hta3:∀W,(Instr.typeAssert (.iface 198 (U #[])) 143 192 A').run prog W= .ok (.tuple #[U #[I J 0,I J 0],X F']) W:=fun W=>by kernel_rfl
 have hta4:∀W,(Instr.typeAssert (.iface 198 (U #[])) 143 194 A').run prog W= .ok (.tuple #[U #[I J 0],X F']) W:=fun W=>by kernel_rfl
 go_enter func95,ntmps95
 go_wp2;refine Ae (v:=.tuple #[U #[I J 0,I J 0,I J 0,I J 0],X A']) (by simp[results,Tryz.results95,go_sem]) rfl ⟨rfl,?_⟩;repeat(first|with_reducible exact Aa _ _|with_reducible refine Dw ?_|with_reducible refine De ?_ (by first|exact z'|(simp;done)|(simp;omega)) _|with_reducible refine Dj ?_ (by simp) _)
def lY:List Hold->List Hold->Bool
 |[],[]=>A'
 |x::a,y::b=>iV x y&&lY a b
 |_,_=>F'
theorem bU3(a b:List Hold)(k:Nat)(h:k<a.length)(h':k<b.length):lY (a.drop k) (b.drop k)=(iV (a.getD k Hold.zero) (b.getD k Hold.zero)&&lY (a.drop (k+1)) (b.drop (k+1))):=by rw[Ck h,Ck h',lY];simp[List.getD,h,h']
theorem aA2:∀(a b:List Hold),a.length≠b.length->lY a b=F'
 |[],[],h=>absurd rfl h
 |[],_::_,_=>rfl
 |_::_,[],_=>rfl
 |x::a,y::b,h=>by rw[lY,aA2 a b (by simpa using h)];simp
theorem aW1{B:Nat}{w':World}(h:Below B w w')(q:Nat):Below B w (w'.drewN q):=⟨h.os,h.tape,h.output,h.size,h.block⟩
theorem cU5(c j c' j':Int)(w:World):(Op.equalIn 10000 265 (U #[I J c,I J j]) (U #[I J c',I J j'])).run prog w= .ok (iV ⟨c,j⟩ ⟨c',j'⟩) w:=by
 have hS:prog.underlying 265=Y (.struct (prog.fieldsOf 265)):=by kernel_rfl
 have hp:prog.stoodInHeld 265=F':=by kernel_rfl
 have u2:=underlying2;have a2:=isAgg2;have z2:=sizeOf2;rw[show(10000:Nat)=9999+1 from rfl,run_equalIn_agg w 9999 265 _ _ hS hp];simp only[Program.fieldsOf,underlying265];go_simp;unfold iV;by_cases h1:c=c'<;>by_cases h2:j=j'<;>simp[h1,h2]
theorem dL3(c j c' j':Int)(w:World):(binOp .neq 265 (U #[I J c,I J j]) (U #[I J c',I J j'])).run prog w= .ok (X (!iV ⟨c,j⟩ ⟨c',j'⟩)) w:=by rw[run_neq_struct,cU5];rfl
theorem vO(a a':Option Addr)(n cap n' cap':Nat)(rs qs:List Hold)(w:World)(h:CellsAt w a (n*2) (hcells rs))(h':CellsAt w a' (n'*2) (hcells qs))(hn:n<=1048576)(hn':n'<=1048576):
  Calls prog 177 #[Z a n cap,Z a' n' cap'] w fun e w'=>e=R' (X (lY rs qs))/\V' w w':=by
 have HL:=h.hlen;have HL':=h'.hlen;by_cases hnn:n=n'
 .subst hnn;have hne:((n:Int) !=n)=F':=by simp
  go_enter func177,ntmps177
  go_wp2;go_loopw [5] (fun i wr=>∃k:Nat,k<=n/\i=I J k/\Hid (lY rs qs=lY (rs.drop k) (qs.drop k))/\V' w wr) (fun i _=>n-(intOf i).toNat)
  case atStart=>exact⟨0,Ad _,rfl,rfl,Aa _ _⟩
  case round=>
   obtain⟨k,hk,rfl,HS,hB⟩:=hrel;by_cases hlt:k<n
   .have HA:=hid (bU3 rs qs k (by have:=HL.out;omega) (by have:=HL'.out;omega));obtain⟨b,off,rfl,hc0,hc1⟩:=(h.below hB).hold hlt;obtain⟨b',off',rfl,hd0,hd1⟩:=(h'.below hB).hold hlt;generalize rs.getD k Hold.zero=r at*;generalize qs.getD k Hold.zero=q at*;obtain⟨rt,rm⟩:=r;obtain⟨qt,qm⟩:=q;simp only at hc0 hc1 hd0 hd1;have hneq:=fun W=>dL3 rt rm qt qm W;generalize iV ⟨rt,rm⟩ ⟨qt,qm⟩=same at*;cases same
    .simp only[El]at hneq;go_wp2;go_quiet (fail)
     go_wp2;go_ret;exact⟨by rw[HS.out,HA.out];rfl,aW1 hB _⟩
    .simp only[Fm]at hneq;go_wp2;go_quiet (fail)
     go_wp2;go_roundw;case rel=>exact⟨k+1,by omega,by go_num,(by show _=_;rw[HS.out,HA.out];rfl),aW1 hB _⟩
     case measure=>simp[intOf];omega
   .obtain rfl:k=n:=by omega
    go_wp2;go_ret;refine⟨?_,hB⟩;rw[HS.out,Cb (by have:=HL.out;omega),Cb (by have:=HL'.out;omega)];rfl
 .have hne:((n:Int) !=(n':Int))=A':=by simp;omega
  have hne2:¬(n:Int)=(n':Int):=by omega
  go_enter func177,ntmps177
  go_wp2;go_ret;exact⟨by rw[aA2 _ _ (by have:=HL.out;have:=HL'.out;omega)];rfl,Aa _ _⟩
section
open Go.Maps
theorem cZ8(h0:0<cyc.length)(h:∀v∈cyc,inB v 1 999=A'):tQ cyc sys=(0,oI cyc sys):=by unfold tQ;rw[if_neg (by omega),if_neg];intro ha;obtain⟨v,hv,hb⟩:=Ct.1 ha;rw[h v hv]at hb;cases hb
end
theorem bI3{v:Int}(h:tQ cyc sys=(0,v)):
  (∀c∈cyc,v<c->(sys.contains c==sys.contains v)=F')/\cyc.contains v=A'/\cyc.any (fun c=>sys.contains c)=sys.contains v:=by
 unfold tQ at h;by_cases h0:cyc.length=0
 .rw[if_pos h0]at h;simp at h
 rw[if_neg h0]at h;by_cases ha:cyc.any (fun v=>!inB v 1 999)=A'
 .rw[if_pos ha]at h;simp at h
 rw[if_neg ha]at h;have hc:∀v∈cyc,1<=v/\v<=999:=by
  intro v hv;refine(nW v 1 999).1 ?_;cases hb:inB v 1 999
  .exact absurd (Ct.2 ⟨v,hv,by rw[hb];rfl⟩) ha
  .rfl
 have hv:v=oI cyc sys:=by simpa using h.symm
 unfold oI at hv;rw[aJ2]at hv;cases hs:cyc.any (fun c=>sys.contains c)
 .have hz:cyc.filter (fun c=>sys.contains c)=[]:=by rw[Fj];intro x hx hh;rw[Ed]at hs;exact absurd hh (by simpa using hs x hx)
  rw[hz]at hv;have hv:v=eF cyc:=hv;have hmem:v∈cyc:=by
   rcases oU cyc with e|e
   .exfalso;have hp:0<cyc.length:=by omega
    have h1:=mG (Ce hp);have h2:=(hc _ (Ce hp)).1;omega
   .rw[hv];exact e
  have hns:sys.contains v=F':=by rw[Ed]at hs;simpa using hs v hmem
  refine⟨fun c hcm hlt=>?_,Eg.2 hmem,hns.symm⟩;have:=mG hcm;omega
 .obtain⟨x,hx,hxs⟩:=Ct.1 hs;have hm:x∈cyc.filter (fun v=>sys.contains v):=By.2 ⟨hx,hxs⟩;have h1:=mG hm;have h2:=(hc x hx).1;rcases oU (cyc.filter fun v=>sys.contains v)with e|e
  .omega
  .have e2:=By.1 e;rw[if_pos ((nW _ _ _).2 ⟨by omega,(hc _ e2.1).2⟩)]at hv;rw[<-hv]at e2 h1;refine⟨fun c hcm hlt=>?_,Eg.2 e2.1,e2.2.symm⟩;cases hcs:sys.contains c
   .rw[e2.2];rfl
   .have:=mG (By.2 ⟨hcm,hcs⟩);rw[<-hv]at this;omega
namespace Ch
def aX(r:Int):List Lock->Nat
 |[]=>0
 |l::ls=>if l.r<r then aX r ls+1 else 0
theorem xJ(r:Int)(ls:List Lock):aX r ls<=ls.length:=by
 induction ls with
 |nil=>exact z'
 |cons q qs ih=>unfold aX;split<;>simp<;>omega
theorem bS2(r:Int)(ls:List Lock)(hk:k<aX r ls):(aI ls k).r<r:=by
 induction ls generalizing k with
 |nil=>simp[aX]at hk
 |cons q qs ih=>
  unfold aX at hk;split at hk
  .cases k with
   |zero=>simpa[aI]using ‹_›
   |succ k=>simpa[aI]using ih (by omega)
  .omega
theorem bS0(r:Int)(ls:List Lock)(hk:aX r ls<ls.length):¬(aI ls (aX r ls)).r<r:=by
 induction ls with
 |nil=>simp at hk
 |cons q qs ih=>
  unfold aX at hk⊢;split
  .next h=>rw[if_pos h]at hk;simpa[aI]using ih (by simpa using hk)
  .next h=>simpa[aI]using h
theorem bS1(hk:k<=ls.length)(h1:∀j,j<k->(aI ls j).r<r)(h2:k<ls.length->¬(aI ls k).r<r):aX r ls=k:=by
 rcases En (aX r ls) k with h|h|h
 .have:=h1 _ h;exact absurd this (bS0 r ls (by omega))
 .exact h
 .have:=bS2 r ls h;have hl:=xJ r ls;exact absurd this (h2 (by omega))
def aQ4(r:Int)(ls:List Lock):Bool:=decide (aX r ls<ls.length)&&((aI ls (aX r ls)).r==r)
def bQ(r:Int)(ls:List Lock):List Lock:=if aQ4 r ls then ls else ls.take (aX r ls)++[⟨r,[],[]⟩]++ls.drop (aX r ls)
theorem cS9(hk:k<=ls.length)(h1:∀j,j<k->(aI ls j).r<r)(h2:k<ls.length)(he:(aI ls k).r=r):aX r ls=k/\bQ r ls=ls:=by have hp:aX r ls=k:=bS1 hk h1 (fun _=>by omega);refine⟨hp,?_⟩;unfold bQ aQ4;rw[hp,if_pos (by simp[h2,he])]
theorem dA9(hk:k<=ls.length)(h1:∀j,j<k->(aI ls j).r<r)(h2:k<ls.length->r<(aI ls k).r):aX r ls=k/\bQ r ls=ls.take k++[⟨r,[],[]⟩]++ls.drop k:=by have hp:aX r ls=k:=bS1 hk h1 (fun h=>by have:=h2 h;omega);refine⟨hp,?_⟩;unfold bQ aQ4;rw[hp,if_neg];simp only[Bq,Cs,Dx,not_and];intro h e;have:=h2 h;omega
theorem xH(ls:List Lock)(l:Lock)(k i:Nat)(hk:k<=ls.length):aI (ls.take k++[l]++ls.drop k) i=if i<k then aI ls i else if i=k then l else aI ls (i-1):=by
 unfold aI;simp only[List.getD];have hlen:(ls.take k).length=k:=by simp;omega
 split
 .next h=>rw[Bw,Av (by omega),Eo h]
 .next h=>
  split
  .next h2=>subst h2;rw[Bw,Ay (by omega),hlen];simp
  .next h2=>rw[Ay (by simp;omega)];simp only[Bv,hlen,List.length_singleton,Df];congr 3;omega
def dV(l:Lock)(k:Nat)(h:Hold):Bool×Int×Lock:=if 20<=l.qs.length then(F',2,l)else(F',0,⟨l.r,l.hs,l.qs.take k++[h]++l.qs.drop k⟩)
def cR(l:Lock)(t m:Int):Bool×Int×Lock:=
 if eJ (bT l.hs t) m then(A',0,l)
 else if bT l.hs t==0&&(!eR l.hs t (eX (bT l.hs t) m)||decide (0<l.qs.length))then dV l l.qs.length ⟨t,eX (bT l.hs t) m⟩
 else if !eR l.hs t (eX (bT l.hs t) m)then dV l (dB l.hs l.qs) ⟨t,eX (bT l.hs t) m⟩
 else if !(aV l.hs t||decide (l.hs.length<20))then(F',2,l)
 else(A',0,⟨l.r,iZ l.hs ⟨t,eX (bT l.hs t) m⟩,l.qs⟩)
def lQ(ls:List Lock)(t r m:Int):Bool×Int×Lock:=cR (aI (bQ r ls) (aX r ls)) t m
theorem qT(r:Int)(ls:List Lock):aX r ls<(bQ r ls).length/\(bQ r ls).length<=ls.length+1:=by
 have:=xJ r ls;unfold bQ;split
 .next h=>unfold aQ4 at h;simp only[Bq,Cs]at h;exact⟨h.1,by omega⟩
 .simp;omega
end Ch
end Go.Proofs.YtpbbokalojdooaaGreat
