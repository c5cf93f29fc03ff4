import Derived.Test.YtpbbokalojdooaaGreatWav
namespace Go.Proofs.YtpbbokalojdooaaGreat
open Go.RowKit Ch Go.Proofs.Tryz
set_option linter.unusedSimpArgs false
set_option linter.unusedVariables false
set_option maxRecDepth 20000
set_option maxHeartbeats 8000000
open Value renaming int->I,slice->Z,bool->X,agg->U
open IntKind renaming i64->J
open Option renaming none->O,some->Y
open Obj renaming cells->M
open Ending renaming returned->R'
open Bool renaming true->A',false->F'
variable {ops:Array Oper} {s:EgS} {e:Eng} {Q:Exit->Act->World->Prop} {vs:List (Value×Value)} {ps:List Hold} {zs:List Int} {ls:List Lock} {rest:List Oper} {rs:List Rec} {ts:List Tx} {xs:List Value} {B H c cap g n:Nat} {P:Nat->Bool} {T T':Nat->Nat} {us:Nat->Value} {o:Oper} {a:Option Addr} {r:Rec} {t:TypeId} {v:Value} {W w w':World}
theorem fN(V:World)(e:TypeId)(size:Nat):(V.alloc (M #[] e)).ownsRow V.heap.size e size (Z (Y ⟨V.heap.size,0,O⟩) 0 0) 0 []/\V' V (V.alloc (M #[] e))/\V.heap.size<(V.alloc (M #[] e)).heap.size:=
 ⟨sI V _ e size z',(Aa _ _).alloc z' _,by rw[World.size_alloc];omega⟩
theorem yE(a:Option Addr)(n cap:Nat)(ls:List Lock)(w:World)(h:LkAt w a n ls)(hs:dS ls<=1048576):
  Calls prog 147 #[Z a n cap] w fun e w'=>∃o c',e=R' (Z (Y ⟨o,0,O⟩) n c')/\cO8 227 w' w.heap.size (Z (Y ⟨o,0,O⟩) n c') n ls/\V' w w':=by
 have HL:=h.len;have hn:n<=1048576:=by unfold dS at hs;have:=HL.out;omega
 obtain⟨i0,hi0,hz0,hz1,hz2⟩:=Bz Tryz.info227;obtain⟨j0,gi0,gz0,gz1,gz2⟩:=Bz Tryz.info232;go_enter func147,ntmps147
 go_wp2;go_loopw [3,4] (fun q i wr=>∃(k:Nat) (a':Option Addr) (c':Nat),k<=n/\i=I J k/\q=Z a' k c'/\(∃o,a'=Y ⟨o,0,O⟩)/\cO8 227 wr w.heap.size (Z a' k c') k (ls.take k)/\V' w wr) (fun _ i _=>n-(intOf i).toNat)
 case atStart=>exact⟨0,_,0,Ad _,rfl,rfl,⟨_,rfl⟩,⟨[],⟨rfl,rfl,sI w _ _ _ z',fun i p hp=>by simp at hp,fun i p hp=>by simp at hp,by simp[Value.ownBlock]⟩⟩,(Aa _ _).alloc z' _⟩
 case round=>
  obtain⟨k,a',c',hk,rfl,rfl,HSO,⟨vs,own⟩,hB⟩:=hrel;have HSO:=hid HSO;by_cases hlt:k<n
  .have hkl:k<ls.length:=by have:=HL.out;omega
   have HSz:=hid (lF hs k);have HT:=hid (bZ ls Lock.zero k hkl);obtain⟨b,off,ah,nh,ch,aq,nq,cq,rfl,c0,c1,c2,h3,h4,_,_,_,_⟩:=h.lock hlt;have hbl:=aD c0;have c0:=keep_cell hB c0;have c1:=keep_cell hB c1;have c2:=keep_cell hB c2;have h3:=h3.below hB;have h4:=h4.below hB;have hH4:=h3.hlen;have hQ4:=h4.hlen;have hnh:nh<=1048576:=by have:=HSz.out;have:=hH4.out;omega
   have hnq:nq<=1048576:=by have:=HSz.out;have:=hQ4.out;omega
   have hbs:w.heap.size<=wr.heap.size:=hB.size;rw[show ls.getD k Lock.zero=aI ls k from rfl]at HT;generalize aI ls k=l at*;obtain⟨r,lhs,lqs⟩:=l;simp only at c0 h3 h4 hH4 hQ4;have hsum:k+1<=4194304:=by omega
   clear HSz;go_wp2_with fail
   refine R0 (fun W'=>W'.cell? ⟨b,off+k*3,O⟩=Y (I J r)/\W'.cell? ⟨b,off+k*3+1,O⟩=Y (Z ah nh ch)/\W'.cell? ⟨b,off+k*3+2,O⟩=Y (Z aq nq cq)) (⟨c0,c1,c2⟩) (fun hH=>?_);have kV:V' wr wr.drew:=(Aa _ _).drew;generalize wr.drew=V at*;refine R5 0 1 2 3 4 ?_;refine R5 5 7 8 9 10 ?_;refine R5 11 14 15 16 17 ?_;refine R1 18 ?_;refine Dr (rs:=[6,13]) (by kernel_rfl) (by simp) ?_;refine Bi rfl (fun K hK=>?_) (Bi rfl (fun K hK=>?_) Dk);focus
    go_simp;obtain⟨oE6,kE6,lE6⟩:=fN V 232 2;refine hK.out _ _ ⟨keep_cell kE6 hH.1,keep_cell kE6 hH.2.1,keep_cell kE6 hH.2.2⟩ (fun hH=>?_);clear hK K;have kW1:=kV.trans (kE6.mono kV.size);have oE6:=aQ (base':=wr.heap.size) oE6 kV.size;generalize V.heap.size=e6 at*;generalize V.alloc (M #[] 232)=W1 at*;refine Dr (rs:=[12,13]) (by kernel_rfl) (by simp) ?_;refine Bi rfl (fun K hK=>?_) (Bi rfl (fun K hK=>?_) Dk);focus
     refine dP underlying225 underlying225 gi0 gz0 gz1 gz2 rfl (by omega) (by omega) (.tmp 18) (.tmp 23) rfl rfl wr.heap.size (Z (Y ⟨e6,0,O⟩) 0 0) 0 [] ah nh ch (hcells lhs) rfl rfl oE6 (h3.below kW1) (cF _) (by omega) kW1.size ?_;intro a5 c5 w5 own5 gr5 at5;simp only[Al,List.nil_append]at own5 at5⊢;have k5:V' wr w5:=kW1.grown gr5 kW1.size (fun g hg=>(aH oE6 g hg).1);have hb6:(Z (Y ⟨e6,0,O⟩) 0 0).ownBlock≠Y b:=fun e=>by have:=(aH oE6 _ e).1;omega
     refine hK.out _ _ ⟨aK gr5 hH.1 hb6,aK gr5 hH.2.1 hb6,aK gr5 hH.2.2 hb6⟩ (fun hH=>?_);clear hK K;refine J3 ?_;refine R6 13 (fun K hK=>?_);go_simp;obtain⟨oE13,kE13,lE13⟩:=fN w5 232 2;refine hK.out _ _ ⟨keep_cell kE13 hH.1,keep_cell kE13 hH.2.1,keep_cell kE13 hH.2.2⟩ (fun hH=>?_);clear hK K;have o1:=aG own5 kE13;have kW:=k5.trans (kE13.mono k5.size);have hne:∀g,(Z a5 nh c5).ownBlock=Y g->(Z (Y ⟨w5.heap.size,0,O⟩) 0 0).ownBlock≠Y g:=fun g h1 h2=>by have:=(aH own5 g h1).2;simp[Value.ownBlock]at h2;omega
     have hlt1:∀g,(Z a5 nh c5).ownBlock=Y g->g<(w5.alloc (M #[] 232)).heap.size:=fun g h1=>(aH o1 g h1).2;have oE:=aQ (base':=wr.heap.size) oE13 k5.size;clear own5 gr5 at5 oE13 kE13 lE13 oE6 kE6;generalize w5.alloc (M #[] 232)=W at*;generalize w5.heap.size=E at*;have hbE:(Z (Y ⟨E,0,O⟩) 0 0).ownBlock≠Y b:=fun e=>by have:=(aH oE _ e).1;omega
     refine R6 19 (fun K hK=>?_);refine dP underlying225 underlying225 gi0 gz0 gz1 gz2 rfl (by omega) (by omega) (.tmp 25) (.tmp 30) rfl rfl wr.heap.size (Z (Y ⟨E,0,O⟩) 0 0) 0 [] aq nq cq (hcells lqs) rfl rfl oE (h4.below kW) (cF _) (by omega) kW.size ?_;intro a7 c7 w7 own7 gr7 at7;simp only[Al,List.nil_append]at own7 at7⊢;have k7:V' wr w7:=kW.grown gr7 kW.size (fun g hg=>(aH oE g hg).1);have o1:=aN o1 gr7 (fun g hg e=>hne g hg e);have hxy:∀g,(Z a5 nh c5).ownBlock=Y g->(Z a7 nq c7).ownBlock≠Y g:=fun g h1 h2=>by
      rcases at7 g h2 with h|h
      .exact hne g h1 h
      .have:=hlt1 g h1;omega
     refine hK.out _ _ ⟨aK gr7 hH.1 hbE,aK gr7 hH.2.1 hbE,aK gr7 hH.2.2 hbE⟩ (fun hH=>?_);clear hK K gr7 at7 oE hne kW hlt1;refine J3 ?_;refine R1 20 ?_;have kN:V' w7 (w7.alloc (M #[I J r,Z a5 nh c5,Z a7 nq c7] 227)):=(Aa _ _).alloc z' _;refine R6 21 (fun K hK=>?_);go_simp;refine hK.out _ _ ⟨keep_cell kN hH.1,keep_cell kN hH.2.1,keep_cell kN hH.2.2⟩ (fun hH=>?_);clear hK K;have bX5:=k7.trans (kN.mono k7.size);have ownP:=own.below bX5;have o1:=aG o1 kN;have o2:=aG own7 kN;have hb5:w.heap.size<=(w7.alloc (M #[I J r,Z a5 nh c5,Z a7 nq c7] 227)).heap.size:=Ak hB.size bX5.size;have hrb:(Z a' k c').ownBlock≠Y b:=fun e=>by have:=(aH own.row _ e).1;omega
     refine R6 22 (fun K hK=>?_);refine dP underlying62 underlying62 hi0 hz0 hz1 hz2 rfl (by omega) (by omega) (.tmp 12) (.tmp 33) rfl rfl w.heap.size (Z a' k c') k (lcells (ls.take k) vs) _ 1 1 [I J r,Z a5 nh c5,Z a7 nq c7] rfl rfl ownP.row (qH w7 r a5 nh c5 a7 nq c7 _) (nY r a5 nh c5 a7 nq c7) hsum hb5 ?_;intro a6 c6 w6 own6 gr6 at6;refine hK.out _ _ ⟨aK gr6 hH.1 hrb,aK gr6 hH.2.1 hrb,aK gr6 hH.2.2 hrb⟩ (fun hH=>?_);clear hK K;refine J3 ?_;refine R1 23 ?_;refine R7 ?_;go_wp2;go_roundw;case rel=>
      have hso:∃o,a6=Y ⟨o,0,O⟩:=by
       rcases own6.2 with⟨hv,h0⟩|⟨g,cp,cur,hv,_⟩
       .omega
       .simp only[Bg,Es]at hv;exact⟨g,hv.1⟩
      have hap:=xV (x:=Z a5 nh c5) (y:=Z a7 nq c7) (H:=wr.heap.size) own.apart (fun g hg=>(aH own.row g hg).2) (fun i q hq g hg=>(own.bd hq hg).2) hxy (fun g hg=>(aH o1 g hg).1) (fun g hg=>(aH o2 g hg).1);refine⟨k+1,a6,c6,by omega,by go_num,rfl,hso,⟨vs++[(Z a5 nh c5,Z a7 nq c7)],?_⟩,?_⟩
      .rw[HT.out];exact ownP.snoc (l:=⟨r,lhs,lqs⟩) own6 gr6 at6 (by simp only;rw[<-hH4.out];exact aQ o1 hB.size) (by simp only;rw[<-hQ4.out];exact aQ o2 hB.size) hap
      .have b5:=hB.trans (bX5.mono hB.size);exact b5.grown gr6 b5.size (fun g hg=>(aH ownP.row g hg).1)
     case measure=>simp[intOf];omega
    rotate_left;focus
     go_simp;obtain⟨oE13,kE13,lE13⟩:=fN W1 232 2;refine hK.out _ _ ⟨keep_cell kE13 hH.1,keep_cell kE13 hH.2.1,keep_cell kE13 hH.2.2⟩ (fun hH=>?_);clear hK K;have oE6:=aG oE6 kE13;have kW2:=kW1.trans (kE13.mono kW1.size);have hee:e6≠W1.heap.size:=by omega
     have oE13:=aQ (base':=wr.heap.size) oE13 kW1.size;generalize hW1:W1.heap.size=e13 at*;generalize W1.alloc (M #[] 232)=W2 at*;refine R6 12 (fun K hK=>?_);refine dP underlying225 underlying225 gi0 gz0 gz1 gz2 rfl (by omega) (by omega) (.tmp 18) (.tmp 23) rfl rfl wr.heap.size (Z (Y ⟨e6,0,O⟩) 0 0) 0 [] ah nh ch (hcells lhs) rfl rfl oE6 (h3.below kW2) (cF _) (by omega) kW2.size ?_;intro a5 c5 w5 own5 gr5 at5;simp only[Al,List.nil_append]at own5 at5⊢;have k5:V' wr w5:=kW2.grown gr5 kW2.size (fun g hg=>(aH oE6 g hg).1);have hb6:(Z (Y ⟨e6,0,O⟩) 0 0).ownBlock≠Y b:=fun e=>by have:=(aH oE6 _ e).1;omega
     refine hK.out _ _ ⟨aK gr5 hH.1 hb6,aK gr5 hH.2.1 hb6,aK gr5 hH.2.2 hb6⟩ (fun hH=>?_);clear hK K;refine J3 ?_;have hne0:∀g,(Z (Y ⟨e13,0,O⟩) 0 0).ownBlock=Y g->(Z (Y ⟨e6,0,O⟩) 0 0).ownBlock≠Y g:=fun g h1 h2=>by simp[Value.ownBlock]at h1 h2;omega
     have oE:=aN oE13 gr5 hne0;have o1:=own5;have kW:=k5;have hlt1:∀g,(Z a5 nh c5).ownBlock=Y g->g<w5.heap.size:=fun g h1=>(aH o1 g h1).2;have hne:∀g,(Z a5 nh c5).ownBlock=Y g->(Z (Y ⟨e13,0,O⟩) 0 0).ownBlock≠Y g:=fun g h1 h2=>by
      rcases at5 g h1 with h|h
      .exact hne0 g h2 h
      .have:=(aH oE13 g h2).2;omega
     clear own5 gr5 at5 oE13 oE6 hne0;generalize w5=W at*;generalize e13=E at*;have hbE:(Z (Y ⟨E,0,O⟩) 0 0).ownBlock≠Y b:=fun e=>by have:=(aH oE _ e).1;omega
     refine R6 19 (fun K hK=>?_);refine dP underlying225 underlying225 gi0 gz0 gz1 gz2 rfl (by omega) (by omega) (.tmp 25) (.tmp 30) rfl rfl wr.heap.size (Z (Y ⟨E,0,O⟩) 0 0) 0 [] aq nq cq (hcells lqs) rfl rfl oE (h4.below kW) (cF _) (by omega) kW.size ?_;intro a7 c7 w7 own7 gr7 at7;simp only[Al,List.nil_append]at own7 at7⊢;have k7:V' wr w7:=kW.grown gr7 kW.size (fun g hg=>(aH oE g hg).1);have o1:=aN o1 gr7 (fun g hg e=>hne g hg e);have hxy:∀g,(Z a5 nh c5).ownBlock=Y g->(Z a7 nq c7).ownBlock≠Y g:=fun g h1 h2=>by
      rcases at7 g h2 with h|h
      .exact hne g h1 h
      .have:=hlt1 g h1;omega
     refine hK.out _ _ ⟨aK gr7 hH.1 hbE,aK gr7 hH.2.1 hbE,aK gr7 hH.2.2 hbE⟩ (fun hH=>?_);clear hK K gr7 at7 oE hne kW hlt1;refine J3 ?_;refine R1 20 ?_;have kN:V' w7 (w7.alloc (M #[I J r,Z a5 nh c5,Z a7 nq c7] 227)):=(Aa _ _).alloc z' _;refine R6 21 (fun K hK=>?_);go_simp;refine hK.out _ _ ⟨keep_cell kN hH.1,keep_cell kN hH.2.1,keep_cell kN hH.2.2⟩ (fun hH=>?_);clear hK K;have bX5:=k7.trans (kN.mono k7.size);have ownP:=own.below bX5;have o1:=aG o1 kN;have o2:=aG own7 kN;have hb5:w.heap.size<=(w7.alloc (M #[I J r,Z a5 nh c5,Z a7 nq c7] 227)).heap.size:=Ak hB.size bX5.size;have hrb:(Z a' k c').ownBlock≠Y b:=fun e=>by have:=(aH own.row _ e).1;omega
     refine R6 22 (fun K hK=>?_);refine dP underlying62 underlying62 hi0 hz0 hz1 hz2 rfl (by omega) (by omega) (.tmp 12) (.tmp 33) rfl rfl w.heap.size (Z a' k c') k (lcells (ls.take k) vs) _ 1 1 [I J r,Z a5 nh c5,Z a7 nq c7] rfl rfl ownP.row (qH w7 r a5 nh c5 a7 nq c7 _) (nY r a5 nh c5 a7 nq c7) hsum hb5 ?_;intro a6 c6 w6 own6 gr6 at6;refine hK.out _ _ ⟨aK gr6 hH.1 hrb,aK gr6 hH.2.1 hrb,aK gr6 hH.2.2 hrb⟩ (fun hH=>?_);clear hK K;refine J3 ?_;refine R1 23 ?_;refine R7 ?_;go_wp2;go_roundw;case rel=>
      have hso:∃o,a6=Y ⟨o,0,O⟩:=by
       rcases own6.2 with⟨hv,h0⟩|⟨g,cp,cur,hv,_⟩
       .omega
       .simp only[Bg,Es]at hv;exact⟨g,hv.1⟩
      have hap:=xV (x:=Z a5 nh c5) (y:=Z a7 nq c7) (H:=wr.heap.size) own.apart (fun g hg=>(aH own.row g hg).2) (fun i q hq g hg=>(own.bd hq hg).2) hxy (fun g hg=>(aH o1 g hg).1) (fun g hg=>(aH o2 g hg).1);refine⟨k+1,a6,c6,by omega,by go_num,rfl,hso,⟨vs++[(Z a5 nh c5,Z a7 nq c7)],?_⟩,?_⟩
      .rw[HT.out];exact ownP.snoc (l:=⟨r,lhs,lqs⟩) own6 gr6 at6 (by simp only;rw[<-hH4.out];exact aQ o1 hB.size) (by simp only;rw[<-hQ4.out];exact aQ o2 hB.size) hap
      .have b5:=hB.trans (bX5.mono hB.size);exact b5.grown gr6 b5.size (fun g hg=>(aH ownP.row g hg).1)
     case measure=>simp[intOf];omega
    rotate_left
   rotate_left;focus
    go_simp;obtain⟨oE13,kE13,lE13⟩:=fN V 232 2;refine hK.out _ _ ⟨keep_cell kE13 hH.1,keep_cell kE13 hH.2.1,keep_cell kE13 hH.2.2⟩ (fun hH=>?_);clear hK K;have kW1:=kV.trans (kE13.mono kV.size);have oE13:=aQ (base':=wr.heap.size) oE13 kV.size;generalize V.heap.size=e13 at*;generalize V.alloc (M #[] 232)=W1 at*;refine R6 6 (fun K hK=>?_);go_simp;obtain⟨oE6,kE6,lE6⟩:=fN W1 232 2;refine hK.out _ _ ⟨keep_cell kE6 hH.1,keep_cell kE6 hH.2.1,keep_cell kE6 hH.2.2⟩ (fun hH=>?_);clear hK K;have oE13:=aG oE13 kE6;have kW2:=kW1.trans (kE6.mono kW1.size);have hee:e13≠W1.heap.size:=by omega
    have oE6:=aQ (base':=wr.heap.size) oE6 kW1.size;generalize hW1:W1.heap.size=e6 at*;generalize W1.alloc (M #[] 232)=W2 at*;refine R6 12 (fun K hK=>?_);refine dP underlying225 underlying225 gi0 gz0 gz1 gz2 rfl (by omega) (by omega) (.tmp 18) (.tmp 23) rfl rfl wr.heap.size (Z (Y ⟨e6,0,O⟩) 0 0) 0 [] ah nh ch (hcells lhs) rfl rfl oE6 (h3.below kW2) (cF _) (by omega) kW2.size ?_;intro a5 c5 w5 own5 gr5 at5;simp only[Al,List.nil_append]at own5 at5⊢;have k5:V' wr w5:=kW2.grown gr5 kW2.size (fun g hg=>(aH oE6 g hg).1);have hb6:(Z (Y ⟨e6,0,O⟩) 0 0).ownBlock≠Y b:=fun e=>by have:=(aH oE6 _ e).1;omega
    refine hK.out _ _ ⟨aK gr5 hH.1 hb6,aK gr5 hH.2.1 hb6,aK gr5 hH.2.2 hb6⟩ (fun hH=>?_);clear hK K;refine J3 ?_;have hne0:∀g,(Z (Y ⟨e13,0,O⟩) 0 0).ownBlock=Y g->(Z (Y ⟨e6,0,O⟩) 0 0).ownBlock≠Y g:=fun g h1 h2=>by simp[Value.ownBlock]at h1 h2;omega
    have oE:=aN oE13 gr5 hne0;have o1:=own5;have kW:=k5;have hlt1:∀g,(Z a5 nh c5).ownBlock=Y g->g<w5.heap.size:=fun g h1=>(aH o1 g h1).2;have hne:∀g,(Z a5 nh c5).ownBlock=Y g->(Z (Y ⟨e13,0,O⟩) 0 0).ownBlock≠Y g:=fun g h1 h2=>by
     rcases at5 g h1 with h|h
     .exact hne0 g h2 h
     .have:=(aH oE13 g h2).2;omega
    clear own5 gr5 at5 oE13 oE6 hne0;generalize w5=W at*;generalize e13=E at*;have hbE:(Z (Y ⟨E,0,O⟩) 0 0).ownBlock≠Y b:=fun e=>by have:=(aH oE _ e).1;omega
    refine R6 19 (fun K hK=>?_);refine dP underlying225 underlying225 gi0 gz0 gz1 gz2 rfl (by omega) (by omega) (.tmp 25) (.tmp 30) rfl rfl wr.heap.size (Z (Y ⟨E,0,O⟩) 0 0) 0 [] aq nq cq (hcells lqs) rfl rfl oE (h4.below kW) (cF _) (by omega) kW.size ?_;intro a7 c7 w7 own7 gr7 at7;simp only[Al,List.nil_append]at own7 at7⊢;have k7:V' wr w7:=kW.grown gr7 kW.size (fun g hg=>(aH oE g hg).1);have o1:=aN o1 gr7 (fun g hg e=>hne g hg e);have hxy:∀g,(Z a5 nh c5).ownBlock=Y g->(Z a7 nq c7).ownBlock≠Y g:=fun g h1 h2=>by
     rcases at7 g h2 with h|h
     .exact hne g h1 h
     .have:=hlt1 g h1;omega
    refine hK.out _ _ ⟨aK gr7 hH.1 hbE,aK gr7 hH.2.1 hbE,aK gr7 hH.2.2 hbE⟩ (fun hH=>?_);clear hK K gr7 at7 oE hne kW hlt1;refine J3 ?_;refine R1 20 ?_;have kN:V' w7 (w7.alloc (M #[I J r,Z a5 nh c5,Z a7 nq c7] 227)):=(Aa _ _).alloc z' _;refine R6 21 (fun K hK=>?_);go_simp;refine hK.out _ _ ⟨keep_cell kN hH.1,keep_cell kN hH.2.1,keep_cell kN hH.2.2⟩ (fun hH=>?_);clear hK K;have bX5:=k7.trans (kN.mono k7.size);have ownP:=own.below bX5;have o1:=aG o1 kN;have o2:=aG own7 kN;have hb5:w.heap.size<=(w7.alloc (M #[I J r,Z a5 nh c5,Z a7 nq c7] 227)).heap.size:=Ak hB.size bX5.size;have hrb:(Z a' k c').ownBlock≠Y b:=fun e=>by have:=(aH own.row _ e).1;omega
    refine R6 22 (fun K hK=>?_);refine dP underlying62 underlying62 hi0 hz0 hz1 hz2 rfl (by omega) (by omega) (.tmp 12) (.tmp 33) rfl rfl w.heap.size (Z a' k c') k (lcells (ls.take k) vs) _ 1 1 [I J r,Z a5 nh c5,Z a7 nq c7] rfl rfl ownP.row (qH w7 r a5 nh c5 a7 nq c7 _) (nY r a5 nh c5 a7 nq c7) hsum hb5 ?_;intro a6 c6 w6 own6 gr6 at6;refine hK.out _ _ ⟨aK gr6 hH.1 hrb,aK gr6 hH.2.1 hrb,aK gr6 hH.2.2 hrb⟩ (fun hH=>?_);clear hK K;refine J3 ?_;refine R1 23 ?_;refine R7 ?_;go_wp2;go_roundw;case rel=>
     have hso:∃o,a6=Y ⟨o,0,O⟩:=by
      rcases own6.2 with⟨hv,h0⟩|⟨g,cp,cur,hv,_⟩
      .omega
      .simp only[Bg,Es]at hv;exact⟨g,hv.1⟩
     have hap:=xV (x:=Z a5 nh c5) (y:=Z a7 nq c7) (H:=wr.heap.size) own.apart (fun g hg=>(aH own.row g hg).2) (fun i q hq g hg=>(own.bd hq hg).2) hxy (fun g hg=>(aH o1 g hg).1) (fun g hg=>(aH o2 g hg).1);refine⟨k+1,a6,c6,by omega,by go_num,rfl,hso,⟨vs++[(Z a5 nh c5,Z a7 nq c7)],?_⟩,?_⟩
     .rw[HT.out];exact ownP.snoc (l:=⟨r,lhs,lqs⟩) own6 gr6 at6 (by simp only;rw[<-hH4.out];exact aQ o1 hB.size) (by simp only;rw[<-hQ4.out];exact aQ o2 hB.size) hap
     .have b5:=hB.trans (bX5.mono hB.size);exact b5.grown gr6 b5.size (fun g hg=>(aH ownP.row g hg).1)
    case measure=>simp[intOf];omega
   rotate_left
  .obtain rfl:k=n:=by omega
   have HWF:Hid (ls.take k=ls):=by have:=HL.out;show _=_;rw[this];exact Be
   rw[HWF.out]at own;go_wp2;go_ret;obtain⟨o,rfl⟩:=HSO.out;exact⟨o,c',rfl,⟨vs,own⟩,hB⟩
theorem lH{sz:Nat}(h:w.ownsRow B t sz (Z a n c) n xs)(hP:∀g,B<=g->P g=A'):CellsAt (gU P w) a (n*sz) xs:=by have hc:=aO h;refine⟨hc.1,fun h0=>?_⟩;obtain⟨b,off,ha,hi⟩:=hc.2 h0;refine⟨b,off,ha,fun i hlt=>?_⟩;have h1:=hi i hlt;have h2:xs[i]? =Y (xs[i]'(by have:=hc.1;omega)):=Ao _;rw[h2]at h1⊢;subst ha;exact kZ h1 (hP b (aH h b rfl).1)
theorem jR(T:Nat->Nat)(H:Nat):∀g,H<=g->Ice (mrk T H 0) g=A':=by intro g hg;simp[Ice,mrk];omega
theorem OwnLv.seen{ls:List (List Row)}(h:OwnLv w B (Z a n cap) n ls)(hm:∀i,(ls.getD i []).length<=9223372036854775807)(hP:∀g,B<=g->P g=A'):LvAt (gU P w) a n ls:=by obtain⟨hl,vs,ho,hi,_⟩:=h;have hc:=lH ho hP;rw[Fb]at hc;refine⟨hl,vs,hc,fun i hlt=>?_⟩;obtain⟨x,h1,h2⟩:=hi i hlt;obtain⟨ai,ci,rfl⟩:=dT h2;exact⟨ai,_,ci,h1,lH h2 hP,hm i⟩
theorem OwnK.seen{T:TypeId}(h:OwnK T w B (Z a n cap) n ls vs)(hm:∀i,(aI ls i).hs.length<=9223372036854775807/\(aI ls i).qs.length<=9223372036854775807)(hP:∀g,B<=g->P g=A'):LkAt (gU P w) a n ls:=by
 have hc:=lH h.row hP;refine⟨h.len,fun h0=>?_⟩;obtain⟨b,off,ha,hi⟩:=hc.2 (by omega);refine⟨b,off,ha,fun i hlt=>?_⟩;have hv:vs[i]? =Y (vs[i]'(by have:=h.vlen;omega)):=Ao _;generalize(vs[i]'(by have:=h.vlen;omega))=p at hv;obtain⟨e0,e1,e2⟩:=wB (h.len.trans h.vlen.symm) hv;have o1:=h.hs i p hv;have o2:=h.qs i p hv;obtain⟨x,y⟩:=p;obtain⟨a1,c1,hx⟩:=dT o1;obtain⟨a2,c2,hy⟩:=dT o2;simp only at hx hy e1 e2 o1 o2;subst hx;subst hy;refine⟨a1,_,c1,a2,_,c2,(hi (i*3) (by omega)).trans e0,?_,?_,lH o1 hP,lH o2 hP,(hm i).1,(hm i).2,gI o1,gI o2⟩
 .rw[Dm];exact(hi (i*3+1) (by omega)).trans e1
 .rw[Dm];exact(hi (i*3+2) (by omega)).trans e2
theorem LkIn.seen{lo hi:Nat}(h:LkIn lo hi w a n ls)(hP:∀g,lo<=g->P g=A'):LkAt (gU P w) a n ls:=by
 have ce:∀{a:Option Addr} {m:Nat} {xs:List Value},CellsAt w a (m*2) xs->(∀g o,0<m->a=Y ⟨g,o,O⟩->lo<=g/\g<hi)->CellsAt (gU P w) a (m*2) xs:=by intro a m xs hc hg;refine⟨hc.1,fun h0=>?_⟩;obtain⟨b,off,ha,hi⟩:=hc.2 h0;refine⟨b,off,ha,fun i hlt=>?_⟩;have h1:=hi i hlt;have h2:xs[i]? =Y (xs[i]'(by have:=hc.1;omega)):=Ao _;rw[h2]at h1⊢;exact kZ h1 (hP b (hg b off (by omega) ha).1)
 refine⟨h.1,fun h0=>?_⟩;obtain⟨b,off,ha,hl,_,hi⟩:=h.2 h0;refine⟨b,off,ha,fun i hlt=>?_⟩;obtain⟨ah,nh,ch,aq,nq,cq,⟨h0,h1,h2,h3,h4,h5⟩,g1,g2⟩:=hi i hlt;have hp:=hP b hl;exact⟨ah,nh,ch,aq,nq,cq,kZ h0 hp,kZ h1 hp,kZ h2 hp,ce h3 g1,ce h4 g2,h5⟩
def tx8(t:Tx)(x:Value)(j:Nat):Value:=match j with
 |0=>I J t.id
 |1=>X t.sy
 |2=>I J t.st
 |3=>x
 |4=>I J t.wk
 |5=>I J t.wa
 |6=>I J t.wb
 |_=>I J t.wv
structure TxO(w:World)(H:Nat)(T:Nat->Nat)(v:Value)(n:Nat)(ts:List Tx)(us:Nat->Value):Prop where
 len:ts.length=n
 row:∃cs,OwnT w H T 2 155 8 v n cs/\∀i j,i<n->j<8->cs[i*8+j]? =Y (tx8 (aS ts i) (us i) j)
 un:∀i,i<n->OwnT w H T (2*i+10) 263 3 (us i) (aS ts i).un.length (bfcells (aS ts i).un)
 few:∀i,(aS ts i).un.length<=1048576
theorem TxO.kept(h:TxO w H T v n ts us)(hk:Kp 2 T T' w w')(hu:∀i,Kp (2*i+10) T T' w w'):TxO w' H T' v n ts us:=by obtain⟨hl,⟨cs,hr,hc⟩,hn,hf⟩:=h;exact⟨hl,⟨cs,hr.kept hk,hc⟩,fun i hi=>(hn i hi).kept (hu i),hf⟩
theorem TxO.at(h:TxO w H T (Z a n c) n ts us):TxAt w a n ts:=by obtain⟨hl,⟨cs,hr,hcs⟩,hn,hf⟩:=h;have hc:=hr.cells;refine⟨hl,fun h0=>?_⟩;obtain⟨b,off,ha,hcc⟩:=hc.2 (by omega);refine⟨b,off,ha,fun i hlt=>?_⟩;have h2:=(hn i hlt).1;obtain⟨ai,ci,hx⟩:=dT h2;have cc:=fun j (hj:j<8)=>(hcc (i*8+j) (by omega)).trans (hcs i j hlt hj);rw[hx]at cc h2;simp only[<-Dm]at cc;exact⟨ai,_,ci,cc 0 (by decide),cc 1 (by decide),cc 2 (by decide),cc 3 (by decide),cc 4 (by decide),cc 5 (by decide),cc 6 (by decide),cc 7 (by decide),aO h2,hf i⟩
structure AcO(w:World)(H:Nat)(T:Nat->Nat)(v:Value)(n:Nat)(ts:List Ac)(us:Nat->Value):Prop where
 len:ts.length=n
 row:∃cs,OwnT w H T 7 56 6 v n cs/\∀i j,i<n->j<6->cs[i*6+j]? =Y (ac6 (aM ts i) (us i) j)
 an:∀i,i<n->OwnT w H T (2*i+11) 2 1 (us i) (aM ts i).an.length (icells (aM ts i).an)
 few:∀i,(aM ts i).an.length<=1048576
theorem AcO.kept{ts:List Ac}(h:AcO w H T v n ts us)(hk:Kp 7 T T' w w')(hu:∀i,Kp (2*i+11) T T' w w'):AcO w' H T' v n ts us:=by obtain⟨hl,⟨cs,hr,hc⟩,hn,hf⟩:=h;exact⟨hl,⟨cs,hr.kept hk,hc⟩,fun i hi=>(hn i hi).kept (hu i),hf⟩
theorem AcO.at{ts:List Ac}(h:AcO w H T (Z a n c) n ts us):AcAt w a n ts:=by obtain⟨hl,⟨cs,hr,hcs⟩,hn,hf⟩:=h;have hc:=hr.cells;refine⟨hl,fun h0=>?_⟩;obtain⟨b,off,ha,hcc⟩:=hc.2 (by omega);refine⟨b,off,ha,fun i hlt=>?_⟩;have h2:=(hn i hlt).1;obtain⟨ai,ci,hx⟩:=dT h2;have cc:=fun j (hj:j<6)=>(hcc (i*6+j) (by omega)).trans (hcs i j hlt hj);rw[hx]at cc h2;simp only[<-Dm]at cc;exact⟨ai,_,ci,cc 0 (by decide),cc 1 (by decide),cc 2 (by decide),cc 3 (by decide),cc 4 (by decide),cc 5 (by decide),aO h2,by have:=hf i;omega⟩
structure EgO(w:World)(H:Nat)(T:Nat->Nat)(s:EgS)(e:Eng):Prop where
 base:CellsAt (gU (Ice T) w) s.ba (s.bn*3) (rcells e.base)
 lv:LvAt (gU (Ice T) w) s.la s.ln e.lv
 lk:LkAt (gU (Ice T) w) s.ka s.kn e.lk
 ix:CellsAt (gU (Ice T) w) s.xa (s.xn*2) (hcells e.ix)
 tx:∃us,TxO w H T (Z s.ta s.tn s.tc) s.tn e.tx us
 su:OwnT w H T 4 5 1 (Z s.sa s.sn s.sc) s.sn (bts e.su)
 lo:OwnT w H T 5 5 1 (Z s.oa s.on s.oc) s.on (bts e.lo)
 cm:OwnT w H T 6 2 1 (Z s.ma s.mn s.mc) s.mn (icells e.cm)
 ac:∃us,AcO w H T (Z s.aa s.an s.ac) s.an e.ac us
 bsu:IsB e.su
 blo:IsB e.lo
 n1:s.bn<=1048576
 n2:aW e.lv<=1048576
 n3:dS e.lk<=1048576
 n4:s.tn<=1048576
 n5:s.sn<=4100000
 n6:s.on<=4100000
 n7:s.xn<=1048576
 n8:s.mn<=1048576
 n9:s.an<=1048576
theorem EgO.read(h:EgO w H T s e):EgR w s e:=by obtain⟨us,ht⟩:=h.tx;obtain⟨vs,ha⟩:=h.ac;have h1:=h.su.cells;have h2:=h.lo.cells;rw[Fb]at h1 h2;exact⟨h.base.sub fK,h.lv.sub fK,h.lk.sub fK,ht.at,h1,h2,h.ix.sub fK,h.cm.cells,ha.at,h.bsu,h.blo,h.n1,h.n2,h.n3,h.n4,h.n5,h.n6,h.n7,h.n8,h.n9,ha.few,gI h.su.1,gI h.lo.1,gI h.cm.1⟩
theorem EgO.kept(h:EgO w H T s e)(hk:∀k,k≠1->k≠8->Kp k T T' w w'):EgO w' H T' s e:=by obtain⟨us,ht⟩:=h.tx;obtain⟨vs,ha⟩:=h.ac;have hs:=eE (hk 0 (by omega) (by omega));exact⟨h.base.sub hs,h.lv.sub hs,h.lk.sub hs,h.ix.sub hs,⟨us,ht.kept (hk 2 (by omega) (by omega)) fun i=>hk _ (by omega) (by omega)⟩,h.su.kept (hk 4 (by omega) (by omega)),h.lo.kept (hk 5 (by omega) (by omega)),h.cm.kept (hk 6 (by omega) (by omega)),⟨vs,ha.kept (hk 7 (by omega) (by omega)) fun i=>hk _ (by omega) (by omega)⟩,h.bsu,h.blo,h.n1,h.n2,h.n3,h.n4,h.n5,h.n6,h.n7,h.n8,h.n9⟩
theorem EgO.newLo(h:EgO w H T s e)(hk:∀k,k≠1->k≠8->k≠5->Kp k T T' w w')(hl:OwnT w' H T' 5 5 1 (Z a n c) n (bts zs))(hb:IsB zs)(hn:n<=4100000):EgO w' H T' {s with oa:=a,on:=n,oc:=c} {e with lo:=zs}:=by obtain⟨us,ht⟩:=h.tx;obtain⟨vs,ha⟩:=h.ac;have hs:=eE (hk 0 (by omega) (by omega) (by omega));exact⟨h.base.sub hs,h.lv.sub hs,h.lk.sub hs,h.ix.sub hs,⟨us,ht.kept (hk 2 (by omega) (by omega) (by omega)) fun i=>hk _ (by omega) (by omega) (by omega)⟩,h.su.kept (hk 4 (by omega) (by omega) (by omega)),hl,h.cm.kept (hk 6 (by omega) (by omega) (by omega)),⟨vs,ha.kept (hk 7 (by omega) (by omega) (by omega)) fun i=>hk _ (by omega) (by omega) (by omega)⟩,h.bsu,hb,h.n1,h.n2,h.n3,h.n4,h.n5,hn,h.n7,h.n8,h.n9⟩
theorem EgO.newSu(h:EgO w H T s e)(hk:∀k,k≠1->k≠8->k≠4->Kp k T T' w w')(hl:OwnT w' H T' 4 5 1 (Z a n c) n (bts zs))(hb:IsB zs)(hn:n<=4100000):EgO w' H T' {s with sa:=a,sn:=n,sc:=c} {e with su:=zs}:=by obtain⟨us,ht⟩:=h.tx;obtain⟨vs,ha⟩:=h.ac;have hs:=eE (hk 0 (by omega) (by omega) (by omega));exact⟨h.base.sub hs,h.lv.sub hs,h.lk.sub hs,h.ix.sub hs,⟨us,ht.kept (hk 2 (by omega) (by omega) (by omega)) fun i=>hk _ (by omega) (by omega) (by omega)⟩,hl,h.lo.kept (hk 5 (by omega) (by omega) (by omega)),h.cm.kept (hk 6 (by omega) (by omega) (by omega)),⟨vs,ha.kept (hk 7 (by omega) (by omega) (by omega)) fun i=>hk _ (by omega) (by omega) (by omega)⟩,hb,h.blo,h.n1,h.n2,h.n3,h.n4,hn,h.n6,h.n7,h.n8,h.n9⟩
theorem EgO.newCm(h:EgO w H T s e)(hk:∀k,k≠1->k≠8->k≠6->Kp k T T' w w')(hl:OwnT w' H T' 6 2 1 (Z a n c) n (icells zs))(hn:n<=1048576):EgO w' H T' {s with ma:=a,mn:=n,mc:=c} {e with cm:=zs}:=by obtain⟨us,ht⟩:=h.tx;obtain⟨vs,ha⟩:=h.ac;have hs:=eE (hk 0 (by omega) (by omega) (by omega));exact⟨h.base.sub hs,h.lv.sub hs,h.lk.sub hs,h.ix.sub hs,⟨us,ht.kept (hk 2 (by omega) (by omega) (by omega)) fun i=>hk _ (by omega) (by omega) (by omega)⟩,h.su.kept (hk 4 (by omega) (by omega) (by omega)),h.lo.kept (hk 5 (by omega) (by omega) (by omega)),hl,⟨vs,ha.kept (hk 7 (by omega) (by omega) (by omega)) fun i=>hk _ (by omega) (by omega) (by omega)⟩,h.bsu,h.blo,h.n1,h.n2,h.n3,h.n4,h.n5,h.n6,h.n7,hn,h.n9⟩
theorem EgO.newTx(h:EgO w H T s e)(hk:∀k,k≠1->k≠8->k≠2->(∀i,k≠2*i+10)->Kp k T T' w w')(hl:TxO w' H T' (Z a n c) n ts us)(hn:n<=1048576):EgO w' H T' {s with ta:=a,tn:=n,tc:=c} {e with tx:=ts}:=by obtain⟨vs,ha⟩:=h.ac;have hs:=eE (hk 0 (by omega) (by omega) (by omega) (by omega));exact⟨h.base.sub hs,h.lv.sub hs,h.lk.sub hs,h.ix.sub hs,⟨us,hl⟩,h.su.kept (hk 4 (by omega) (by omega) (by omega) (by omega)),h.lo.kept (hk 5 (by omega) (by omega) (by omega) (by omega)),h.cm.kept (hk 6 (by omega) (by omega) (by omega) (by omega)),⟨vs,ha.kept (hk 7 (by omega) (by omega) (by omega) (by omega)) fun i=>hk _ (by omega) (by omega) (by omega) (by omega)⟩,h.bsu,h.blo,h.n1,h.n2,h.n3,hn,h.n5,h.n6,h.n7,h.n8,h.n9⟩
theorem EgO.newAc{ts:List Ac}(h:EgO w H T s e)(hk:∀k,k≠1->k≠8->k≠7->(∀i,k≠2*i+11)->Kp k T T' w w')(hl:AcO w' H T' (Z a n c) n ts us)(hn:n<=1048576):EgO w' H T' {s with aa:=a,an:=n,ac:=c} {e with ac:=ts}:=by obtain⟨vs,ht⟩:=h.tx;have hs:=eE (hk 0 (by omega) (by omega) (by omega) (by omega));exact⟨h.base.sub hs,h.lv.sub hs,h.lk.sub hs,h.ix.sub hs,⟨vs,ht.kept (hk 2 (by omega) (by omega) (by omega) (by omega)) fun i=>hk _ (by omega) (by omega) (by omega) (by omega)⟩,h.su.kept (hk 4 (by omega) (by omega) (by omega) (by omega)),h.lo.kept (hk 5 (by omega) (by omega) (by omega) (by omega)),h.cm.kept (hk 6 (by omega) (by omega) (by omega) (by omega)),⟨us,hl⟩,h.bsu,h.blo,h.n1,h.n2,h.n3,h.n4,h.n5,h.n6,h.n7,h.n8,hn⟩
theorem EgO.newLv{ls:List (List Row)}(h:EgO w H T s e)(hl:LvAt (gU (Ice T) w) a n ls)(hn:aW ls<=1048576):EgO w H T {s with la:=a,ln:=n,lc:=c} {e with lv:=ls}:=
 ⟨h.base,hl,h.lk,h.ix,h.tx,h.su,h.lo,h.cm,h.ac,h.bsu,h.blo,h.n1,hn,h.n3,h.n4,h.n5,h.n6,h.n7,h.n8,h.n9⟩
theorem EgO.newLk(h:EgO w H T s e)(hl:LkAt (gU (Ice T) w) a n ls)(hn:dS ls<=1048576):EgO w H T {s with ka:=a,kn:=n,kc:=c} {e with lk:=ls}:=
 ⟨h.base,h.lv,hl,h.ix,h.tx,h.su,h.lo,h.cm,h.ac,h.bsu,h.blo,h.n1,h.n2,hn,h.n4,h.n5,h.n6,h.n7,h.n8,h.n9⟩
theorem EgO.newIx(h:EgO w H T s e)(hl:CellsAt (gU (Ice T) w) a (n*2) (hcells ps))(hn:n<=1048576):EgO w H T {s with xa:=a,xn:=n,xc:=c} {e with ix:=ps}:=
 ⟨h.base,h.lv,h.lk,hl,h.tx,h.su,h.lo,h.cm,h.ac,h.bsu,h.blo,h.n1,h.n2,h.n3,h.n4,h.n5,h.n6,hn,h.n8,h.n9⟩
theorem Tryz.info79:(prog.info? 79).map (fun i=>(i.zero,i.size,i.bytes))=Y (Y (U #[I J 0,I J 0,I J 0,X F',I J 0,X F',I J 0]),7,56):=by kernel_rfl
def aW5(a:Option Addr)(cap k:Nat):Option Addr:=if cap=k then a else a.map (·.add k)
theorem cJ9(a:Option Addr)(n cap k:Nat)(hk:k<=n)(w:World):
  (Instr.slice 22 (Z a n cap) (Y (I J (k:Int))) O O).run prog w= .ok (Z (aW5 a cap k) (n-k) (cap-k)) w:=by
 have h0:(0:Int)<=(k:Int):=by omega
 have h1:(k:Int)<=(n:Int):=by omega
 have hu:prog.underlying 22=Y (.slice (prog.elem 22)):=by kernel_rfl
 have he:prog.elem 22=5:=by kernel_rfl
 have hs:=sizeOf5;rw[<-he]at hs;unfold aW5;rw[run_slice_l (ht:=hu) (h0:=h0) (h1:=h1),hs];simp[Result.andThen,sliced]
theorem CellsAt.drop{k:Nat}(h:CellsAt w a n (bts zs))(hk:k<=n)(hcap:n<=cap):CellsAt w (aW5 a cap k) (n-k) (bts (zs.drop k)):=by
 have hl:=h.len.out;refine⟨by simp[bts];omega,fun h0=>?_⟩;obtain⟨b,off,rfl,hc⟩:=h.2 (by omega);refine⟨b,off+k,?_,fun i hi=>?_⟩
 .unfold aW5;rw[if_neg (by omega)];simp only[Option.map_some,Af];unfold Addr.add;split
  .next h0=>subst h0;rfl
  .rfl
 .rw[Dm,hc (k+i) (by omega)];simp[bts,Df]
theorem bV8{a:Act}(s x:Operand)
  (B:Nat) (v:Value) (n:Nat) (rs:List Rec) (r:Rec) (hn:n<=1048576)
  (ho:o.op= .call {callee:=.builtin .append,args:=#[s,x],argTypes:=#[31,31]}) (hgd:o.guard=O)
  (hs:a.eval s=v) (hx:∃h c t,a.eval x=Z (Y ⟨h,0,O⟩) 1 c/\w.heap[h]? =Y (M (c7 r).toArray t (0,0)))
  (hown:w.ownsRow B 79 7 v n (rc7 rs)) (hbase:B<=w.heap.size)
  (hK:∀g' cp' w',w'.ownsRow B 79 7 (Z (Y ⟨g',0,O⟩) (n+1) cp') (n+1) (rc7 (rs++[r]))->Below B w w'->wpList prog ops Q rest (a.put o.dst (Z (Y ⟨g',0,O⟩) (n+1) cp')) w'):
  wpList prog ops Q (o::rest) a w:=by
 obtain⟨h,c,t,hx,hblk⟩:=hx;obtain⟨i0,hi,hz0,hz1,hz2⟩:=Bz Tryz.info79;refine wpList_append_lies _ hgd s x 31 ho B 79 i0 _ 7 56 underlying31 hi hz0 hz1 hz2 rfl (by omega) v n (rc7 rs) hs hown ⟨h,0,O⟩ 1 c (c7 r) hx rfl (World.news_of_block hblk) (by simp[c7,Value.oneCell']) (by omega) (by unfold maxLen;omega) (by omega) hbase _ rfl ?_;intro g' cp' w' hown' hgrow hat hlt;rw[<-bS7]at hown';refine hK g' cp' w' hown' ((Aa _ _).grown hgrow hbase (fun k hk=>?_));rcases hown.2 with⟨hv,_⟩|⟨g,cap',cur,hv,hb,_⟩
 .subst hv;simp[Value.ownBlock]at hk
 .subst hv;simp[Value.ownBlock]at hk;omega
theorem aG5(zs:List Int):(Ch.first zs=O/\dJ zs=(Rec.zero,0))\/(∃r,Ch.first zs=Y r/\dJ zs=(r,r.len)):=by
 unfold dJ;cases h:Ch.first zs with
 |none=>exact .inl ⟨rfl,rfl⟩
 |some r=>exact .inr ⟨r,rfl,rfl⟩
theorem aN1(a:Option Addr)(n cap:Nat)(zs:List Int)(w:World)(h:CellsAt w a n (bts zs))(hb:IsB zs)(hn:n<=1048576)(hcap:n<=cap):
  Calls prog 31 #[Z a n cap] w fun e w'=>∃g c,e=R' (.tuple #[Z (Y ⟨g,0,O⟩) (iS zs).length c,I J (kY zs)])/\w'.ownsRow w.heap.size 79 7 (Z (Y ⟨g,0,O⟩) (iS zs).length c) (iS zs).length (rc7 (iS zs))/\V' w w':=by
 have HL:=h.len;go_enter func31,ntmps31
 go_wp2;go_loopw [4,5] (fun v i wr=>∃(pre:List Rec) (k m g c:Nat),i=I J (k:Int)/\v=Z (Y ⟨g,0,O⟩) m c/\Hid (m=pre.length/\k<=n/\iS zs=pre++iS (zs.drop k)/\Ch.lenOf pre=k)/\wr.ownsRow w.heap.size 79 7 (Z (Y ⟨g,0,O⟩) m c) m (rc7 pre)/\V' w wr) (fun _ i _=>n-(intOf i).toNat)
 case atStart=>refine⟨[],0,0,w.heap.size,0,rfl,rfl,⟨rfl,Ad _,rfl,rfl⟩,?_,(Aa _ _).alloc z' _⟩;exact Cr w #[] 0 z' (by unfold maxLen;omega) rfl
 case round=>
  obtain⟨pre,k,m,g,c,rfl,rfl,HI,own,hB⟩:=hrel;have hk:Hid (k<=n):=HI.out.2.1;have hsl:=fun W=>cJ9 a n cap k hk.out W;have hone:=cW5 (aW5 a cap k) (n-k) (cap-k) (zs.drop k) wr ((h.below hB).drop hk.out hcap) (dE8 hb k) (by omega) (by omega);generalize aW5 a cap k=a' at*;go_wp2_with fail
  refine hone.mono ?_;clear hone hsl;rintro e w1⟨rfl,b1⟩;have hz1:=b1.size;have hB1:=hB.trans (b1.mono hB.size);have own1:=aG own b1;have hzB:=hB.size;clear b1 own;rcases aG5 (zs.drop k)with⟨hf,he⟩|⟨r,hf,he⟩
  .rw[he];simp only[recV,Rec.zero];have HE:Hid (pre=iS zs/\kY zs=k):=by have e1:=HI.out.2.2.1;rw[bK0 hf,Dz]at e1;refine⟨e1.symm,?_⟩;unfold kY;rw[e1];exact HI.out.2.2.2
   clear he hf;go_wp2;go_ret2;obtain⟨h1,h2⟩:=HE.out;refine⟨g,c,?_,?_,hB1.alloc (by omega) _⟩
   .rw[h2,<-h1,<-HI.out.1];rfl
   .rw[<-h1,<-HI.out.1];exact own1.alloc _
  .have hl:=tZ hf;have hlk:Hid (k+r.len<=n):=by have:=HL.out;simp at hl;show _<=_;have:=hk.out;omega
   have HN:Hid (iS zs=(pre++[r])++iS (zs.drop (k+r.len))/\Ch.lenOf (pre++[r])=k+r.len):=by
    refine⟨?_,?_⟩
    .rw[HI.out.2.2.1,bK1 hf,List.drop_drop];simp
    .rw[aR6,HI.out.2.2.2];rfl
   have hm:Hid (m<=1048576):=by
    have e1:=HI.out.1;have e2:=HI.out.2.2.2;have e3:=hk.out;have:5*pre.length<=Ch.lenOf pre:=by
     generalize pre=rs;induction rs with
     |nil=>simp[Ch.lenOf]
     |cons q rs ih=>rw[bJ5];have:=q.len_bd;simp;omega
    show _<=_;omega
   rw[he];clear he hf;have hr5:=r.len_bd;obtain⟨kd,tx,ky,hd,ol,hs,nw⟩:=r;simp only[recV];generalize hlen:Rec.len ⟨kd,tx,ky,hd,ol,hs,nw⟩=len at*;have hne:((len:Int)==0)=F':=by simp;omega
   have hlk1:=hlk.out;go_wp2_with(at_builtin;go_must (refine bV8 (.tmp 20) (.tmp 22) w.heap.size (Z (Y ⟨g,0,O⟩) m c) m pre ⟨kd,tx,ky,hd,ol,hs,nw⟩ hm.out ?_ ?_ ?_ ?_ ?_ ?_ ?_;exact rfl;exact rfl;exact rfl;(refine⟨_,_,79,rfl,?_⟩;refine aP ?_;(focus(simp;done)));exact(own1.alloc _).alloc _;(focus(simp;omega));intro g3 c3 w3 own3 b3))
   go_roundw;case rel=>refine⟨pre++[⟨kd,tx,ky,hd,ol,hs,nw⟩],k+len,m+1,g3,c3,by go_num,rfl,⟨by simp[HI.out.1],hlk1,HN.out.1,HN.out.2⟩,own3,((hB1.alloc (by omega) _).alloc (by simp;omega) _).trans b3⟩
   case measure=>simp[intOf];omega
theorem dM1(rs:List Rec):∀u∈rc7 rs,u.oneCell'=A':=by intro u hu;unfold rc7 at hu;obtain⟨r,_,hr⟩:=Cf.1 hu;simp only[c7,Am,Cu,Eh]at hr;rcases hr with rfl|rfl|rfl|rfl|rfl|rfl|rfl<;>rfl
theorem dL4(hH:H=w.heap.size):CellsAt (w.alloc (M #[I J r.kd,I J r.tx,I J r.ky,X r.hd,I J r.ol,X r.hs,I J r.nw] t)) (Y ⟨H,0,O⟩) (1*7) (rc7 [r]):=by subst hH;refine⟨rfl,fun _=>⟨_,_,rfl,fun i hi=>?_⟩⟩;rw[Al];have:=Ai (w.alloc (M #[I J r.kd,I J r.tx,I J r.ky,X r.hd,I J r.ol,X r.hs,I J r.nw] t)) _ i _ _ _ (Ar w _);rw[this];simp[rc7,c7]
theorem cY5{ty:Nat}(hown:w.ownsRow B 79 7 v n (rc7 rs))(hc:CellsAt w (Y ⟨g,0,O⟩) (1*7) (rc7 [r]))(hn:n<=1048576)(hbase:B<=w.heap.size):
  ∃a' c' w',(Builtin.append_ #[31,31] ty #[v,Z (Y ⟨g,0,O⟩) 1 c]).run prog w= .ok (Z a' (n+1) c') w'/\w'.ownsRow B 79 7 (Z a' (n+1) c') (n+1) (rc7 (rs++[r]))/\w.grownBy w' v.ownBlock/\
   ∀g,(Z a' (n+1) c').ownBlock=Y g->v.ownBlock=Y g\/w.heap.size<=g:=by
 obtain⟨i0,hi,hz0,hz1,hz2⟩:=Bz Tryz.info79;obtain⟨v',w',hr,h2,h3,_,h5⟩:=run_append_own_at (P:=prog) w B 31 ty 79 i0 _ 7 56 underlying31 hi hz0 hz1 hz2 rfl (by omega) v n (rc7 rs) hown ⟨g,0,O⟩ 1 c (rc7 [r]) hc.1 (fun j u hj=>by
   have hjl:j<(rc7 [r]).length:=(Di.1 hj).1;have hl:=hc.1;obtain⟨b,off,ha,hcc⟩:=hc.2 (by omega);simp only[Af,Ap,Cn]at ha;obtain⟨rfl,rfl⟩:=ha;have e:(⟨g,0,O⟩:Addr).add j=⟨g,0+j,O⟩:=by
    unfold Addr.add;split
    .next h0=>subst h0;rfl
    .rfl
   rw[e,hcc j (by omega),hj]) (dM1 [r]) (by unfold maxLen;omega) (by omega) hbase
 obtain⟨a',c',rfl⟩:=dT h2;refine⟨a',c',w',hr,by rw[bS7];simpa[rc7]using h2,h3,fun g hg=>?_⟩;rcases h5 with h5|h5
 .exact .inl (by rw[<-h5];exact hg)
 .right;rw[h5]at hg;simp at hg;omega
theorem bI7{a:Act}(s x:Operand)
  (ho:o.op= .call {callee:=.builtin .append,args:=#[s,x],argTypes:=#[31,31]}) (hgd:o.guard=O)
  (B:Nat) (v:Value) (n:Nat) (rs:List Rec) (g c:Nat) (r:Rec) (hs:a.eval s=v) (hx:a.eval x=Z (Y ⟨g,0,O⟩) 1 c)
  (hown:w.ownsRow B 79 7 v n (rc7 rs)) (hc:CellsAt w (Y ⟨g,0,O⟩) (1*7) (rc7 [r])) (hn:n<=1048576) (hbase:B<=w.heap.size)
  (hK:∀a' c' w',w'.ownsRow B 79 7 (Z a' (n+1) c') (n+1) (rc7 (rs++[r]))->w.grownBy w' v.ownBlock->(∀g,(Z a' (n+1) c').ownBlock=Y g->v.ownBlock=Y g\/w.heap.size<=g)->wpList prog ops Q rest (a.put o.dst (Z a' (n+1) c')) w'):
  wpList prog ops Q (o::rest) a w:=by
 obtain⟨a',c',w',hr,h2,h3,h4⟩:=cY5 (ty:=o.type) (c:=c) hown hc hn hbase;exact Lib.wpList_append_run w hgd s x _ _ ho _ _ hs hx _ _ hr (hK a' c' w' h2 h3 h4)
theorem sQ{u0 u1 u2:Value}(h:W.heap[g]? =Y (M #[u0,u1,u2] t (0,0))):
  W.cell? ⟨g,0,O⟩=Y u0/\W.cell? ⟨g,1,O⟩=Y u1/\W.cell? ⟨g,2,O⟩=Y u2/\W.frozen? ⟨g,0,O⟩=F'/\W.frozen? ⟨g,1,O⟩=F'/\W.frozen? ⟨g,2,O⟩=F':=
 ⟨C' h,C' h,C' h,by simp[World.frozen?,h],by simp[World.frozen?,h],by simp[World.frozen?,h]⟩
end Go.Proofs.YtpbbokalojdooaaGreat
