import Derived.Test.YtpbbokalojdooaaGreatQau
import Derived.Test.YtpbbokalojdooaaGreatQav
namespace Go.Proofs.YtpbbokalojdooaaGreat
open Go.RowKit Ch Go.Proofs.Tryz
set_option linter.unusedSimpArgs false
set_option linter.unusedVariables false
set_option maxRecDepth 20000
set_option maxHeartbeats 8000000
open Value renaming int->I,slice->Z,bool->X,agg->U
open IntKind renaming i64->J
open Option renaming none->O,some->Y
open Obj renaming cells->M
open Ending renaming returned->R'
open Bool renaming true->A',false->F'
variable {s:EgS} {e:Eng} {vs:List (Value×Value)} {ps:List Hold} {zs:List Int} {ls:List Lock} {rs:List Rec} {ts:List Tx} {xs:List Value} {B H c cap n:Nat} {P:Nat->Bool} {T T':Nat->Nat} {us:Nat->Value} {a:Option Addr} {t:TypeId} {v:Value} {W w w':World}
theorem fE(V:World)(e:TypeId)(size:Nat):(V.alloc (M #[] e)).ownsRow V.heap.size e size (Z (Y ⟨V.heap.size,0,O⟩) 0 0) 0 []/\Below V.heap.size V (V.alloc (M #[] e))/\V.heap.size<(V.alloc (M #[] e)).heap.size:=
 ⟨oZ V _ e size z',q',by rw[World.size_alloc];omega⟩
theorem xQ(a:Option Addr)(n cap:Nat)(ls:List Lock)(w:World)(h:LkAt w a n ls)(hs:dC ls<=1048576):
  Calls prog 147 #[Z a n cap] w fun e w'=>∃o c',e=R' (Z (Y ⟨o,0,O⟩) n c')/\OwnLk 227 w' w.heap.size (Z (Y ⟨o,0,O⟩) n c') n ls/\Below w.heap.size w w':=by
 have HL:=h.len;have hn:n<=1048576:=by unfold dC at hs;have:=HL.out;omega
 obtain⟨i0,hi0,hz0,hz1,hz2⟩:=info_parts Tryz.info227;obtain⟨j0,gi0,gz0,gz1,gz2⟩:=info_parts Tryz.info232;go_enter func147,ntmps147
 go_wp2;go_loopw [3,4] (fun q i wr=>∃(k:Nat) (a':Option Addr) (c':Nat),k<=n/\i=I J k/\q=Z a' k c'/\(∃o,a'=Y ⟨o,0,O⟩)/\OwnLk 227 wr w.heap.size (Z a' k c') k (ls.take k)/\Below w.heap.size w wr) (fun _ i _=>n-(intOf i).toNat)
 case atStart=>exact⟨0,_,0,Nat.zero_le _,rfl,rfl,⟨_,rfl⟩,⟨[],⟨rfl,rfl,oZ w _ _ _ z',fun i p hp=>by simp at hp,fun i p hp=>by simp at hp,by simp[Value.ownBlock]⟩⟩,q'⟩
 case round=>
  obtain⟨k,a',c',hk,rfl,rfl,HSO,⟨vs,own⟩,hB⟩:=hrel;have HSO:=hid HSO;by_cases hlt:k<n
  .have hkl:k<ls.length:=by have:=HL.out;omega
   have HSz:=hid (iM hs k);have HT:=hid (bT ls Lock.zero k hkl);obtain⟨b,off,ah,nh,ch,aq,nq,cq,rfl,c0,c1,c2,h3,h4,_,_,_,_⟩:=h.lock hlt;have hbl:=aD c0;have c0:=aC hB c0;have c1:=aC hB c1;have c2:=aC hB c2;have h3:=h3.below hB;have h4:=h4.below hB;have hH4:=h3.hlen;have hQ4:=h4.hlen;have hnh:nh<=1048576:=by have:=HSz.out;have:=hH4.out;omega
   have hnq:nq<=1048576:=by have:=HSz.out;have:=hQ4.out;omega
   have hbs:w.heap.size<=wr.heap.size:=hB.size;rw[show ls.getD k Lock.zero=aH ls k from rfl]at HT;generalize aH ls k=l at*;obtain⟨r,lhs,lqs⟩:=l;simp only at c0 h3 h4 hH4 hQ4;have hsum:k+1<=4194304:=by omega
   clear HSz;go_wp2_with fail
   refine R0 (fun W'=>W'.cell? ⟨b,off+k*3,O⟩=Y (I J r)/\W'.cell? ⟨b,off+k*3+1,O⟩=Y (Z ah nh ch)/\W'.cell? ⟨b,off+k*3+2,O⟩=Y (Z aq nq cq)) (⟨c0,c1,c2⟩) (fun hH=>?_);have kV:Below wr.heap.size wr wr.drew:=u'.drew;generalize wr.drew=V at*;refine R5 0 1 2 3 4 ?_;refine R5 5 7 8 9 10 ?_;refine R5 11 14 15 16 17 ?_;refine R1 18 ?_;refine wpAnyH_ready (rs:=[6,13]) (by kernel_rfl) (by simp) ?_;refine AllReadyH.cons rfl (fun K hK=>?_) (AllReadyH.cons rfl (fun K hK=>?_) AllReadyH.nil);focus
    go_simp;obtain⟨oE6,kE6,lE6⟩:=fE V 232 2;refine hK.out _ _ ⟨aC kE6 hH.1,aC kE6 hH.2.1,aC kE6 hH.2.2⟩ (fun hH=>?_);clear hK K;have kW1:=kV.trans (kE6.mono kV.size);have oE6:=aP (base':=wr.heap.size) oE6 kV.size;generalize V.heap.size=e6 at*;generalize V.alloc (M #[] 232)=W1 at*;refine wpAnyH_ready (rs:=[12,13]) (by kernel_rfl) (by simp) ?_;refine AllReadyH.cons rfl (fun K hK=>?_) (AllReadyH.cons rfl (fun K hK=>?_) AllReadyH.nil);focus
     refine dK underlying225 underlying225 gi0 gz0 gz1 gz2 rfl (by omega) (by omega) (.tmp 18) (.tmp 23) rfl rfl wr.heap.size (Z (Y ⟨e6,0,O⟩) 0 0) 0 [] ah nh ch (hcells lhs) rfl rfl oE6 (h3.below kW1) (cF _) (by omega) kW1.size ?_;intro a5 c5 w5 own5 gr5 at5;simp only[Nat.zero_add,List.nil_append]at own5 at5⊢;have k5:Below wr.heap.size wr w5:=kW1.grown gr5 kW1.size (fun g hg=>(aG oE6 g hg).1);have hb6:(Z (Y ⟨e6,0,O⟩) 0 0).ownBlock≠Y b:=fun e=>by have:=(aG oE6 _ e).1;omega
     refine hK.out _ _ ⟨aM gr5 hH.1 hb6,aM gr5 hH.2.1 hb6,aM gr5 hH.2.2 hb6⟩ (fun hH=>?_);clear hK K;refine J3 ?_;refine R6 13 (fun K hK=>?_);go_simp;obtain⟨oE13,kE13,lE13⟩:=fE w5 232 2;refine hK.out _ _ ⟨aC kE13 hH.1,aC kE13 hH.2.1,aC kE13 hH.2.2⟩ (fun hH=>?_);clear hK K;have o1:=aF own5 kE13;have kW:=k5.trans (kE13.mono k5.size);have hne:∀g,(Z a5 nh c5).ownBlock=Y g->(Z (Y ⟨w5.heap.size,0,O⟩) 0 0).ownBlock≠Y g:=fun g h1 h2=>by have:=(aG own5 g h1).2;simp[Value.ownBlock]at h2;omega
     have hlt1:∀g,(Z a5 nh c5).ownBlock=Y g->g<(w5.alloc (M #[] 232)).heap.size:=fun g h1=>(aG o1 g h1).2;have oE:=aP (base':=wr.heap.size) oE13 k5.size;clear own5 gr5 at5 oE13 kE13 lE13 oE6 kE6;generalize w5.alloc (M #[] 232)=W at*;generalize w5.heap.size=E at*;have hbE:(Z (Y ⟨E,0,O⟩) 0 0).ownBlock≠Y b:=fun e=>by have:=(aG oE _ e).1;omega
     refine R6 19 (fun K hK=>?_);refine dK underlying225 underlying225 gi0 gz0 gz1 gz2 rfl (by omega) (by omega) (.tmp 25) (.tmp 30) rfl rfl wr.heap.size (Z (Y ⟨E,0,O⟩) 0 0) 0 [] aq nq cq (hcells lqs) rfl rfl oE (h4.below kW) (cF _) (by omega) kW.size ?_;intro a7 c7 w7 own7 gr7 at7;simp only[Nat.zero_add,List.nil_append]at own7 at7⊢;have k7:Below wr.heap.size wr w7:=kW.grown gr7 kW.size (fun g hg=>(aG oE g hg).1);have o1:=aK o1 gr7 (fun g hg e=>hne g hg e);have hxy:∀g,(Z a5 nh c5).ownBlock=Y g->(Z a7 nq c7).ownBlock≠Y g:=fun g h1 h2=>by
      rcases at7 g h2 with h|h
      .exact hne g h1 h
      .have:=hlt1 g h1;omega
     refine hK.out _ _ ⟨aM gr7 hH.1 hbE,aM gr7 hH.2.1 hbE,aM gr7 hH.2.2 hbE⟩ (fun hH=>?_);clear hK K gr7 at7 oE hne kW hlt1;refine J3 ?_;refine R1 20 ?_;have kN:=f' w7 (M #[I J r,Z a5 nh c5,Z a7 nq c7] 227);refine R6 21 (fun K hK=>?_);go_simp;refine hK.out _ _ ⟨aC kN hH.1,aC kN hH.2.1,aC kN hH.2.2⟩ (fun hH=>?_);clear hK K;have bX5:=k7.trans (kN.mono k7.size);have ownP:=own.below bX5;have o1:=aF o1 kN;have o2:=aF own7 kN;have hb5:w.heap.size<=(w7.alloc (M #[I J r,Z a5 nh c5,Z a7 nq c7] 227)).heap.size:=Nat.le_trans hB.size bX5.size;have hrb:(Z a' k c').ownBlock≠Y b:=fun e=>by have:=(aG own.row _ e).1;omega
     refine R6 22 (fun K hK=>?_);refine dK underlying62 underlying62 hi0 hz0 hz1 hz2 rfl (by omega) (by omega) (.tmp 12) (.tmp 33) rfl rfl w.heap.size (Z a' k c') k (lcells (ls.take k) vs) _ 1 1 [I J r,Z a5 nh c5,Z a7 nq c7] rfl rfl ownP.row (pT w7 r a5 nh c5 a7 nq c7 _) (nK r a5 nh c5 a7 nq c7) hsum hb5 ?_;intro a6 c6 w6 own6 gr6 at6;refine hK.out _ _ ⟨aM gr6 hH.1 hrb,aM gr6 hH.2.1 hrb,aM gr6 hH.2.2 hrb⟩ (fun hH=>?_);clear hK K;refine J3 ?_;refine R1 23 ?_;refine R7 ?_;go_wp2;go_roundw;case rel=>
      have hso:∃o,a6=Y ⟨o,0,O⟩:=by
       rcases own6.2 with⟨hv,h0⟩|⟨g,cp,cur,hv,_⟩
       .omega
       .simp only[Value.slice.injEq,true_and]at hv;exact⟨g,hv.1⟩
      have hap:=xI (x:=Z a5 nh c5) (y:=Z a7 nq c7) (H:=wr.heap.size) own.apart (fun g hg=>(aG own.row g hg).2) (fun i q hq g hg=>(own.bd hq hg).2) hxy (fun g hg=>(aG o1 g hg).1) (fun g hg=>(aG o2 g hg).1);refine⟨k+1,a6,c6,by omega,by go_num,rfl,hso,⟨vs++[(Z a5 nh c5,Z a7 nq c7)],?_⟩,?_⟩
      .rw[HT.out];exact ownP.snoc (l:=⟨r,lhs,lqs⟩) own6 gr6 at6 (by simp only;rw[<-hH4.out];exact aP o1 hB.size) (by simp only;rw[<-hQ4.out];exact aP o2 hB.size) hap
      .have b5:=hB.trans (bX5.mono hB.size);exact b5.grown gr6 b5.size (fun g hg=>(aG ownP.row g hg).1)
     case measure=>simp[intOf];omega
    rotate_left;focus
     go_simp;obtain⟨oE13,kE13,lE13⟩:=fE W1 232 2;refine hK.out _ _ ⟨aC kE13 hH.1,aC kE13 hH.2.1,aC kE13 hH.2.2⟩ (fun hH=>?_);clear hK K;have oE6:=aF oE6 kE13;have kW2:=kW1.trans (kE13.mono kW1.size);have hee:e6≠W1.heap.size:=by omega
     have oE13:=aP (base':=wr.heap.size) oE13 kW1.size;generalize hW1:W1.heap.size=e13 at*;generalize W1.alloc (M #[] 232)=W2 at*;refine R6 12 (fun K hK=>?_);refine dK underlying225 underlying225 gi0 gz0 gz1 gz2 rfl (by omega) (by omega) (.tmp 18) (.tmp 23) rfl rfl wr.heap.size (Z (Y ⟨e6,0,O⟩) 0 0) 0 [] ah nh ch (hcells lhs) rfl rfl oE6 (h3.below kW2) (cF _) (by omega) kW2.size ?_;intro a5 c5 w5 own5 gr5 at5;simp only[Nat.zero_add,List.nil_append]at own5 at5⊢;have k5:Below wr.heap.size wr w5:=kW2.grown gr5 kW2.size (fun g hg=>(aG oE6 g hg).1);have hb6:(Z (Y ⟨e6,0,O⟩) 0 0).ownBlock≠Y b:=fun e=>by have:=(aG oE6 _ e).1;omega
     refine hK.out _ _ ⟨aM gr5 hH.1 hb6,aM gr5 hH.2.1 hb6,aM gr5 hH.2.2 hb6⟩ (fun hH=>?_);clear hK K;refine J3 ?_;have hne0:∀g,(Z (Y ⟨e13,0,O⟩) 0 0).ownBlock=Y g->(Z (Y ⟨e6,0,O⟩) 0 0).ownBlock≠Y g:=fun g h1 h2=>by simp[Value.ownBlock]at h1 h2;omega
     have oE:=aK oE13 gr5 hne0;have o1:=own5;have kW:=k5;have hlt1:∀g,(Z a5 nh c5).ownBlock=Y g->g<w5.heap.size:=fun g h1=>(aG o1 g h1).2;have hne:∀g,(Z a5 nh c5).ownBlock=Y g->(Z (Y ⟨e13,0,O⟩) 0 0).ownBlock≠Y g:=fun g h1 h2=>by
      rcases at5 g h1 with h|h
      .exact hne0 g h2 h
      .have:=(aG oE13 g h2).2;omega
     clear own5 gr5 at5 oE13 oE6 hne0;generalize w5=W at*;generalize e13=E at*;have hbE:(Z (Y ⟨E,0,O⟩) 0 0).ownBlock≠Y b:=fun e=>by have:=(aG oE _ e).1;omega
     refine R6 19 (fun K hK=>?_);refine dK underlying225 underlying225 gi0 gz0 gz1 gz2 rfl (by omega) (by omega) (.tmp 25) (.tmp 30) rfl rfl wr.heap.size (Z (Y ⟨E,0,O⟩) 0 0) 0 [] aq nq cq (hcells lqs) rfl rfl oE (h4.below kW) (cF _) (by omega) kW.size ?_;intro a7 c7 w7 own7 gr7 at7;simp only[Nat.zero_add,List.nil_append]at own7 at7⊢;have k7:Below wr.heap.size wr w7:=kW.grown gr7 kW.size (fun g hg=>(aG oE g hg).1);have o1:=aK o1 gr7 (fun g hg e=>hne g hg e);have hxy:∀g,(Z a5 nh c5).ownBlock=Y g->(Z a7 nq c7).ownBlock≠Y g:=fun g h1 h2=>by
      rcases at7 g h2 with h|h
      .exact hne g h1 h
      .have:=hlt1 g h1;omega
     refine hK.out _ _ ⟨aM gr7 hH.1 hbE,aM gr7 hH.2.1 hbE,aM gr7 hH.2.2 hbE⟩ (fun hH=>?_);clear hK K gr7 at7 oE hne kW hlt1;refine J3 ?_;refine R1 20 ?_;have kN:=f' w7 (M #[I J r,Z a5 nh c5,Z a7 nq c7] 227);refine R6 21 (fun K hK=>?_);go_simp;refine hK.out _ _ ⟨aC kN hH.1,aC kN hH.2.1,aC kN hH.2.2⟩ (fun hH=>?_);clear hK K;have bX5:=k7.trans (kN.mono k7.size);have ownP:=own.below bX5;have o1:=aF o1 kN;have o2:=aF own7 kN;have hb5:w.heap.size<=(w7.alloc (M #[I J r,Z a5 nh c5,Z a7 nq c7] 227)).heap.size:=Nat.le_trans hB.size bX5.size;have hrb:(Z a' k c').ownBlock≠Y b:=fun e=>by have:=(aG own.row _ e).1;omega
     refine R6 22 (fun K hK=>?_);refine dK underlying62 underlying62 hi0 hz0 hz1 hz2 rfl (by omega) (by omega) (.tmp 12) (.tmp 33) rfl rfl w.heap.size (Z a' k c') k (lcells (ls.take k) vs) _ 1 1 [I J r,Z a5 nh c5,Z a7 nq c7] rfl rfl ownP.row (pT w7 r a5 nh c5 a7 nq c7 _) (nK r a5 nh c5 a7 nq c7) hsum hb5 ?_;intro a6 c6 w6 own6 gr6 at6;refine hK.out _ _ ⟨aM gr6 hH.1 hrb,aM gr6 hH.2.1 hrb,aM gr6 hH.2.2 hrb⟩ (fun hH=>?_);clear hK K;refine J3 ?_;refine R1 23 ?_;refine R7 ?_;go_wp2;go_roundw;case rel=>
      have hso:∃o,a6=Y ⟨o,0,O⟩:=by
       rcases own6.2 with⟨hv,h0⟩|⟨g,cp,cur,hv,_⟩
       .omega
       .simp only[Value.slice.injEq,true_and]at hv;exact⟨g,hv.1⟩
      have hap:=xI (x:=Z a5 nh c5) (y:=Z a7 nq c7) (H:=wr.heap.size) own.apart (fun g hg=>(aG own.row g hg).2) (fun i q hq g hg=>(own.bd hq hg).2) hxy (fun g hg=>(aG o1 g hg).1) (fun g hg=>(aG o2 g hg).1);refine⟨k+1,a6,c6,by omega,by go_num,rfl,hso,⟨vs++[(Z a5 nh c5,Z a7 nq c7)],?_⟩,?_⟩
      .rw[HT.out];exact ownP.snoc (l:=⟨r,lhs,lqs⟩) own6 gr6 at6 (by simp only;rw[<-hH4.out];exact aP o1 hB.size) (by simp only;rw[<-hQ4.out];exact aP o2 hB.size) hap
      .have b5:=hB.trans (bX5.mono hB.size);exact b5.grown gr6 b5.size (fun g hg=>(aG ownP.row g hg).1)
     case measure=>simp[intOf];omega
    rotate_left
   rotate_left;focus
    go_simp;obtain⟨oE13,kE13,lE13⟩:=fE V 232 2;refine hK.out _ _ ⟨aC kE13 hH.1,aC kE13 hH.2.1,aC kE13 hH.2.2⟩ (fun hH=>?_);clear hK K;have kW1:=kV.trans (kE13.mono kV.size);have oE13:=aP (base':=wr.heap.size) oE13 kV.size;generalize V.heap.size=e13 at*;generalize V.alloc (M #[] 232)=W1 at*;refine R6 6 (fun K hK=>?_);go_simp;obtain⟨oE6,kE6,lE6⟩:=fE W1 232 2;refine hK.out _ _ ⟨aC kE6 hH.1,aC kE6 hH.2.1,aC kE6 hH.2.2⟩ (fun hH=>?_);clear hK K;have oE13:=aF oE13 kE6;have kW2:=kW1.trans (kE6.mono kW1.size);have hee:e13≠W1.heap.size:=by omega
    have oE6:=aP (base':=wr.heap.size) oE6 kW1.size;generalize hW1:W1.heap.size=e6 at*;generalize W1.alloc (M #[] 232)=W2 at*;refine R6 12 (fun K hK=>?_);refine dK underlying225 underlying225 gi0 gz0 gz1 gz2 rfl (by omega) (by omega) (.tmp 18) (.tmp 23) rfl rfl wr.heap.size (Z (Y ⟨e6,0,O⟩) 0 0) 0 [] ah nh ch (hcells lhs) rfl rfl oE6 (h3.below kW2) (cF _) (by omega) kW2.size ?_;intro a5 c5 w5 own5 gr5 at5;simp only[Nat.zero_add,List.nil_append]at own5 at5⊢;have k5:Below wr.heap.size wr w5:=kW2.grown gr5 kW2.size (fun g hg=>(aG oE6 g hg).1);have hb6:(Z (Y ⟨e6,0,O⟩) 0 0).ownBlock≠Y b:=fun e=>by have:=(aG oE6 _ e).1;omega
    refine hK.out _ _ ⟨aM gr5 hH.1 hb6,aM gr5 hH.2.1 hb6,aM gr5 hH.2.2 hb6⟩ (fun hH=>?_);clear hK K;refine J3 ?_;have hne0:∀g,(Z (Y ⟨e13,0,O⟩) 0 0).ownBlock=Y g->(Z (Y ⟨e6,0,O⟩) 0 0).ownBlock≠Y g:=fun g h1 h2=>by simp[Value.ownBlock]at h1 h2;omega
    have oE:=aK oE13 gr5 hne0;have o1:=own5;have kW:=k5;have hlt1:∀g,(Z a5 nh c5).ownBlock=Y g->g<w5.heap.size:=fun g h1=>(aG o1 g h1).2;have hne:∀g,(Z a5 nh c5).ownBlock=Y g->(Z (Y ⟨e13,0,O⟩) 0 0).ownBlock≠Y g:=fun g h1 h2=>by
     rcases at5 g h1 with h|h
     .exact hne0 g h2 h
     .have:=(aG oE13 g h2).2;omega
    clear own5 gr5 at5 oE13 oE6 hne0;generalize w5=W at*;generalize e13=E at*;have hbE:(Z (Y ⟨E,0,O⟩) 0 0).ownBlock≠Y b:=fun e=>by have:=(aG oE _ e).1;omega
    refine R6 19 (fun K hK=>?_);refine dK underlying225 underlying225 gi0 gz0 gz1 gz2 rfl (by omega) (by omega) (.tmp 25) (.tmp 30) rfl rfl wr.heap.size (Z (Y ⟨E,0,O⟩) 0 0) 0 [] aq nq cq (hcells lqs) rfl rfl oE (h4.below kW) (cF _) (by omega) kW.size ?_;intro a7 c7 w7 own7 gr7 at7;simp only[Nat.zero_add,List.nil_append]at own7 at7⊢;have k7:Below wr.heap.size wr w7:=kW.grown gr7 kW.size (fun g hg=>(aG oE g hg).1);have o1:=aK o1 gr7 (fun g hg e=>hne g hg e);have hxy:∀g,(Z a5 nh c5).ownBlock=Y g->(Z a7 nq c7).ownBlock≠Y g:=fun g h1 h2=>by
     rcases at7 g h2 with h|h
     .exact hne g h1 h
     .have:=hlt1 g h1;omega
    refine hK.out _ _ ⟨aM gr7 hH.1 hbE,aM gr7 hH.2.1 hbE,aM gr7 hH.2.2 hbE⟩ (fun hH=>?_);clear hK K gr7 at7 oE hne kW hlt1;refine J3 ?_;refine R1 20 ?_;have kN:=f' w7 (M #[I J r,Z a5 nh c5,Z a7 nq c7] 227);refine R6 21 (fun K hK=>?_);go_simp;refine hK.out _ _ ⟨aC kN hH.1,aC kN hH.2.1,aC kN hH.2.2⟩ (fun hH=>?_);clear hK K;have bX5:=k7.trans (kN.mono k7.size);have ownP:=own.below bX5;have o1:=aF o1 kN;have o2:=aF own7 kN;have hb5:w.heap.size<=(w7.alloc (M #[I J r,Z a5 nh c5,Z a7 nq c7] 227)).heap.size:=Nat.le_trans hB.size bX5.size;have hrb:(Z a' k c').ownBlock≠Y b:=fun e=>by have:=(aG own.row _ e).1;omega
    refine R6 22 (fun K hK=>?_);refine dK underlying62 underlying62 hi0 hz0 hz1 hz2 rfl (by omega) (by omega) (.tmp 12) (.tmp 33) rfl rfl w.heap.size (Z a' k c') k (lcells (ls.take k) vs) _ 1 1 [I J r,Z a5 nh c5,Z a7 nq c7] rfl rfl ownP.row (pT w7 r a5 nh c5 a7 nq c7 _) (nK r a5 nh c5 a7 nq c7) hsum hb5 ?_;intro a6 c6 w6 own6 gr6 at6;refine hK.out _ _ ⟨aM gr6 hH.1 hrb,aM gr6 hH.2.1 hrb,aM gr6 hH.2.2 hrb⟩ (fun hH=>?_);clear hK K;refine J3 ?_;refine R1 23 ?_;refine R7 ?_;go_wp2;go_roundw;case rel=>
     have hso:∃o,a6=Y ⟨o,0,O⟩:=by
      rcases own6.2 with⟨hv,h0⟩|⟨g,cp,cur,hv,_⟩
      .omega
      .simp only[Value.slice.injEq,true_and]at hv;exact⟨g,hv.1⟩
     have hap:=xI (x:=Z a5 nh c5) (y:=Z a7 nq c7) (H:=wr.heap.size) own.apart (fun g hg=>(aG own.row g hg).2) (fun i q hq g hg=>(own.bd hq hg).2) hxy (fun g hg=>(aG o1 g hg).1) (fun g hg=>(aG o2 g hg).1);refine⟨k+1,a6,c6,by omega,by go_num,rfl,hso,⟨vs++[(Z a5 nh c5,Z a7 nq c7)],?_⟩,?_⟩
     .rw[HT.out];exact ownP.snoc (l:=⟨r,lhs,lqs⟩) own6 gr6 at6 (by simp only;rw[<-hH4.out];exact aP o1 hB.size) (by simp only;rw[<-hQ4.out];exact aP o2 hB.size) hap
     .have b5:=hB.trans (bX5.mono hB.size);exact b5.grown gr6 b5.size (fun g hg=>(aG ownP.row g hg).1)
    case measure=>simp[intOf];omega
   rotate_left
  .obtain rfl:k=n:=by omega
   have HWF:Hid (ls.take k=ls):=by have:=HL.out;show _=_;rw[this];exact List.take_length
   rw[HWF.out]at own;go_wp2;go_ret;obtain⟨o,rfl⟩:=HSO.out;exact⟨o,c',rfl,⟨vs,own⟩,hB⟩
theorem kL{sz:Nat}(h:w.ownsRow B t sz (Z a n c) n xs)(hP:∀g,B<=g->P g=A'):CellsAt (gT P w) a (n*sz) xs:=by have hc:=aJ h;refine⟨hc.1,fun h0=>?_⟩;obtain⟨b,off,ha,hi⟩:=hc.2 h0;refine⟨b,off,ha,fun i hlt=>?_⟩;have h1:=hi i hlt;have h2:xs[i]? =Y (xs[i]'(by have:=hc.1;omega)):=List.getElem?_eq_getElem _;rw[h2]at h1⊢;subst ha;exact kI h1 (hP b (aG h b rfl).1)
theorem jM(T:Nat->Nat)(H:Nat):∀g,H<=g->Ice (mrk T H 0) g=A':=by intro g hg;simp[Ice,mrk];omega
theorem OwnLv.seen{ls:List (List Row)}(h:OwnLv w B (Z a n cap) n ls)(hm:∀i,(ls.getD i []).length<=9223372036854775807)(hP:∀g,B<=g->P g=A'):LvAt (gT P w) a n ls:=by obtain⟨hl,vs,ho,hi,_⟩:=h;have hc:=kL ho hP;rw[Nat.mul_one]at hc;refine⟨hl,vs,hc,fun i hlt=>?_⟩;obtain⟨x,h1,h2⟩:=hi i hlt;obtain⟨ai,ci,rfl⟩:=dI h2;exact⟨ai,_,ci,h1,kL h2 hP,hm i⟩
theorem OwnK.seen{T:TypeId}(h:OwnK T w B (Z a n cap) n ls vs)(hm:∀i,(aH ls i).hs.length<=9223372036854775807/\(aH ls i).qs.length<=9223372036854775807)(hP:∀g,B<=g->P g=A'):LkAt (gT P w) a n ls:=by
 have hc:=kL h.row hP;refine⟨h.len,fun h0=>?_⟩;obtain⟨b,off,ha,hi⟩:=hc.2 (by omega);refine⟨b,off,ha,fun i hlt=>?_⟩;have hv:vs[i]? =Y (vs[i]'(by have:=h.vlen;omega)):=List.getElem?_eq_getElem _;generalize(vs[i]'(by have:=h.vlen;omega))=p at hv;obtain⟨e0,e1,e2⟩:=pC (h.len.trans h.vlen.symm) hv;have o1:=h.hs i p hv;have o2:=h.qs i p hv;obtain⟨x,y⟩:=p;obtain⟨a1,c1,hx⟩:=dI o1;obtain⟨a2,c2,hy⟩:=dI o2;simp only at hx hy e1 e2 o1 o2;subst hx;subst hy;refine⟨a1,_,c1,a2,_,c2,(hi (i*3) (by omega)).trans e0,?_,?_,kL o1 hP,kL o2 hP,(hm i).1,(hm i).2,fH o1,fH o2⟩
 .rw[Nat.add_assoc];exact(hi (i*3+1) (by omega)).trans e1
 .rw[Nat.add_assoc];exact(hi (i*3+2) (by omega)).trans e2
theorem LkIn.seen{lo hi:Nat}(h:LkIn lo hi w a n ls)(hP:∀g,lo<=g->P g=A'):LkAt (gT P w) a n ls:=by
 have ce:∀{a:Option Addr} {m:Nat} {xs:List Value},CellsAt w a (m*2) xs->(∀g o,0<m->a=Y ⟨g,o,O⟩->lo<=g/\g<hi)->CellsAt (gT P w) a (m*2) xs:=by intro a m xs hc hg;refine⟨hc.1,fun h0=>?_⟩;obtain⟨b,off,ha,hi⟩:=hc.2 h0;refine⟨b,off,ha,fun i hlt=>?_⟩;have h1:=hi i hlt;have h2:xs[i]? =Y (xs[i]'(by have:=hc.1;omega)):=List.getElem?_eq_getElem _;rw[h2]at h1⊢;exact kI h1 (hP b (hg b off (by omega) ha).1)
 refine⟨h.1,fun h0=>?_⟩;obtain⟨b,off,ha,hl,_,hi⟩:=h.2 h0;refine⟨b,off,ha,fun i hlt=>?_⟩;obtain⟨ah,nh,ch,aq,nq,cq,⟨h0,h1,h2,h3,h4,h5⟩,g1,g2⟩:=hi i hlt;have hp:=hP b hl;exact⟨ah,nh,ch,aq,nq,cq,kI h0 hp,kI h1 hp,kI h2 hp,ce h3 g1,ce h4 g2,h5⟩
def tx8(t:Tx)(x:Value)(j:Nat):Value:=match j with
 |0=>I J t.id
 |1=>X t.sy
 |2=>I J t.st
 |3=>x
 |4=>I J t.wk
 |5=>I J t.wa
 |6=>I J t.wb
 |_=>I J t.wv
structure TxO(w:World)(H:Nat)(T:Nat->Nat)(v:Value)(n:Nat)(ts:List Tx)(us:Nat->Value):Prop where
 len:ts.length=n
 row:∃cs,OwnT w H T 2 155 8 v n cs/\∀i j,i<n->j<8->cs[i*8+j]? =Y (tx8 (aQ ts i) (us i) j)
 un:∀i,i<n->OwnT w H T (2*i+10) 263 3 (us i) (aQ ts i).un.length (bfcells (aQ ts i).un)
 few:∀i,(aQ ts i).un.length<=1048576
theorem TxO.kept(h:TxO w H T v n ts us)(hk:Kp 2 T T' w w')(hu:∀i,Kp (2*i+10) T T' w w'):TxO w' H T' v n ts us:=by obtain⟨hl,⟨cs,hr,hc⟩,hn,hf⟩:=h;exact⟨hl,⟨cs,hr.kept hk,hc⟩,fun i hi=>(hn i hi).kept (hu i),hf⟩
theorem TxO.at(h:TxO w H T (Z a n c) n ts us):TxAt w a n ts:=by obtain⟨hl,⟨cs,hr,hcs⟩,hn,hf⟩:=h;have hc:=hr.cells;refine⟨hl,fun h0=>?_⟩;obtain⟨b,off,ha,hcc⟩:=hc.2 (by omega);refine⟨b,off,ha,fun i hlt=>?_⟩;have h2:=(hn i hlt).1;obtain⟨ai,ci,hx⟩:=dI h2;have cc:=fun j (hj:j<8)=>(hcc (i*8+j) (by omega)).trans (hcs i j hlt hj);rw[hx]at cc h2;simp only[<-Nat.add_assoc]at cc;exact⟨ai,_,ci,cc 0 (by decide),cc 1 (by decide),cc 2 (by decide),cc 3 (by decide),cc 4 (by decide),cc 5 (by decide),cc 6 (by decide),cc 7 (by decide),aJ h2,hf i⟩
structure AcO(w:World)(H:Nat)(T:Nat->Nat)(v:Value)(n:Nat)(ts:List Ac)(us:Nat->Value):Prop where
 len:ts.length=n
 row:∃cs,OwnT w H T 7 56 6 v n cs/\∀i j,i<n->j<6->cs[i*6+j]? =Y (ac6 (eK ts i) (us i) j)
 an:∀i,i<n->OwnT w H T (2*i+11) 2 1 (us i) (eK ts i).an.length (icells (eK ts i).an)
 few:∀i,(eK ts i).an.length<=1048576
theorem AcO.kept{ts:List Ac}(h:AcO w H T v n ts us)(hk:Kp 7 T T' w w')(hu:∀i,Kp (2*i+11) T T' w w'):AcO w' H T' v n ts us:=by obtain⟨hl,⟨cs,hr,hc⟩,hn,hf⟩:=h;exact⟨hl,⟨cs,hr.kept hk,hc⟩,fun i hi=>(hn i hi).kept (hu i),hf⟩
theorem AcO.at{ts:List Ac}(h:AcO w H T (Z a n c) n ts us):AcAt w a n ts:=by obtain⟨hl,⟨cs,hr,hcs⟩,hn,hf⟩:=h;have hc:=hr.cells;refine⟨hl,fun h0=>?_⟩;obtain⟨b,off,ha,hcc⟩:=hc.2 (by omega);refine⟨b,off,ha,fun i hlt=>?_⟩;have h2:=(hn i hlt).1;obtain⟨ai,ci,hx⟩:=dI h2;have cc:=fun j (hj:j<6)=>(hcc (i*6+j) (by omega)).trans (hcs i j hlt hj);rw[hx]at cc h2;simp only[<-Nat.add_assoc]at cc;exact⟨ai,_,ci,cc 0 (by decide),cc 1 (by decide),cc 2 (by decide),cc 3 (by decide),cc 4 (by decide),cc 5 (by decide),aJ h2,by have:=hf i;omega⟩
structure EgO(w:World)(H:Nat)(T:Nat->Nat)(s:EgS)(e:Eng):Prop where
 base:CellsAt (gT (Ice T) w) s.ba (s.bn*3) (rcells e.base)
 lv:LvAt (gT (Ice T) w) s.la s.ln e.lv
 lk:LkAt (gT (Ice T) w) s.ka s.kn e.lk
 ix:CellsAt (gT (Ice T) w) s.xa (s.xn*2) (hcells e.ix)
 tx:∃us,TxO w H T (Z s.ta s.tn s.tc) s.tn e.tx us
 su:OwnT w H T 4 5 1 (Z s.sa s.sn s.sc) s.sn (bts e.su)
 lo:OwnT w H T 5 5 1 (Z s.oa s.on s.oc) s.on (bts e.lo)
 cm:OwnT w H T 6 2 1 (Z s.ma s.mn s.mc) s.mn (icells e.cm)
 ac:∃us,AcO w H T (Z s.aa s.an s.ac) s.an e.ac us
 bsu:IsB e.su
 blo:IsB e.lo
 n1:s.bn<=1048576
 n2:aW e.lv<=1048576
 n3:dC e.lk<=1048576
 n4:s.tn<=1048576
 n5:s.sn<=4100000
 n6:s.on<=4100000
 n7:s.xn<=1048576
 n8:s.mn<=1048576
 n9:s.an<=1048576
theorem EgO.read(h:EgO w H T s e):EgR w s e:=by obtain⟨us,ht⟩:=h.tx;obtain⟨vs,ha⟩:=h.ac;have h1:=h.su.cells;have h2:=h.lo.cells;rw[Nat.mul_one]at h1 h2;exact⟨h.base.sub fI,h.lv.sub fI,h.lk.sub fI,ht.at,h1,h2,h.ix.sub fI,h.cm.cells,ha.at,h.bsu,h.blo,h.n1,h.n2,h.n3,h.n4,h.n5,h.n6,h.n7,h.n8,h.n9,ha.few,fH h.su.1,fH h.lo.1,fH h.cm.1⟩
theorem EgO.kept(h:EgO w H T s e)(hk:∀k,k≠1->k≠8->Kp k T T' w w'):EgO w' H T' s e:=by obtain⟨us,ht⟩:=h.tx;obtain⟨vs,ha⟩:=h.ac;have hs:=eG (hk 0 (by omega) (by omega));exact⟨h.base.sub hs,h.lv.sub hs,h.lk.sub hs,h.ix.sub hs,⟨us,ht.kept (hk 2 (by omega) (by omega)) fun i=>hk _ (by omega) (by omega)⟩,h.su.kept (hk 4 (by omega) (by omega)),h.lo.kept (hk 5 (by omega) (by omega)),h.cm.kept (hk 6 (by omega) (by omega)),⟨vs,ha.kept (hk 7 (by omega) (by omega)) fun i=>hk _ (by omega) (by omega)⟩,h.bsu,h.blo,h.n1,h.n2,h.n3,h.n4,h.n5,h.n6,h.n7,h.n8,h.n9⟩
theorem EgO.newLo(h:EgO w H T s e)(hk:∀k,k≠1->k≠8->k≠5->Kp k T T' w w')(hl:OwnT w' H T' 5 5 1 (Z a n c) n (bts zs))(hb:IsB zs)(hn:n<=4100000):EgO w' H T' {s with oa:=a,on:=n,oc:=c} {e with lo:=zs}:=by obtain⟨us,ht⟩:=h.tx;obtain⟨vs,ha⟩:=h.ac;have hs:=eG (hk 0 (by omega) (by omega) (by omega));exact⟨h.base.sub hs,h.lv.sub hs,h.lk.sub hs,h.ix.sub hs,⟨us,ht.kept (hk 2 (by omega) (by omega) (by omega)) fun i=>hk _ (by omega) (by omega) (by omega)⟩,h.su.kept (hk 4 (by omega) (by omega) (by omega)),hl,h.cm.kept (hk 6 (by omega) (by omega) (by omega)),⟨vs,ha.kept (hk 7 (by omega) (by omega) (by omega)) fun i=>hk _ (by omega) (by omega) (by omega)⟩,h.bsu,hb,h.n1,h.n2,h.n3,h.n4,h.n5,hn,h.n7,h.n8,h.n9⟩
theorem EgO.newSu(h:EgO w H T s e)(hk:∀k,k≠1->k≠8->k≠4->Kp k T T' w w')(hl:OwnT w' H T' 4 5 1 (Z a n c) n (bts zs))(hb:IsB zs)(hn:n<=4100000):EgO w' H T' {s with sa:=a,sn:=n,sc:=c} {e with su:=zs}:=by obtain⟨us,ht⟩:=h.tx;obtain⟨vs,ha⟩:=h.ac;have hs:=eG (hk 0 (by omega) (by omega) (by omega));exact⟨h.base.sub hs,h.lv.sub hs,h.lk.sub hs,h.ix.sub hs,⟨us,ht.kept (hk 2 (by omega) (by omega) (by omega)) fun i=>hk _ (by omega) (by omega) (by omega)⟩,hl,h.lo.kept (hk 5 (by omega) (by omega) (by omega)),h.cm.kept (hk 6 (by omega) (by omega) (by omega)),⟨vs,ha.kept (hk 7 (by omega) (by omega) (by omega)) fun i=>hk _ (by omega) (by omega) (by omega)⟩,hb,h.blo,h.n1,h.n2,h.n3,h.n4,hn,h.n6,h.n7,h.n8,h.n9⟩
theorem EgO.newCm(h:EgO w H T s e)(hk:∀k,k≠1->k≠8->k≠6->Kp k T T' w w')(hl:OwnT w' H T' 6 2 1 (Z a n c) n (icells zs))(hn:n<=1048576):EgO w' H T' {s with ma:=a,mn:=n,mc:=c} {e with cm:=zs}:=by obtain⟨us,ht⟩:=h.tx;obtain⟨vs,ha⟩:=h.ac;have hs:=eG (hk 0 (by omega) (by omega) (by omega));exact⟨h.base.sub hs,h.lv.sub hs,h.lk.sub hs,h.ix.sub hs,⟨us,ht.kept (hk 2 (by omega) (by omega) (by omega)) fun i=>hk _ (by omega) (by omega) (by omega)⟩,h.su.kept (hk 4 (by omega) (by omega) (by omega)),h.lo.kept (hk 5 (by omega) (by omega) (by omega)),hl,⟨vs,ha.kept (hk 7 (by omega) (by omega) (by omega)) fun i=>hk _ (by omega) (by omega) (by omega)⟩,h.bsu,h.blo,h.n1,h.n2,h.n3,h.n4,h.n5,h.n6,h.n7,hn,h.n9⟩
theorem EgO.newTx(h:EgO w H T s e)(hk:∀k,k≠1->k≠8->k≠2->(∀i,k≠2*i+10)->Kp k T T' w w')(hl:TxO w' H T' (Z a n c) n ts us)(hn:n<=1048576):EgO w' H T' {s with ta:=a,tn:=n,tc:=c} {e with tx:=ts}:=by obtain⟨vs,ha⟩:=h.ac;have hs:=eG (hk 0 (by omega) (by omega) (by omega) (by omega));exact⟨h.base.sub hs,h.lv.sub hs,h.lk.sub hs,h.ix.sub hs,⟨us,hl⟩,h.su.kept (hk 4 (by omega) (by omega) (by omega) (by omega)),h.lo.kept (hk 5 (by omega) (by omega) (by omega) (by omega)),h.cm.kept (hk 6 (by omega) (by omega) (by omega) (by omega)),⟨vs,ha.kept (hk 7 (by omega) (by omega) (by omega) (by omega)) fun i=>hk _ (by omega) (by omega) (by omega) (by omega)⟩,h.bsu,h.blo,h.n1,h.n2,h.n3,hn,h.n5,h.n6,h.n7,h.n8,h.n9⟩
theorem EgO.newAc{ts:List Ac}(h:EgO w H T s e)(hk:∀k,k≠1->k≠8->k≠7->(∀i,k≠2*i+11)->Kp k T T' w w')(hl:AcO w' H T' (Z a n c) n ts us)(hn:n<=1048576):EgO w' H T' {s with aa:=a,an:=n,ac:=c} {e with ac:=ts}:=by obtain⟨vs,ht⟩:=h.tx;have hs:=eG (hk 0 (by omega) (by omega) (by omega) (by omega));exact⟨h.base.sub hs,h.lv.sub hs,h.lk.sub hs,h.ix.sub hs,⟨vs,ht.kept (hk 2 (by omega) (by omega) (by omega) (by omega)) fun i=>hk _ (by omega) (by omega) (by omega) (by omega)⟩,h.su.kept (hk 4 (by omega) (by omega) (by omega) (by omega)),h.lo.kept (hk 5 (by omega) (by omega) (by omega) (by omega)),h.cm.kept (hk 6 (by omega) (by omega) (by omega) (by omega)),⟨us,hl⟩,h.bsu,h.blo,h.n1,h.n2,h.n3,h.n4,h.n5,h.n6,h.n7,h.n8,hn⟩
theorem EgO.newLv{ls:List (List Row)}(h:EgO w H T s e)(hl:LvAt (gT (Ice T) w) a n ls)(hn:aW ls<=1048576):EgO w H T {s with la:=a,ln:=n,lc:=c} {e with lv:=ls}:=
 ⟨h.base,hl,h.lk,h.ix,h.tx,h.su,h.lo,h.cm,h.ac,h.bsu,h.blo,h.n1,hn,h.n3,h.n4,h.n5,h.n6,h.n7,h.n8,h.n9⟩
theorem EgO.newLk(h:EgO w H T s e)(hl:LkAt (gT (Ice T) w) a n ls)(hn:dC ls<=1048576):EgO w H T {s with ka:=a,kn:=n,kc:=c} {e with lk:=ls}:=
 ⟨h.base,h.lv,hl,h.ix,h.tx,h.su,h.lo,h.cm,h.ac,h.bsu,h.blo,h.n1,h.n2,hn,h.n4,h.n5,h.n6,h.n7,h.n8,h.n9⟩
theorem EgO.newIx(h:EgO w H T s e)(hl:CellsAt (gT (Ice T) w) a (n*2) (hcells ps))(hn:n<=1048576):EgO w H T {s with xa:=a,xn:=n,xc:=c} {e with ix:=ps}:=
 ⟨h.base,h.lv,h.lk,hl,h.tx,h.su,h.lo,h.cm,h.ac,h.bsu,h.blo,h.n1,h.n2,h.n3,h.n4,h.n5,h.n6,hn,h.n8,h.n9⟩
section
open Go.Maps
theorem oO{g:Nat}{u0 u1 u2:Value}(h:W.heap[g]? =Y (M #[u0,u1,u2] t (0,0))):
  W.cell? ⟨g,0,O⟩=Y u0/\W.cell? ⟨g,1,O⟩=Y u1/\W.cell? ⟨g,2,O⟩=Y u2/\W.frozen? ⟨g,0,O⟩=F'/\W.frozen? ⟨g,1,O⟩=F'/\W.frozen? ⟨g,2,O⟩=F':=
 ⟨cell_of_row _ _ _ _ _ _ h,cell_of_row _ _ _ _ _ _ h,cell_of_row _ _ _ _ _ _ h,by simp[World.frozen?,h],by simp[World.frozen?,h],by simp[World.frozen?,h]⟩
structure RedoAt(w w':World)(e:Ending)(R:Int×List Int×List Row)(a1:Option Addr)(m1 c1:Nat)(a2:Option Addr)(m2 c2:Nat):Prop where
 ret:e=R' (U #[I J R.1,Z a1 m1 c1,Z a2 m2 c2])
 b1:m1<=1048576
 b2:m2<=1048576
 o1:w'.ownsRow w.heap.size 2 1 (Z a1 m1 c1) m1 (icells R.2.1)
 o2:w'.ownsRow w.heap.size 86 3 (Z a2 m2 c2) m2 (rcells R.2.2)
 ap:∀g,(Z a1 m1 c1).ownBlock=Y g->(Z a2 m2 c2).ownBlock≠Y g
 bl:Below w.heap.size w w'
theorem rX{c:Int}(hb:Below w.heap.size w W):RedoAt w (((W.setCell ⟨w.heap.size,0,O⟩ (I J c)).setCell ⟨w.heap.size,1,O⟩ (Z O 0 0)).setCell ⟨w.heap.size,2,O⟩ (Z O 0 0)) (R' (U #[I J c,Z O 0 0,Z O 0 0])) (c,[],[]) O 0 0 O 0 0:=
 ⟨rfl,by omega,by omega,World.ownsRow_nil _ _ _ _,World.ownsRow_nil _ _ _ _,fun g hg=>by simp[Value.ownBlock]at hg,((hb.setCell (p:=⟨w.heap.size,0,O⟩) z' _).setCell (p:=⟨w.heap.size,1,O⟩) z' _).setCell (p:=⟨w.heap.size,2,O⟩) z' _⟩
theorem zG(h:CellsAt w a (n*7) (rc7 rs)):0<n->∀b off,a=Y ⟨b,off,O⟩->b<w.heap.size:=fun h0 b off ha=>by obtain⟨b1,o1,e1,q1,_⟩:=h.rec h0;rw[ha]at e1;simp only[Option.some.injEq,Addr.mk.injEq,and_true]at e1;obtain⟨rfl,rfl⟩:=e1;exact aD q1
theorem zB(a1:Option Addr)(n1 c1:Nat)(base:List Row)(a2:Option Addr)(n2 c2:Nat)(rs:List Rec)(w:World)(h1:CellsAt w a1 (n1*3) (rcells base))(h2:CellsAt w a2 (n2*7) (rc7 rs))(hn1:n1<=1048576)(hn2:n2<=1048576):
  Calls prog 14 #[Z a1 n1 c1,Z a2 n2 c2] w fun e w'=>∃a3 m3 c3 a4 m4 c4,RedoAt w w' e (mO base rs) a3 m3 c3 a4 m4 c4:=by
 have IA:=fun W hW=>sQ a2 n2 c2 rs W hW hn2;have IB:=fun W hW=>bA4 a1 n1 c1 base W hW hn1;have kA:∀o,Below w.heap.size w (w.alloc o):=fun o=>u'.alloc z' o;obtain⟨c,HC⟩:∃c,Hid (eR rs=c):=⟨_,rfl⟩
 rw[HC.out]at IA;by_cases h0:c=0;rotate_left
 .have hc:(c !=0)=A':=by simpa using h0
  rw[wH HC.out hc];clear HC h0 IB;go_enter func14,ntmps14
  go_wp2_with fail
  refine(IA _ (h2.below (kA _))).mono ?_;rintro e w1⟨rfl,b1⟩;have hR:=aT b1 (heap_alloc_new w _);have b1:=cL b1;have lz:=(Array.getElem?_eq_some_iff.1 hR).1;obtain⟨x0,x1,x2,f0,f1,f2⟩:=oO hR;go_wp2;exact bodyPost_ret (v:=U #[I J c,Z O 0 0,Z O 0 0]) (by simp[results,Tryz.results14,go_sem,x0,x1,x2]) rfl ⟨O,0,0,O,0,0,rX b1⟩
 subst h0;obtain⟨d,HD⟩:∃d,Hid (dM base=d):=⟨_,rfl⟩
 rw[HD.out]at IB;by_cases h0:d=0;rotate_left
 .have hc:(d !=0)=A':=by simpa using h0
  rw[tV HC.out HD.out hc];clear HC HD h0;go_enter func14,ntmps14
  go_wp2_with fail
  refine(IA _ (h2.below (kA _))).mono ?_;rintro e w1⟨rfl,b1⟩;have hR:=aT b1 (heap_alloc_new w _);have b1:=cL b1;clear IA;go_wp2_with fail
  refine(IB _ (h1.below b1)).mono ?_;rintro e w2⟨rfl,b2⟩;have hR:=aT b2 hR;have b2':=b1.trans (b2.mono b1.size);have lz:=(Array.getElem?_eq_some_iff.1 hR).1;obtain⟨x0,x1,x2,f0,f1,f2⟩:=oO hR;go_wp2;exact bodyPost_ret (v:=U #[I J d,Z O 0 0,Z O 0 0]) (by simp[results,Tryz.results14,go_sem,x0,x1,x2]) rfl ⟨O,0,0,O,0,0,rX b2'⟩
 subst h0;rw[vC HC.out HD.out];have HEN:Hid (tQ base rs=cG (fun t=>(bP rs t).lost) ⟨fG (fU base base.length) rs rs.length,fun t=>(bP rs t).bk⟩ rs.reverse):=rfl;rw[HEN.out];clear HEN;generalize hS0:fU base base.length=S0;generalize hS1:fG S0 rs rs.length=S1;have HZ:=hid (pI HC.out);have HY:=hid (kY HD.out);have HL:=h2.len7;have HL1:=h1.rlen;have hn8:n2<=800:=by have h1:=HZ.out.1;have h2:=HL.out;omega
 have hn24:n1<=240:=by have h1:=HY.out.2.1;have h2:=HL1.out;omega
 have HM:=hid (fun t=>tL rs t);have HS:=hid (wX rs);have HBK:=hid (fun t=>uA rs t);have HLT:=hid (zG h2);clear HC HD;go_enter func14,ntmps14
 go_wp2_with fail
 refine(IA _ (h2.below (kA _))).mono ?_;rintro e w1⟨rfl,b1⟩;have hR:=aT b1 (heap_alloc_new w _);have lz0:=(Array.getElem?_eq_some_iff.1 hR).1;have b1:=cL b1;clear IA;go_wp2_with fail
 refine(IB _ (h1.below b1)).mono ?_;rintro e w2⟨rfl,b2⟩;have hR:=aT b2 hR;have b2':=b1.trans (b2.mono b1.size);clear IB;go_wp2_with fail
 refine(aU3 a2 n2 c2 rs _ (h2.below b2') hn8 HZ.out.2).mono ?_;rintro e w3⟨N,D,rfl,hN,om,fm,b3⟩;have hR:=aT b3 hR;have b3':=b2'.trans (b3.mono b2'.size);go_wp2_with fail
 refine(cR0 a1 n1 c1 base _ (h1.below b3') hn24 HY.out.2.2).mono ?_;rintro e w4⟨rfl,sl,b4⟩;have hR:=aT b4 hR;have b4':=b3'.trans (b4.mono b3'.size);have OM:=om.lt;have om:=om.kept (pA b4 O) (by simp);have z1:=b1.size;have z2:=b2.size;have z3:=b3.size;have z4:=b4.size;have hm3:w2.heap.size<w3.heap.size:=OM;rw[hS0]at sl;go_wp2_with fail
 refine(cY9 w3.heap.size a2 n2 c2 rs S0 _ (h2.below b4') hn8 HZ.out.2 sl (fun h0 b off ha=>by have:=HLT.out h0 b off ha;omega)).mono ?_;rintro e w5⟨rfl,sl5,g5⟩;have hR:=iU g5 hR (by simp;omega);have b5':=b4'.grown g5 b4'.size (fun j hj=>by cases hj;omega);have om:=om.kept g5 (by simp;omega);have z5:=g5.size;clear sl;rw[hS1]at sl5;clear hS0 hS1;have hcT:=bE0 w3.heap.size w2.heap.size N a2 n2 c2 rs S1 (bP rs) D w5 (h2.below b5') hn8 hN HZ.out.2 sl5 om fm (fun t=>by have h1:=HBK.out t;have h2:=HZ.out.1;omega) (fun h0 b off ha=>by have:=HLT.out h0 b off ha;omega);go_wp2_with fail
 refine hcT.mono ?_;rintro e w6⟨rfl,sl6,⟨N6,D6,hN6,om6,fm6⟩,tw⟩;clear hcT;have lz5:w.heap.size<w5.heap.size:=by omega
 have hR:=(tw.block w.heap.size lz5 (by omega) (by omega)).trans hR;have b6':=tw.below b5' (by omega) (by omega) (by omega);have z6:=tw.size;have hml:∀t,t∈jG rs↔(fOf (bP rs) (cG (cM (bP rs)) ⟨S1,fun t=>(bP rs t).bk⟩ rs.reverse) t).lost=A':=fun t=>by
  rw[HM.out t];constructor
  .exact fun h=>h.2.2
  .intro hl;have hh:Maps.has D (kF t)=A':=by
    cases hb:Maps.has D (kF t)
    .have e1:=fm.none hb;simp[Ft.lost,fOf,e1,Ft.zero]at hl
    .rfl
   exact⟨(fm.has t hh).1,(fm.has t hh).2,hl⟩
 have hcL:=aN0 w2.heap.size N6 D6 _ (jG rs) w6 om6 fm6 (by omega) HS.out hml;clear HM HS hml fm fm6 om om6 HBK tw sl5 g5;go_wp2_with fail
 refine hcL.mono ?_;rintro e w7⟨a3,m3,c3,rfl,hm3',o3,b7⟩;clear hcL;have hR:=aT b7 hR;have b7':=b6'.trans (b7.mono b6'.size);have sl7:=sl6.below b7;have z7:=b7.size;have L3:=aG o3;have hcR:=cQ7 w3.heap.size _ w7 sl7;clear sl6 sl7;have HE:Hid (cG (cM (bP rs)) ⟨S1,fun t=>(bP rs t).bk⟩ rs.reverse=cG (fun t=>(bP rs t).lost) ⟨S1,fun t=>(bP rs t).bk⟩ rs.reverse):=rfl;rw[HE.out]at hcR;clear HE;go_wp2_with fail
 refine hcR.mono ?_;rintro e w8⟨a4,m4,c4,rfl,hm4,o4,b8⟩;clear hcR;have hR:=aT b8 hR;have b8':=b7'.trans (b8.mono b7'.size);have o3:=aF o3 b8;have L4:=aG o4;have z8:=b8.size;have lz:=(Array.getElem?_eq_some_iff.1 hR).1;obtain⟨x0,x1,x2,f0,f1,f2⟩:=oO hR;go_wp2;refine bodyPost_ret (v:=U #[I J 0,Z a3 m3 c3,Z a4 m4 c4]) (by simp[results,Tryz.results14,go_sem,x0,x1,x2]) rfl ⟨a3,m3,c3,a4,m4,c4,rfl,hm3',by omega,?_,?_,?_,?_⟩
 .refine aP (base:=w6.heap.size) (ownsRow_setCell_below (ownsRow_setCell_below (ownsRow_setCell_below o3 ?_ _) ?_ _) ?_ _) (by omega);all_goals(show w.heap.size<w6.heap.size;omega)
 .refine aP (base:=w7.heap.size) (ownsRow_setCell_below (ownsRow_setCell_below (ownsRow_setCell_below o4 ?_ _) ?_ _) ?_ _) (by omega);all_goals(show w.heap.size<w7.heap.size;omega)
 .intro g hg hg';have:=(L3 g hg).2;have:=(L4 g hg').1;omega
 .exact((b8'.setCell (p:=⟨w.heap.size,0,O⟩) z' _).setCell (p:=⟨w.heap.size,1,O⟩) z' _).setCell (p:=⟨w.heap.size,2,O⟩) z' _
end
end Go.Proofs.YtpbbokalojdooaaGreat
