import Derived.Test.YtpbbokalojdooaaGreatWaw
import Derived.Test.YtpbbokalojdooaaGreatWay
namespace Go.Proofs.YtpbbokalojdooaaGreat
open Go.RowKit Ch Go.Proofs.Tryz
set_option linter.unusedSimpArgs false
set_option linter.unusedVariables false
set_option maxRecDepth 20000
set_option maxHeartbeats 8000000
open Value renaming int->I,slice->Z,bool->X,agg->U
open IntKind renaming i64->J
open Option renaming none->O,some->Y
open Obj renaming cells->M
open Ending renaming returned->R'
open Bool renaming true->A',false->F'
variable {a:Act} {K:Act->World->Prop} {ops:Array Oper} {b h:Bool} {Q:Exit->Act->World->Prop} {key tx:Int} {l ls:List (List Row)} {ts:List Ac} {bs:List Bf} {rest:List Oper} {rs:List Rec} {base:List Row} {cs news:List Value} {H bytes g k m n size:Nat} {T:Nat->Nat} {us:Nat->Value} {o:Oper} {A:Option Addr} {S S':Sl} {e e' t tn:TypeId} {i:TypeInfo} {v x z:Value} {w w':World}
theorem aL1{α β:Type}{f g:α->Option β}:∀(l:List α),(∀x∈l,f x=g x)->l.filterMap f=l.filterMap g:=by
 intro l;induction l with
 |nil=>intro _;rfl
 |cons a l ih=>intro h;rw[List.filterMap_cons,List.filterMap_cons,h a Bj,ih fun x hx=>h x (Ba _ hx)]
def uK(S S':Sl):Prop:=∀i:Nat,i<100->S i=S' i
theorem aA1(h:uK S S'):Ch.rowsS S=Ch.rowsS S':=by unfold Ch.rowsS gY;refine aL1 _ fun i hi=>?_;unfold yR;rw[h i (Dg.1 hi)]
theorem aH2(h:Ch.rowsS S=Ch.rowsS S'):uK S S':=by
 intro i hi;have key:∀{A B:Sl},Ch.rowsS A=Ch.rowsS B->∀v,A i=Y v->B i=Y v:=by
  intro A B hAB v hv;have h1:(⟨i,v,F'⟩:Row)∈Ch.rowsS A:=by rw[Ch.rowsS,iH];exact⟨i,hi,rfl,hv,rfl⟩
  rw[hAB,Ch.rowsS,iH]at h1;obtain⟨j,_,hj,hs,_⟩:=h1;have:(j:Int)=i:=hj.symm;rw[this]at hs;exact hs
 cases h1:S i with
 |some v=>exact(key h v h1).symm
 |none=>
  cases h2:S' i with
  |none=>rfl
  |some v=>rw[key h.symm v h2]at h1;cases h1
theorem cA1(h:uK S S')(t:Ac):uK (doS S t) (doS S' t):=by
 unfold doS;split
 .intro i hi;simp only[Sl.set];split
  .rfl
  .exact h i hi
 .exact h
def sD(b:Bool)(x y:Rp):Prop:=uK x.s y.s/\x.ok=(b&&y.ok)
theorem bG6{x y:Rp}(h:sD b x y)(t:Ac):sD b (rL x t) (rL y t):=by
 refine⟨cA1 h.1 t,?_⟩;show(x.ok&&_)=(b&&(y.ok&&_))
 rw[h.2,aA1 h.1,Bool.and_assoc]
theorem bG9(ts:List Ac):∀(is:List Nat) {x y:Rp},sD b x y->sD b (fQ ts x is) (fQ ts y is):=by
 intro is;induction is with
 |nil=>intro x y h;exact h
 |cons i is ih=>intro x y h;exact ih (bG6 h _)
def oO(ts:List Ac)(st:Rp)(cs:List Int):Rp:=cs.foldl (fun st c=>fQ ts st (cJ ts c ts.length)) st
theorem bG7(ts:List Ac):∀(cs:List Int) {x y:Rp},sD b x y->sD b (oO ts x cs) (oO ts y cs):=by
 intro cs;induction cs with
 |nil=>intro x y h;exact h
 |cons c cs ih=>intro x y h;exact ih (bG9 ts _ h)
theorem zW(ts:List Ac)(cs:List Int)(st:Rp):eU ts cs st cs.length=oO ts st cs:=by unfold eU oO;rw[Be]
theorem bR4{k a b v:Int}(h:aF k a b v=0)(hk:k=2):0<=v/\v<=9999:=by subst hk;unfold aF at h;simp[inB]at h;omega
theorem cA2{t:Ac}(h:Ch.Vals S)(ht:t.fault=0):Ch.Vals (doS S t):=by
 unfold doS;split
 .refine h.set _ fun v hv=>?_;unfold uH at hv;split at hv
  .next h2=>
   cases hv;unfold Ac.fault at ht;split at ht
   .simp at ht
   .exact bR4 ht (by simpa using h2)
  .cases hv
 .exact h
theorem bH0(hf:∀k,k<ts.length->(aM ts k).fault=0):∀(is:List Nat),(∀i∈is,i<ts.length)->∀st:Rp,Ch.Vals st.s->Ch.Vals (fQ ts st is).s:=by
 intro is;induction is with
 |nil=>intro _ st h;exact h
 |cons i is ih=>intro hi st h;exact ih (fun j hj=>hi j (Ba _ hj)) _ (cA2 h (hf i (hi i Bj)))
theorem bG8(hf:∀k,k<ts.length->(aM ts k).fault=0):∀(cs:List Int) (st:Rp),Ch.Vals st.s->Ch.Vals (oO ts st cs).s:=by
 intro cs;induction cs with
 |nil=>intro st h;exact h
 |cons c cs ih=>intro st h;refine ih _ (bH0 hf _ (fun i hi=>?_) _ h);unfold cJ at hi;exact Dg.1 (By.1 hi).1
theorem bA9(hb:cW base=0):Ch.Vals (cX base base.length):=by unfold cX;refine bX7 (base:=base) (fun r hr=>?_) _ (fun r hr=>Cg hr) _ (fun k v hv=>by simp at hv);obtain⟨i,hi,rfl⟩:=Co hr;have:=(mV hb).2.2 i hi;simpa[List.getD,hi]using this
theorem aU4{cs:List Int}(h:(eS base ts cs).1=0)(hm:m<=cs.length):
  (eS base ts (cs.take m)).1=0/\(eS (eS base ts (cs.take m)).2.2 ts (cs.drop m)).1=0/\(eS (eS base ts (cs.take m)).2.2 ts (cs.drop m)).2.2=(eS base ts cs).2.2/\
   (eS base ts cs).2.1=((eS base ts (cs.take m)).2.1&&(eS (eS base ts (cs.take m)).2.2 ts (cs.drop m)).2.1):=by
 have hF:fJ base ts cs=0:=by
  by_cases h0:fJ base ts cs=0
  .exact h0
  .rw[rM rfl (by simpa using h0)]at h;exact absurd h h0
 obtain⟨h1,h2,h3⟩:=lI hF;have hA:fJ base ts (cs.take m)=0:=by unfold fJ;rw[h1,h2,if_neg (by decide),if_neg (by decide),if_neg (by simp;omega)]
 rw[qO hA,qO hF];simp only[zW];have hf:=(jA h1).2;have hv:=bG8 hf (cs.take m) ⟨cX base base.length,A'⟩ (bA9 h2);have hc:oO ts ⟨cX base base.length,A'⟩ cs=oO ts (oO ts ⟨cX base base.length,A'⟩ (cs.take m)) (cs.drop m):=by unfold oO;rw[<-Em,Ci]
 rw[hc];generalize oO ts ⟨cX base base.length,A'⟩ (cs.take m)=x at*;obtain⟨S,ok⟩:=x;simp only at hv⊢;have hB:=bX3 hv;have hBF:fJ (Ch.rowsS S) ts (cs.drop m)=0:=by unfold fJ;rw[h1,hB,if_neg (by decide),if_neg (by decide),if_neg (by simp;omega)]
 rw[qO hBF];simp only[zW];have hs:=bG7 ts (cs.drop m) (b:=ok) (x:=⟨S,ok⟩) (y:=⟨cX (Ch.rowsS S) (Ch.rowsS S).length,A'⟩) ⟨aH2 (yX hB).symm,by simp⟩;exact⟨Cm,Cm,(aA1 hs.1).symm,hs.2⟩
def qE(ts:List Ac)(key:Int)(k:Nat):Bool:=(ts.take k).any fun t=>t.tx==1&&fL t.k t.a t.b t.v key
theorem aT2(hk:k<ts.length):qE ts key (k+1)=(qE ts key k||((aM ts k).tx==1&&fL (aM ts k).k (aM ts k).a (aM ts k).b (aM ts k).v key)):=by
 unfold qE;rw[Du,Ao hk,List.any_append];have e:aM ts k=ts[k]:=by simp[aM,List.getD,hk]
 rw[e];simp
theorem aR5{t:Ac}(hf:t.fault=0)(hw:isW t.k=A'):fL t.k t.a t.b t.v t.a=A':=by
 have hb:=pN hf hw;unfold Ac.fault at hf;split at hf
 .simp at hf
 rw[sC hf hb];unfold isW at hw;unfold iW;rw[if_pos]
 .simp
 .simp at hw;omega
theorem bI9(hf:∀k,k<ts.length->(aM ts k).fault=0)(h:key∈wrL ts 1):qE ts key ts.length=A':=by
 have h1:=(aR2 hf 1 key).1 h;unfold jM at h1;unfold qE;rw[Be];rw[Ct]at h1⊢;obtain⟨t,ht,h2⟩:=h1;refine⟨t,ht,?_⟩;simp only[Ac.wr,Bq,Dx]at h2;obtain⟨⟨h3,h4⟩,rfl⟩:=h2;obtain⟨k,hk,rfl⟩:=Cy.1 ht;have e:aM ts k=ts[k]:=by simp[aM,List.getD,hk]
 have:=aR5 (e▸hf k hk) h4;rw[h3,this];rfl
theorem aU0(a:Option Addr)(n cap:Nat)(ts:List Ac)(w:World)(h:AcAt w a n ts)(hn:n<=1048576)(hF:cQ ts=0):
  Calls prog 63 #[Z a n cap] w fun e w'=>e=R' (X (dZ ts))/\V' w w':=by
 have HL:=h.len;have HZ:=hid (jA hF).2;clear hF;obtain⟨S,HS⟩:∃S,Hid (dZ ts=S):=⟨_,rfl⟩
 rw[HS.out];have HA:Hid (AcAt w a n ts):=h;clear h;go_enter func63,ntmps63
 go_wp2;go_loopw [3] (fun i wr=>∃k:Nat,k<=n/\i=I J k/\Hid (dZ (ts.drop k)=S)/\V' w wr) (fun i _=>n-(intOf i).toNat)
 case atStart=>exact⟨0,Ad _,rfl,(by show _=_;rw[Gf];exact HS.out),Aa _ _⟩
 case round=>
  obtain⟨k,hk,rfl,HI,hB⟩:=hrel;by_cases hlt:k<n
  .have hkl:Hid (k<ts.length):=by show _<_;have:=HL.out;omega
   have HFl:Hid ((aM ts k).fault=0):=HZ.out k hkl.out;have HFF:Hid (dG (aM ts k) (ts.drop (k+1))=F'->S=F'):=fun h=>(HI.out.symm.trans (aA6 hkl.out h))
   have HT:Hid (dG (aM ts k) (ts.drop (k+1))=A'->dZ (ts.drop (k+1))=S):=fun h=>((aA7 hkl.out h).symm.trans HI.out)
   have HAk:∀W,V' w W->∃b off an nn cn,a=Y ⟨b,off,O⟩/\AcOne W b (off+k*6) an nn cn (aM ts k):=fun W hW=>(HA.out.below hW).act hlt;generalize aM ts k=f at*;obtain⟨tx,kd,p,q,v,an⟩:=f;obtain⟨b,off,ai,ni,ci,rfl,_⟩:=HAk _ hB;have HAk':Hid (∀W,V' w W->∃an':Option Addr×Nat×Nat,AcOne W b (off+k*6) an'.1 an'.2.1 an'.2.2 (Ac.mk tx kd p q v an)):=fun W hW=>by obtain⟨b',off',ai',ni',ci',hab,h1⟩:=HAk W hW;simp only[Af,Ap,Cn]at hab;obtain⟨rfl,rfl⟩:=hab;exact⟨(ai',ni',ci'),h1⟩
   clear HAk HI;go_wp2;go_loopw [4,5] (fun ov jv wx=>∃(o:Bool) (j:Nat),k+1<=j/\j<=n/\ov=X o/\jv=I J j/\Hid (o=A'->dG ⟨tx,kd,p,q,v,an⟩ (ts.drop (k+1))=A')/\Hid (o=F'->dG ⟨tx,kd,p,q,v,an⟩ (ts.drop (k+1))=dG ⟨tx,kd,p,q,v,an⟩ (ts.drop j))/\V' w wx) (fun _ jv _=>n-(intOf jv).toNat)
   case atStart=>exact⟨F',k+1,z',by omega,rfl,by go_num,hid (fun h=>by cases h),hid (fun _=>rfl),hB⟩
   case round=>
    obtain⟨o,j,hkj,hj,rfl,rfl,HO,HJ,hBx⟩:=hrel;generalize hwx:wr=wx at*;clear hwx;by_cases hjl:j<n
    .cases o with
     |true=>
      have HR:Hid (dZ (ts.drop (k+1))=S):=HT.out (HO.out rfl);go_wp2;go_roundw;case rel=>exact⟨k+1,by omega,by go_num,HR,hBx⟩
      case measure=>simp[intOf];omega
     |false=>
      have HFj:Hid ((aM ts j).fault=0):=HZ.out j (by have:=HL.out;omega);have HD:=hid (zB (ts:=ts) (k:=j) (by have:=HL.out;omega));obtain⟨⟨ai,ni,ci⟩,hc0,hc1,hc2,hc3,hc4,hc5,_,_⟩:=HAk'.out _ hBx;obtain⟨b',off',ai',ni',ci',hab,hd0,hd1,hd2,hd3,hd4,hd5,_,_⟩:=(HA.out.below hBx).act (k:=j) hjl;simp only[Af,Ap,Cn]at hab;obtain⟨rfl,rfl⟩:=hab;generalize aM ts j=l at*;obtain⟨ltx,lk,la,lb,lv,lan⟩:=l;simp only at hc0 hc1 hc2 hc3 hc4 hd0 hd1 hd2 hd3 hd4;have hbl:=aD hc0;clear hc5 hd5;have HR:Hid (dG ⟨tx,kd,p,q,v,an⟩ (ts.drop (k+1))=dG ⟨tx,kd,p,q,v,an⟩ (⟨ltx,lk,la,lb,lv,lan⟩::ts.drop (j+1))):=by show _=_;rw[HJ.out rfl,HD.out]
      clear HJ HD HO;by_cases he:(ltx==tx)=A'
      .have HW:Hid (eY ⟨tx,kd,p,q,v,an⟩ ⟨ltx,lk,la,lb,lv,lan⟩=isE kd):=aS8 he;go_wp2_with fail
       refine R0 (fun W'=>W'.cell? ⟨b,off+k*6,O⟩=Y (I J tx)/\W'.cell? ⟨b,off+j*6,O⟩=Y (I J ltx)/\V' wx W') (⟨hc0,hd0,(Aa _ _).drew⟩) (fun hH=>?_);refine R5 0 1 2 3 4 ?_;refine R5 5 6 7 8 9 ?_;refine R1 10 ?_;refine R7 ?_;go_wp2_with fail
       obtain⟨_,_,hB8⟩:=hH;refine(aD9 _ _ _ _ _).mono ?_;rintro e w4⟨rfl,b4⟩;have hB4:V' wx w4:=hB8.trans (b4.mono hB8.size);have hBw:V' w w4:=hBx.trans (hB4.mono hBx.size);replace hd1:=keep_cell hB4 hd1;replace hd2:=keep_cell hB4 hd2;replace hd3:=keep_cell hB4 hd3;replace hd4:=keep_cell hB4 hd4;have hbl4:=aD hd1;clear hc0 hc1 hc2 hc3 hc4 hd0 b4 hbl;cases hE:isE kd with
       |true=>have HQ:=hid (HFF.out (by rw[HR.out];exact yL (HW.out.trans hE)));go_wp2;go_ret;exact⟨oF HQ.out.symm,hBw⟩
       |false=>
        have HQ1:Hid (isE lk=A'->dG ⟨tx,kd,p,q,v,an⟩ (ts.drop (k+1))=A'):=fun h=>by rw[HR.out];exact aF5 (HW.out.trans hE) (by simp only;rw[he,h];rfl)
        have HQ2:Hid (isE lk=F'->dG ⟨tx,kd,p,q,v,an⟩ (ts.drop (k+1))=dG ⟨tx,kd,p,q,v,an⟩ (ts.drop (j+1))):=fun h=>by rw[HR.out];exact aB9 (HW.out.trans hE) (by simp only;rw[he,h];rfl)
        go_wp2_with fail
        refine(aD9 _ _ _ _ _).mono ?_;rintro e w5⟨rfl,b5⟩;have hBv:V' w w5:=hBw.trans (b5.mono hBw.size);generalize isE lk=o2 at*;go_wp2;go_roundw;case rel=>exact⟨o2,j+1,by omega,by omega,rfl,by go_num,HQ1,HQ2,hBv⟩
        case measure=>simp[intOf];omega
      .have he':(ltx==tx)=F':=by simpa using he
       have HW:Hid (eY ⟨tx,kd,p,q,v,an⟩ ⟨ltx,lk,la,lb,lv,lan⟩=(isW kd&&iW lk la lb p)):=aG7 HFl.out HFj.out he';have IW:=fun W=>xG kd p q v W;have IT:=fun W=>aN0 lk la lb lv p W;have HN:Hid ((isW kd&&iW lk la lb p)=F'->dG ⟨tx,kd,p,q,v,an⟩ (ts.drop (k+1))=dG ⟨tx,kd,p,q,v,an⟩ (ts.drop (j+1))):=fun h=>by rw[HR.out];exact aB9 (HW.out.trans h) (by simp only;rw[he'];rfl)
       have HY:Hid ((isW kd&&iW lk la lb p)=A'->S=F'):=fun h=>HFF.out (by rw[HR.out];exact yL (HW.out.trans h));clear HW HR he;cases hW:isW kd with
       |true=>
        rw[hW]at IW;cases hTt:iW lk la lb p with
        |true=>
         rw[hTt]at IT;have HQ:=hid (HY.out (by rw[hW,hTt];rfl));clear HN HY;go_wp2_with fail
         refine R0 (fun W'=>W'.cell? ⟨b,off+k*6,O⟩=Y (I J tx)/\W'.cell? ⟨b,off+j*6,O⟩=Y (I J ltx)/\V' wx W') (⟨hc0,hd0,(Aa _ _).drew⟩) (fun hH=>?_);refine R5 0 1 2 3 4 ?_;refine R5 5 6 7 8 9 ?_;refine R1 10 ?_;refine R7 ?_;go_wp2_with fail
         obtain⟨_,_,hB8⟩:=hH;refine R0 (fun W'=>W'.cell? ⟨b,off+k*6,O⟩=Y (I J tx)/\W'.cell? ⟨b,off+k*6+1,O⟩=Y (I J kd)/\W'.cell? ⟨b,off+k*6+1+1,O⟩=Y (I J p)/\W'.cell? ⟨b,off+k*6+1+2,O⟩=Y (I J q)/\W'.cell? ⟨b,off+k*6+1+3,O⟩=Y (I J v)/\W'.cell? ⟨b,off+j*6,O⟩=Y (I J ltx)/\W'.cell? ⟨b,off+j*6+1,O⟩=Y (I J lk)/\W'.cell? ⟨b,off+j*6+1+1,O⟩=Y (I J la)/\W'.cell? ⟨b,off+j*6+1+2,O⟩=Y (I J lb)/\W'.cell? ⟨b,off+j*6+1+3,O⟩=Y (I J lv)/\V' wx W') (⟨hc0,hc1,hc2,hc3,hc4,hd0,hd1,hd2,hd3,hd4,hB8.drew⟩) (fun hH=>?_);refine R5 0 1 2 3 4 ?_;refine R6 5 (fun K hK=>?_);go_simp;refine(IW _).mono ?_;rintro e w4⟨rfl,b4⟩;go_wp2_with fail
         refine hK.out _ _ ?_ (fun hH=>?_)
         .exact⟨keep_cell b4 hH.1,keep_cell b4 hH.2.1,keep_cell b4 hH.2.2.1,keep_cell b4 hH.2.2.2.1,keep_cell b4 hH.2.2.2.2.1,keep_cell b4 hH.2.2.2.2.2.1,keep_cell b4 hH.2.2.2.2.2.2.1,keep_cell b4 hH.2.2.2.2.2.2.2.1,keep_cell b4 hH.2.2.2.2.2.2.2.2.1,keep_cell b4 hH.2.2.2.2.2.2.2.2.2.1,hH.2.2.2.2.2.2.2.2.2.2.trans (b4.mono hH.2.2.2.2.2.2.2.2.2.2.size)⟩
         clear hK K;refine R5 6 7 8 9 10 ?_;refine R5 11 12 13 14 15 ?_;refine R2 16 17 ?_;refine R6 18 (fun K hK=>?_);go_simp;refine(IT _).mono ?_;rintro e w4⟨rfl,b4⟩;go_wp2_with fail
         refine hK.out _ _ ?_ (fun hH=>?_)
         .exact⟨keep_cell b4 hH.1,keep_cell b4 hH.2.1,keep_cell b4 hH.2.2.1,keep_cell b4 hH.2.2.2.1,keep_cell b4 hH.2.2.2.2.1,keep_cell b4 hH.2.2.2.2.2.1,keep_cell b4 hH.2.2.2.2.2.2.1,keep_cell b4 hH.2.2.2.2.2.2.2.1,keep_cell b4 hH.2.2.2.2.2.2.2.2.1,keep_cell b4 hH.2.2.2.2.2.2.2.2.2.1,hH.2.2.2.2.2.2.2.2.2.2.trans (b4.mono hH.2.2.2.2.2.2.2.2.2.2.size)⟩
         clear hK K;refine R1 19 ?_;refine R7 ?_;obtain⟨_,_,_,_,_,_,_,_,_,_,hB12⟩:=hH;go_wp2;go_ret;exact⟨oF HQ.out.symm,hBx.trans (hB12.mono hBx.size)⟩
        |false=>
         rw[hTt]at IT;have HQ:=hid (HN.out (by rw[hW,hTt];rfl));clear HN HY;go_wp2_with fail
         refine R0 (fun W'=>W'.cell? ⟨b,off+k*6,O⟩=Y (I J tx)/\W'.cell? ⟨b,off+j*6,O⟩=Y (I J ltx)/\V' wx W') (⟨hc0,hd0,(Aa _ _).drew⟩) (fun hH=>?_);refine R5 0 1 2 3 4 ?_;refine R5 5 6 7 8 9 ?_;refine R1 10 ?_;refine R7 ?_;go_wp2_with fail
         obtain⟨_,_,hB8⟩:=hH;refine R0 (fun W'=>W'.cell? ⟨b,off+k*6,O⟩=Y (I J tx)/\W'.cell? ⟨b,off+k*6+1,O⟩=Y (I J kd)/\W'.cell? ⟨b,off+k*6+1+1,O⟩=Y (I J p)/\W'.cell? ⟨b,off+k*6+1+2,O⟩=Y (I J q)/\W'.cell? ⟨b,off+k*6+1+3,O⟩=Y (I J v)/\W'.cell? ⟨b,off+j*6,O⟩=Y (I J ltx)/\W'.cell? ⟨b,off+j*6+1,O⟩=Y (I J lk)/\W'.cell? ⟨b,off+j*6+1+1,O⟩=Y (I J la)/\W'.cell? ⟨b,off+j*6+1+2,O⟩=Y (I J lb)/\W'.cell? ⟨b,off+j*6+1+3,O⟩=Y (I J lv)/\V' wx W') (⟨hc0,hc1,hc2,hc3,hc4,hd0,hd1,hd2,hd3,hd4,hB8.drew⟩) (fun hH=>?_);refine R5 0 1 2 3 4 ?_;refine R6 5 (fun K hK=>?_);go_simp;refine(IW _).mono ?_;rintro e w4⟨rfl,b4⟩;go_wp2_with fail
         refine hK.out _ _ ?_ (fun hH=>?_)
         .exact⟨keep_cell b4 hH.1,keep_cell b4 hH.2.1,keep_cell b4 hH.2.2.1,keep_cell b4 hH.2.2.2.1,keep_cell b4 hH.2.2.2.2.1,keep_cell b4 hH.2.2.2.2.2.1,keep_cell b4 hH.2.2.2.2.2.2.1,keep_cell b4 hH.2.2.2.2.2.2.2.1,keep_cell b4 hH.2.2.2.2.2.2.2.2.1,keep_cell b4 hH.2.2.2.2.2.2.2.2.2.1,hH.2.2.2.2.2.2.2.2.2.2.trans (b4.mono hH.2.2.2.2.2.2.2.2.2.2.size)⟩
         clear hK K;refine R5 6 7 8 9 10 ?_;refine R5 11 12 13 14 15 ?_;refine R2 16 17 ?_;refine R6 18 (fun K hK=>?_);go_simp;refine(IT _).mono ?_;rintro e w4⟨rfl,b4⟩;go_wp2_with fail
         refine hK.out _ _ ?_ (fun hH=>?_)
         .exact⟨keep_cell b4 hH.1,keep_cell b4 hH.2.1,keep_cell b4 hH.2.2.1,keep_cell b4 hH.2.2.2.1,keep_cell b4 hH.2.2.2.2.1,keep_cell b4 hH.2.2.2.2.2.1,keep_cell b4 hH.2.2.2.2.2.2.1,keep_cell b4 hH.2.2.2.2.2.2.2.1,keep_cell b4 hH.2.2.2.2.2.2.2.2.1,keep_cell b4 hH.2.2.2.2.2.2.2.2.2.1,hH.2.2.2.2.2.2.2.2.2.2.trans (b4.mono hH.2.2.2.2.2.2.2.2.2.2.size)⟩
         clear hK K;refine R1 19 ?_;refine R7 ?_;obtain⟨_,_,_,_,_,_,_,_,_,_,hB12⟩:=hH;go_wp2;go_roundw;case rel=>exact⟨F',j+1,by omega,by omega,rfl,by go_num,hid (fun h=>by cases h),hid (fun _=>HQ.out),hBx.trans (hB12.mono hBx.size)⟩
         case measure=>simp[intOf];omega
       |false=>
        rw[hW]at IW;have HQ:=hid (HN.out (by rw[hW];rfl));clear HN HY;go_wp2_with fail
        refine R0 (fun W'=>W'.cell? ⟨b,off+k*6,O⟩=Y (I J tx)/\W'.cell? ⟨b,off+j*6,O⟩=Y (I J ltx)/\V' wx W') (⟨hc0,hd0,(Aa _ _).drew⟩) (fun hH=>?_);refine R5 0 1 2 3 4 ?_;refine R5 5 6 7 8 9 ?_;refine R1 10 ?_;refine R7 ?_;go_wp2_with fail
        obtain⟨_,_,hB8⟩:=hH;refine R0 (fun W'=>W'.cell? ⟨b,off+k*6,O⟩=Y (I J tx)/\W'.cell? ⟨b,off+k*6+1,O⟩=Y (I J kd)/\W'.cell? ⟨b,off+k*6+1+1,O⟩=Y (I J p)/\W'.cell? ⟨b,off+k*6+1+2,O⟩=Y (I J q)/\W'.cell? ⟨b,off+k*6+1+3,O⟩=Y (I J v)/\W'.cell? ⟨b,off+j*6,O⟩=Y (I J ltx)/\W'.cell? ⟨b,off+j*6+1,O⟩=Y (I J lk)/\W'.cell? ⟨b,off+j*6+1+1,O⟩=Y (I J la)/\W'.cell? ⟨b,off+j*6+1+2,O⟩=Y (I J lb)/\W'.cell? ⟨b,off+j*6+1+3,O⟩=Y (I J lv)/\V' wx W') (⟨hc0,hc1,hc2,hc3,hc4,hd0,hd1,hd2,hd3,hd4,hB8.drew⟩) (fun hH=>?_);refine R5 0 1 2 3 4 ?_;refine R6 5 (fun K hK=>?_);go_simp;refine(IW _).mono ?_;rintro e w4⟨rfl,b4⟩;go_wp2_with fail
        refine hK.out _ _ ?_ (fun hH=>?_)
        .exact⟨keep_cell b4 hH.1,keep_cell b4 hH.2.1,keep_cell b4 hH.2.2.1,keep_cell b4 hH.2.2.2.1,keep_cell b4 hH.2.2.2.2.1,keep_cell b4 hH.2.2.2.2.2.1,keep_cell b4 hH.2.2.2.2.2.2.1,keep_cell b4 hH.2.2.2.2.2.2.2.1,keep_cell b4 hH.2.2.2.2.2.2.2.2.1,keep_cell b4 hH.2.2.2.2.2.2.2.2.2.1,hH.2.2.2.2.2.2.2.2.2.2.trans (b4.mono hH.2.2.2.2.2.2.2.2.2.2.size)⟩
        clear hK K;refine R8 6 (h:=R9 7 (h:=R9 8 (h:=R9 9 (h:=R9 10 (h:=J3 ?_)))));refine R9 11 (h:=R9 12 (h:=R9 13 (h:=R9 14 (h:=R9 15 (h:=J3 ?_)))));refine R9 16 (h:=R9 17 (h:=R9 18 (h:=R8 19 (h:=J3 ?_))));refine R7 ?_;obtain⟨_,_,_,_,_,_,_,_,_,_,hB12⟩:=hH;go_wp2;go_roundw;case rel=>exact⟨F',j+1,by omega,by omega,rfl,by go_num,hid (fun h=>by cases h),hid (fun _=>HQ.out),hBx.trans (hB12.mono hBx.size)⟩
        case measure=>simp[intOf];omega
    .obtain rfl:j=n:=by omega
     have HR:Hid (dZ (ts.drop (k+1))=S):=HT.out (by
      cases o with
      |true=>exact HO.out rfl
      |false=>rw[HJ.out rfl,Cb (show ts.length<=j by have:=HL.out;omega)];rfl)
     go_wp2;go_roundw;case rel=>exact⟨k+1,by omega,by go_num,HR,hBx⟩
     case measure=>simp[intOf];omega
  .obtain rfl:k=n:=by omega
   have HQ:Hid (A'=S):=by have h1:=HI.out;have h2:=HL.out;rw[h2,List.drop_length]at h1;exact h1
   go_wp2;go_ret;exact⟨oF HQ.out,hB⟩
theorem aP7(a:Option Addr)(n cap:Nat)(ts:List Ac)(w:World)(h:AcAt w a n ts)(hn:n<=1048576):
  Calls prog 24 #[Z a n cap] w fun e w'=>e=R' (X (mH ts))/\V' w w':=by
 have IA:=fun W hW=>nI a n cap ts W hW hn;by_cases h0:cQ ts=0
 .rw[xQ h0];have IB:=fun W hW=>aU0 a n cap ts W hW hn h0;rw[h0]at IA;generalize dZ ts=S at*;clear h0;go_enter func24,ntmps24
  go_wp2_with fail
  refine(IA _ h).mono ?_;rintro e w1⟨rfl,b1⟩;go_wp2_with fail
  refine(IB _ (h.below b1)).mono ?_;rintro e w2⟨rfl,b2⟩;go_wp2;go_ret;exact⟨rfl,b1.trans (b2.mono b1.size)⟩
 .have h0':(cQ ts==0)=F':=by simpa using h0
  rw[vR (by simpa using h0)];generalize cQ ts=c at*;clear h0;go_enter func24,ntmps24
  go_wp2_with fail
  refine(IA _ h).mono ?_;rintro e w1⟨rfl,b1⟩;go_wp2;go_ret;exact⟨rfl,b1⟩
theorem cB8{R:Nat}{u0 u1 u2 u3 u4 u5 u6:Value}(h:w.heap[R]? =Y (M #[u0,u1,u2,u3,u4,u5,u6] t (0,0)))(v0 v1 v2 v3 v4 v5 v6:Value):(((((((w.setCell ⟨R,0,O⟩ v0).setCell ⟨R,1,O⟩ v1).setCell ⟨R,2,O⟩ v2).setCell ⟨R,3,O⟩ v3).setCell ⟨R,4,O⟩ v4).setCell ⟨R,5,O⟩ v5).setCell ⟨R,6,O⟩ v6).heap[R]? =Y (M #[v0,v1,v2,v3,v4,v5,v6] t (0,0)):=by have h0:=Ah (i:=0) h v0;have h1:=Ah (i:=1) h0 v1;have h2:=Ah (i:=2) h1 v2;have h3:=Ah (i:=3) h2 v3;have h4:=Ah (i:=4) h3 v4;have h5:=Ah (i:=5) h4 v5;have h6:=Ah (i:=6) h5 v6;simpa using h6
def LvK(w:World)(B K:Nat)(lv:Value)(m:Nat)(ls:List (List Row)):Prop:=
 ∃vs lo hi,OwnV w B lv m vs ls/\B<=lo/\hi<=w.heap.size/\(∀g,lv.ownBlock=Y g->lo<=g/\g<hi)/\(∀(i:Nat) (x:Value) (g:Nat),vs[i]? =Y x->x.ownBlock=Y g->lo<=g/\g<hi)/\(K<lo\/hi<=K)
def OwnO(w:World)(B O':Nat)(lv:Value)(m:Nat)(ls:List (List Row))(rv:Value)(p:Nat)(rs:List Rec):Prop:=
 ∃vs lo hi,OwnV w B lv m vs ls/\w.ownsRow B 79 7 rv p (rc7 rs)/\B<=lo/\hi<=w.heap.size/\(∀g,lv.ownBlock=Y g->lo<=g/\g<hi)/\(∀(i:Nat) (x:Value) (g:Nat),vs[i]? =Y x->x.ownBlock=Y g->lo<=g/\g<hi)/\(∀g,rv.ownBlock=Y g->(g<lo\/hi<=g)/\g≠O')/\(O'<lo\/hi<=O')
theorem OwnO.own{B O' p:Nat}{lv rv:Value}(h:OwnO w B O' lv m ls rv p rs):OwnU w B lv m ls rv p rs:=by obtain⟨vs,lo,hi,h1,h2,h3,h4,h5,h6,h7,_⟩:=h;exact⟨vs,lo,hi,h1,h2,h3,h4,h5,h6,fun g hg=>(h7 g hg).1⟩
theorem bL8(h:eN bs=0)(hk:k<bs.length):(bs.getD k Bf.zero).fault=0:=cT6 h _ (by simp[List.getD,hk])
theorem aS6{k v:Int}(hf:(⟨k,h,v⟩:Bf).fault=0):inB k 0 99=A':=by
 unfold Bf.fault at hf;by_cases h1:(!inB k 0 99||!inB v 0 9999)=A'
 .rw[if_pos h1]at hf;cases hf
 .simp only[Dy,Ec,not_or,Bool.not_eq_false]at h1;exact h1.1
theorem bL7{k v:Int}(hg:aL ls=0)(ht:inB tx 1 999=A')(hf:(⟨k,h,v⟩:Bf).fault=0):
  ((dU ls k h v).1=0->fS tx (0,ls,rs) ⟨k,h,v⟩=(0,(dU ls k h v).2,rs++[⟨3,tx,k,(Ch.bf k (Ch.has ls k)).h,(Ch.bf k (Ch.has ls k)).v,h,v⟩]))/\(∀c,(dU ls k h v).1=c->(c !=0)=A'->fS tx (0,ls,rs) ⟨k,h,v⟩=(c,[],[])):=by
 have hF:jU ls tx [⟨k,h,v⟩]=0:=by rw[aP3 hg ht];exact hf
 refine⟨fun hs=>?_,fun c hs hc=>?_⟩
 .have e:=yM hF hs;rw[aI8 (b:=⟨k,h,v⟩) (by rw[e]),e];rfl
 .exact yV (b:=⟨k,h,v⟩) (by rw[tI hF hs hc]) hc
theorem aI9{c:Int}(hc:(c !=0)=A')(h:cZ tx ls (bs.drop k)=(c,l,rs)):cZ tx ls bs=(c,l,rs):=by
 induction k with
 |zero=>rwa[Gf]at h
 |succ k ih=>
  by_cases hk:k<bs.length
  .exact ih (by rw[yW hk,h,yU hc])
  .refine ih ?_;rw[Cb (by omega)]at h⊢;exact h
theorem cH0(a:Option Addr)(n cap:Nat)(tx:Int)(ab:Option Addr)(nb cb:Nat)(ls:List (List Row))(bs:List Bf)(w:World)(h:LvAt w a n ls)(hg:aL ls=0)(ht:inB tx 1 999=A')(hf:eN bs=0)(hb:CellsAt w ab (nb*3) (bfcells bs))(hnb:nb<=40):
  Calls prog 216 #[Z a n cap,I J tx,Z ab nb cb] w fun e w'=>∃a' m c' r p q,e=R' (U #[I J (cZ tx ls bs).1,Z a' m c',Z r p q])/\OwnU w' w.heap.size (Z a' m c') m (cZ tx ls bs).2.1 (Z r p q) p (cZ tx ls bs).2.2/\V' w w':=by
 have hs:=jC hg;have HL:=hb.bflen;have hgl:∀k,k<n->(ls.getD k []).length≠0:=fun k hk=>(fY hg k (by have:=h.len.out;omega)).1;have b0:V' w (w.alloc (M #[I J 0,Z O 0 0,Z O 0 0] 285)):=(Aa _ _).alloc z' _;go_enter func216,ntmps216
 go_wp2_with fail
 refine(pM a n cap ls _ (h.below b0) hs hgl).mono ?_;rintro e w1⟨a1,c1,rfl,o1,b1⟩;have hR1:=aR b1 (Ar w _);have bE:=aZ b1;have z1:=b1.size;simp at z1;obtain⟨vs,o1⟩:=o1.told;have o1':OwnV w1 (w.heap.size+1) (Z a1 n c1) n vs ls:=by simpa using o1
 clear o1 b1 b0;have hR2:=(Ex w1 (M #[I J 0,Z a1 n c1,Z O 0 0] 285) _ (by omega)).trans hR1;have kO:V' w1 (w1.alloc (M #[I J 0,Z a1 n c1,Z O 0 0] 285)):=(Aa _ _).alloc z' _;go_wp2;go_loopw [8] (fun i wr=>∃(k:Nat) (al:Option Addr) (ml cl:Nat) (r:Option Addr) (p q:Nat),k<=nb/\i=I J ((k:Int)-1)/\Hid ((cZ tx ls (bs.drop k)).1=0)/\wr.heap[w.heap.size]? =Y (M #[I J 0,Z O 0 0,Z O 0 0] 285 (0,0))/\wr.heap[w1.heap.size]? =Y (M #[I J 0,Z al ml cl,Z r p q] 285 (0,0))/\OwnO wr (w.heap.size+1) w1.heap.size (Z al ml cl) ml (cZ tx ls (bs.drop k)).2.1 (Z r p q) p (cZ tx ls (bs.drop k)).2.2/\w1.heap.size+1<=wr.heap.size/\V' w wr) (fun i _=>(intOf i+1).toNat)
 case atStart=>have hend:=bL6 (tx:=tx) (ls:=ls) (bs:=bs) (k:=nb) (by have:=HL.out;omega);refine⟨nb,a1,n,c1,O,0,0,z',rfl,by rw[hend];rfl,hR2,Ar w1 _,?_,by simp,bE.alloc bE.size _⟩;rw[hend];exact⟨vs,w.heap.size+1,w1.heap.size,o1'.below kO,Aw _ _ _ _,z',by simp,aH o1'.2.1,o1'.lt,fun g hg=>by simp[Value.ownBlock]at hg,.inr z'⟩
 case round=>
  clear hR2 kO o1' hR1;obtain⟨k,al,ml,cl,r,p,q,hk,rfl,H0,hR,hO,UO,hsz,hB⟩:=hrel;have hzw:w.heap.size<wr.heap.size:=(Ab.1 hR).1;have hzo:w1.heap.size<wr.heap.size:=(Ab.1 hO).1;obtain⟨x0,x1,x2,f0,f1,f2⟩:=sQ hR;obtain⟨y0,y1,y2,g0,g1,g2⟩:=sQ hO;cases k with
  |zero=>
   rw[Gf]at H0 UO;have hm1:(((0:Nat):Int)-1)= -1:=by omega
   rw[hm1];have hdec:decide ((0:Int)<= -1)=F':=by decide
   have UU:=UO.own;clear UO;go_wp2;refine Ae (v:=U #[I J 0,Z al ml cl,Z r p q]) (by simp[results,Tryz.results216,go_sem,x0,x1,x2]) rfl ⟨al,ml,cl,r,p,q,by rw[H0.out],?_,((hB.setCell (p:=⟨w.heap.size,0,O⟩) z' _).setCell (p:=⟨w.heap.size,1,O⟩) z' _).setCell (p:=⟨w.heap.size,2,O⟩) z' _⟩;exact(((UU.low (Fs _) _).low (Fs _) _).low (Fs _) _).base (Nat.le_succ _)
  |succ i=>
   have hil:i<bs.length:=by have:=HL.out;omega
   have hin:i<nb:=by omega
   have hm1:(((i+1:Nat):Int)-1)=(i:Int):=by omega
   rw[hm1];have keep:=rT (tx:=tx) hg (bs.drop (i+1));have hnext:=hid (yW (tx:=tx) (ls:=ls) hil);have hfi:=bL8 hf hil;have hstand:=hid (fun c hc h=>aI9 (tx:=tx) (c:=c) (ls:=ls) (l:=[]) (rs:=[]) (bs:=bs) (k:=i) hc h);obtain⟨b,off,rfl,q0,q1,q2⟩:=(hb.below hB).bef (show i<nb by omega);have hbl:=aD q0;generalize bs.getD i Bf.zero=bb at*;obtain⟨bk,bh,bv⟩:=bb;simp only at q0 q1 q2;generalize hst:cZ tx ls (bs.drop (i+1))=st at*;obtain⟨sc,l,rs⟩:=st;have hsc:sc=0:=H0.out;subst hsc;have hlg:aL l=0:=keep.2.2 rfl;have hpl:p<=1048576:=by have h1:=UO.own.len.2;have h2:=keep.2.1;have h3:=HL.out;simp at h1 h2;omega
   have hset:=hid (bL7 (rs:=rs) hlg ht hfi);have LV:=UO.own.lv (jC hlg);have SI:=fun W hW=>aY5 al ml cl tx bk bh bv l W hW hlg (aS6 hfi);generalize Ch.bf bk (Ch.has l bk)=bb at*;obtain⟨_,rh,ro⟩:=bb;generalize dU l bk bh bv=Y' at*;obtain⟨yc,nl⟩:=Y';simp only at hset SI;clear hst keep hfi H0;generalize hOO:w1.heap.size=O' at*;go_upto_region 5 with fail
   go_cut [9,10,11] (fun s9 s10 s11 wx=>∃K a2 m2 c2,s9=Z a2 m2 c2/\s10= .pointer (Y ⟨K,0,O⟩)/\s11=I J yc/\wx.heap[K]? =Y (M #[I J 2,I J tx,I J bk,X rh,I J ro,X bh,I J bv] 79 (0,0))/\LvK wx wr.heap.size K (Z a2 m2 c2) m2 nl/\wr.heap.size<=K/\V' wr wx)
   case first=>
    have HS:Hid (∀W',V' wr W'->W'.cell? ⟨O',1,O⟩=Y (Z al ml cl)/\W'.cell? ⟨b,off+i*3,O⟩=Y (I J bk)/\W'.cell? ⟨b,off+i*3+1,O⟩=Y (X bh)/\W'.cell? ⟨b,off+i*3+2,O⟩=Y (I J bv)/\V' wr W'):=fun W' hW=>⟨keep_cell hW y1,keep_cell hW q0,keep_cell hW q1,keep_cell hW q2,hW⟩
    refine R0 (fun W'=>W'.cell? ⟨O',1,O⟩=Y (Z al ml cl)/\W'.cell? ⟨b,off+i*3,O⟩=Y (I J bk)/\W'.cell? ⟨b,off+i*3+1,O⟩=Y (X bh)/\W'.cell? ⟨b,off+i*3+2,O⟩=Y (I J bv)/\V' wr W') (HS.out _ (Aa _ _).drew) (fun hH=>?_);have hwd:wr.heap.size<=wr.drew.heap.size:=(Aa wr.heap.size wr).drew.size;generalize wr.drew=wd at*;refine R5 0 1 2 3 4 ?_;refine R5 5 6 7 8 9 ?_;refine R5 10 11 12 13 14 ?_;refine R3 15 16 17 ?_;refine Dr (rs:=[18,23]) (by kernel_rfl) (by simp) ?_;refine Bi rfl (fun K hK=>?_) (Bi rfl (fun K hK=>?_) Dk);focus
     go_simp;refine(SI _ (LV.below hH.2.2.2.2)).mono ?_;rintro e v1⟨a2,m2,c2,rfl,o2,bv1⟩;have Bv1:=hH.2.2.2.2.trans (bv1.mono hH.2.2.2.2.size);go_wp2_with fail
     refine hK.out _ _ ?_ (fun hH=>?_)
     .exact HS.out _ Bv1
     clear hK K;refine R4 19 20 21 22 ?_;refine R6 23 (fun K hK=>?_);go_simp;refine hK.out _ _ ?_ (fun hH=>?_)
     .exact HS.out _ (Bv1.alloc Bv1.size _)
     clear hK K;refine R1 24 ?_;refine R6 25 (fun K hK=>?_);go_simp;refine hK.out _ _ ?_ (fun hH=>?_)
     .exact HS.out _ (Bv1.alloc Bv1.size _)
     clear hK K;refine R1 26 ?_;refine R7 ?_;go_wp2_with fail
     go_meet;refine⟨v1.heap.size,a2,m2,c2,rfl,rfl,rfl,Ar v1 _,?_,Bv1.size,Bv1.alloc Bv1.size _⟩;obtain⟨vs,o2⟩:=o2.told;exact⟨vs,wd.heap.size,v1.heap.size,(o2.below ((Aa _ _).alloc z' _)).base hwd,hwd,by simp,aH o2.2.1,o2.lt,.inr z'⟩
    focus
     go_simp;refine hK.out _ _ ?_ (fun hH=>?_)
     .exact HS.out _ (hH.2.2.2.2.alloc hH.2.2.2.2.size _)
     clear hK K;have BA:=hH.2.2.2.2;refine R6 18 (fun K hK=>?_);go_simp;refine(SI _ (LV.below BA)).mono ?_;rintro e v1⟨a2,m2,c2,rfl,o2,bv1⟩;have hK1:=aR bv1 (Ar wd _);have Bv1:=BA.trans (bv1.mono BA.size);have zv:=bv1.size;simp at zv;go_wp2_with fail
     refine hK.out _ _ ?_ (fun hH=>?_)
     .exact HS.out _ Bv1
     clear hK K;obtain⟨⟨k0,k1,k2,k3,k4,k5,k6⟩,fk⟩:=nG hK1;have f0:=fk 0;have f1:=fk 1;have f2:=fk 2;have f3:=fk 3;have f4:=fk 4;have f5:=fk 5;have f6:=fk 6;have hkz:=aD k0;clear fk;refine R5 19 20 21 22 24 ?_;refine R6 25 (fun K hK=>?_);go_simp;refine hK.out _ _ ?_ (fun hH=>?_)
     .exact HS.out _ (mW Bv1 hwd _ _ _ _ _ _ _)
     clear hK K;refine R1 26 ?_;refine R7 ?_;go_wp2_with fail
     go_meet;refine⟨wd.heap.size,a2,m2,c2,rfl,rfl,rfl,cB8 hK1 _ _ _ _ _ _ _,?_,hwd,mW Bv1 hwd _ _ _ _ _ _ _⟩;obtain⟨vs,o2⟩:=o2.told;have o3:OwnV v1 (wd.heap.size+1) (Z a2 m2 c2) m2 vs nl:=by simpa using o2
     exact⟨vs,wd.heap.size+1,v1.heap.size,(o3.store7 (Fs _) _ _ _ _ _ _ _).base (by omega),by omega,by simp,aH o3.2.1,o3.lt,.inl (Fs _)⟩
   case rest=>
    obtain⟨w2,hwn⟩:∃x:World,x=wc:=⟨_,rfl⟩
    subst hwn;obtain⟨K,a2,m2,c2,rfl,rfl,rfl,hK,LK,hwK,bC⟩:=hcut;have hR2:=aR bC hR;have hO2:=aR bC hO;obtain⟨x0,x1,x2,f0,f1,f2⟩:=sQ hR2;obtain⟨y0,y1,y2,g0,g1,g2⟩:=sQ hO2;obtain⟨⟨k0,k1,k2,k3,k4,k5,k6⟩,fk⟩:=nG hK;have fk0:=fk 0;have hkz:=aD k0;have bW:=hB.trans (bC.mono hB.size);clear fk;by_cases hy:yc=0;rotate_left
    .have hyc:(yc !=0)=A':=by simpa using hy
     have HX:=hid (hstand.out yc hyc (hnext.out.trans (hset.out.2 yc rfl hyc)));clear hset hstand hnext;go_wp2;exact Ae (v:=U #[I J yc,Z O 0 0,Z O 0 0]) (by simp[results,Tryz.results216,go_sem,x0,x1,x2]) rfl ⟨O,0,0,O,0,0,by rw[HX.out],by rw[HX.out];exact OwnU.none _ _,((bW.setCell (p:=⟨w.heap.size,0,O⟩) z' _).setCell (p:=⟨w.heap.size,1,O⟩) z' _).setCell (p:=⟨w.heap.size,2,O⟩) z' _⟩
    subst hy;have HX:=hid (hnext.out.trans (hset.out.1 rfl));obtain⟨vs1,lo1,hi1,u1,u2,u3,u4,u5,u6,u7,u8⟩:=UO;have K2:=aH u2;have hOR:(Z r p q).ownBlock≠Y O':=fun e=>(u7 O' e).2 rfl;obtain⟨vs2,lo2,hi2,t1,t2,t3,t4,t5,t6⟩:=LK;clear hset hstand hnext u1 u3 u4 u5 u6 u7 u8;have hKO:K≠O':=by omega
    have hKR:K≠w.heap.size:=by omega
    have rK:∀g,(Z r p q).ownBlock=Y g->g≠K:=fun g hg=>by have:=(K2 g hg).2;omega
    have rO:∀g,(Z r p q).ownBlock=Y g->g≠O':=fun g hg e=>hOR (by rw[<-e];exact hg);have recV:=oY (o:=1) (oY (o:=0) (aG u2 bC) rK (I J 3)) rO (Z a2 m2 c2);have lvV:=(t1.store (p:=K) (o:=0) (u:=I J 3) (fun g hg=>by have:=t4 g hg;omega) (fun i x g hx hg=>by have:=t5 i x g hx hg;omega)).store3 (q:=O') (o:=1) (by omega) (Z a2 m2 c2);have hKV0:=Ah (i:=0) hK (I J 3);have hKV:((w2.setCell ⟨K,0,O⟩ (I J 3)).setCell ⟨O',1,O⟩ (Z a2 m2 c2)).heap[K]? =Y (M #[I J 3,I J tx,I J bk,X rh,I J ro,X bh,I J bv] 79 (0,0)):=(Bu _ _ _ _ (by exact hKO)).trans (by simpa using hKV0);have hOV:=dD7 ((Bu w2 ⟨K,0,O⟩ (I J 3) O' (by exact fun e=>hKO e.symm)).trans hO2) (Z a2 m2 c2);have hRV:((w2.setCell ⟨K,0,O⟩ (I J 3)).setCell ⟨O',1,O⟩ (Z a2 m2 c2)).heap[w.heap.size]? =Y (M #[I J 0,Z O 0 0,Z O 0 0] 285 (0,0)):=(Bu _ _ _ _ (by show w.heap.size≠O';omega)).trans ((Bu _ _ _ _ (by show w.heap.size≠K;omega)).trans hR2);have bV:=(bW.setCell (p:=⟨K,0,O⟩) (by show w.heap.size<=K;omega) (I J 3)).setCell (p:=⟨O',1,O⟩) (by show w.heap.size<=O';omega) (Z a2 m2 c2);have zV:((w2.setCell ⟨K,0,O⟩ (I J 3)).setCell ⟨O',1,O⟩ (Z a2 m2 c2)).heap.size=w2.heap.size:=by simp
    have zC:=bC.size;go_upto_region 10 with fail
    generalize(w2.setCell ⟨K,0,O⟩ (I J 3)).setCell ⟨O',1,O⟩ (Z a2 m2 c2)=V at*;clear k0 k1 k2 k3 k4 k5 k6 fk0 hkz x0 x1 x2 f0 f1 f2 y0 y1 y2 g0 g1 g2 hKV0 t1 u2 hR2 hO2;obtain⟨⟨k0,k1,k2,k3,k4,k5,k6⟩,_⟩:=nG hKV;obtain⟨y0,y1,y2,g0,g1,g2⟩:=sQ hOV;have hkz:=aD k0;have hyz:=aD y0;have kN:V' V (V.alloc (M #[I J 3,I J tx,I J bk,X rh,I J ro,X bh,I J bv] 79)):=(Aa _ _).alloc z' _;have oN:=aG recV kN;have hC:=dL4 (w:=V) (r:=⟨3,tx,bk,rh,ro,bh,bv⟩) (t:=79) (H:=w2.heap.size) zV.symm;have hb3:w.heap.size+1<=(V.alloc (M #[I J 3,I J tx,I J bk,X rh,I J ro,X bh,I J bv] 79)).heap.size:=by simp;omega
    have hON:=aR kN hOV;go_wp2_with(at_builtin;go_must (refine bI7 (.tmp 53) (.tmp 55) ?_ ?_ (w.heap.size+1) (Z r p q) p rs w2.heap.size 1 ⟨3,tx,bk,rh,ro,bh,bv⟩ ?_ ?_ oN hC hpl hb3 ?_;exact rfl;exact rfl;exact rfl;exact rfl;intro a5 c5 w5 own5 gr5 at5;have hO5:=mJ gr5 hON hOR;obtain⟨e0,e1,e2,d0,d1,d2⟩:=sQ hO5;have lv5:=aD e0))
    go_roundw;case rel=>
     have g5:=gr5.size;have gN:=kN.size;have hR5:=mJ gr5 (aR kN hRV) (fun e=>by have:=(K2 _ e).1;omega);have bN:=bV.trans (kN.mono bV.size);have b5:=bN.grown gr5 bN.size (fun g hg=>by have:=(K2 g hg).1;omega);refine⟨i,a2,m2,c2,a5,p+1,c5,by omega,by go_num,by rw[HX.out];rfl,(Bu _ _ _ _ (by show w.heap.size≠O';omega)).trans hR5,?_,?_,by simp;omega,b5.setCell (p:=⟨O',2,O⟩) (by show w.heap.size<=O';omega) _⟩
     .have:=Ah (i:=2) hO5 (Z a5 (p+1) c5);simpa using this
     .rw[HX.out];have hnO:∀g,(Z a5 (p+1) c5).ownBlock=Y g->g≠O':=fun g hg e=>by
       rcases at5 g hg with h|h
       .exact rO g h e
       .omega
      obtain⟨hl,ho,hi',hd,hd'⟩:=lvV.below kN;have l5:OwnV w5 wr.heap.size (Z a2 m2 c2) m2 vs2 nl:=by refine⟨hl,aN ho gr5 (fun g hg hk=>by have:=(K2 g hk).2;have:=t4 g hg;omega),fun j hlt=>?_,hd,hd'⟩;obtain⟨x,e1,e2⟩:=hi' j hlt;exact⟨x,e1,aN e2 gr5 (fun g hg hk=>by have:=(K2 g hk).2;have:=t5 j x g e1 hg;omega)⟩
      refine⟨vs2,lo2,hi2,(l5.store3 (q:=O') (o:=2) (by omega) (Z a5 (p+1) c5)).base (by omega),oY (o:=2) own5 hnO (Z a5 (p+1) c5),by omega,by simp;omega,t4,t5,fun g hg=>⟨?_,hnO g hg⟩,.inl (by omega)⟩;rcases at5 g hg with h|h
      .have:=(K2 g h).2;exact .inl (by omega)
      .exact .inr (by omega)
    case measure=>simp[intOf]
theorem bU1{ty:TypeId}(ht:prog.underlying t=Y (.slice e))(htn:prog.underlying tn=Y (.slice e'))(hi:prog.info? e=Y i)(hz:i.zero=Y z)
  (hsize:i.size=size) (hby:i.bytes=bytes) (hzs:z.cells.size=size) (hsz:0<size) (hbb:bytes<=1024)
  {c:Nat} (hc:CellsAt w A (m*size) news) (hn:m<=4194304):
  ∃a' c' w',(Builtin.append_ #[t,tn] ty #[Z (Y ⟨g,0,O⟩) 0 0,Z A m c]).run prog w= .ok (Z a' m c') w'/\V' w w'/\((m=0/\a'=Y ⟨g,0,O⟩/\c'=0/\w'=w)\/w'.ownsRow w.heap.size e size (Z a' m c') m news):=by
 rw[aV7 ht htn hi];by_cases hm:m=0
 .subst hm;refine⟨Y ⟨g,0,O⟩,0,w,?_,Aa _ _,.inl ⟨rfl,rfl,rfl,rfl⟩⟩;cases A with
  |some ad=>simp[Builtin.append_,Fr ht,sizeOf,typeInfo,hi,Builtin.lenOf,Builtin.firstCells,storeCells,loadCells,loadCellsFrom]
  |none=>simp[Builtin.append_,Fr ht,sizeOf,typeInfo,hi,Builtin.lenOf,Builtin.firstCells,storeCells]
 .cases A with
  |none=>obtain⟨b,off,ha,_⟩:=hc.2 (Nat.mul_pos (by omega) hsz);simp at ha
  |some ad=>
   obtain⟨v',w',hr,h2,h3⟩:=run_append_arg_grows (P:=prog) w t ty e i z size bytes ht hi hz hsize hby hzs hsz ⟨g,0,O⟩ 0 0 [] (by simp) (fun j u hj=>by simp at hj) ad m c news hc.1 (fun j u hj=>by
    have hjl:j<news.length:=(Di.1 hj).1;have hl:=hc.1;obtain⟨b,off,ha,hcc⟩:=hc.2 (by omega);simp only[Af]at ha;subst ha;rw[aI3,hcc j (by omega),hj]) (by omega) (by unfold maxLen;omega) (by have:=Nat.mul_le_mul hn hbb;rw[Al];omega)
   rw[Al]at h2;obtain⟨a',c',rfl⟩:=dT h2;exact⟨a',c',w',hr,⟨h3.os,h3.tape,h3.output,h3.size,fun k hk=>h3.block k hk (by simp)⟩,.inr h2⟩
theorem cZ4{E:Prop}(ht:prog.underlying t=Y (.slice e))(htn:prog.underlying tn=Y (.slice e'))(hi:prog.info? e=Y i)(hz:i.zero=Y z)
  (hsize:i.size=size) (hby:i.bytes=bytes) (hzs:z.cells.size=size) (hsz:0<size) (hbb:bytes<=1024) (s x:Operand)
  (ho:o.op= .call {callee:=.builtin .append,args:=#[s,x],argTypes:=#[t,tn]}) (hgd:o.guard=O)
  (g:Nat) (A:Option Addr) (m c:Nat) (news:List Value) (hs:a.eval s=Z (Y ⟨g,0,O⟩) 0 0) (hx:a.eval x=Z A m c) (hc:CellsAt w A (m*size) news) (hn:m<=4194304)
  (hK:∀a' c' w',V' w w'->((m=0/\a'=Y ⟨g,0,O⟩/\c'=0/\w'=w)\/w'.ownsRow w.heap.size e size (Z a' m c') m news)->K (a.put o.dst (Z a' m c')) w'):
  if Region.wanted o (yielded ops a.tmps)=A' then Oper.wp prog o a w K Q else E:=by
 have hw:Region.wanted o (yielded ops a.tmps)=A':=by simp[Region.wanted,hgd]
 rw[if_pos hw];obtain⟨a',c',w',hr,h2,h3⟩:=bU1 (ty:=o.type) (c:=c) (g:=g) ht htn hi hz hsize hby hzs hsz hbb hc hn;exact Lib.wp_append_run w s x t tn ho _ _ hs hx _ _ hr (hK a' c' w' h2 h3)
theorem bI6(ht:prog.underlying t=Y (.slice e))(htn:prog.underlying tn=Y (.slice e'))(hi:prog.info? e=Y i)(hz:i.zero=Y z)
  (hsize:i.size=size) (hby:i.bytes=bytes) (hzs:z.cells.size=size) (hsz:0<size) (hbb:bytes<=1024) (s x:Operand)
  (ho:o.op= .call {callee:=.builtin .append,args:=#[s,x],argTypes:=#[t,tn]}) (hgd:o.guard=O)
  (g:Nat) (A:Option Addr) (m c:Nat) (news:List Value) (hs:a.eval s=Z (Y ⟨g,0,O⟩) 0 0) (hx:a.eval x=Z A m c) (hc:CellsAt w A (m*size) news) (hn:m<=4194304)
  (hK:∀a' c' w',V' w w'->((m=0/\a'=Y ⟨g,0,O⟩/\c'=0/\w'=w)\/w'.ownsRow w.heap.size e size (Z a' m c') m news)->wpList prog ops Q rest (a.put o.dst (Z a' m c')) w'):
  wpList prog ops Q (o::rest) a w:=by
 obtain⟨a',c',w',hr,h2,h3⟩:=bU1 (ty:=o.type) (c:=c) (g:=g) ht htn hi hz hsize hby hzs hsz hbb hc hn;exact Lib.wpList_append_run w hgd s x t tn ho _ _ hs hx _ _ hr (hK a' c' w' h2 h3)
def Empt(w:World)(T:Nat->Nat)(k:Nat)(t:TypeId)(v:Value):Prop:=∃g,v=Z (Y ⟨g,0,O⟩) 0 0/\w.heap[g]? =Y (M #[] t (0,0))/\T g=k
theorem Empt.new(w:World)(T:Nat->Nat)(k:Nat)(t:TypeId):Empt (w.alloc (M #[] t)) (mrk T w.heap.size k) k t (Z (Y ⟨w.heap.size,0,O⟩) 0 0):=
 ⟨_,rfl,aP rfl,by unfold mrk;rw[if_neg (by omega)]⟩
theorem Empt.kept{T':Nat->Nat}(h:Empt w T k t v)(hk:Kp k T T' w w'):Empt w' T' k t v:=by obtain⟨g,hv,hc,ht⟩:=h;obtain⟨h1,h2⟩:=hk g (Ab.1 hc).1 ht;exact⟨g,hv,h1.trans hc,h2⟩
theorem Empt.app{c:Nat}{sz:Nat}(hc:w.heap[g]? =Y (M #[] t (0,0)))(hT:T g=k)(hl:news.length=m*sz)(hb:V' w w')
  (h:(m=0/\A=Y ⟨g,0,O⟩/\c=0/\w'=w)\/w'.ownsRow w.heap.size t sz (Z A m c) m news):OwnT w' 0 (mrk T w.heap.size k) k t sz (Z A m c) m news:=by
 rcases h with⟨rfl,rfl,rfl,rfl⟩|h
 .refine⟨⟨by omega,.inr ⟨g,0,#[],rfl,Ad _,hc,by omega,by unfold maxLen;omega,by simp,?_⟩⟩,fun g' hg=>?_⟩
  .have:news=[]:=Dn (by omega);simp[this]
  .simp only[Value.ownBlock,Af]at hg;subst hg;unfold mrk;rw[if_pos (Ab.1 hc).1];exact hT
 .exact OwnT.new h (Ad _)
theorem tP(ts:List Tx)(t:Tx)(i:Nat):aS (ts++[t]) i=if i=ts.length then t else aS ts i:=by
 unfold aS;by_cases h:i=ts.length
 .subst h;simp[List.getD]
 .rw[if_neg h];by_cases h2:i<ts.length
  .simp[List.getD,Av h2]
  .simp[List.getD,Bk (show(ts++[t]).length<=i by simp;omega),Bk (show ts.length<=i by omega)]
theorem sY(ts:List Ac)(t:Ac)(i:Nat):aM (ts++[t]) i=if i=ts.length then t else aM ts i:=by
 unfold aM;by_cases h:i=ts.length
 .subst h;simp[List.getD]
 .rw[if_neg h];by_cases h2:i<ts.length
  .simp[List.getD,Av h2]
  .simp[List.getD,Bk (show(ts++[t]).length<=i by simp;omega),Bk (show ts.length<=i by omega)]
def txc(t:Tx)(x:Value):List Value:=[I J t.id,X t.sy,I J t.st,x,I J t.wk,I J t.wa,I J t.wb,I J t.wv]
theorem dP5(t:Tx)(x:Value)(j:Nat)(hj:j<8):(txc t x)[j]? =Y (tx8 t x j):=by
 match j,hj with
 |0,_=>rfl
 |1,_=>rfl
 |2,_=>rfl
 |3,_=>rfl
 |4,_=>rfl
 |5,_=>rfl
 |6,_=>rfl
 |7,_=>rfl
def acc6(t:Ac)(x:Value):List Value:=[I J t.tx,I J t.k,I J t.a,I J t.b,I J t.v,x]
theorem dJ4(t:Ac)(x:Value)(j:Nat)(hj:j<6):(acc6 t x)[j]? =Y (ac6 t x j):=by
 match j,hj with
 |0,_=>rfl
 |1,_=>rfl
 |2,_=>rfl
 |3,_=>rfl
 |4,_=>rfl
 |5,_=>rfl
theorem TxO.snoc{ts:List Tx}{t:Tx}(hl:ts.length=n)(hcl:cs.length=n*8)
  (hc:∀i j,i<n->j<8->cs[i*8+j]? =Y (tx8 (aS ts i) (us i) j)) (hr:OwnT w H T 2 155 8 v (n+1) (cs++txc t x))
  (hu:∀i,i<n->OwnT w H T (2*i+10) 263 3 (us i) (aS ts i).un.length (bfcells (aS ts i).un)) (hx:OwnT w H T (2*n+10) 263 3 x t.un.length (bfcells t.un))
  (hf:∀i,(aS ts i).un.length<=1048576) (hft:t.un.length<=1048576):TxO w H T v (n+1) (ts++[t]) (fun i=>if i=n then x else us i):=by
 refine⟨by simp[hl],⟨_,hr,fun i j hi hj=>?_⟩,fun i hi=>?_,fun i=>?_⟩
 .rw[tP,hl];by_cases h:i=n
  .subst h;rw[if_pos rfl,Ay (by omega)];simp only[Fl];rw[show i*8+j-cs.length=j by omega];exact dP5 t x j hj
  .rw[if_neg h,Av (by omega)];simp only[if_neg h];exact hc i j (by omega) hj
 .rw[tP,hl];by_cases h:i=n
  .subst h;simpa using hx
  .simp only[if_neg h];exact hu i (by omega)
 .rw[tP];split
  .exact hft
  .exact hf i
theorem AcO.snoc{t:Ac}(hl:ts.length=n)(hcl:cs.length=n*6)
  (hc:∀i j,i<n->j<6->cs[i*6+j]? =Y (ac6 (aM ts i) (us i) j)) (hr:OwnT w H T 7 56 6 v (n+1) (cs++acc6 t x))
  (hu:∀i,i<n->OwnT w H T (2*i+11) 2 1 (us i) (aM ts i).an.length (icells (aM ts i).an)) (hx:OwnT w H T (2*n+11) 2 1 x t.an.length (icells t.an))
  (hf:∀i,(aM ts i).an.length<=1048576) (hft:t.an.length<=1048576):AcO w H T v (n+1) (ts++[t]) (fun i=>if i=n then x else us i):=by
 refine⟨by simp[hl],⟨_,hr,fun i j hi hj=>?_⟩,fun i hi=>?_,fun i=>?_⟩
 .rw[sY,hl];by_cases h:i=n
  .subst h;rw[if_pos rfl,Ay (by omega)];simp only[Fl];rw[show i*6+j-cs.length=j by omega];exact dJ4 t x j hj
  .rw[if_neg h,Av (by omega)];simp only[if_neg h];exact hc i j (by omega) hj
 .rw[sY,hl];by_cases h:i=n
  .subst h;simpa using hx
  .simp only[if_neg h];exact hu i (by omega)
 .rw[sY];split
  .exact hft
  .exact hf i
theorem bI2(ts:List Tx)(k:Nat)(h:k<ts.length):ts.take (k+1)=ts.take k++[aS ts k]:=by rw[Du,Ao h];simp[aS,List.getD,h]
end Go.Proofs.YtpbbokalojdooaaGreat
