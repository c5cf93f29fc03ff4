import Derived.Test.YtpbbokalojdooaaGreatWao
namespace Go.Proofs.YtpbbokalojdooaaGreat
open Go.RowKit Ch Go.Proofs.Tryz
set_option linter.unusedSimpArgs false
set_option linter.unusedVariables false
set_option maxRecDepth 20000
set_option maxHeartbeats 8000000
open Value renaming int->I,slice->Z,bool->X,agg->U
open IntKind renaming i64->J
open Option renaming none->O,some->Y
open Obj renaming cells->M
open Ending renaming returned->R'
open Bool renaming true->A',false->F'
variable {K:Act->World->Prop} {ops:Array Oper} {Q:Exit->Act->World->Prop} {e q:Hold} {t v:Int} {es hs qs:List Hold} {ls:List Lock} {x:Lock} {w:World}
theorem aC(k a b v g1 g2 g3:Int)(ti:TypeId)(vi:Value)(okv nb:Bool)
  (ho:∀W,Calls prog 94 #[U #[I J k,I J a,I J b,I J v]] W fun e w'=>e=R' (.iface ti vi)/\V' W w')
  (hc:∀W,Calls prog 95 #[.iface ti vi] W fun e w'=>e=R' (.tuple #[U #[I J 0,I J g1,I J g2,I J g3],X okv])/\V' W w')
  (hn:okv=A'->∀W,(binOp .neq 54 (U #[I J k,I J a,I J b,I J v]) (U #[I J k,I J g1,I J g2,I J g3])).run prog W= .ok (X nb) W) (w:World):
  Calls prog 59 #[U #[I J k,I J a,I J b,I J v]] w fun e w'=>e=R' (I J (bif okv then(bif nb then 1 else 0)else 3))/\V' w w':=by
 go_enter func59,ntmps59
 go_wp2_with fail
 refine(ho _).mono ?_;rintro e w1⟨rfl,b1⟩;have b1':=((Aa _ w).alloc z' _).trans (b1.mono (by simp));obtain⟨cA,fA⟩:=dH b1;have x0:=cA w.heap.size 0 (by simp);have x1:=cA w.heap.size 1 (by simp);have x2:=cA w.heap.size 2 (by simp);have x3:=cA w.heap.size 3 (by simp);clear cA fA ho;simp[go_sem]at x0 x1 x2 x3;go_wp2_with fail
 refine(hc _).mono ?_;rintro e w2⟨rfl,b2⟩;have b2':=b1'.trans (b2.mono b1'.size);replace x0:=keep_cell b2 x0;replace x1:=keep_cell b2 x1;replace x2:=keep_cell b2 x2;replace x3:=keep_cell b2 x3;have hl:=aD x0;clear hc b1 b1' b2;cases okv
 .clear hn;go_wp2;go_ret;exact⟨rfl,by repeat(first|with_reducible exact b2'|with_reducible refine Dw ?_|with_reducible refine De ?_ b2'.size _|with_reducible refine Dj ?_ b2'.size _)⟩
 replace hn:=hn rfl;cases nb;all_goals
  go_wp2;go_ret;exact⟨rfl,by repeat(first|with_reducible exact b2'|with_reducible refine Dw ?_|with_reducible refine De ?_ b2'.size _|with_reducible refine Dj ?_ b2'.size _)⟩
theorem cB9(a b v:Int)(ha:inB a 0 99=F')(w:World):
  Calls prog 59 #[U #[I J 1,I J a,I J b,I J v]] w fun e w'=>e=R' (I J 3)/\V' w w':=by
 exact aC 1 a b v a 0 0 _ _ F' F' (fun W=>bF1 a b v W) (fun W=>by have h:=mZ a W;simp only[ha]at h;exact h) (fun h=>by cases h) w
theorem cC0(a b v:Int)(ha:inB a 0 99=A')(zb:(b !=0)=A')(w:World):
  Calls prog 59 #[U #[I J 1,I J a,I J b,I J v]] w fun e w'=>e=R' (I J 1)/\V' w w':=by
 exact aC 1 a b v a 0 0 _ _ A' A' (fun W=>bF1 a b v W) (fun W=>by have h:=mZ a W;simp only[ha]at h;exact h) (fun _ W=>by rw[gD];first|rfl|(congr 2;done)|(congr 2;simp_all)) w
theorem cC1(a v:Int)(ha:inB a 0 99=A')(zv:(v !=0)=A')(w:World):
  Calls prog 59 #[U #[I J 1,I J a,I J 0,I J v]] w fun e w'=>e=R' (I J 1)/\V' w w':=by
 exact aC 1 a 0 v a 0 0 _ _ A' A' (fun W=>bF1 a 0 v W) (fun W=>by have h:=mZ a W;simp only[ha]at h;exact h) (fun _ W=>by rw[gD];first|rfl|(congr 2;done)|(congr 2;simp_all)) w
theorem cC2(a:Int)(ha:inB a 0 99=A')(w:World):
  Calls prog 59 #[U #[I J 1,I J a,I J 0,I J 0]] w fun e w'=>e=R' (I J 0)/\V' w w':=by
 exact aC 1 a 0 0 a 0 0 _ _ A' F' (fun W=>bF1 a 0 0 W) (fun W=>by have h:=mZ a W;simp only[ha]at h;exact h) (fun _ W=>by rw[gD];first|rfl|(congr 2;done)|(congr 2;simp_all)) w
theorem cC3(a b v:Int)(ha:inB a 0 99=F')(w:World):
  Calls prog 59 #[U #[I J 2,I J a,I J b,I J v]] w fun e w'=>e=R' (I J 3)/\V' w w':=by
 exact aC 2 a b v a 0 v _ _ F' F' (fun W=>bF2 a b v W) (fun W=>aB3 a v ha W) (fun h=>by cases h) w
theorem cC4(a b v:Int)(ha:inB a 0 99=A')(hv:inB v 0 9999=F')(w:World):
  Calls prog 59 #[U #[I J 2,I J a,I J b,I J v]] w fun e w'=>e=R' (I J 3)/\V' w w':=by
 exact aC 2 a b v a 0 v _ _ F' F' (fun W=>bF2 a b v W) (fun W=>by have h:=rW a v ha W;simp only[hv]at h;exact h) (fun h=>by cases h) w
theorem cC5(a b v:Int)(ha:inB a 0 99=A')(hv:inB v 0 9999=A')(zb:(b !=0)=A')(w:World):
  Calls prog 59 #[U #[I J 2,I J a,I J b,I J v]] w fun e w'=>e=R' (I J 1)/\V' w w':=by
 exact aC 2 a b v a 0 v _ _ A' A' (fun W=>bF2 a b v W) (fun W=>by have h:=rW a v ha W;simp only[hv]at h;exact h) (fun _ W=>by rw[gD];first|rfl|(congr 2;done)|(congr 2;simp_all)) w
theorem cC6(a v:Int)(ha:inB a 0 99=A')(hv:inB v 0 9999=A')(w:World):
  Calls prog 59 #[U #[I J 2,I J a,I J 0,I J v]] w fun e w'=>e=R' (I J 0)/\V' w w':=by
 exact aC 2 a 0 v a 0 v _ _ A' F' (fun W=>bF2 a 0 v W) (fun W=>by have h:=rW a v ha W;simp only[hv]at h;exact h) (fun _ W=>by rw[gD];first|rfl|(congr 2;done)|(congr 2;simp_all)) w
theorem cC7(a b v:Int)(ha:inB a 0 99=F')(w:World):
  Calls prog 59 #[U #[I J 3,I J a,I J b,I J v]] w fun e w'=>e=R' (I J 3)/\V' w w':=by
 exact aC 3 a b v a 0 0 _ _ F' F' (fun W=>bF4 a b v W) (fun W=>by have h:=fO a W;simp only[ha]at h;exact h) (fun h=>by cases h) w
theorem cC8(a b v:Int)(ha:inB a 0 99=A')(zb:(b !=0)=A')(w:World):
  Calls prog 59 #[U #[I J 3,I J a,I J b,I J v]] w fun e w'=>e=R' (I J 1)/\V' w w':=by
 exact aC 3 a b v a 0 0 _ _ A' A' (fun W=>bF4 a b v W) (fun W=>by have h:=fO a W;simp only[ha]at h;exact h) (fun _ W=>by rw[gD];first|rfl|(congr 2;done)|(congr 2;simp_all)) w
theorem cC9(a v:Int)(ha:inB a 0 99=A')(zv:(v !=0)=A')(w:World):
  Calls prog 59 #[U #[I J 3,I J a,I J 0,I J v]] w fun e w'=>e=R' (I J 1)/\V' w w':=by
 exact aC 3 a 0 v a 0 0 _ _ A' A' (fun W=>bF4 a 0 v W) (fun W=>by have h:=fO a W;simp only[ha]at h;exact h) (fun _ W=>by rw[gD];first|rfl|(congr 2;done)|(congr 2;simp_all)) w
theorem cD0(a:Int)(ha:inB a 0 99=A')(w:World):
  Calls prog 59 #[U #[I J 3,I J a,I J 0,I J 0]] w fun e w'=>e=R' (I J 0)/\V' w w':=by
 exact aC 3 a 0 0 a 0 0 _ _ A' F' (fun W=>bF4 a 0 0 W) (fun W=>by have h:=fO a W;simp only[ha]at h;exact h) (fun _ W=>by rw[gD];first|rfl|(congr 2;done)|(congr 2;simp_all)) w
theorem cD1(a b v:Int)(ha:inB a 0 99=F')(w:World):
  Calls prog 59 #[U #[I J 4,I J a,I J b,I J v]] w fun e w'=>e=R' (I J 3)/\V' w w':=by
 exact aC 4 a b v a b 0 _ _ F' F' (fun W=>bF5 a b v W) (fun W=>wK a b ha W) (fun h=>by cases h) w
theorem cD2(a b v:Int)(ha:inB a 0 99=A')(hb:inB b 0 99=F')(w:World):
  Calls prog 59 #[U #[I J 4,I J a,I J b,I J v]] w fun e w'=>e=R' (I J 3)/\V' w w':=by
 exact aC 4 a b v a b 0 _ _ F' F' (fun W=>bF5 a b v W) (fun W=>by have h:=nV a b ha W;simp only[hb]at h;exact h) (fun h=>by cases h) w
theorem cD3(a b v:Int)(ha:inB a 0 99=A')(hb:inB b 0 99=A')(zv:(v !=0)=A')(w:World):
  Calls prog 59 #[U #[I J 4,I J a,I J b,I J v]] w fun e w'=>e=R' (I J 1)/\V' w w':=by
 exact aC 4 a b v a b 0 _ _ A' A' (fun W=>bF5 a b v W) (fun W=>by have h:=nV a b ha W;simp only[hb]at h;exact h) (fun _ W=>by rw[gD];first|rfl|(congr 2;done)|(congr 2;simp_all)) w
theorem cD4(a b:Int)(ha:inB a 0 99=A')(hb:inB b 0 99=A')(w:World):
  Calls prog 59 #[U #[I J 4,I J a,I J b,I J 0]] w fun e w'=>e=R' (I J 0)/\V' w w':=by
 exact aC 4 a b 0 a b 0 _ _ A' F' (fun W=>bF5 a b 0 W) (fun W=>by have h:=nV a b ha W;simp only[hb]at h;exact h) (fun _ W=>by rw[gD];first|rfl|(congr 2;done)|(congr 2;simp_all)) w
theorem cD5(a b v:Int)(hv:inB v 0 9999=F')(w:World):
  Calls prog 59 #[U #[I J 5,I J a,I J b,I J v]] w fun e w'=>e=R' (I J 3)/\V' w w':=by
 exact aC 5 a b v 0 0 v _ _ F' F' (fun W=>bF6 a b v W) (fun W=>by have h:=lA v W;simp only[hv]at h;exact h) (fun h=>by cases h) w
theorem cD6(a b v:Int)(hv:inB v 0 9999=A')(za:(a !=0)=A')(w:World):
  Calls prog 59 #[U #[I J 5,I J a,I J b,I J v]] w fun e w'=>e=R' (I J 1)/\V' w w':=by
 exact aC 5 a b v 0 0 v _ _ A' A' (fun W=>bF6 a b v W) (fun W=>by have h:=lA v W;simp only[hv]at h;exact h) (fun _ W=>by rw[gD];first|rfl|(congr 2;done)|(congr 2;simp_all)) w
theorem cD7(b v:Int)(hv:inB v 0 9999=A')(zb:(b !=0)=A')(w:World):
  Calls prog 59 #[U #[I J 5,I J 0,I J b,I J v]] w fun e w'=>e=R' (I J 1)/\V' w w':=by
 exact aC 5 0 b v 0 0 v _ _ A' A' (fun W=>bF6 0 b v W) (fun W=>by have h:=lA v W;simp only[hv]at h;exact h) (fun _ W=>by rw[gD];first|rfl|(congr 2;done)|(congr 2;simp_all)) w
theorem cD8(v:Int)(hv:inB v 0 9999=A')(w:World):
  Calls prog 59 #[U #[I J 5,I J 0,I J 0,I J v]] w fun e w'=>e=R' (I J 0)/\V' w w':=by
 exact aC 5 0 0 v 0 0 v _ _ A' F' (fun W=>bF6 0 0 v W) (fun W=>by have h:=lA v W;simp only[hv]at h;exact h) (fun _ W=>by rw[gD];first|rfl|(congr 2;done)|(congr 2;simp_all)) w
theorem cD9(a b v:Int)(za:(a !=0)=A')(w:World):
  Calls prog 59 #[U #[I J 6,I J a,I J b,I J v]] w fun e w'=>e=R' (I J 1)/\V' w w':=by
 exact aC 6 a b v 0 0 0 _ _ A' A' (fun W=>bF7 a b v W) (fun W=>gP W) (fun _ W=>by rw[gD];first|rfl|(congr 2;done)|(congr 2;simp_all)) w
theorem cE0(b v:Int)(zb:(b !=0)=A')(w:World):
  Calls prog 59 #[U #[I J 6,I J 0,I J b,I J v]] w fun e w'=>e=R' (I J 1)/\V' w w':=by
 exact aC 6 0 b v 0 0 0 _ _ A' A' (fun W=>bF7 0 b v W) (fun W=>gP W) (fun _ W=>by rw[gD];first|rfl|(congr 2;done)|(congr 2;simp_all)) w
theorem cE1(v:Int)(zv:(v !=0)=A')(w:World):
  Calls prog 59 #[U #[I J 6,I J 0,I J 0,I J v]] w fun e w'=>e=R' (I J 1)/\V' w w':=by
 exact aC 6 0 0 v 0 0 0 _ _ A' A' (fun W=>bF7 0 0 v W) (fun W=>gP W) (fun _ W=>by rw[gD];first|rfl|(congr 2;done)|(congr 2;simp_all)) w
theorem cE2(w:World):
  Calls prog 59 #[U #[I J 6,I J 0,I J 0,I J 0]] w fun e w'=>e=R' (I J 0)/\V' w w':=by
 exact aC 6 0 0 0 0 0 0 _ _ A' F' (fun W=>bF7 0 0 0 W) (fun W=>gP W) (fun _ W=>by rw[gD];first|rfl|(congr 2;done)|(congr 2;simp_all)) w
theorem cE3(a b v:Int)(za:(a !=0)=A')(w:World):
  Calls prog 59 #[U #[I J 7,I J a,I J b,I J v]] w fun e w'=>e=R' (I J 1)/\V' w w':=by
 exact aC 7 a b v 0 0 0 _ _ A' A' (fun W=>bF8 a b v W) (fun W=>gP W) (fun _ W=>by rw[gD];first|rfl|(congr 2;done)|(congr 2;simp_all)) w
theorem cE4(b v:Int)(zb:(b !=0)=A')(w:World):
  Calls prog 59 #[U #[I J 7,I J 0,I J b,I J v]] w fun e w'=>e=R' (I J 1)/\V' w w':=by
 exact aC 7 0 b v 0 0 0 _ _ A' A' (fun W=>bF8 0 b v W) (fun W=>gP W) (fun _ W=>by rw[gD];first|rfl|(congr 2;done)|(congr 2;simp_all)) w
theorem cE5(v:Int)(zv:(v !=0)=A')(w:World):
  Calls prog 59 #[U #[I J 7,I J 0,I J 0,I J v]] w fun e w'=>e=R' (I J 1)/\V' w w':=by
 exact aC 7 0 0 v 0 0 0 _ _ A' A' (fun W=>bF8 0 0 v W) (fun W=>gP W) (fun _ W=>by rw[gD];first|rfl|(congr 2;done)|(congr 2;simp_all)) w
theorem cE6(w:World):
  Calls prog 59 #[U #[I J 7,I J 0,I J 0,I J 0]] w fun e w'=>e=R' (I J 0)/\V' w w':=by
 exact aC 7 0 0 0 0 0 0 _ _ A' F' (fun W=>bF8 0 0 0 W) (fun W=>gP W) (fun _ W=>by rw[gD];first|rfl|(congr 2;done)|(congr 2;simp_all)) w
theorem cE7(a b v:Int)(ha:inB a 0 99=F')(w:World):
  Calls prog 59 #[U #[I J 8,I J a,I J b,I J v]] w fun e w'=>e=R' (I J 3)/\V' w w':=by
 exact aC 8 a b v a 0 0 _ _ F' F' (fun W=>bF9 a b v W) (fun W=>by have h:=fO a W;simp only[ha]at h;exact h) (fun h=>by cases h) w
theorem cE8(a b v:Int)(ha:inB a 0 99=A')(zb:(b !=0)=A')(w:World):
  Calls prog 59 #[U #[I J 8,I J a,I J b,I J v]] w fun e w'=>e=R' (I J 1)/\V' w w':=by
 exact aC 8 a b v a 0 0 _ _ A' A' (fun W=>bF9 a b v W) (fun W=>by have h:=fO a W;simp only[ha]at h;exact h) (fun _ W=>by rw[gD];first|rfl|(congr 2;done)|(congr 2;simp_all)) w
theorem cE9(a v:Int)(ha:inB a 0 99=A')(zv:(v !=0)=A')(w:World):
  Calls prog 59 #[U #[I J 8,I J a,I J 0,I J v]] w fun e w'=>e=R' (I J 1)/\V' w w':=by
 exact aC 8 a 0 v a 0 0 _ _ A' A' (fun W=>bF9 a 0 v W) (fun W=>by have h:=fO a W;simp only[ha]at h;exact h) (fun _ W=>by rw[gD];first|rfl|(congr 2;done)|(congr 2;simp_all)) w
theorem cF0(a:Int)(ha:inB a 0 99=A')(w:World):
  Calls prog 59 #[U #[I J 8,I J a,I J 0,I J 0]] w fun e w'=>e=R' (I J 0)/\V' w w':=by
 exact aC 8 a 0 0 a 0 0 _ _ A' F' (fun W=>bF9 a 0 0 W) (fun W=>by have h:=fO a W;simp only[ha]at h;exact h) (fun _ W=>by rw[gD];first|rfl|(congr 2;done)|(congr 2;simp_all)) w
theorem cF1(a b v:Int)(za:(a !=0)=A')(w:World):
  Calls prog 59 #[U #[I J 9,I J a,I J b,I J v]] w fun e w'=>e=R' (I J 1)/\V' w w':=by
 exact aC 9 a b v 0 0 0 _ _ A' A' (fun W=>bG0 a b v W) (fun W=>mD W) (fun _ W=>by rw[gD];first|rfl|(congr 2;done)|(congr 2;simp_all)) w
theorem cF2(b v:Int)(zb:(b !=0)=A')(w:World):
  Calls prog 59 #[U #[I J 9,I J 0,I J b,I J v]] w fun e w'=>e=R' (I J 1)/\V' w w':=by
 exact aC 9 0 b v 0 0 0 _ _ A' A' (fun W=>bG0 0 b v W) (fun W=>mD W) (fun _ W=>by rw[gD];first|rfl|(congr 2;done)|(congr 2;simp_all)) w
theorem cF3(v:Int)(zv:(v !=0)=A')(w:World):
  Calls prog 59 #[U #[I J 9,I J 0,I J 0,I J v]] w fun e w'=>e=R' (I J 1)/\V' w w':=by
 exact aC 9 0 0 v 0 0 0 _ _ A' A' (fun W=>bG0 0 0 v W) (fun W=>mD W) (fun _ W=>by rw[gD];first|rfl|(congr 2;done)|(congr 2;simp_all)) w
theorem cF4(w:World):
  Calls prog 59 #[U #[I J 9,I J 0,I J 0,I J 0]] w fun e w'=>e=R' (I J 0)/\V' w w':=by
 exact aC 9 0 0 0 0 0 0 _ _ A' F' (fun W=>bG0 0 0 0 W) (fun W=>mD W) (fun _ W=>by rw[gD];first|rfl|(congr 2;done)|(congr 2;simp_all)) w
theorem bO0(a b v:Int)(za:(a !=0)=A')(w:World):
  Calls prog 59 #[U #[I J 10,I J a,I J b,I J v]] w fun e w'=>e=R' (I J 1)/\V' w w':=by
 exact aC 10 a b v 0 0 0 _ _ A' A' (fun W=>aH8 a b v W) (fun W=>mY W) (fun _ W=>by rw[gD];first|rfl|(congr 2;done)|(congr 2;simp_all)) w
theorem bO1(b v:Int)(zb:(b !=0)=A')(w:World):
  Calls prog 59 #[U #[I J 10,I J 0,I J b,I J v]] w fun e w'=>e=R' (I J 1)/\V' w w':=by
 exact aC 10 0 b v 0 0 0 _ _ A' A' (fun W=>aH8 0 b v W) (fun W=>mY W) (fun _ W=>by rw[gD];first|rfl|(congr 2;done)|(congr 2;simp_all)) w
theorem bO2(v:Int)(zv:(v !=0)=A')(w:World):
  Calls prog 59 #[U #[I J 10,I J 0,I J 0,I J v]] w fun e w'=>e=R' (I J 1)/\V' w w':=by
 exact aC 10 0 0 v 0 0 0 _ _ A' A' (fun W=>aH8 0 0 v W) (fun W=>mY W) (fun _ W=>by rw[gD];first|rfl|(congr 2;done)|(congr 2;simp_all)) w
theorem bO3(w:World):
  Calls prog 59 #[U #[I J 10,I J 0,I J 0,I J 0]] w fun e w'=>e=R' (I J 0)/\V' w w':=by
 exact aC 10 0 0 0 0 0 0 _ _ A' F' (fun W=>aH8 0 0 0 W) (fun W=>mY W) (fun _ W=>by rw[gD];first|rfl|(congr 2;done)|(congr 2;simp_all)) w
theorem dD8(a b v:Int)(w:World):
  Calls prog 59 #[U #[I J 1,I J a,I J b,I J v]] w fun e w'=>e=R' (I J (aF 1 a b v))/\V' w w':=by
 have ku:∀c:Int,aF 1 a b v=c->(Calls prog 59 #[U #[I J 1,I J a,I J b,I J v]] w fun e w'=>e=R' (I J c)/\V' w w')->(Calls prog 59 #[U #[I J 1,I J a,I J b,I J v]] w fun e w'=>e=R' (I J (aF 1 a b v))/\V' w w'):=fun c hc h=>by rw[hc];exact h
 cases ha:inB a 0 99
 .exact ku 3 (by simp[aF, *]) (cB9 a b v ha w)
 by_cases qb:b=0;rotate_left
 .have zb:(b !=0)=A':=by simpa using qb
  exact ku 1 (by simp[aF, *]) (cC0 a b v ha zb w)
 subst qb;by_cases qv:v=0;rotate_left
 .have zv:(v !=0)=A':=by simpa using qv
  exact ku 1 (by simp[aF, *]) (cC1 a v ha zv w)
 subst qv;exact ku 0 (by simp[aF, *]) (cC2 a ha w)
theorem dD9(a b v:Int)(w:World):
  Calls prog 59 #[U #[I J 2,I J a,I J b,I J v]] w fun e w'=>e=R' (I J (aF 2 a b v))/\V' w w':=by
 have ku:∀c:Int,aF 2 a b v=c->(Calls prog 59 #[U #[I J 2,I J a,I J b,I J v]] w fun e w'=>e=R' (I J c)/\V' w w')->(Calls prog 59 #[U #[I J 2,I J a,I J b,I J v]] w fun e w'=>e=R' (I J (aF 2 a b v))/\V' w w'):=fun c hc h=>by rw[hc];exact h
 cases ha:inB a 0 99
 .exact ku 3 (by simp[aF, *]) (cC3 a b v ha w)
 cases hv:inB v 0 9999
 .exact ku 3 (by simp[aF, *]) (cC4 a b v ha hv w)
 by_cases qb:b=0;rotate_left
 .have zb:(b !=0)=A':=by simpa using qb
  exact ku 1 (by simp[aF, *]) (cC5 a b v ha hv zb w)
 subst qb;exact ku 0 (by simp[aF, *]) (cC6 a v ha hv w)
theorem dE0(a b v:Int)(w:World):
  Calls prog 59 #[U #[I J 3,I J a,I J b,I J v]] w fun e w'=>e=R' (I J (aF 3 a b v))/\V' w w':=by
 have ku:∀c:Int,aF 3 a b v=c->(Calls prog 59 #[U #[I J 3,I J a,I J b,I J v]] w fun e w'=>e=R' (I J c)/\V' w w')->(Calls prog 59 #[U #[I J 3,I J a,I J b,I J v]] w fun e w'=>e=R' (I J (aF 3 a b v))/\V' w w'):=fun c hc h=>by rw[hc];exact h
 cases ha:inB a 0 99
 .exact ku 3 (by simp[aF, *]) (cC7 a b v ha w)
 by_cases qb:b=0;rotate_left
 .have zb:(b !=0)=A':=by simpa using qb
  exact ku 1 (by simp[aF, *]) (cC8 a b v ha zb w)
 subst qb;by_cases qv:v=0;rotate_left
 .have zv:(v !=0)=A':=by simpa using qv
  exact ku 1 (by simp[aF, *]) (cC9 a v ha zv w)
 subst qv;exact ku 0 (by simp[aF, *]) (cD0 a ha w)
theorem dE1(a b v:Int)(w:World):
  Calls prog 59 #[U #[I J 4,I J a,I J b,I J v]] w fun e w'=>e=R' (I J (aF 4 a b v))/\V' w w':=by
 have ku:∀c:Int,aF 4 a b v=c->(Calls prog 59 #[U #[I J 4,I J a,I J b,I J v]] w fun e w'=>e=R' (I J c)/\V' w w')->(Calls prog 59 #[U #[I J 4,I J a,I J b,I J v]] w fun e w'=>e=R' (I J (aF 4 a b v))/\V' w w'):=fun c hc h=>by rw[hc];exact h
 cases ha:inB a 0 99
 .exact ku 3 (by simp[aF, *]) (cD1 a b v ha w)
 cases hb:inB b 0 99
 .exact ku 3 (by simp[aF, *]) (cD2 a b v ha hb w)
 by_cases qv:v=0;rotate_left
 .have zv:(v !=0)=A':=by simpa using qv
  exact ku 1 (by simp[aF, *]) (cD3 a b v ha hb zv w)
 subst qv;exact ku 0 (by simp[aF, *]) (cD4 a b ha hb w)
theorem dE2(a b v:Int)(w:World):
  Calls prog 59 #[U #[I J 5,I J a,I J b,I J v]] w fun e w'=>e=R' (I J (aF 5 a b v))/\V' w w':=by
 have ku:∀c:Int,aF 5 a b v=c->(Calls prog 59 #[U #[I J 5,I J a,I J b,I J v]] w fun e w'=>e=R' (I J c)/\V' w w')->(Calls prog 59 #[U #[I J 5,I J a,I J b,I J v]] w fun e w'=>e=R' (I J (aF 5 a b v))/\V' w w'):=fun c hc h=>by rw[hc];exact h
 cases hv:inB v 0 9999
 .exact ku 3 (by simp[aF, *]) (cD5 a b v hv w)
 by_cases qa:a=0;rotate_left
 .have za:(a !=0)=A':=by simpa using qa
  exact ku 1 (by simp[aF, *]) (cD6 a b v hv za w)
 subst qa;by_cases qb:b=0;rotate_left
 .have zb:(b !=0)=A':=by simpa using qb
  exact ku 1 (by simp[aF, *]) (cD7 b v hv zb w)
 subst qb;exact ku 0 (by simp[aF, *]) (cD8 v hv w)
theorem dE3(a b v:Int)(w:World):
  Calls prog 59 #[U #[I J 6,I J a,I J b,I J v]] w fun e w'=>e=R' (I J (aF 6 a b v))/\V' w w':=by
 have ku:∀c:Int,aF 6 a b v=c->(Calls prog 59 #[U #[I J 6,I J a,I J b,I J v]] w fun e w'=>e=R' (I J c)/\V' w w')->(Calls prog 59 #[U #[I J 6,I J a,I J b,I J v]] w fun e w'=>e=R' (I J (aF 6 a b v))/\V' w w'):=fun c hc h=>by rw[hc];exact h
 by_cases qa:a=0;rotate_left
 .have za:(a !=0)=A':=by simpa using qa
  exact ku 1 (by simp[aF, *]) (cD9 a b v za w)
 subst qa;by_cases qb:b=0;rotate_left
 .have zb:(b !=0)=A':=by simpa using qb
  exact ku 1 (by simp[aF, *]) (cE0 b v zb w)
 subst qb;by_cases qv:v=0;rotate_left
 .have zv:(v !=0)=A':=by simpa using qv
  exact ku 1 (by simp[aF, *]) (cE1 v zv w)
 subst qv;exact ku 0 (by simp[aF, *]) (cE2  w)
theorem dE4(a b v:Int)(w:World):
  Calls prog 59 #[U #[I J 7,I J a,I J b,I J v]] w fun e w'=>e=R' (I J (aF 7 a b v))/\V' w w':=by
 have ku:∀c:Int,aF 7 a b v=c->(Calls prog 59 #[U #[I J 7,I J a,I J b,I J v]] w fun e w'=>e=R' (I J c)/\V' w w')->(Calls prog 59 #[U #[I J 7,I J a,I J b,I J v]] w fun e w'=>e=R' (I J (aF 7 a b v))/\V' w w'):=fun c hc h=>by rw[hc];exact h
 by_cases qa:a=0;rotate_left
 .have za:(a !=0)=A':=by simpa using qa
  exact ku 1 (by simp[aF, *]) (cE3 a b v za w)
 subst qa;by_cases qb:b=0;rotate_left
 .have zb:(b !=0)=A':=by simpa using qb
  exact ku 1 (by simp[aF, *]) (cE4 b v zb w)
 subst qb;by_cases qv:v=0;rotate_left
 .have zv:(v !=0)=A':=by simpa using qv
  exact ku 1 (by simp[aF, *]) (cE5 v zv w)
 subst qv;exact ku 0 (by simp[aF, *]) (cE6  w)
theorem dE5(a b v:Int)(w:World):
  Calls prog 59 #[U #[I J 8,I J a,I J b,I J v]] w fun e w'=>e=R' (I J (aF 8 a b v))/\V' w w':=by
 have ku:∀c:Int,aF 8 a b v=c->(Calls prog 59 #[U #[I J 8,I J a,I J b,I J v]] w fun e w'=>e=R' (I J c)/\V' w w')->(Calls prog 59 #[U #[I J 8,I J a,I J b,I J v]] w fun e w'=>e=R' (I J (aF 8 a b v))/\V' w w'):=fun c hc h=>by rw[hc];exact h
 cases ha:inB a 0 99
 .exact ku 3 (by simp[aF, *]) (cE7 a b v ha w)
 by_cases qb:b=0;rotate_left
 .have zb:(b !=0)=A':=by simpa using qb
  exact ku 1 (by simp[aF, *]) (cE8 a b v ha zb w)
 subst qb;by_cases qv:v=0;rotate_left
 .have zv:(v !=0)=A':=by simpa using qv
  exact ku 1 (by simp[aF, *]) (cE9 a v ha zv w)
 subst qv;exact ku 0 (by simp[aF, *]) (cF0 a ha w)
theorem dE6(a b v:Int)(w:World):
  Calls prog 59 #[U #[I J 9,I J a,I J b,I J v]] w fun e w'=>e=R' (I J (aF 9 a b v))/\V' w w':=by
 have ku:∀c:Int,aF 9 a b v=c->(Calls prog 59 #[U #[I J 9,I J a,I J b,I J v]] w fun e w'=>e=R' (I J c)/\V' w w')->(Calls prog 59 #[U #[I J 9,I J a,I J b,I J v]] w fun e w'=>e=R' (I J (aF 9 a b v))/\V' w w'):=fun c hc h=>by rw[hc];exact h
 by_cases qa:a=0;rotate_left
 .have za:(a !=0)=A':=by simpa using qa
  exact ku 1 (by simp[aF, *]) (cF1 a b v za w)
 subst qa;by_cases qb:b=0;rotate_left
 .have zb:(b !=0)=A':=by simpa using qb
  exact ku 1 (by simp[aF, *]) (cF2 b v zb w)
 subst qb;by_cases qv:v=0;rotate_left
 .have zv:(v !=0)=A':=by simpa using qv
  exact ku 1 (by simp[aF, *]) (cF3 v zv w)
 subst qv;exact ku 0 (by simp[aF, *]) (cF4  w)
theorem cV7(a b v:Int)(w:World):
  Calls prog 59 #[U #[I J 10,I J a,I J b,I J v]] w fun e w'=>e=R' (I J (aF 10 a b v))/\V' w w':=by
 have ku:∀c:Int,aF 10 a b v=c->(Calls prog 59 #[U #[I J 10,I J a,I J b,I J v]] w fun e w'=>e=R' (I J c)/\V' w w')->(Calls prog 59 #[U #[I J 10,I J a,I J b,I J v]] w fun e w'=>e=R' (I J (aF 10 a b v))/\V' w w'):=fun c hc h=>by rw[hc];exact h
 by_cases qa:a=0;rotate_left
 .have za:(a !=0)=A':=by simpa using qa
  exact ku 1 (by simp[aF, *]) (bO0 a b v za w)
 subst qa;by_cases qb:b=0;rotate_left
 .have zb:(b !=0)=A':=by simpa using qb
  exact ku 1 (by simp[aF, *]) (bO1 b v zb w)
 subst qb;by_cases qv:v=0;rotate_left
 .have zv:(v !=0)=A':=by simpa using qv
  exact ku 1 (by simp[aF, *]) (bO2 v zv w)
 subst qv;exact ku 0 (by simp[aF, *]) (bO3  w)
theorem cV8(k a b v:Int)(hk:inB k 1 10=F')(w:World):
  Calls prog 59 #[U #[I J k,I J a,I J b,I J v]] w fun e w'=>e=R' (I J 1)/\V' w w':=by
 have ho:=fun W=>dL7 k a b v hk W;clear hk;go_enter func59,ntmps59
 go_wp2_with fail
 refine(ho _).mono ?_;rintro e w1⟨rfl,b1⟩;have b1':=((Aa _ w).alloc z' _).trans (b1.mono (by simp));go_wp2;go_ret;exact⟨rfl,b1'⟩
theorem aM5(k a b v:Int)(w:World):
  Calls prog 59 #[U #[I J k,I J a,I J b,I J v]] w fun e w'=>e=R' (I J (aF k a b v))/\V' w w':=by
 rcases rI k with rfl|rfl|rfl|rfl|rfl|rfl|rfl|rfl|rfl|rfl|hk
 .exact dD8 a b v w
 .exact dD9 a b v w
 .exact dE0 a b v w
 .exact dE1 a b v w
 .exact dE2 a b v w
 .exact dE3 a b v w
 .exact dE4 a b v w
 .exact dE5 a b v w
 .exact dE6 a b v w
 .exact cV7 a b v w
 .rw[aO1 hk];exact cV8 k a b v hk w
namespace Ch
theorem bV4(h2:cS (cI ls)=F'){i j:Nat}(hi:i<ls.length)(hj:j<ls.length)(ai:aV (aI ls i).qs v=A')(aj:aV (aI ls j).qs v=A'):i=j:=by
 rw[gH]at h2;unfold cI at h2;rw[List.pairwise_flatMap]at h2;have hp:=Cl.1 h2.2;have e:∀n,(hn:n<ls.length)->aI ls n=ls[n]:=fun n hn=>by simp[aI,List.getD,hn]
 rw[e i hi]at ai;rw[e j hj]at aj;obtain⟨x,hx,ex⟩:=dO.1 ai;obtain⟨y,hy,ey⟩:=dO.1 aj;rcases En i j with h|h|h
 .exact absurd (ex.trans ey.symm) (hp i j hi hj h x hx y hy)
 .exact h
 .exact absurd (ey.trans ex.symm) (hp j i hj hi h y hy x hx)
theorem bA1(h2:cS (cI ls)=F')(hx:x∈ls)(h:aV x.qs v=A'):iB ls v=A'/\eH ls v=x.r:=by
 obtain⟨i,hi,rfl⟩:=uF hx;have:=aF8 (t:=v) hi (fun j hj=>by
  cases hh:aV (aI ls j).qs v
  .rfl
  .have:=bV4 h2 (by omega) hi hh h;omega) h
 exact⟨this.2.1,this.1⟩
theorem sX(h:∀x∈ls,aV x.qs v=F'):iB ls v=F'/\eH ls v= -1:=by have:=aF9 (ls:=ls) (t:=v) fun j hj=>h _ (qV hj);exact⟨this.2.1,this.1⟩
theorem sW(ls:List Lock)(v:Int):(∀x∈ls,aV x.qs v=F')\/∃x∈ls,aV x.qs v=A':=by
 by_cases h:∃x∈ls,aV x.qs v=A'
 .exact .inr h
 .left;intro x hx;cases hh:aV x.qs v
  .rfl
  .exact absurd ⟨x,hx,hh⟩ h
def jQ(ls:List Lock)(t:Int):List Lock:=(dN ls t).filter fun l=>!(l.hs.length+l.qs.length==0)
theorem wL:x∈jQ ls t↔(∃l∈ls,fX l t=x)/\0<x.hs.length+x.qs.length:=by unfold jQ dN;simp only[By,Db,Ec,Cq];exact and_congr_right fun _=>Nat.pos_iff_ne_zero.symm
theorem cV5(h:aT ls=0):ls.Pairwise fun a b=>a.r<b.r:=by rw[Cl];intro i j hi hj hij;have:=bT5 h hij hj;simpa[aI,List.getD,hi,hj]using this
theorem cH7(h1:∀l∈ls,0<=l.r/\l.r<=100/\dL l=0)(h2:ls.Pairwise fun a b=>a.r<b.r)(h3:cS (cI ls)=F'):aT ls=0:=by refine bQ3 (fun i hi=>?_) h3;obtain⟨a,b,c⟩:=h1 _ (qV hi);refine⟨a,b,fun h0=>?_,c⟩;have:=Cl.1 h2 (i-1) i (by omega) hi (by omega);simpa[aI,List.getD,hi,show i-1<ls.length by omega]using this
theorem dD4(h:aT ls=0)(hx:x∈ls):0<=x.r/\x.r<=100:=by obtain⟨i,hi,rfl⟩:=uF hx;have:=iM ((eT h).1 i hi);exact⟨this.1,this.2.1⟩
theorem vU(ls:List Lock)(t:Int):(cI (jQ ls t)).Sublist (cI ls):=by
 unfold cI jQ dN;induction ls with
 |nil=>exact List.Sublist.refl _
 |cons l ls ih=>
  simp only[Ef,Cc];by_cases hu:(!((fX l t).hs.length+(fX l t).qs.length==0))=A'
  .rw[List.filter_cons_of_pos (p:=fun l:Lock=>!(l.hs.length+l.qs.length==0)) hu,Cc];exact(dD3 l t).append ih
  .rw[Fh (p:=fun l:Lock=>!(l.hs.length+l.qs.length==0)) hu];exact ih.trans (List.sublist_append_right _ _)
theorem aD5(hg:aT ls=0)(t:Int):aT (jQ ls t)=0:=by
 refine cH7 (fun l hl=>?_) ?_ ?_
 .obtain⟨⟨x,hx,rfl⟩,hu⟩:=wL.1 hl;obtain⟨a,b⟩:=dD4 hg hx;exact⟨a,b,(dK4 (Gd.of (rA hg hx)) t).good hu⟩
 .unfold jQ dN;refine List.Pairwise.filter _ ?_;rw[Gc];exact cV5 hg
 .have h2:=(eT hg).2;rw[gH]at h2⊢;exact h2.sublist (vU ls t)
end Ch
theorem cN9{o:Oper}{a:Act}{E:Prop}(s x:Operand)
  (B:Nat) (v:Value) (n:Nat) (xs:List Value) (m:Nat) (ys:List Value) (hm:n+m<=2097152) (h1:∀u∈ys,u.oneCell'=A')
  (ho:o.op= .call {callee:=.builtin .append,args:=#[s,x],argTypes:=#[61,61]}) (hgd:o.guard=O)
  (hs:a.eval s=v) (hx:∃ad c,a.eval x=Z (Y ad) m c/\CellsAt w (Y ad) m ys)
  (hown:w.ownsRow B 200 1 v n xs) (hbase:B<=w.heap.size)
  (hK:∀a' c' w',w'.ownsRow B 200 1 (Z a' (n+m) c') (n+m) (xs++ys)->w.grownBy w' v.ownBlock->(∀g,(Z a' (n+m) c').ownBlock=Y g->v.ownBlock=Y g\/w.heap.size<=g)->K (a.put o.dst (Z a' (n+m) c')) w') (hm0:0<m):
  if Region.wanted o (yielded ops a.tmps)=A' then Oper.wp prog o a w K Q else E:=by
 obtain⟨ad,c,hx,hc⟩:=hx;obtain⟨i0,hi,hz0,hz1,hz2⟩:=Bz Tryz.info200;refine step_append_lies w hgd s x 61 ho B 200 i0 _ 1 24 underlying61 hi hz0 hz1 hz2 rfl (by omega) v n xs hs hown ad m c ys hx (by rw[Fb];exact hc.1) ?_ h1 hm0 (by unfold maxLen;omega) (by omega) hbase _ rfl ?_
 .intro j u hj;have hjl:j<ys.length:=(Di.1 hj).1;have hl:=hc.1;obtain⟨b,off,ha,hcc⟩:=hc.2 (by omega);simp only[Af]at ha;subst ha;have e:(⟨b,off,O⟩:Addr).add j=⟨b,off+j,O⟩:=by
   unfold Addr.add;split
   .next h0=>subst h0;rfl
   .rfl
  rw[e,hcc j (by omega),hj]
 .intro g cp' w' hown' hgrow hat hlt;refine hK _ _ w' hown' hgrow fun g' hg'=>?_;simp[Value.ownBlock]at hg';subst hg';rcases hat with hat|hat
  .exact .inl hat
  .exact .inr (by omega)
theorem vN(a:Option Addr)(n cap:Nat)(ls:List (List Row))(rk rv:Int)(rg:Bool)(w:World)(h:LvAt w a n ls)(hs:aW ls<=1048576)(hf:aL ls=0):
  Calls prog 103 #[Z a n cap,U #[I J rk,I J rv,X rg]] w fun e w'=>∃a' m c',e=R' (Z a' m c')/\OwnLv w' w.heap.size (Z a' m c') m (Ch.put ls ⟨rk,rv,rg⟩)/\V' w w':=by
 have HL:=h.len;have HF:=hid hf;have hn:n<=60:=by have:=aX4 hf;have:=HL.out;omega
 have hg:=cB1 HL hf;have bA:∀(W:World) o,V' W (W.alloc o):=fun W o=>(Aa _ _).alloc z' _;clear hf;by_cases hn0:n=0
 .subst hn0;have HP:Hid (Ch.put ls ⟨rk,rv,rg⟩=[[⟨rk,rv,rg⟩]]):=dA8 HL.out.symm;go_enter func103,ntmps103
  go_wp2;go_ret;refine⟨_,1,_,rfl,?_,?_⟩
  .rw[HP.out];have:=dL6 (w.alloc (M #[I J rk,I J rv,X rg] 86)) w.heap.size rk rv rg (by simp);simpa using this
  .exact De (De (De (Aa _ _) z' _) (by simp) _) (by simp;omega) _
 .obtain⟨p,hp⟩:∃p,p=fW ls rk n:=⟨_,rfl⟩
  have hpn:p<n:=by rw[hp];exact oQ (by omega)
  have HP:Hid (gT ls ⟨rk,rv,rg⟩ p n=Ch.put ls ⟨rk,rv,rg⟩):=by show _=_;have e:=HL.out;subst e;exact bJ9 (by omega) hp.symm
  have hw0:V' w (w.alloc (M #[I J rk,I J rv,X rg] 86)):=bA _ _;go_enter func103,ntmps103
  go_wp2_with fail
  refine E' (bU6 a n cap rk ls _ (h.below hw0) hs hg) ?_;rw[<-hp];clear hp;go_wp2;obtain⟨B,HBe⟩:∃B,Hid (B=w.heap.size+1):=⟨_,rfl⟩
  go_loopw [6,7] (fun q i wr=>∃(k m:Nat) (a':Option Addr) (c':Nat) (vs:List Value),k<=n/\m<=2*k/\i=I J k/\q=Z a' m c'/\RefLv wr B (Z a' m c') m vs (gT ls ⟨rk,rv,rg⟩ p k)/\Below B (w.alloc (M #[I J rk,I J rv,X rg] 86)) wr) (fun _ i _=>n-(intOf i).toNat)
  case atStart=>
   have e:=HBe.out;subst e;refine⟨0,0,_,_,[],Ad _,by omega,rfl,rfl,⟨rfl,?_,fun i hi=>absurd hi (by omega)⟩,?_⟩
   .have:=pI (w.alloc (M #[I J rk,I J rv,X rg] 86)) (w.heap.size+1) (by simp);simpa using this
   .exact(Aa _ _).alloc (by simp) _
  case round=>
   obtain⟨k,m,a',c',vs,hk,hmk,rfl,rfl,own,hB⟩:=hrel;have hBs:B<=wr.heap.size:=by have:=hB.size;have:=HBe.out;simp at*;omega
   have hBo:Below (w.alloc (M #[I J rk,I J rv,X rg] 86)).heap.size (w.alloc (M #[I J rk,I J rv,X rg] 86)) wr:=by have:=HBe.out;subst this;simpa using hB
   have r0:=aU hBo 0;have r1:=aU hBo 1;have r2:=aU hBo 2;simp at r0 r1 r2;have hbw:=aZ hBo;clear hBo;have hoV:=own.2.1;have hsum1:m+1<=2097152:=by omega
   have hsum2:m+2<=2097152:=by omega
   have hqb:∀g,(Z a' m c').ownBlock=Y g->B<=g:=fun g hg'=>(aH hoV g hg').1;by_cases hlt:k<n
   .have hkl:k<ls.length:=by have:=HL.out;omega
    have HS:=hid (fI hs k);obtain⟨b,off,ai,ni,ci,rfl,hc,hr,hni⟩:=h.leaf hlt;have HRl:=hr.rlen;have hni':ni<=1048576:=by have:=HS.out;have:=HRl.out;omega
    have hcr:=keep_cell hbw hc;have hbl:=aD hcr;have hl0:=hg k hlt;have hni0:0<ni:=by have:=HRl.out;omega
    have HNo:=hid (fun(e:k≠p)=>yQ ls ⟨rk,rv,rg⟩ e);have HYe:=hid (fun(e:k=p)=>by subst e;exact aE7 ls ⟨rk,rv,rg⟩ k:k=p->gT ls ⟨rk,rv,rg⟩ p (k+1)=gT ls ⟨rk,rv,rg⟩ p k++gZ (eO ⟨rk,rv,rg⟩ (ls.getD k [])));generalize ls.getD k []=l at*;generalize hDL:gT ls ⟨rk,rv,rg⟩ p k=DL at*;clear hDL HS hl0;obtain⟨bi,oi,rfl,hci⟩:=hr.2 (by omega);have hbi:bi<w.heap.size:=by
     have h0:=hci 0 (by omega);have hx:(rcells l)[0]? =Y ((rcells l)[0]'(by rw[hr.1];omega)):=by simp
     rw[hx]at h0;exact aD h0
    have hrr:=hr.below hbw;have rf:RefR wr (Z a' m c') (Y ⟨bi,oi,O⟩) ni l:=⟨hrr,hni,fun b off e=>by cases e;exact⟨by have:=hbw.size;omega,fun e2=>by have:=hqb _ e2;have:=HBe.out;omega⟩⟩
    clear hci;by_cases hkp:k=p
    .have HY:=hid (HYe.out hkp);have hne:((k:Int) !=(p:Int))=F':=by simp;omega
     clear HNo HYe hkp;go_upto_region 10 with fail
     refine R0 (fun W'=>W'.cell? ⟨b,off+k,O⟩=Y (Z (Y ⟨bi,oi,O⟩) ni ci)/\W'.cell? ⟨w.heap.size,0,O⟩=Y (I J rk)/\W'.cell? ⟨w.heap.size,1,O⟩=Y (I J rv)/\W'.cell? ⟨w.heap.size,2,O⟩=Y (X rg)) (⟨hcr,r0,r1,r2⟩) (fun hH=>?_);refine R5 0 1 2 3 4 ?_;refine R1 5 ?_;refine R6 6 (fun K hK=>?_);go_simp;refine(aA5 (Y ⟨bi,oi,O⟩) ni ci l rk rv rg wr.drew hrr (by omega)).mono ?_;rintro e w4⟨a4,m4,c4,rfl,own4,b4⟩;go_wp2_with fail
     refine hK.out _ _ ?_ (fun hH=>?_)
     .exact⟨keep_cell b4 hH.1,keep_cell b4 hH.2.1,keep_cell b4 hH.2.2.1,keep_cell b4 hH.2.2.2⟩
     clear hK K;refine R1 7 ?_;refine R7 ?_;clear hH;have b4':V' wr w4:=⟨b4.os,b4.tape,b4.output,b4.size,b4.block⟩
     have hB4:=hB.trans (b4'.mono hBs);have hBs4:B<=w4.heap.size:=by have:=b4'.size;omega
     have hoV4:=aG hoV b4';have HM:Hid (m4=(eO ⟨rk,rv,rg⟩ l).length):=by show _=_;have:=own4.1;rw[gG]at this;omega
     have hm1:1<=m4:=by have:=HM.out;have:=aX9 ⟨rk,rv,rg⟩ l;omega
     have hm4:m4<=1048577:=by have:=HM.out;have:=aD6 ⟨rk,rv,rg⟩ l;have:=HRl.out;omega
     generalize eO ⟨rk,rv,rg⟩ l=il at*;obtain⟨g4,rfl⟩:∃g4,a4=Y ⟨g4,0,O⟩:=by
      rcases own4.2 with⟨_,h0⟩|⟨g',cp,cur,hv,_⟩
      .omega
      .simp only[Bg]at hv;exact⟨g',hv.1⟩
     have L4:=iY own4;have hc4:=aZ1 own4;have hcl:=aO own4;have hno:(Z a' m c').ownBlock≠Y g4:=fun e=>by have h1:=(aH hoV g4 e).2;have h2:wr.heap.size<=g4:=L4.1;omega
     have hlt4:g4<w4.heap.size:=L4.2;clear own4 b4 rf hrr hr hc hcr hbl hoV;by_cases h4:m4<=4
     .have HH:Hid (gT ls ⟨rk,rv,rg⟩ p (k+1)=DL++[il]):=by show _=_;rw[HY.out,gZ,if_pos (by have:=HM.out;omega)]
      clear HY;go_wp2_with(at_builtin;go_must (refine nL (.tmp 48) (.tmp 51) B (Z a' m c') m vs 1 [Z (Y ⟨g4,0,O⟩) m4 c4] hsum1 (by simp[Value.oneCell']) ?_ ?_ ?_ ?_ ?_ ?_ ?_ (by omega);exact rfl;exact rfl;exact rfl;exact⟨_,_,rfl,vE rfl⟩;exact aG hoV4 (bA _ _);(focus(simp;omega));intro a3 c3 w3 own3 gr3 at3))
      go_roundw;case rel=>
       refine⟨k+1,m+1,a3,c3,vs++[Z (Y ⟨g4,0,O⟩) m4 c4],by omega,by omega,by go_num,rfl,?_,?_⟩
       .rw[HH.out];exact own.app (b4'.alloc b4'.size _) rfl rfl (fun i hi=>by
         obtain rfl:i=0:=by simpa using hi
         exact⟨w4,_,_,_,rfl,bA _ _,hcl,by omega,fun b off e=>by cases e;exact⟨hlt4,hno⟩⟩) own3 gr3 at3
       .exact(hB4.alloc hBs4 _).grown gr3 (by simp;omega) (fun j hj=>hqb j hj)
      case measure=>simp[intOf];omega
     .have HH:Hid (gT ls ⟨rk,rv,rg⟩ p (k+1)=DL++[il.take (m4 / 2),il.drop (m4 / 2)]):=by show _=_;rw[HY.out,gZ,if_neg (by have:=HM.out;omega),HM.out]
      have hcL:=hcl.cutL (k:=m4 / 2) (by omega);have hcR:=hcl.cutR (k:=m4 / 2) (by omega);obtain⟨hf,hhf⟩:∃hf,hf=m4 / 2:=⟨_,rfl⟩
      have hq:(m4:Int).tdiv 2=(hf:Int):=by rw[Int.tdiv_eq_ediv_of_nonneg (by omega)];omega
      rw[<-hhf]at HH hcL hcR;have hh1:hf<=m4:=by omega
      have hh2:hf<=c4:=by omega
      have hh3:¬c4=hf:=by omega
      have h4':¬(m4:Int)<=4:=by omega
      clear HY hhf h4 hcl;rw[Al]at hcR;go_upto_region 14 with fail
      refine wp_region_noPanic ?_;refine wp_region_held_drew (S:=fun _=>True) (by kernel_rfl) Cm (fun hH=>?_);refine R5 0 1 2 3 4 ?_;refine R4 5 6 7 8 ?_;refine R6 9 (fun K hK=>?_);go_simp;refine hK.out _ _ Cm (fun hH=>?_);clear hK K;refine R6 10 (fun K hK=>?_);refine cN9 (.tmp 56) (.tmp 65) B (Z a' m c') m vs 2 [Z (Y ⟨g4,0,O⟩) hf c4,Z (Y ⟨g4,hf*3,O⟩) (m4-hf) (c4-hf)] hsum2 (by simp[Value.oneCell']) ?_ ?_ ?_ ?_ ?_ ?_ ?_ (by omega)
      .exact rfl
      .exact rfl
      .exact rfl
      .exact⟨_,_,rfl,cO4 rfl⟩
      .exact aG hoV4 ((Aa _ _).drew.alloc z' _)
      .simp;omega
      intro a3 c3 w3 own3 gr3 at3;refine hK.out _ _ Cm (fun hH=>?_);clear hK K;refine R1 11 ?_;refine R7 ?_;clear hH;have bD:∀o,V' w4 (w4.drew.alloc o):=fun o=>(Aa _ _).drew.alloc z' _;go_wp2;go_roundw;case rel=>
       refine⟨k+1,m+2,a3,c3,vs++[Z (Y ⟨g4,0,O⟩) hf c4,Z (Y ⟨g4,hf*3,O⟩) (m4-hf) (c4-hf)],by omega,by omega,by go_num,rfl,?_,?_⟩
       .rw[HH.out];exact own.app (b4'.drew.alloc b4'.size _) rfl rfl (fun i hi=>by
         rcases(show i=0\/i=1 by simp at hi;omega)with rfl|rfl
         .exact⟨w4,_,_,_,rfl,bD _,hcL,by omega,fun b off e=>by cases e;exact⟨hlt4,hno⟩⟩
         .exact⟨w4,_,_,_,rfl,bD _,hcR,by omega,fun b off e=>by cases e;exact⟨hlt4,hno⟩⟩) own3 gr3 at3
       .exact(hB4.drew.alloc hBs4 _).grown gr3 (by simp;omega) (fun j hj=>hqb j hj)
      case measure=>simp[intOf];omega
    .have HN:=hid (HNo.out hkp);have hne:((k:Int) !=(p:Int))=A':=by simp;omega
     clear HNo HYe hkp;go_wp2_with(at_builtin;go_must (refine nL (.tmp 31) (.tmp 36) B (Z a' m c') m vs 1 [Z (Y ⟨bi,oi,O⟩) ni ci] hsum1 (by simp[Value.oneCell']) ?_ ?_ ?_ ?_ ?_ ?_ ?_ (by omega);exact rfl;exact rfl;exact rfl;exact⟨_,_,rfl,vE rfl⟩;exact aG hoV (bA _ _);(focus(simp;omega));intro a3 c3 w3 own3 gr3 at3))
     go_roundw;case rel=>
      refine⟨k+1,m+1,a3,c3,vs++[Z (Y ⟨bi,oi,O⟩) ni ci],by omega,by omega,by go_num,rfl,?_,?_⟩
      .rw[HN.out];exact own.app (bA _ _) rfl rfl (fun i hi=>by
        obtain rfl:i=0:=by simpa using hi
        exact⟨wr,_,_,_,rfl,bA _ _,rf⟩) own3 gr3 at3
      .exact(hB.alloc hBs _).grown gr3 (by simp;omega) (fun j hj=>hqb j hj)
     case measure=>simp[intOf];omega
   .obtain rfl:k=n:=by omega
    have hat:=own.at;rw[HP.out]at hat own;have hml:=own.1;go_wp2_with fail
    refine(pM a' m c' (Ch.put ls ⟨rk,rv,rg⟩) wr hat (cR7 HF.out) (fun i hi=>cR6 HF.out i (by omega))).mono ?_;rintro e w5⟨a5,c5,rfl,own5,b5⟩;go_wp2;go_ret;exact⟨a5,m,c5,rfl,own5.base hbw.size,hbw.trans (b5.mono hbw.size)⟩
theorem aS0(h:eZ es=0):∀e∈es,mC e=F':=by
 intro e he;unfold eZ at h;split at h
 .omega
 .split at h
  .omega
  .rename_i h1 h2
   cases hq:mC e
   .rfl
   .exact absurd (Ct.2 ⟨e,he,hq⟩) h2
theorem aK4(h:sH es t=0):eZ es=0/\inB t 1 999=A':=by
 unfold sH at h;by_cases h0:eZ es=0
 .refine⟨h0,?_⟩;rw[h0]at h;cases hq:inB t 1 999
  .rw[hq]at h;simp at h
  .rfl
 .rw[if_pos (by simpa using h0)]at h;exact absurd h h0
theorem bB8(h:sH es t=0)(h2:¬(fP (prE es) t).length=0):
  2<=(fP (prE es) t).length/\(fP (prE es) t).getD 0 0=t/\cQ3 es=A'/\
  (∀i,i<(fP (prE es) t).length->(⟨(fP (prE es) t).getD i 0,(fP (prE es) t).getD ((i+1)%(fP (prE es) t).length) 0⟩:Hold)∈es)/\
  (∀i,i<(fP (prE es) t).length->((fP (prE es) t).take i).contains ((fP (prE es) t).getD i 0)=F'):=by
 obtain⟨hf,ht⟩:=aK4 h;have hfine:=aS0 hf;obtain⟨l,hl,hl0,hnd,hlk⟩:=cU3 (es:=prE es) (t:=t) (fun e he=>by
   unfold prE at he;obtain⟨x,hx,rfl⟩:=Db.1 he;have:=hfine x hx;unfold mC inB at this;simp only[Bool.or_eq_false_iff,Bool.not_eq_false',Bq,Cs]at this;show 0<x.m;omega) (fun hm=>by
   have:=hfine _ (yK.1 hm);unfold mC at this;simp at this) h2
 have hat:=Links.at l t hlk;rw[hl];have hlen:(t::l).length=l.length+1:=rfl;refine⟨by rw[hlen];omega,rfl,?_,fun i hi=>?_,fun i hi=>?_⟩
 .have h0:=yK.1 (hat 0 (by omega));unfold cQ3;rw[hf];simp only[beq_self_eq_true,Et];refine Ct.2 ⟨_,h0,?_⟩;have hq:(fP (prE es) ((t::l).getD 0 0)).length≠0:=h2;unfold cQ2;exact Fa (Nat.pos_of_ne_zero hq)
 .rw[hlen]at hi⊢;have:=yK.1 (hat i hi);rcases Cd (i+1) (l.length+1)with hlt|hge
  .rw[Nat.mod_eq_of_lt hlt];have e4:((t::l)++[t]).getD (i+1) 0=(t::l).getD (i+1) 0:=by unfold List.getD;rw[Av (by simpa using hlt)]
   rw[e4]at this;exact this
  .have e1:i+1=l.length+1:=by omega
   rw[e1,Nat.mod_self];rw[e1]at this;have e2:((t::l)++[t]).getD (l.length+1) 0=t:=by unfold List.getD;rw[Ay (by simp)];simp
   rw[e2]at this;exact this
 .cases hq:((t::l).take i).contains ((t::l).getD i 0)
  .rfl
  .exfalso;have hm:(t::l).getD i 0∈(t::l).take i:=by simpa using hq
   obtain⟨j,hj,he⟩:=Co hm;simp only[Ey]at hj;rw[List.getElem_take]at he;have e3:(t::l).getD i 0=(t::l)[i]:=by unfold List.getD;rw[Ao hi];rfl
   rw[e3]at he;rw[List.nodup_iff_pairwise_ne,Cl]at hnd;exact hnd j i (by omega) hi (by omega) he
namespace Ch
theorem aV4:e∈gW ls↔∃l∈ls,∃i,i<l.qs.length/\e∈jL (l.qs.getD i Hold.zero) l.hs++kS (l.qs.getD i Hold.zero) (l.qs.take i):=by unfold gW pV;simp only[Cf,Dg]
theorem cZ9:e∈jL q hs↔∃h∈hs,h.t≠q.t/\kU h.m q.m=F'/\e=⟨q.t,h.t⟩:=by
 unfold jL;simp only[Db,By];constructor
 .rintro⟨h,⟨h1,h2⟩,rfl⟩;simp at h2;exact⟨h,h1,h2.1,h2.2,rfl⟩
 .rintro⟨h,h1,h2,h3,rfl⟩;exact⟨h,⟨h1,by simp[h2,h3]⟩,rfl⟩
theorem bX9:e∈kS q qs↔∃x∈qs,e=⟨q.t,x.t⟩:=by unfold kS;simp only[Db];exact⟨fun⟨x,h,e⟩=>⟨x,h,e.symm⟩,fun⟨x,h,e⟩=>⟨x,h,e.symm⟩⟩
theorem bJ2(h:aT ls=0)(he:e∈gW ls):iB ls e.t=A'/\e.t≠e.m:=by
 obtain⟨h1,h2⟩:=eT h;obtain⟨l,hl,i,hi,hm⟩:=aV4.1 he;have hq:l.qs.getD i Hold.zero∈l.qs:=by simp[List.getD,hi]
 have hw:aV l.qs (l.qs.getD i Hold.zero).t=A':=dO.2 ⟨_,hq,rfl⟩;have hb:=(bA1 h2 hl hw).1;rcases Aj.1 hm with hm|hm
 .obtain⟨x,_,hne,_,rfl⟩:=cZ9.1 hm;exact⟨hb,fun e=>hne e.symm⟩
 .obtain⟨x,hx,rfl⟩:=bX9.1 hm;refine⟨hb,fun e=>?_⟩;obtain⟨k,hk,rfl⟩:=uF hl;have hg:=(fU (iM (h1 k hk)).2.2.2).2.2.2.2.2.1;have:=aQ7 hi (dO.2 ⟨x,hx,e.symm⟩);rw[hg]at this;cases this
end Ch
end Go.Proofs.YtpbbokalojdooaaGreat
