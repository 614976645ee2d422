/- Own lemmas. -/
import Derived.Test.YtfekjlcnnjhofaaGreatDoorAut
import Derived.Test.YtfekjlcnnjhofaaGreatDoorK03
import Derived.Test.YtfekjlcnnjhofaaGreatDoorK07
set_option maxRecDepth 100000
namespace Go.Proofs.YtfekjlcnnjhofaaGreatDoor
open Go.RowKit Tryz
open IntKind renaming u64->Uz
open Go renaming World->A5,bits->A6,results_tmp2->A8
open IntKind renaming wrap_u64->A9
set_option linter.unusedVariables false
variable {w:Nat} (x l:Int) (p:Nat) (f:List Int) (k:A5)
theorem gY (c:p<64) (w:A5):CE 88 #[.u x,.u p] w (.u (aw x p)):=by go_enter func88,ntmps88;exact a02
theorem gq (i j:Nat) (x:Int) (h:i≠j):(f.set i x).getD j 0=f.getD j 0:=by simp [List.getD,List.getElem?_set_ne h]
theorem SP:CE 88 #[.u x,.u 5] k (.u (aw x 5)):=gY x 5 ab k
theorem LT:CE 88 #[.u x,.u 7] k (.u (aw x 7)):=gY x 7 ab k
theorem SQ:CE 88 #[.u x,.u 8] k (.u (aw x 8)):=gY x 8 ab k
def mV (l:List Int) (d intr:Bool):Bool:=intr&&(A6 .and .u64 (od l d) 1==1)
theorem tC {S:A5->Prop} {fn:Func} {Rs:Ending->A5->Prop} {kk:List KI} {F:Fr} {n:A5} {base g cap:Nat} {l:List Int} (h:ey n base g cap l) (H:Hn prog (λx=>x=n) (λx=>x=n)) (m j:Nat) (a:j<22) (x:Int) (hx:(iw kk,(be prog [] H w false m kk F).1.1,iw (be prog [] H w false m kk F).1.2.1,xr (be prog [] H w false m kk F).1.2.2 (be prog [] H w false m kk F).1.2.1,Em w (be prog [] H w false m kk F).1.2.2 (be prog [] H w false m kk F).1.2.1)=(true,false,true,false,some (do Instr.storeAt 24 (.p g j) (.u x);pure Next.skip))) (he:(be prog [] H w false m kk F).2.map Prod.fst=(be prog [] H w false m kk F).2.map Prod.snd) (next:∀ W,ey W base g cap (l.set j x)->n.grownBy W (some g)->Wg prog S (bodyPost prog fn Rs) w (n7 (be prog [] H w false m kk F).1.2.2 (be prog [] H w false m kk F).1.2.1) (pV (be prog [] H w false m kk F).1.2.2 (be prog [] H w false m kk F).1.2.1 undef 0) W):Wg prog S (bodyPost prog fn Rs) w kk F n :=
 bx (R:=[]) trivial H m (GQ h j a x {dst:=none,op:=.store 24 (.tmp 0) (.tmp 1),type:=0,pos:= "",after:=#[],guard:=none} (fun | .tmp 0=>.p g j | _=>.u x) (.tmp 0) (.tmp 1) rfl rfl rfl) (hx:=hx) (he:=he) (next _ (h.put j x).1 (h.put j x).2)
abbrev tD {w:A5} {base g cap:Nat} {l:List Int} (h:ey w base g cap l) (j:Nat) (a:j<22):Ov prog (λx=>x=w):=iP ⟨g,0+j,none⟩ (.u (l.getD j 0)) underlying24 rfl λW e=>by rw [e,Nat.zero_add];exact h.cell j a
theorem JB (base g cap:Nat) (l:List Int) (p pc v:Int) (I:p=3\/p=0\/p=1) (k:Nat) (hk:k<16) (intr:Bool) (w:A5) (h:ey w base g cap l) (f:cU l p k intr=false):Calls prog 64 #[.slice (some ⟨g,0,none⟩) 22 cap,.i p,.u pc,.i k,.bool intr,.u v] w λe u => e=.returned (.tuple #[.i 3,.u (dX (l.getD 4 0) k (mV l false intr))])/\ey u base g cap (iO l false p (gG k intr) pc v)/\w.grownBy u (some g):=by
 have j:Uz.wrap (k:Int)=k:=by rw [A9];omega
 have o:=λ(x:Int) (i:Nat) (H:i<64) (W q:A5) (_:q=W)=>gY x i H q;obtain ⟨J,d⟩:∃ J,J=mV l false intr:=⟨_,rfl⟩;rw [<- d];obtain ⟨t,c⟩:∃ t,t=gG k intr:=⟨_,rfl⟩;obtain ⟨x,hx⟩:∃ x,x=(match intr with | true=>l.getD 2 0 | false=>l.getD 1 0):=⟨_,rfl⟩;obtain ⟨n,b⟩:∃ n,n=mO (l.getD 0 0) p:=⟨_,rfl⟩;rw [<- c];have m:(!(p==3)&&(aw x k==1))=false:=by subst hx;exact f
 clear f;unfold mV od at d;refine br (S:=λx=>x=w) (args:=[.slice (some ⟨g,0,none⟩) 22 cap,.i p,.u pc,.i k,.bool intr,.u v]) [] func64 ?_;show Wg _ _ _ _ _ _ w;cases r:(aw x k==1)<;>cases s:(A6 .and .u64 (l.getD 4 0) 1==1)<;>cases intr<;>rcases I with rfl | rfl | rfl;all_goals first
  | (exfalso;revert m;(try rw [r]);decide)
  | skip
 all_goals
  dsimp only at d hx
  rw [s] at d
  refine tC h {eq:=[(24,cR .u64 j),(42,cR .u64 j),(44,an r)],ov:=[(22,tD h 1 ab),(28,tD h 2 ab),(33,tD h 0 ab),(36,tD h 4 ab)],cv:=[(43,kj (o x k ab w))]} 90 7 ab t i3 i3 λK D z=>?_
  refine tC D {} 60 6 ab (A6 .andNot .u64 pc 3) i3 i3 λL E A=>?_
  refine tC E {} 60 8 ab v i3 i3 λy F B=>?_
  refine tC F {cv:=[(82,kj (o (l.getD 0 0) 3 ab y))]} 60 0 ab n i5 i5 λM G C=>?_
  exact ix (R:=[]) trivial {eq:=[(98,an s),(102,cR .u64 j)]} 60 (hx:=i5) (he:=i5) λa hk=>⟨_,A8 results64 _ _ _,by rw [hk.slot (t:=12) (v:=.i 3) i5,hk.slot (t:=13) (v:=.u (dX (l.getD 4 0) k J)) (by subst c hx b d;kernel_rfl)],by subst b;exact G,aY z (aY A (aY B C))⟩
theorem JC (base g cap:Nat) (l:List Int) (p pc v:Int) (I:p=3\/p=0\/p=1) (k:Nat) (hk:k<16) (intr:Bool) (w:A5) (h:ey w base g cap l) (f:cU l p k intr):Calls prog 64 #[.slice (some ⟨g,0,none⟩) 22 cap,.i p,.u pc,.i k,.bool intr,.u v] w λe y => e=.returned (.tuple #[.i 1,.u (dX (l.getD 10 0) k (mV l true intr))])/\ey y base g cap (iO l true p (gG k intr) pc v)/\w.grownBy y (some g):=by
 have j:Uz.wrap (k:Int)=k:=by rw [A9];omega
 have o:=λ(x:Int) (i:Nat) (H:i<64) (W q:A5) (_:q=W)=>gY x i H q;obtain ⟨J,d⟩:∃ J,J=mV l true intr:=⟨_,rfl⟩;rw [<- d];obtain ⟨t,c⟩:∃ t,t=gG k intr:=⟨_,rfl⟩;obtain ⟨x,hx⟩:∃ x,x=(match intr with | true=>l.getD 2 0 | false=>l.getD 1 0):=⟨_,rfl⟩;obtain ⟨n,b⟩:∃ n,n=ml (l.getD 0 0) (p==1):=⟨_,rfl⟩;rw [<- c];have m:(!(p==3)&&(aw x k==1)):=by subst hx;exact f
 clear f;unfold mV od at d;refine br (S:=λx=>x=w) (args:=[.slice (some ⟨g,0,none⟩) 22 cap,.i p,.u pc,.i k,.bool intr,.u v]) [] func64 ?_;show Wg _ _ _ _ _ _ w;cases s:(aw x k==1)<;>cases u:(A6 .and .u64 (l.getD 10 0) 1==1)<;>cases intr<;>rcases I with rfl | rfl | rfl;all_goals first
  | (exfalso;revert m;(try rw [s]);decide)
  | skip
 all_goals
  dsimp only at d hx
  rw [u] at d
  refine tC h {eq:=[(24,cR .u64 j),(42,cR .u64 j),(44,an s)],ov:=[(22,tD h 1 ab),(28,tD h 2 ab),(33,tD h 0 ab),(36,tD h 4 ab)],cv:=[(43,kj (o x k ab w))]} 90 13 ab t i3 i3 λK E A=>?_
  refine tC E {} 60 12 ab (A6 .andNot .u64 pc 3) i3 i3 λL F B=>?_
  refine tC F {} 60 14 ab v i3 i3 λz r C=>?_
  refine tC r {ov:=[(68,iP ⟨g,0+10,none⟩ (.u (l.getD 10 0)) underlying24 rfl λW e=>by rw [e,Nat.zero_add,r.cell 10 ab,gq _ _ _ _ bc,gq _ _ _ _ bc,gq _ _ _ _ bc])],cv:=[(59,kj (o (l.getD 0 0) 1 ab z))]} 60 0 ab n i5 i5 λM G D=>?_
  exact ix (R:=[]) trivial {eq:=[(98,an u),(102,cR .u64 j)]} 60 (hx:=i5) (he:=i5) λa hk=>⟨_,A8 results64 _ _ _,by rw [hk.slot (t:=12) (v:=.i 1) i5,hk.slot (t:=13) (v:=.u (dX (l.getD 10 0) k J)) (by subst c hx b d;kernel_rfl)],by subst b;exact G,aY A (aY B (aY C D))⟩
theorem Cf (base g cap:Nat) (l:List Int) (p pc v:Int) (d:bZ p) (k:Nat) (hk:k<16) (intr:Bool) (w:A5) (h:ey w base g cap l):Calls prog 64 #[.slice (some ⟨g,0,none⟩) 22 cap,.i p,.u pc,.i k,.bool intr,.u v] w λe c => e=.returned (.tuple #[.i (te (cU l p k intr)),.u (dX (od l (cU l p k intr)) k (mV l (cU l p k intr) intr))])/\ey c base g cap (iO l (cU l p k intr) p (gG k intr) pc v)/\w.grownBy c (some g):=by
 have a:p=3\/p=0\/p=1:=by simp only [bZ,Bool.or_eq_true,beq_iff_eq] at d;omega
 cases b:cU l p k intr with
 | false=>exact JB base g cap l p pc v a k hk intr w h b
 | true=>exact JC base g cap l p pc v a k hk intr w h b
theorem j4:(prog.info? 169).map (·.size)=some 5:=by kernel_rfl
theorem pw (o p:Obj):((k.alloc o).alloc p).heap[k.heap.size]?=some o:=(Below.heap_alloc _ _ _ di).trans (heap_alloc_new _ _)
theorem ES (d:1<=x) (f:x<=3) (w:A5):CB 126 #[.i x] w (.agg (ch x).cells):=by
 have b:x=1\/x=2\/x=3:=ab
 rcases b with rfl|rfl|rfl;·have F:(ch 1).cells=#[.u 0,.i 12,.bool false,.u 0,.u 0]:=rfl;exact a0g
 ·have F:(ch 2).cells=#[.u 0,.i 13,.bool false,.u 0,.u 0]:=rfl;exact a0g
 ·have F:(ch 3).cells=#[.u 0,.i 15,.bool false,.u 0,.u 0]:=rfl;exact a0g
theorem Cg (d:1<=x) (f:x<=3) (w:A5):CB 127 #[.i x] w (.agg (gc x).cells):=by
 have b:x=1\/x=2\/x=3:=ab
 rcases b with rfl|rfl|rfl;·have F:(gc 1).cells=#[.u 0,.i 1,.bool false,.u 0,.u 0]:=rfl;exact a0h
 ·have F:(gc 2).cells=#[.u 0,.i 5,.bool false,.u 0,.u 0]:=rfl;exact a0h
 ·have F:(gc 3).cells=#[.u 0,.i 7,.bool false,.u 0,.u 0]:=rfl;exact a0h
def gg (l:List Int) (p kind:Int):Int:=if ((kind != 1)&&(aw (l.getD 0 0) 17==1))=true then wrap64 (A6 .and .u64 (l.getD 0 0/2048) 3) else p
def LU (n:Nat) (l:List Int) (p kind:Int):Int:=if (bm n l p&&decide (1<=kind/\kind<=3))=true then gg l p kind else -1
theorem uh (b g cap:Nat) (l:List Int) (p kind:Int) (w:A5) (s:w.cell? ⟨b,g,none⟩=some (.u (l.getD 0 0))):CE 93 #[.slice (some ⟨b,g,none⟩) 22 cap,.i p,.i kind] w (.i (gg l p kind)):=by
 have o:Hid (∀ w,CE 88 #[.u (l.getD 0 0),.u 17] w (.u (aw (l.getD 0 0) 17))):=λw=>gY _ 17 ab w;have F:Hid (gg l p kind=if ((kind != 1)&&(aw (l.getD 0 0) 17==1))=true then wrap64 (A6 .and .u64 (l.getD 0 0/2048) 3) else p):=(rfl:gg l p kind=_);generalize gg l p kind=v at *;generalize aw (l.getD 0 0) 17=y at *;generalize l.getD 0 0=x at *;cases j:(kind != 1) with
 | false =>have f:Hid (v=p):=(by show v=p;rw [F.out,j,Bool.false_and];exact JZ9 bc);clear F;go_enter func93,ntmps93;go_wp2_with fail;go_ret;exact ⟨by rw [f.out];rfl,rfl⟩
 | true =>
   cases q:(y==1) with
   | false =>have f:Hid (v=p):=(by show v=p;rw [F.out,j,q];exact JZ9 bc);clear F;go_enter func93,ntmps93;go_wp2_with fail;refine (o.out _).mono ?_;rintro e r ⟨rfl,c⟩;have d:=c.symm;subst d;go_wp2_with fail;go_ret;exact ⟨by rw [f.out];rfl,rfl⟩
   | true =>have f:Hid (v=wrap64 (A6 .and .u64 (x/2048) 3)):=(by show v=_;rw [F.out,j,q];exact JZ8 rfl);clear F;go_enter func93,ntmps93;go_wp2_with fail;refine (o.out _).mono ?_;rintro e r ⟨rfl,c⟩;have d:=c.symm;subst d;go_wp2_with fail;go_ret;exact ⟨by rw [f.out];rfl,rfl⟩
def kM (f b:Int):Int:=if (f/17592186044416 != 0)=true then 0 else if decide (0<=b/\b<=255)=true then A6 .or .u64 (Uz.wrap (f*1024)) (Uz.wrap b) else 0
theorem gZ:CE 84 #[.u x,.i l] k (.u (kM x l)):=by
 have o:Hid (∀ k,CE 47 #[.i l,.i 0,.i 255] k (.bool (decide (0<=l/\l<=255)))):=SM l 0 255;have F:Hid (kM x l=if (x/17592186044416 != 0)=true then 0 else if decide (0<=l/\l<=255)=true then A6 .or .u64 (Uz.wrap (x*1024)) (Uz.wrap l) else 0):=(rfl:kM x l=_);generalize kM x l=v at *;generalize decide (0<=l/\l<=255)=q at *;cases d:(x/17592186044416 != 0) with
 | true =>have j:Hid (v=0):=(by show v=0;rw [F.out,d];exact JZ8 rfl);clear F;go_enter func84,ntmps84;go_wp2_with fail;go_ret;exact ⟨by rw [j.out];rfl,rfl⟩
 | false =>
   have b:v=if q=true then A6 .or .u64 (Uz.wrap (x*1024)) (Uz.wrap l) else 0:=by rw [F.out,d];exact JZ9 bc
   clear F;cases q with
   | false =>have j:Hid (v=0):=b.trans (JZ9 bc);clear b;go_enter func84,ntmps84;go_wp2_with fail;refine (o.out _).mono ?_;rintro e p ⟨rfl,c⟩;have g:=c.symm;subst g;go_wp2_with fail;go_ret;exact ⟨by rw [j.out];rfl,rfl⟩
   | true =>have j:Hid (v=A6 .or .u64 (Uz.wrap (x*1024)) (Uz.wrap l)):=b.trans (JZ8 rfl);clear b;go_enter func84,ntmps84;go_wp2_with fail;refine (o.out _).mono ?_;rintro e p ⟨rfl,c⟩;have g:=c.symm;subst g;go_wp2_with fail;go_ret;exact ⟨by rw [j.out];rfl,rfl⟩
def jx:Array Value:=#[.u 0,.i 0,.bool false,.u 0,.u 0]
theorem iz {p:Prop} (h:p):Hid p:=h
theorem Uu:0<=Uz.wrap x/\Uz.wrap x<18446744073709551616:=by rw [A9];exact ⟨Int.emod_nonneg _ ab,Int.emod_lt_of_pos _ ab⟩
theorem zQ {x s:Int} (h:gQ w x s):2147483648<=x/\x-2147483648+s<=w:=by unfold gQ at h;simp only [Bool.and_eq_true,JZ6] at h;exact h.2
theorem lM (f:Fd):f.cells.all (·.oneCell'):=by simp [Fd.cells,Value.oneCell']
