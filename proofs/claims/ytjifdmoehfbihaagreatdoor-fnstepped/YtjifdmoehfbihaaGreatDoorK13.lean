/- Own lemmas. -/
import Derived.Test.YtjifdmoehfbihaaGreatDoorAut
import Derived.Test.YtjifdmoehfbihaaGreatDoorK06
import Derived.Test.YtjifdmoehfbihaaGreatDoorK12
set_option maxRecDepth 100000
namespace Go.Proofs.YtjifdmoehfbihaaGreatDoor
open Go.RowKit Tryz
open IntKind renaming u64->Uz
set_option linter.unusedVariables false
theorem gH (x:Int) (i:Nat) (c:i<64) (w:World):CE 111 #[.u x,.u i] w (.u (ak x i)):=by go_enter func111,ntmps111;exact v8
theorem dC (l:List Int) (i j:Nat) (x:Int) (h:i≠j):(l.set i x).getD j 0=l.getD j 0:=by simp [List.getD,List.getElem?_set_ne h]
theorem QX (x:Int) (w:World):CE 111 #[.u x,.u 5] w (.u (ak x 5)):=gH x 5 ab w
theorem Ki (x:Int) (w:World):CE 111 #[.u x,.u 7] w (.u (ak x 7)):=gH x 7 ab w
theorem QY (x:Int) (w:World):CE 111 #[.u x,.u 8] w (.u (ak x 8)):=gH x 8 ab w
def mz (l:List Int) (d intr:Bool):Bool:=intr&&(bits .and .u64 (nG l d) 1==1)
theorem su {S:World->Prop} {n:Nat} {fn:Func} {Rs:Ending->World->Prop} {kk:List KI} {F:Fr} {w:World} {base g cap:Nat} {l:List Int} (h:dh w base g cap l) (H:Hn prog (λx=>x=w) (λx=>x=w)) (m j:Nat) (a:j<22) (x:Int)
 (hx:(gZ kk,(be prog [] H n false m kk F).1.1,gZ (be prog [] H n false m kk F).1.2.1,yJ (be prog [] H n false m kk F).1.2.2 (be prog [] H n false m kk F).1.2.1,Da n (be prog [] H n false m kk F).1.2.2 (be prog [] H n false m kk F).1.2.1)=(true,false,true,false,some (do Instr.storeAt 22 (.p g j) (.u x);pure Next.skip)))
 (he:(be prog [] H n false m kk F).2.map Prod.fst=(be prog [] H n false m kk F).2.map Prod.snd)
 (next:∀ W,dh W base g cap (l.set j x)->w.grownBy W (some g)->Wg prog S (bodyPost prog fn Rs) n (oI (be prog [] H n false m kk F).1.2.2 (be prog [] H n false m kk F).1.2.1) (pP (be prog [] H n false m kk F).1.2.2 (be prog [] H n false m kk F).1.2.1 undef 0) W):Wg prog S (bodyPost prog fn Rs) n kk F w :=
 cw (R:=[]) trivial H m (Fx h j a x {dst:=none,op:=.store 22 (.tmp 0) (.tmp 1),type:=0,pos:= "",after:=#[],guard:=none} (fun | .tmp 0=>.p g j | _=>.u x) (.tmp 0) (.tmp 1) rfl rfl rfl) (hx:=hx) (he:=he) (next _ (h.put j x).1 (h.put j x).2)
abbrev sB {w:World} {base g cap:Nat} {l:List Int} (h:dh w base g cap l) (j:Nat) (a:j<22):Ov prog (λx=>x=w):=iR ⟨g,0+j,none⟩ (.u (l.getD j 0)) underlying22 rfl λW e=>by rw [e,Nat.zero_add];exact h.cell j a
theorem Im (base g cap:Nat) (l:List Int) (p pc v:Int) (I:p=3\/p=0\/p=1) (k:Nat) (hk:k<16) (intr:Bool) (w:World) (h:dh w base g cap l) (f:cE l p k intr=false):Calls prog 74 #[.slice (some ⟨g,0,none⟩) 22 cap,.i p,.u pc,.i k,.bool intr,.u v] w λe u => e=.returned (.tuple #[.i 3,.u (dO (l.getD 4 0) k (mz l false intr))])/\dh u base g cap (gW l false p (gq k intr) pc v)/\w.grownBy u (some g):=by
 have j:Uz.wrap (k:Int)=k:=by rw [IntKind.wrap_u64];omega
 have o:=λ(x:Int) (i:Nat) (H:i<64) (W q:World) (_:q=W)=>gH x i H q;obtain ⟨J,d⟩:∃ J,J=mz l false intr:=⟨_,rfl⟩;rw [<- d];obtain ⟨t,c⟩:∃ t,t=gq k intr:=⟨_,rfl⟩;obtain ⟨x,hx⟩:∃ x,x=(match intr with | true=>l.getD 2 0 | false=>l.getD 1 0):=⟨_,rfl⟩;obtain ⟨n,b⟩:∃ n,n=lP (l.getD 0 0) p:=⟨_,rfl⟩;rw [<- c];have m:(!(p==3)&&(ak x k==1))=false:=by subst hx;exact f
 clear f;unfold mz nG at d;refine bz (S:=λx=>x=w) (args:=[.slice (some ⟨g,0,none⟩) 22 cap,.i p,.u pc,.i k,.bool intr,.u v]) [] func74 ?_;show Wg _ _ _ _ _ _ w;cases r:(ak x k==1)<;>cases s:(bits .and .u64 (l.getD 4 0) 1==1)<;>cases intr<;>rcases I with rfl | rfl | rfl;all_goals first
  | (exfalso;revert m;(try rw [r]);decide)
  | skip
 all_goals
  dsimp only at d hx
  rw [s] at d
  refine su h {eq:=[(24,dI .u64 j),(42,dI .u64 j),(44,aj r)],ov:=[(22,sB h 1 ab),(28,sB h 2 ab),(33,sB h 0 ab),(36,sB h 4 ab)],cv:=[(43,jS (o x k ab w))]} 90 7 ab t fa fa λK D z=>?_
  refine su D {} 60 6 ab (bits .andNot .u64 pc 3) fa fa λL E A=>?_
  refine su E {} 60 8 ab v fa fa λy F B=>?_
  refine su F {cv:=[(82,jS (o (l.getD 0 0) 3 ab y))]} 60 0 ab n fr fr λM G C=>?_
  exact fP (R:=[]) trivial {eq:=[(98,aj s),(102,dI .u64 j)]} 60 (hx:=fr) (he:=fr) λa hk=>⟨_,results_tmp2 results74 _ _ _,by rw [hk.slot (t:=12) (v:=.i 3) fr,hk.slot (t:=13) (v:=.u (dO (l.getD 4 0) k J)) (by subst c hx b d;kernel_rfl)],by subst b;exact G,aQ z (aQ A (aQ B C))⟩
theorem In (base g cap:Nat) (l:List Int) (p pc v:Int) (I:p=3\/p=0\/p=1) (k:Nat) (hk:k<16) (intr:Bool) (w:World) (h:dh w base g cap l) (f:cE l p k intr=true):Calls prog 74 #[.slice (some ⟨g,0,none⟩) 22 cap,.i p,.u pc,.i k,.bool intr,.u v] w λe y => e=.returned (.tuple #[.i 1,.u (dO (l.getD 10 0) k (mz l true intr))])/\dh y base g cap (gW l true p (gq k intr) pc v)/\w.grownBy y (some g):=by
 have j:Uz.wrap (k:Int)=k:=by rw [IntKind.wrap_u64];omega
 have o:=λ(x:Int) (i:Nat) (H:i<64) (W q:World) (_:q=W)=>gH x i H q;obtain ⟨J,d⟩:∃ J,J=mz l true intr:=⟨_,rfl⟩;rw [<- d];obtain ⟨t,c⟩:∃ t,t=gq k intr:=⟨_,rfl⟩;obtain ⟨x,hx⟩:∃ x,x=(match intr with | true=>l.getD 2 0 | false=>l.getD 1 0):=⟨_,rfl⟩;obtain ⟨n,b⟩:∃ n,n=kR (l.getD 0 0) (p==1):=⟨_,rfl⟩;rw [<- c];have m:(!(p==3)&&(ak x k==1))=true:=by subst hx;exact f
 clear f;unfold mz nG at d;refine bz (S:=λx=>x=w) (args:=[.slice (some ⟨g,0,none⟩) 22 cap,.i p,.u pc,.i k,.bool intr,.u v]) [] func74 ?_;show Wg _ _ _ _ _ _ w;cases s:(ak x k==1)<;>cases u:(bits .and .u64 (l.getD 10 0) 1==1)<;>cases intr<;>rcases I with rfl | rfl | rfl;all_goals first
  | (exfalso;revert m;(try rw [s]);decide)
  | skip
 all_goals
  dsimp only at d hx
  rw [u] at d
  refine su h {eq:=[(24,dI .u64 j),(42,dI .u64 j),(44,aj s)],ov:=[(22,sB h 1 ab),(28,sB h 2 ab),(33,sB h 0 ab),(36,sB h 4 ab)],cv:=[(43,jS (o x k ab w))]} 90 13 ab t fa fa λK E A=>?_
  refine su E {} 60 12 ab (bits .andNot .u64 pc 3) fa fa λL F B=>?_
  refine su F {} 60 14 ab v fa fa λz r C=>?_
  refine su r {ov:=[(68,iR ⟨g,0+10,none⟩ (.u (l.getD 10 0)) underlying22 rfl λW e=>by rw [e,Nat.zero_add,r.cell 10 ab,dC _ _ _ _ bb,dC _ _ _ _ bb,dC _ _ _ _ bb])],cv:=[(59,jS (o (l.getD 0 0) 1 ab z))]} 60 0 ab n fr fr λM G D=>?_
  exact fP (R:=[]) trivial {eq:=[(98,aj u),(102,dI .u64 j)]} 60 (hx:=fr) (he:=fr) λa hk=>⟨_,results_tmp2 results74 _ _ _,by rw [hk.slot (t:=12) (v:=.i 1) fr,hk.slot (t:=13) (v:=.u (dO (l.getD 10 0) k J)) (by subst c hx b d;kernel_rfl)],by subst b;exact G,aQ A (aQ B (aQ C D))⟩
theorem AS (base g cap:Nat) (l:List Int) (p pc v:Int) (d:bC p=true) (k:Nat) (hk:k<16) (intr:Bool) (w:World) (h:dh w base g cap l):Calls prog 74 #[.slice (some ⟨g,0,none⟩) 22 cap,.i p,.u pc,.i k,.bool intr,.u v] w λe c => e=.returned (.tuple #[.i (pH (cE l p k intr)),.u (dO (nG l (cE l p k intr)) k (mz l (cE l p k intr) intr))])/\dh c base g cap (gW l (cE l p k intr) p (gq k intr) pc v)/\w.grownBy c (some g):=by
 have a:p=3\/p=0\/p=1:=by simp only [bC,Bool.or_eq_true,beq_iff_eq] at d;omega
 cases b:cE l p k intr with
 | false=>exact Im base g cap l p pc v a k hk intr w h b
 | true=>exact In base g cap l p pc v a k hk intr w h b
theorem jJ:(prog.info? 215).map (·.size)=some 5:=by kernel_rfl
theorem oK (w:World) (o p:Obj):((w.alloc o).alloc p).heap[w.heap.size]?=some o:=(Below.heap_alloc _ _ _ cp).trans (heap_alloc_new _ _)
theorem DI (k:Int) (d:1<=k) (f:k<=3) (w:World):CB 224 #[.i k] w (.agg (bO k).cells):=by
 have b:k=1\/k=2\/k=3:=ab
 rcases b with rfl|rfl|rfl;·have F:(bO 1).cells=#[.u 0,.i 12,.bool false,.u 0,.u 0]:=rfl;exact a08
 ·have F:(bO 2).cells=#[.u 0,.i 13,.bool false,.u 0,.u 0]:=rfl;exact a08
 ·have F:(bO 3).cells=#[.u 0,.i 15,.bool false,.u 0,.u 0]:=rfl;exact a08
theorem AT (k:Int) (d:1<=k) (f:k<=3) (w:World):CB 225 #[.i k] w (.agg (fA k).cells):=by
 have b:k=1\/k=2\/k=3:=ab
 rcases b with rfl|rfl|rfl;·have F:(fA 1).cells=#[.u 0,.i 1,.bool false,.u 0,.u 0]:=rfl;exact a09
 ·have F:(fA 2).cells=#[.u 0,.i 5,.bool false,.u 0,.u 0]:=rfl;exact a09
 ·have F:(fA 3).cells=#[.u 0,.i 7,.bool false,.u 0,.u 0]:=rfl;exact a09
def fR (l:List Int) (p kind:Int):Int:=if ((kind != 1)&&(ak (l.getD 0 0) 17==1))=true then wrap64 (bits .and .u64 (l.getD 0 0/2048) 3) else p
def Kj (n:Nat) (l:List Int) (p kind:Int):Int:=if (aX n l p&&decide (1<=kind/\kind<=3))=true then fR l p kind else -1
theorem tj (b g cap:Nat) (l:List Int) (p kind:Int) (w:World) (s:w.cell? ⟨b,g,none⟩=some (.u (l.getD 0 0))):CE 116 #[.slice (some ⟨b,g,none⟩) 22 cap,.i p,.i kind] w (.i (fR l p kind)):=by
 have o:Hid (∀ w,CE 111 #[.u (l.getD 0 0),.u 17] w (.u (ak (l.getD 0 0) 17))):=λw=>gH _ 17 ab w;have F:Hid (fR l p kind=if ((kind != 1)&&(ak (l.getD 0 0) 17==1))=true then wrap64 (bits .and .u64 (l.getD 0 0/2048) 3) else p):=(rfl:fR l p kind=_);generalize fR l p kind=v at *;generalize ak (l.getD 0 0) 17=y at *;generalize l.getD 0 0=x at *;cases j:(kind != 1) with
 | false =>have f:Hid (v=p):=(by show v=p;rw [F.out,j,Bool.false_and];exact if_neg bb);clear F;go_enter func116,ntmps116;go_wp2_with fail;go_ret;exact ⟨by rw [f.out];rfl,rfl⟩
 | true =>
   cases q:(y==1) with
   | false =>have f:Hid (v=p):=(by show v=p;rw [F.out,j,q];exact if_neg bb);clear F;go_enter func116,ntmps116;go_wp2_with fail;refine (o.out _).mono ?_;rintro e r ⟨rfl,c⟩;have d:=c.symm;subst d;go_wp2_with fail;go_ret;exact ⟨by rw [f.out];rfl,rfl⟩
   | true =>have f:Hid (v=wrap64 (bits .and .u64 (x/2048) 3)):=(by show v=_;rw [F.out,j,q];exact if_pos rfl);clear F;go_enter func116,ntmps116;go_wp2_with fail;refine (o.out _).mono ?_;rintro e r ⟨rfl,c⟩;have d:=c.symm;subst d;go_wp2_with fail;go_ret;exact ⟨by rw [f.out];rfl,rfl⟩
def kt (f b:Int):Int:=if (f/17592186044416 != 0)=true then 0 else if decide (0<=b/\b<=255)=true then bits .or .u64 (Uz.wrap (f*1024)) (Uz.wrap b) else 0
theorem gI (f b:Int) (w:World):CE 222 #[.u f,.i b] w (.u (kt f b)):=by
 have o:Hid (∀ w,CE 51 #[.i b,.i 0,.i 255] w (.bool (decide (0<=b/\b<=255)))):=QT b 0 255;have F:Hid (kt f b=if (f/17592186044416 != 0)=true then 0 else if decide (0<=b/\b<=255)=true then bits .or .u64 (Uz.wrap (f*1024)) (Uz.wrap b) else 0):=(rfl:kt f b=_);generalize kt f b=v at *;generalize decide (0<=b/\b<=255)=q at *;cases d:(f/17592186044416 != 0) with
 | true =>have j:Hid (v=0):=(by show v=0;rw [F.out,d];exact if_pos rfl);clear F;go_enter func222,ntmps222;go_wp2_with fail;go_ret;exact ⟨by rw [j.out];rfl,rfl⟩
 | false =>
   have l:v=if q=true then bits .or .u64 (Uz.wrap (f*1024)) (Uz.wrap b) else 0:=by rw [F.out,d];exact if_neg bb
   clear F;cases q with
   | false =>have j:Hid (v=0):=l.trans (if_neg bb);clear l;go_enter func222,ntmps222;go_wp2_with fail;refine (o.out _).mono ?_;rintro e p ⟨rfl,c⟩;have g:=c.symm;subst g;go_wp2_with fail;go_ret;exact ⟨by rw [j.out];rfl,rfl⟩
   | true =>have j:Hid (v=bits .or .u64 (Uz.wrap (f*1024)) (Uz.wrap b)):=l.trans (if_pos rfl);clear l;go_enter func222,ntmps222;go_wp2_with fail;refine (o.out _).mono ?_;rintro e p ⟨rfl,c⟩;have g:=c.symm;subst g;go_wp2_with fail;go_ret;exact ⟨by rw [j.out];rfl,rfl⟩
def i7:Array Value:=#[.u 0,.i 0,.bool false,.u 0,.u 0]
theorem dE {p:Prop} (h:p):Hid p:=h
theorem SY (x:Int):0<=Uz.wrap x/\Uz.wrap x<18446744073709551616:=by rw [IntKind.wrap_u64];exact ⟨Int.emod_nonneg _ ab,Int.emod_lt_of_pos _ ab⟩
theorem yY {n:Nat} {x s:Int} (h:gn n x s=true):2147483648<=x/\x-2147483648+s<=n:=by unfold gn at h;simp only [Bool.and_eq_true,decide_eq_true_eq] at h;exact h.2
theorem lf (f:Fd):f.cells.all (·.oneCell')=true:=by simp [Fd.cells,Value.oneCell']
end Go.Proofs.YtjifdmoehfbihaaGreatDoor
