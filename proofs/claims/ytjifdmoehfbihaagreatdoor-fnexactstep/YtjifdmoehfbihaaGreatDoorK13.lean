/- Own lemmas. -/
import Derived.Test.YtjifdmoehfbihaaGreatDoorAut
import Derived.Test.YtjifdmoehfbihaaGreatDoorK07
import Derived.Test.YtjifdmoehfbihaaGreatDoorK12
set_option maxRecDepth 100000
namespace Go.Proofs.YtjifdmoehfbihaaGreatDoor
open Go.RowKit Tryz
open IntKind renaming u64->Uz
set_option linter.unusedVariables false
theorem gq (x:Int) (i:Nat) (c:i<64) (w:World):CE 111 #[.u x,.u i] w (.u (ap x i)):=by go_enter func111,ntmps111;exact a02
theorem fJ (l:List Int) (i j:Nat) (x:Int) (h:i≠j):(l.set i x).getD j 0=l.getD j 0:=by simp [List.getD,List.getElem?_set_ne h]
theorem N7 (x:Int) (w:World):CE 111 #[.u x,.u 5] w (.u (ap x 5)):=gq x 5 al w
theorem IA (x:Int) (w:World):CE 111 #[.u x,.u 7] w (.u (ap x 7)):=gq x 7 al w
theorem N8 (x:Int) (w:World):CE 111 #[.u x,.u 8] w (.u (ap x 8)):=gq x 8 al w
def lQ (l:List Int) (d intr:Bool):Bool:=intr&&(bits .and .u64 (mZ l d) 1==1)
theorem rq {S:World->Prop} {n:Nat} {fn:Func} {Rs:Ending->World->Prop} {kk:List KI} {F:Fr} {w:World} {base g cap:Nat} {l:List Int} (h:dq w base g cap l) (H:Hn prog (λx=>x=w) (λx=>x=w)) (m j:Nat) (a:j<22) (x:Int)
 (hx:(gP kk,(aU prog [] H n false m kk F).1.1,gP (aU prog [] H n false m kk F).1.2.1,xn (aU prog [] H n false m kk F).1.2.2 (aU prog [] H n false m kk F).1.2.1,DK n (aU prog [] H n false m kk F).1.2.2 (aU prog [] H n false m kk F).1.2.1)=(true,false,true,false,some (do Instr.storeAt 22 (.p g j) (.u x);pure Next.skip)))
 (he:(aU prog [] H n false m kk F).2.map Prod.fst=(aU prog [] H n false m kk F).2.map Prod.snd)
 (next:∀ W,dq W base g cap (l.set j x)->w.grownBy W (some g)->Wg prog S (bodyPost prog fn Rs) n (ox (aU prog [] H n false m kk F).1.2.2 (aU prog [] H n false m kk F).1.2.1) (qn (aU prog [] H n false m kk F).1.2.2 (aU prog [] H n false m kk F).1.2.1 undef 0) W):Wg prog S (bodyPost prog fn Rs) n kk F w :=
 oz (R:=[]) trivial H m (DU h j a x {dst:=none,op:=.store 22 (.tmp 0) (.tmp 1),type:=0,pos:= "",after:=#[],guard:=none} (fun | .tmp 0=>.p g j | _=>.u x) (.tmp 0) (.tmp 1) rfl rfl rfl) (hx:=hx) (he:=he) (next _ (h.put j x).1 (h.put j x).2)
abbrev rt {w:World} {base g cap:Nat} {l:List Int} (h:dq w base g cap l) (j:Nat) (a:j<22):Ov prog (λx=>x=w):=kR ⟨g,0+j,none⟩ (.u (l.getD j 0)) underlying22 rfl λW e=>by rw [e,Nat.zero_add];exact h.cell j a
theorem FH (base g cap:Nat) (l:List Int) (p pc v:Int) (I:p=3\/p=0\/p=1) (k:Nat) (hk:k<16) (intr:Bool) (w:World) (h:dq w base g cap l) (f:cK l p k intr=false):Calls prog 74 #[.slice (some ⟨g,0,none⟩) 22 cap,.i p,.u pc,.i k,.bool intr,.u v] w λe u => e=.returned (.tuple #[.i 3,.u (dG (l.getD 4 0) k (lQ l false intr))])/\dq u base g cap (gZ l false p (fS k intr) pc v)/\w.grownBy u (some g):=by
 have j:Uz.wrap (k:Int)=k:=by rw [IntKind.wrap_u64];omega
 have o:=λ(x:Int) (i:Nat) (H:i<64) (W q:World) (_:q=W)=>gq x i H q;obtain ⟨J,d⟩:∃ J,J=lQ l false intr:=⟨_,rfl⟩;rw [<- d];obtain ⟨t,c⟩:∃ t,t=fS k intr:=⟨_,rfl⟩;obtain ⟨x,hx⟩:∃ x,x=(match intr with | true=>l.getD 2 0 | false=>l.getD 1 0):=⟨_,rfl⟩;obtain ⟨n,b⟩:∃ n,n=lH (l.getD 0 0) p:=⟨_,rfl⟩;rw [<- c];have m:(!(p==3)&&(ap x k==1))=false:=by subst hx;exact f
 clear f;unfold lQ mZ at d;refine cn (S:=λx=>x=w) (args:=[.slice (some ⟨g,0,none⟩) 22 cap,.i p,.u pc,.i k,.bool intr,.u v]) [] func74 ?_;show Wg _ _ _ _ _ _ w;cases r:(ap x k==1)<;>cases s:(bits .and .u64 (l.getD 4 0) 1==1)<;>cases intr<;>rcases I with rfl | rfl | rfl;all_goals first
  | (exfalso;revert m;(try rw [r]);decide)
  | skip
 all_goals
  dsimp only at d hx
  rw [s] at d
  refine rq h {eq:=[(24,ei .u64 j),(42,ei .u64 j),(44,au r)],ov:=[(22,rt h 1 al),(28,rt h 2 al),(33,rt h 0 al),(36,rt h 4 al)],cv:=[(43,mt (o x k al w))]} 90 7 al t ek ek λK D z=>?_
  refine rq D {} 60 6 al (bits .andNot .u64 pc 3) ek ek λL E A=>?_
  refine rq E {} 60 8 al v ek ek λy F B=>?_
  refine rq F {cv:=[(82,mt (o (l.getD 0 0) 3 al y))]} 60 0 al n ep ep λM G C=>?_
  exact hC (R:=[]) trivial {eq:=[(98,au s),(102,ei .u64 j)]} 60 (hx:=ep) (he:=ep) λa hk=>⟨_,results_tmp2 results74 _ _ _,by rw [hk.slot (t:=12) (v:=.i 3) ep,hk.slot (t:=13) (v:=.u (dG (l.getD 4 0) k J)) (by subst c hx b d;kernel_rfl)],by subst b;exact G,bF z (bF A (bF B C))⟩
theorem FI (base g cap:Nat) (l:List Int) (p pc v:Int) (I:p=3\/p=0\/p=1) (k:Nat) (hk:k<16) (intr:Bool) (w:World) (h:dq w base g cap l) (f:cK l p k intr=true):Calls prog 74 #[.slice (some ⟨g,0,none⟩) 22 cap,.i p,.u pc,.i k,.bool intr,.u v] w λe y => e=.returned (.tuple #[.i 1,.u (dG (l.getD 10 0) k (lQ l true intr))])/\dq y base g cap (gZ l true p (fS k intr) pc v)/\w.grownBy y (some g):=by
 have j:Uz.wrap (k:Int)=k:=by rw [IntKind.wrap_u64];omega
 have o:=λ(x:Int) (i:Nat) (H:i<64) (W q:World) (_:q=W)=>gq x i H q;obtain ⟨J,d⟩:∃ J,J=lQ l true intr:=⟨_,rfl⟩;rw [<- d];obtain ⟨t,c⟩:∃ t,t=fS k intr:=⟨_,rfl⟩;obtain ⟨x,hx⟩:∃ x,x=(match intr with | true=>l.getD 2 0 | false=>l.getD 1 0):=⟨_,rfl⟩;obtain ⟨n,b⟩:∃ n,n=kQ (l.getD 0 0) (p==1):=⟨_,rfl⟩;rw [<- c];have m:(!(p==3)&&(ap x k==1))=true:=by subst hx;exact f
 clear f;unfold lQ mZ at d;refine cn (S:=λx=>x=w) (args:=[.slice (some ⟨g,0,none⟩) 22 cap,.i p,.u pc,.i k,.bool intr,.u v]) [] func74 ?_;show Wg _ _ _ _ _ _ w;cases s:(ap x k==1)<;>cases u:(bits .and .u64 (l.getD 10 0) 1==1)<;>cases intr<;>rcases I with rfl | rfl | rfl;all_goals first
  | (exfalso;revert m;(try rw [s]);decide)
  | skip
 all_goals
  dsimp only at d hx
  rw [u] at d
  refine rq h {eq:=[(24,ei .u64 j),(42,ei .u64 j),(44,au s)],ov:=[(22,rt h 1 al),(28,rt h 2 al),(33,rt h 0 al),(36,rt h 4 al)],cv:=[(43,mt (o x k al w))]} 90 13 al t ek ek λK E A=>?_
  refine rq E {} 60 12 al (bits .andNot .u64 pc 3) ek ek λL F B=>?_
  refine rq F {} 60 14 al v ek ek λz r C=>?_
  refine rq r {ov:=[(68,kR ⟨g,0+10,none⟩ (.u (l.getD 10 0)) underlying22 rfl λW e=>by rw [e,Nat.zero_add,r.cell 10 al,fJ _ _ _ _ a5,fJ _ _ _ _ a5,fJ _ _ _ _ a5])],cv:=[(59,mt (o (l.getD 0 0) 1 al z))]} 60 0 al n ep ep λM G D=>?_
  exact hC (R:=[]) trivial {eq:=[(98,au u),(102,ei .u64 j)]} 60 (hx:=ep) (he:=ep) λa hk=>⟨_,results_tmp2 results74 _ _ _,by rw [hk.slot (t:=12) (v:=.i 1) ep,hk.slot (t:=13) (v:=.u (dG (l.getD 10 0) k J)) (by subst c hx b d;kernel_rfl)],by subst b;exact G,bF A (bF B (bF C D))⟩
theorem zG (base g cap:Nat) (l:List Int) (p pc v:Int) (d:bI p=true) (k:Nat) (hk:k<16) (intr:Bool) (w:World) (h:dq w base g cap l):Calls prog 74 #[.slice (some ⟨g,0,none⟩) 22 cap,.i p,.u pc,.i k,.bool intr,.u v] w λe c => e=.returned (.tuple #[.i (qV (cK l p k intr)),.u (dG (mZ l (cK l p k intr)) k (lQ l (cK l p k intr) intr))])/\dq c base g cap (gZ l (cK l p k intr) p (fS k intr) pc v)/\w.grownBy c (some g):=by
 have a:p=3\/p=0\/p=1:=by simp only [bI,Bool.or_eq_true,beq_iff_eq] at d;omega
 cases b:cK l p k intr with
 | false=>exact FH base g cap l p pc v a k hk intr w h b
 | true=>exact FI base g cap l p pc v a k hk intr w h b
theorem jo:(prog.info? 215).map (·.size)=some 5:=by kernel_rfl
theorem oa (w:World) (o p:Obj):((w.alloc o).alloc p).heap[w.heap.size]?=some o:=(Below.heap_alloc _ _ _ bc).trans (heap_alloc_new _ _)
theorem Cm (k:Int) (d:1<=k) (f:k<=3) (w:World):CB 224 #[.i k] w (.agg (bH k).cells):=by
 have b:k=1\/k=2\/k=3:=al
 rcases b with rfl|rfl|rfl;·have F:(bH 1).cells=#[.u 0,.i 12,.bool false,.u 0,.u 0]:=rfl;exact a0j
 ·have F:(bH 2).cells=#[.u 0,.i 13,.bool false,.u 0,.u 0]:=rfl;exact a0j
 ·have F:(bH 3).cells=#[.u 0,.i 15,.bool false,.u 0,.u 0]:=rfl;exact a0j
theorem zH (k:Int) (d:1<=k) (f:k<=3) (w:World):CB 225 #[.i k] w (.agg (fi k).cells):=by
 have b:k=1\/k=2\/k=3:=al
 rcases b with rfl|rfl|rfl;·have F:(fi 1).cells=#[.u 0,.i 1,.bool false,.u 0,.u 0]:=rfl;exact a0k
 ·have F:(fi 2).cells=#[.u 0,.i 5,.bool false,.u 0,.u 0]:=rfl;exact a0k
 ·have F:(fi 3).cells=#[.u 0,.i 7,.bool false,.u 0,.u 0]:=rfl;exact a0k
def eC (l:List Int) (p kind:Int):Int:=if ((kind != 1)&&(ap (l.getD 0 0) 17==1))=true then wrap64 (bits .and .u64 (l.getD 0 0/2048) 3) else p
def zI (n:Nat) (l:List Int) (p kind:Int):Int:=if (aQ n l p&&decide (1<=kind/\kind<=3))=true then eC l p kind else -1
theorem rY (b g cap:Nat) (l:List Int) (p kind:Int) (w:World) (s:w.cell? ⟨b,g,none⟩=some (.u (l.getD 0 0))):CE 116 #[.slice (some ⟨b,g,none⟩) 22 cap,.i p,.i kind] w (.i (eC l p kind)):=by
 have o:Hid (∀ w,CE 111 #[.u (l.getD 0 0),.u 17] w (.u (ap (l.getD 0 0) 17))):=λw=>gq _ 17 al w;have F:Hid (eC l p kind=if ((kind != 1)&&(ap (l.getD 0 0) 17==1))=true then wrap64 (bits .and .u64 (l.getD 0 0/2048) 3) else p):=(rfl:eC l p kind=_);generalize eC l p kind=v at *;generalize ap (l.getD 0 0) 17=y at *;generalize l.getD 0 0=x at *;cases j:(kind != 1) with
 | false =>have f:Hid (v=p):=(by show v=p;rw [F.out,j,Bool.false_and];exact if_neg a5);clear F;go_enter func116,ntmps116;go_wp2_with fail;go_ret;exact ⟨by rw [f.out];rfl,rfl⟩
 | true =>
   cases q:(y==1) with
   | false =>have f:Hid (v=p):=(by show v=p;rw [F.out,j,q];exact if_neg a5);clear F;go_enter func116,ntmps116;go_wp2_with fail;refine (o.out _).mono ?_;rintro e r ⟨rfl,c⟩;have d:=c.symm;subst d;go_wp2_with fail;go_ret;exact ⟨by rw [f.out];rfl,rfl⟩
   | true =>have f:Hid (v=wrap64 (bits .and .u64 (x/2048) 3)):=(by show v=_;rw [F.out,j,q];exact if_pos rfl);clear F;go_enter func116,ntmps116;go_wp2_with fail;refine (o.out _).mono ?_;rintro e r ⟨rfl,c⟩;have d:=c.symm;subst d;go_wp2_with fail;go_ret;exact ⟨by rw [f.out];rfl,rfl⟩
def iL:Array Value:=#[.u 0,.i 0,.bool false,.u 0,.u 0]
theorem dx {p:Prop} (h:p):Hid p:=h
theorem Pt (x:Int):0<=Uz.wrap x/\Uz.wrap x<18446744073709551616:=by rw [IntKind.wrap_u64];exact ⟨Int.emod_nonneg _ al,Int.emod_lt_of_pos _ al⟩
theorem xI {n:Nat} {x s:Int} (h:fQ n x s=true):2147483648<=x/\x-2147483648+s<=n:=by unfold fQ at h;simp only [Bool.and_eq_true,decide_eq_true_eq] at h;exact h.2
theorem kA (f:Fd):f.cells.all (·.oneCell')=true:=by simp [Fd.cells,Value.oneCell']
end Go.Proofs.YtjifdmoehfbihaaGreatDoor
