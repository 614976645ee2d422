/- Own lemmas. -/
import Derived.Test.YtfagphfjfhpmjaaGreatDoorAut
import Derived.Test.YtfagphfjfhpmjaaGreatDoorK03
import Derived.Test.YtfagphfjfhpmjaaGreatDoorK07
set_option maxRecDepth 100000
namespace Go.Proofs.YtfagphfjfhpmjaaGreatDoor
open Go.RowKit Tryz
open IntKind renaming u64->Uz
set_option linter.unusedVariables false
variable {w:Nat} (x l:Int) (p g v:Nat) (b:List Int) (f:World)
theorem gT (c:p<64) (w:World):CE 129 #[.u x,.u p] w (.u (ap x p)):=by go_enter func129,ntmps129;exact x8
theorem gn (i j:Nat) (x:Int) (h:i≠j):(b.set i x).getD j 0=b.getD j 0:=by simp [List.getD,List.getElem?_set_ne h]
theorem Ss:CE 129 #[.u x,.u 5] f (.u (ap x 5)):=gT x 5 ab f
theorem Lm:CE 129 #[.u x,.u 7] f (.u (ap x 7)):=gT x 7 ab f
theorem St:CE 129 #[.u x,.u 8] f (.u (ap x 8)):=gT x 8 ab f
def mS (l:List Int) (d intr:Bool):Bool:=intr&&(bits .and .u64 (n7 l d) 1==1)
theorem tA {S:World->Prop} {fn:Func} {Rs:Ending->World->Prop} {kk:List KI} {F:Fr} {n:World} {base g cap:Nat} {l:List Int} (h:eG n base g cap l) (H:Hn prog (λx=>x=n) (λx=>x=n)) (m j:Nat) (a:j<22) (x:Int) (hx:(ij kk,(bp prog [] H w false m kk F).1.1,ij (bp prog [] H w false m kk F).1.2.1,zB (bp prog [] H w false m kk F).1.2.2 (bp prog [] H w false m kk F).1.2.1,Eb w (bp prog [] H w false m kk F).1.2.2 (bp prog [] H w false m kk F).1.2.1)=(true,false,true,false,some (do Instr.storeAt 22 (.p g j) (.u x);pure Next.skip))) (he:(bp prog [] H w false m kk F).2.map Prod.fst=(bp prog [] H w false m kk F).2.map Prod.snd) (next:∀ W,eG W base g cap (l.set j x)->n.grownBy W (some g)->Wg prog S (bodyPost prog fn Rs) w (po (bp prog [] H w false m kk F).1.2.2 (bp prog [] H w false m kk F).1.2.1) (qA (bp prog [] H w false m kk F).1.2.2 (bp prog [] H w false m kk F).1.2.1 undef 0) W):Wg prog S (bodyPost prog fn Rs) w kk F n :=
 cq (R:=[]) trivial H m (GC h j a x {dst:=none,op:=.store 22 (.tmp 0) (.tmp 1),type:=0,pos:= "",after:=#[],guard:=none} (fun | .tmp 0=>.p g j | _=>.u x) (.tmp 0) (.tmp 1) rfl rfl rfl) (hx:=hx) (he:=he) (next _ (h.put j x).1 (h.put j x).2)
abbrev tB {w:World} {base g cap:Nat} {l:List Int} (h:eG w base g cap l) (j:Nat) (a:j<22):Ov prog (λx=>x=w):=iL ⟨g,0+j,none⟩ (.u (l.getD j 0)) underlying22 rfl λW e=>by rw [e,Nat.zero_add];exact h.cell j a
theorem Jh (base pc cap:Int) (I:base=3\/base=0\/base=1) (k:Nat) (hk:k<16) (intr:Bool) (w:World) (h:eG w p g v b) (f:dh b base k intr=false): Calls prog 90 #[.slice (some ⟨g,0,none⟩) 22 v,.i base,.u pc,.i k,.bool intr,.u cap] w λe u => e=.returned (.tuple #[.i 3,.u (ee (b.getD 4 0) k (mS b false intr))])/\eG u p g v (iG b false base (gD k intr) pc cap)/\w.grownBy u (some g):=by
 have j:Uz.wrap (k:Int)=k:=by rw [IntKind.wrap_u64];omega
 have o:=λ(x:Int) (i:Nat) (H:i<64) (W q:World) (_:q=W)=>gT x i H q;obtain ⟨J,d⟩:∃ J,J=mS b false intr:=⟨_,rfl⟩;rw [<- d];obtain ⟨t,c⟩:∃ t,t=gD k intr:=⟨_,rfl⟩;obtain ⟨x,hx⟩:∃ x,x=(match intr with | true=>b.getD 2 0 | false=>b.getD 1 0):=⟨_,rfl⟩;obtain ⟨n,l⟩:∃ n,n=mJ (b.getD 0 0) base:=⟨_,rfl⟩;rw [<- c];have m:(!(base==3)&&(ap x k==1))=false:=by subst hx;exact f
 clear f;unfold mS n7 at d;refine bC (S:=λx=>x=w) (args:=[.slice (some ⟨g,0,none⟩) 22 v,.i base,.u pc,.i k,.bool intr,.u cap]) [] func90 ?_;show Wg _ _ _ _ _ _ w;cases r:(ap x k==1)<;>cases s:(bits .and .u64 (b.getD 4 0) 1==1)<;>cases intr<;>rcases I with rfl | rfl | rfl;all_goals first
  | (exfalso;revert m;(try rw [r]);decide)
  | skip
 all_goals
  dsimp only at d hx
  rw [s] at d
  refine tA h {eq:=[(24,dG .u64 j),(42,dG .u64 j),(44,ak r)],ov:=[(22,tB h 1 ab),(28,tB h 2 ab),(33,tB h 0 ab),(36,tB h 4 ab)],cv:=[(43,ke (o x k ab w))]} 90 7 ab t g5 g5 λK D z=>?_
  refine tA D {} 60 6 ab (bits .andNot .u64 pc 3) g5 g5 λL E A=>?_
  refine tA E {} 60 8 ab cap g5 g5 λy F B=>?_
  refine tA F {cv:=[(82,ke (o (b.getD 0 0) 3 ab y))]} 60 0 ab n i2 i2 λM G C=>?_
  exact gu (R:=[]) trivial {eq:=[(98,ak s),(102,dG .u64 j)]} 60 (hx:=i2) (he:=i2) λa hk=>⟨_,results_tmp2 results90 _ _ _,by rw [hk.slot (t:=12) (v:=.i 3) i2,hk.slot (t:=13) (v:=.u (ee (b.getD 4 0) k J)) (by subst c hx l d;kernel_rfl)],by subst l;exact G,aW z (aW A (aW B C))⟩
theorem Ji (base pc cap:Int) (I:base=3\/base=0\/base=1) (k:Nat) (hk:k<16) (intr:Bool) (w:World) (h:eG w p g v b) (f:dh b base k intr=true): Calls prog 90 #[.slice (some ⟨g,0,none⟩) 22 v,.i base,.u pc,.i k,.bool intr,.u cap] w λe y => e=.returned (.tuple #[.i 1,.u (ee (b.getD 10 0) k (mS b true intr))])/\eG y p g v (iG b true base (gD k intr) pc cap)/\w.grownBy y (some g):=by
 have j:Uz.wrap (k:Int)=k:=by rw [IntKind.wrap_u64];omega
 have o:=λ(x:Int) (i:Nat) (H:i<64) (W q:World) (_:q=W)=>gT x i H q;obtain ⟨J,d⟩:∃ J,J=mS b true intr:=⟨_,rfl⟩;rw [<- d];obtain ⟨t,c⟩:∃ t,t=gD k intr:=⟨_,rfl⟩;obtain ⟨x,hx⟩:∃ x,x=(match intr with | true=>b.getD 2 0 | false=>b.getD 1 0):=⟨_,rfl⟩;obtain ⟨n,l⟩:∃ n,n=mh (b.getD 0 0) (base==1):=⟨_,rfl⟩;rw [<- c];have m:(!(base==3)&&(ap x k==1))=true:=by subst hx;exact f
 clear f;unfold mS n7 at d;refine bC (S:=λx=>x=w) (args:=[.slice (some ⟨g,0,none⟩) 22 v,.i base,.u pc,.i k,.bool intr,.u cap]) [] func90 ?_;show Wg _ _ _ _ _ _ w;cases s:(ap x k==1)<;>cases u:(bits .and .u64 (b.getD 10 0) 1==1)<;>cases intr<;>rcases I with rfl | rfl | rfl;all_goals first
  | (exfalso;revert m;(try rw [s]);decide)
  | skip
 all_goals
  dsimp only at d hx
  rw [u] at d
  refine tA h {eq:=[(24,dG .u64 j),(42,dG .u64 j),(44,ak s)],ov:=[(22,tB h 1 ab),(28,tB h 2 ab),(33,tB h 0 ab),(36,tB h 4 ab)],cv:=[(43,ke (o x k ab w))]} 90 13 ab t g5 g5 λK E A=>?_
  refine tA E {} 60 12 ab (bits .andNot .u64 pc 3) g5 g5 λL F B=>?_
  refine tA F {} 60 14 ab cap g5 g5 λz r C=>?_
  refine tA r {ov:=[(68,iL ⟨g,0+10,none⟩ (.u (b.getD 10 0)) underlying22 rfl λW e=>by rw [e,Nat.zero_add,r.cell 10 ab,gn _ _ _ _ bc,gn _ _ _ _ bc,gn _ _ _ _ bc])],cv:=[(59,ke (o (b.getD 0 0) 1 ab z))]} 60 0 ab n i2 i2 λM G D=>?_
  exact gu (R:=[]) trivial {eq:=[(98,ak u),(102,dG .u64 j)]} 60 (hx:=i2) (he:=i2) λa hk=>⟨_,results_tmp2 results90 _ _ _,by rw [hk.slot (t:=12) (v:=.i 1) i2,hk.slot (t:=13) (v:=.u (ee (b.getD 10 0) k J)) (by subst c hx l d;kernel_rfl)],by subst l;exact G,aW A (aW B (aW C D))⟩
theorem BZ (base g cap:Nat) (l:List Int) (p pc v:Int) (d:bZ p=true) (k:Nat) (hk:k<16) (intr:Bool) (w:World) (h:eG w base g cap l):Calls prog 90 #[.slice (some ⟨g,0,none⟩) 22 cap,.i p,.u pc,.i k,.bool intr,.u v] w λe c => e=.returned (.tuple #[.i (sV (dh l p k intr)),.u (ee (n7 l (dh l p k intr)) k (mS l (dh l p k intr) intr))])/\eG c base g cap (iG l (dh l p k intr) p (gD k intr) pc v)/\w.grownBy c (some g):=by
 have a:p=3\/p=0\/p=1:=by simp only [bZ,Bool.or_eq_true,beq_iff_eq] at d;omega
 cases b:dh l p k intr with
 | false=>exact Jh base g cap l p pc v a k hk intr w h b
 | true=>exact Ji base g cap l p pc v a k hk intr w h b
theorem jV:(prog.info? 243).map (·.size)=some 5:=by kernel_rfl
theorem pu (o p:Obj):((f.alloc o).alloc p).heap[f.heap.size]?=some o:=(Below.heap_alloc _ _ _ cp).trans (heap_alloc_new _ _)
theorem EH (d:1<=x) (f:x<=3) (w:World):CB 246 #[.i x] w (.agg (bW x).cells):=by
 have b:x=1\/x=2\/x=3:=ab
 rcases b with rfl|rfl|rfl;·have F:(bW 1).cells=#[.u 0,.i 12,.bool false,.u 0,.u 0]:=rfl;exact a0a
 ·have F:(bW 2).cells=#[.u 0,.i 13,.bool false,.u 0,.u 0]:=rfl;exact a0a
 ·have F:(bW 3).cells=#[.u 0,.i 15,.bool false,.u 0,.u 0]:=rfl;exact a0a
theorem B5 (d:1<=x) (f:x<=3) (w:World):CB 247 #[.i x] w (.agg (fK x).cells):=by
 have b:x=1\/x=2\/x=3:=ab
 rcases b with rfl|rfl|rfl;·have F:(fK 1).cells=#[.u 0,.i 1,.bool false,.u 0,.u 0]:=rfl;exact a0b
 ·have F:(fK 2).cells=#[.u 0,.i 5,.bool false,.u 0,.u 0]:=rfl;exact a0b
 ·have F:(fK 3).cells=#[.u 0,.i 7,.bool false,.u 0,.u 0]:=rfl;exact a0b
def gc (l:List Int) (p kind:Int):Int:=if ((kind != 1)&&(ap (l.getD 0 0) 17==1))=true then wrap64 (bits .and .u64 (l.getD 0 0/2048) 3) else p
def Ln (n:Nat) (l:List Int) (p kind:Int):Int:=if (bn n l p&&decide (1<=kind/\kind<=3))=true then gc l p kind else -1
theorem uf (cap:Nat) (l:List Int) (b kind:Int) (w:World) (s:w.cell? ⟨p,g,none⟩=some (.u (l.getD 0 0))): CE 134 #[.slice (some ⟨p,g,none⟩) 22 cap,.i b,.i kind] w (.i (gc l b kind)):=by
 have o:Hid (∀ w,CE 129 #[.u (l.getD 0 0),.u 17] w (.u (ap (l.getD 0 0) 17))):=λw=>gT _ 17 ab w;have F:Hid (gc l b kind=if ((kind != 1)&&(ap (l.getD 0 0) 17==1))=true then wrap64 (bits .and .u64 (l.getD 0 0/2048) 3) else b):=(rfl:gc l b kind=_);generalize gc l b kind=v at *;generalize ap (l.getD 0 0) 17=y at *;generalize l.getD 0 0=x at *;cases j:(kind != 1) with
 | false =>have f:Hid (v=b):=(by show v=b;rw [F.out,j,Bool.false_and];exact if_neg bc);clear F;go_enter func134,ntmps134;go_wp2_with fail;go_ret;exact ⟨by rw [f.out];rfl,rfl⟩
 | true =>
   cases q:(y==1) with
   | false =>have f:Hid (v=b):=(by show v=b;rw [F.out,j,q];exact if_neg bc);clear F;go_enter func134,ntmps134;go_wp2_with fail;refine (o.out _).mono ?_;rintro e r ⟨rfl,c⟩;have d:=c.symm;subst d;go_wp2_with fail;go_ret;exact ⟨by rw [f.out];rfl,rfl⟩
   | true =>have f:Hid (v=wrap64 (bits .and .u64 (x/2048) 3)):=(by show v=_;rw [F.out,j,q];exact if_pos rfl);clear F;go_enter func134,ntmps134;go_wp2_with fail;refine (o.out _).mono ?_;rintro e r ⟨rfl,c⟩;have d:=c.symm;subst d;go_wp2_with fail;go_ret;exact ⟨by rw [f.out];rfl,rfl⟩
def kJ (f b:Int):Int:=if (f/17592186044416 != 0)=true then 0 else if decide (0<=b/\b<=255)=true then bits .or .u64 (Uz.wrap (f*1024)) (Uz.wrap b) else 0
theorem gU:CE 242 #[.u x,.i l] f (.u (kJ x l)):=by
 have o:Hid (∀ f,CE 61 #[.i l,.i 0,.i 255] f (.bool (decide (0<=l/\l<=255)))):=Sp l 0 255;have F:Hid (kJ x l=if (x/17592186044416 != 0)=true then 0 else if decide (0<=l/\l<=255)=true then bits .or .u64 (Uz.wrap (x*1024)) (Uz.wrap l) else 0):=(rfl:kJ x l=_);generalize kJ x l=v at *;generalize decide (0<=l/\l<=255)=q at *;cases d:(x/17592186044416 != 0) with
 | true =>have j:Hid (v=0):=(by show v=0;rw [F.out,d];exact if_pos rfl);clear F;go_enter func242,ntmps242;go_wp2_with fail;go_ret;exact ⟨by rw [j.out];rfl,rfl⟩
 | false =>
   have w:v=if q=true then bits .or .u64 (Uz.wrap (x*1024)) (Uz.wrap l) else 0:=by rw [F.out,d];exact if_neg bc
   clear F;cases q with
   | false =>have j:Hid (v=0):=w.trans (if_neg bc);clear w;go_enter func242,ntmps242;go_wp2_with fail;refine (o.out _).mono ?_;rintro e p ⟨rfl,c⟩;have g:=c.symm;subst g;go_wp2_with fail;go_ret;exact ⟨by rw [j.out];rfl,rfl⟩
   | true =>have j:Hid (v=bits .or .u64 (Uz.wrap (x*1024)) (Uz.wrap l)):=w.trans (if_pos rfl);clear w;go_enter func242,ntmps242;go_wp2_with fail;refine (o.out _).mono ?_;rintro e p ⟨rfl,c⟩;have g:=c.symm;subst g;go_wp2_with fail;go_ret;exact ⟨by rw [j.out];rfl,rfl⟩
def jl:Array Value:=#[.u 0,.i 0,.bool false,.u 0,.u 0]
theorem dQ {p:Prop} (h:p):Hid p:=h
theorem TZ:0<=Uz.wrap x/\Uz.wrap x<18446744073709551616:=by rw [IntKind.wrap_u64];exact ⟨Int.emod_nonneg _ ab,Int.emod_lt_of_pos _ ab⟩
theorem zP {x s:Int} (h:gB w x s=true):2147483648<=x/\x-2147483648+s<=w:=by unfold gB at h;simp only [Bool.and_eq_true,decide_eq_true_eq] at h;exact h.2
theorem lF (f:Fd):f.cells.all (·.oneCell')=true:=by simp [Fd.cells,Value.oneCell']
end Go.Proofs.YtfagphfjfhpmjaaGreatDoor
