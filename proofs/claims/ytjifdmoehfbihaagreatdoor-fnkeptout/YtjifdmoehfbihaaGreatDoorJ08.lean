/- Own lemmas. -/
import Derived.Test.YtjifdmoehfbihaaGreatDoorAuj
import Derived.Test.YtjifdmoehfbihaaGreatDoorJ03
import Derived.Test.YtjifdmoehfbihaaGreatDoorJ07
set_option maxRecDepth 100000
namespace Go.Proofs.YtjifdmoehfbihaaGreatDoor
open Go.RowKit Tryz
open IntKind renaming u64->Uz
set_option linter.unusedVariables false
variable {w:Nat} (x l:Int) (p g b:Nat) (f:List Int) (k:World)
theorem gW (c:p<64) (w:World):CE 111 #[.u x,.u p] w (.u (ap x p)):=by go_enter func111,ntmps111;exact x7
theorem cR (i j:Nat) (x:Int) (h:i≠j):(f.set i x).getD j 0=f.getD j 0:=by simp [List.getD,List.getElem?_set_ne h]
theorem Tj:CE 111 #[.u x,.u 5] k (.u (ap x 5)):=gW x 5 ab k
theorem LQ:CE 111 #[.u x,.u 7] k (.u (ap x 7)):=gW x 7 ab k
theorem Tk:CE 111 #[.u x,.u 8] k (.u (ap x 8)):=gW x 8 ab k
def mU (l:List Int) (d intr:Bool):Bool:=intr&&(bits .and .u64 (n8 l d) 1==1)
theorem tG {S:World->Prop} {fn:Func} {Rs:Ending->World->Prop} {kk:List KI} {F:Fr} {n:World} {base g cap:Nat} {l:List Int} (h:eG n base g cap l) (H:Hn prog (λx=>x=n) (λx=>x=n)) (m j:Nat) (a:j<22) (x:Int) (hx:(io kk,(bq prog [] H w false m kk F).1.1,io (bq prog [] H w false m kk F).1.2.1,zL (bq prog [] H w false m kk F).1.2.2 (bq prog [] H w false m kk F).1.2.1,Eo w (bq prog [] H w false m kk F).1.2.2 (bq prog [] H w false m kk F).1.2.1)=(true,false,true,false,some (do Instr.storeAt 22 (.p g j) (.u x);pure Next.skip))) (he:(bq prog [] H w false m kk F).2.map Prod.fst=(bq prog [] H w false m kk F).2.map Prod.snd) (next:∀ W,eG W base g cap (l.set j x)->n.grownBy W (some g)->Wg prog S (bodyPost prog fn Rs) w (pq (bq prog [] H w false m kk F).1.2.2 (bq prog [] H w false m kk F).1.2.1) (qA (bq prog [] H w false m kk F).1.2.2 (bq prog [] H w false m kk F).1.2.1 undef 0) W):Wg prog S (bodyPost prog fn Rs) w kk F n :=
 ct (R:=[]) trivial H m (GP h j a x {dst:=none,op:=.store 22 (.tmp 0) (.tmp 1),type:=0,pos:= "",after:=#[],guard:=none} (fun | .tmp 0=>.p g j | _=>.u x) (.tmp 0) (.tmp 1) rfl rfl rfl) (hx:=hx) (he:=he) (next _ (h.put j x).1 (h.put j x).2)
abbrev tH {w:World} {base g cap:Nat} {l:List Int} (h:eG w base g cap l) (j:Nat) (a:j<22):Ov prog (λx=>x=w):=je ⟨g,0+j,none⟩ (.u (l.getD j 0)) underlying22 rfl λW e=>by rw [e,Nat.zero_add];exact h.cell j a
theorem JA (base g cap:Nat) (l:List Int) (p pc v:Int) (I:p=3\/p=0\/p=1) (k:Nat) (hk:k<16) (intr:Bool) (w:World) (h:eG w base g cap l) (f:du l p k intr=false):Calls prog 74 #[.slice (some ⟨g,0,none⟩) 22 cap,.i p,.u pc,.i k,.bool intr,.u v] w λe u => e=.returned (.tuple #[.i 3,.u (ei (l.getD 4 0) k (mU l false intr))])/\eG u base g cap (ij l false p (gG k intr) pc v)/\w.grownBy u (some g):=by
 have j:Uz.wrap (k:Int)=k:=by rw [IntKind.wrap_u64];omega
 have o:=λ(x:Int) (i:Nat) (H:i<64) (W q:World) (_:q=W)=>gW x i H q;obtain ⟨J,d⟩:∃ J,J=mU l false intr:=⟨_,rfl⟩;rw [<- d];obtain ⟨t,c⟩:∃ t,t=gG k intr:=⟨_,rfl⟩;obtain ⟨x,hx⟩:∃ x,x=(match intr with | true=>l.getD 2 0 | false=>l.getD 1 0):=⟨_,rfl⟩;obtain ⟨n,b⟩:∃ n,n=mg (l.getD 0 0) p:=⟨_,rfl⟩;rw [<- c];have m:(!(p==3)&&(ap x k==1))=false:=by subst hx;exact f
 clear f;unfold mU n8 at d;refine bD (S:=λx=>x=w) (args:=[.slice (some ⟨g,0,none⟩) 22 cap,.i p,.u pc,.i k,.bool intr,.u v]) [] func74 ?_;show Wg _ _ _ _ _ _ w;cases r:(ap x k==1)<;>cases s:(bits .and .u64 (l.getD 4 0) 1==1)<;>cases intr<;>rcases I with rfl | rfl | rfl;all_goals first
  | (exfalso;revert m;(try rw [r]);decide)
  | skip
 all_goals
  dsimp only at d hx
  rw [s] at d
  refine tG h {eq:=[(24,dP .u64 j),(42,dP .u64 j),(44,ak r)],ov:=[(22,tH h 1 ab),(28,tH h 2 ab),(33,tH h 0 ab),(36,tH h 4 ab)],cv:=[(43,kj (o x k ab w))]} 90 7 ab t fr fr λK D z=>?_
  refine tG D {} 60 6 ab (bits .andNot .u64 pc 3) fr fr λL E A=>?_
  refine tG E {} 60 8 ab v fr fr λy F B=>?_
  refine tG F {cv:=[(82,kj (o (l.getD 0 0) 3 ab y))]} 60 0 ab n ia ia λM G C=>?_
  exact gz (R:=[]) trivial {eq:=[(98,ak s),(102,dP .u64 j)]} 60 (hx:=ia) (he:=ia) λa hk=>⟨_,results_tmp2 results74 _ _ _,by rw [hk.slot (t:=12) (v:=.i 3) ia,hk.slot (t:=13) (v:=.u (ei (l.getD 4 0) k J)) (by subst c hx b d;kernel_rfl)],by subst b;exact G,aZ z (aZ A (aZ B C))⟩
theorem JB (base g cap:Nat) (l:List Int) (p pc v:Int) (I:p=3\/p=0\/p=1) (k:Nat) (hk:k<16) (intr:Bool) (w:World) (h:eG w base g cap l) (f:du l p k intr=true):Calls prog 74 #[.slice (some ⟨g,0,none⟩) 22 cap,.i p,.u pc,.i k,.bool intr,.u v] w λe y => e=.returned (.tuple #[.i 1,.u (ei (l.getD 10 0) k (mU l true intr))])/\eG y base g cap (ij l true p (gG k intr) pc v)/\w.grownBy y (some g):=by
 have j:Uz.wrap (k:Int)=k:=by rw [IntKind.wrap_u64];omega
 have o:=λ(x:Int) (i:Nat) (H:i<64) (W q:World) (_:q=W)=>gW x i H q;obtain ⟨J,d⟩:∃ J,J=mU l true intr:=⟨_,rfl⟩;rw [<- d];obtain ⟨t,c⟩:∃ t,t=gG k intr:=⟨_,rfl⟩;obtain ⟨x,hx⟩:∃ x,x=(match intr with | true=>l.getD 2 0 | false=>l.getD 1 0):=⟨_,rfl⟩;obtain ⟨n,b⟩:∃ n,n=lA (l.getD 0 0) (p==1):=⟨_,rfl⟩;rw [<- c];have m:(!(p==3)&&(ap x k==1))=true:=by subst hx;exact f
 clear f;unfold mU n8 at d;refine bD (S:=λx=>x=w) (args:=[.slice (some ⟨g,0,none⟩) 22 cap,.i p,.u pc,.i k,.bool intr,.u v]) [] func74 ?_;show Wg _ _ _ _ _ _ w;cases s:(ap x k==1)<;>cases u:(bits .and .u64 (l.getD 10 0) 1==1)<;>cases intr<;>rcases I with rfl | rfl | rfl;all_goals first
  | (exfalso;revert m;(try rw [s]);decide)
  | skip
 all_goals
  dsimp only at d hx
  rw [u] at d
  refine tG h {eq:=[(24,dP .u64 j),(42,dP .u64 j),(44,ak s)],ov:=[(22,tH h 1 ab),(28,tH h 2 ab),(33,tH h 0 ab),(36,tH h 4 ab)],cv:=[(43,kj (o x k ab w))]} 90 13 ab t fr fr λK E A=>?_
  refine tG E {} 60 12 ab (bits .andNot .u64 pc 3) fr fr λL F B=>?_
  refine tG F {} 60 14 ab v fr fr λz r C=>?_
  refine tG r {ov:=[(68,je ⟨g,0+10,none⟩ (.u (l.getD 10 0)) underlying22 rfl λW e=>by rw [e,Nat.zero_add,r.cell 10 ab,cR _ _ _ _ bc,cR _ _ _ _ bc,cR _ _ _ _ bc])],cv:=[(59,kj (o (l.getD 0 0) 1 ab z))]} 60 0 ab n ia ia λM G D=>?_
  exact gz (R:=[]) trivial {eq:=[(98,ak u),(102,dP .u64 j)]} 60 (hx:=ia) (he:=ia) λa hk=>⟨_,results_tmp2 results74 _ _ _,by rw [hk.slot (t:=12) (v:=.i 1) ia,hk.slot (t:=13) (v:=.u (ei (l.getD 10 0) k J)) (by subst c hx b d;kernel_rfl)],by subst b;exact G,aZ A (aZ B (aZ C D))⟩
theorem Cd (base g cap:Nat) (l:List Int) (p pc v:Int) (d:cg p=true) (k:Nat) (hk:k<16) (intr:Bool) (w:World) (h:eG w base g cap l):Calls prog 74 #[.slice (some ⟨g,0,none⟩) 22 cap,.i p,.u pc,.i k,.bool intr,.u v] w λe c => e=.returned (.tuple #[.i (tl (du l p k intr)),.u (ei (n8 l (du l p k intr)) k (mU l (du l p k intr) intr))])/\eG c base g cap (ij l (du l p k intr) p (gG k intr) pc v)/\w.grownBy c (some g):=by
 have a:p=3\/p=0\/p=1:=by simp only [cg,Bool.or_eq_true,beq_iff_eq] at d;omega
 cases b:du l p k intr with
 | false=>exact JA base g cap l p pc v a k hk intr w h b
 | true=>exact JB base g cap l p pc v a k hk intr w h b
theorem j4:(prog.info? 215).map (·.size)=some 5:=by kernel_rfl
theorem pw (o p:Obj):((k.alloc o).alloc p).heap[k.heap.size]?=some o:=(Below.heap_alloc _ _ _ cp).trans (heap_alloc_new _ _)
theorem EU (d:1<=x) (f:x<=3) (w:World):CB 224 #[.i x] w (.agg (bZ x).cells):=by
 have b:x=1\/x=2\/x=3:=ab
 rcases b with rfl|rfl|rfl;·have F:(bZ 1).cells=#[.u 0,.i 12,.bool false,.u 0,.u 0]:=rfl;exact a09
 ·have F:(bZ 2).cells=#[.u 0,.i 13,.bool false,.u 0,.u 0]:=rfl;exact a09
 ·have F:(bZ 3).cells=#[.u 0,.i 15,.bool false,.u 0,.u 0]:=rfl;exact a09
theorem Ce (d:1<=x) (f:x<=3) (w:World):CB 225 #[.i x] w (.agg (fR x).cells):=by
 have b:x=1\/x=2\/x=3:=ab
 rcases b with rfl|rfl|rfl;·have F:(fR 1).cells=#[.u 0,.i 1,.bool false,.u 0,.u 0]:=rfl;exact a0a
 ·have F:(fR 2).cells=#[.u 0,.i 5,.bool false,.u 0,.u 0]:=rfl;exact a0a
 ·have F:(fR 3).cells=#[.u 0,.i 7,.bool false,.u 0,.u 0]:=rfl;exact a0a
def fO (l:List Int) (p kind:Int):Int:=if ((kind != 1)&&(ap (l.getD 0 0) 17==1))=true then wrap64 (bits .and .u64 (l.getD 0 0/2048) 3) else p
def LS (n:Nat) (l:List Int) (p kind:Int):Int:=if (bj n l p&&decide (1<=kind/\kind<=3))=true then fO l p kind else -1
theorem um (cap kind:Int) (w:World) (s:w.cell? ⟨p,g,none⟩=some (.u (f.getD 0 0))): CE 116 #[.slice (some ⟨p,g,none⟩) 22 b,.i cap,.i kind] w (.i (fO f cap kind)):=by
 have o:Hid (∀ w,CE 111 #[.u (f.getD 0 0),.u 17] w (.u (ap (f.getD 0 0) 17))):=λw=>gW _ 17 ab w;have F:Hid (fO f cap kind=if ((kind != 1)&&(ap (f.getD 0 0) 17==1))=true then wrap64 (bits .and .u64 (f.getD 0 0/2048) 3) else cap):=(rfl:fO f cap kind=_);generalize fO f cap kind=v at *;generalize ap (f.getD 0 0) 17=y at *;generalize f.getD 0 0=x at *;cases j:(kind != 1) with
 | false =>have l:Hid (v=cap):=(by show v=cap;rw [F.out,j,Bool.false_and];exact if_neg bc);clear F;go_enter func116,ntmps116;go_wp2_with fail;go_ret;exact ⟨sx,rfl⟩
 | true =>
   cases q:(y==1) with
   | false =>have l:Hid (v=cap):=(by show v=cap;rw [F.out,j,q];exact if_neg bc);clear F;go_enter func116,ntmps116;go_wp2_with fail;refine (o.out _).mono ?_;rintro e r ⟨rfl,c⟩;have d:=c.symm;subst d;go_wp2_with fail;go_ret;exact ⟨sx,rfl⟩
   | true =>have l:Hid (v=wrap64 (bits .and .u64 (x/2048) 3)):=(by show v=_;rw [F.out,j,q];exact if_pos rfl);clear F;go_enter func116,ntmps116;go_wp2_with fail;refine (o.out _).mono ?_;rintro e r ⟨rfl,c⟩;have d:=c.symm;subst d;go_wp2_with fail;go_ret;exact ⟨sx,rfl⟩
def kN (f b:Int):Int:=if (f/17592186044416 != 0)=true then 0 else if decide (0<=b/\b<=255)=true then bits .or .u64 (Uz.wrap (f*1024)) (Uz.wrap b) else 0
theorem gX:CE 222 #[.u x,.i l] k (.u (kN x l)):=by
 have o:Hid (∀ k,CE 51 #[.i l,.i 0,.i 255] k (.bool (decide (0<=l/\l<=255)))):=Th l 0 255;have F:Hid (kN x l=if (x/17592186044416 != 0)=true then 0 else if decide (0<=l/\l<=255)=true then bits .or .u64 (Uz.wrap (x*1024)) (Uz.wrap l) else 0):=(rfl:kN x l=_);generalize kN x l=v at *;generalize decide (0<=l/\l<=255)=q at *;cases d:(x/17592186044416 != 0) with
 | true =>have j:Hid (v=0):=(by show v=0;rw [F.out,d];exact if_pos rfl);clear F;go_enter func222,ntmps222;go_wp2_with fail;go_ret;exact ⟨by rw [j.out];rfl,rfl⟩
 | false =>
   have b:v=if q=true then bits .or .u64 (Uz.wrap (x*1024)) (Uz.wrap l) else 0:=by rw [F.out,d];exact if_neg bc
   clear F;cases q with
   | false =>have j:Hid (v=0):=b.trans (if_neg bc);clear b;go_enter func222,ntmps222;go_wp2_with fail;refine (o.out _).mono ?_;rintro e p ⟨rfl,c⟩;have g:=c.symm;subst g;go_wp2_with fail;go_ret;exact ⟨by rw [j.out];rfl,rfl⟩
   | true =>have j:Hid (v=bits .or .u64 (Uz.wrap (x*1024)) (Uz.wrap l)):=b.trans (if_pos rfl);clear b;go_enter func222,ntmps222;go_wp2_with fail;refine (o.out _).mono ?_;rintro e p ⟨rfl,c⟩;have g:=c.symm;subst g;go_wp2_with fail;go_ret;exact ⟨by rw [j.out];rfl,rfl⟩
def ju:Array Value:=#[.u 0,.i 0,.bool false,.u 0,.u 0]
theorem dR {p:Prop} (h:p):Hid p:=h
theorem UN:0<=Uz.wrap x/\Uz.wrap x<18446744073709551616:=by rw [IntKind.wrap_u64];exact ⟨Int.emod_nonneg _ ab,Int.emod_lt_of_pos _ ab⟩
theorem zY {x s:Int} (h:gi w x s=true):2147483648<=x/\x-2147483648+s<=w:=by unfold gi at h;simp only [Bool.and_eq_true,decide_eq_true_eq] at h;exact h.2
theorem lI (f:Fd):f.cells.all (·.oneCell')=true:=by simp [Fd.cells,Value.oneCell']
end Go.Proofs.YtjifdmoehfbihaaGreatDoor
