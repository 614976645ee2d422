/- Own lemmas. -/
import Derived.Test.YtfagphfjfhpmjaaGreatDoorAuj
import Derived.Test.YtfagphfjfhpmjaaGreatDoorJ04
import Derived.Test.YtfagphfjfhpmjaaGreatDoorJ06
import Derived.Stop.Asserts
import Derived.Handy
set_option maxRecDepth 100000
set_option maxHeartbeats 6400000
namespace Go.Proofs.YtfagphfjfhpmjaaGreatDoor
open Go.RowKit Tryz
open IntKind renaming u64->Uz
set_option linter.unusedVariables false
variable {w x:Nat} {n l:World} {k:List FRow} {a:MV} {m:MA} {g:List Int} {p:Array Oper} {r:Exit->Act->World->Prop} {b:Program} {M:List Oper} {A:Act} {B:TypeId} (c:MV) (t:MA) (L:Nat) (Q s:Int) (f:Option Addr) (o:World) (E F:Nat) (P:List Int) (e j y:Int) (z C:Nat) (D:World)
theorem JR (ar:Option Addr) (pc cr:Nat) (t cm:Int) (M:Bool) (r:Option Addr) (nx u:Nat) (s:Option Addr) (no g:Nat) (cc hd:Int) (hl wt:Bool) (b:Nat) (y D:Int) (w:World) (c:w.heap[b]?=some (.cells #[.u Q,.slice f E F,.i e,.slice (some ⟨z,0,none⟩) 22 C,.slice ar pc cr,.u t,.u cm,.bool M,.slice r nx u,.slice s no g,.i cc,.u hd,.bool hl,.bool wt] 32 (0,0))) (d:w.cell? ⟨z,9,none⟩=some (.u y)) (B:w.frozen? ⟨z,9,none⟩=false) (J:z<w.heap.size) (I:∀ j,Bw w j->CB 71 #[.agg #[.u t,.u cm,.bool M,.slice r nx u,.slice s no g,.i cc]] j (.u D)): Calls prog 85 #[.p b 0] w λpr j=>pr=.returned (.tuple #[])/\∃ o,Bw w o/\j=o.setCell ⟨z,9,none⟩ (.u (bits .or .u64 (bits .andNot .u64 y 2184) D)):=by
 have K:Hid (CB 71 #[.agg #[.u t,.u cm,.bool M,.slice r nx u,.slice s no g,.i cc]] w.drew (.u D)):=I w.drew (Below.refl _ _).drew;have l:=ak c;have H:=ak J;have G:=ak (And.intro d B);obtain ⟨Z,p1,p2,p3,p4,p5,p6,p7,p8,p9,R,S,T,U⟩:=aS c;clear I c J;go_enter func85,ntmps85;go_wp2_with fail;go_region_with (first | (go_at_call 71;with_reducible refine K.out.mono ?_;rintro pr o ⟨rfl,m⟩;have q:=ak (aa (Below.refl w.heap.size w).drew m);clear m;obtain ⟨q0,q1,q2,q3,q4,q5,q6,q7,q8,q9,V,W,X,Y⟩:=aS (aB q.out l.out);have O:=(q.out.cell (p:=⟨z,9,none⟩) H.out).trans G.out.1;have P:o.frozen? ⟨z,9,none⟩=false:=(by have A:=G.out.2;have N:=q.out.block z H.out;unfold World.frozen? at A ⊢;dsimp only at A ⊢;rw [N];exact A)));all_goals go_wp2_with fail
 all_goals refine bodyPost_end (results_none rfl _ _ _) rfl ?_
 all_goals exact ⟨rfl,o,q.out,rfl⟩
def bL (M:MV):MV:=⟨M.pc,M.x,M.pr,M.cs.set 9 (bits .or .u64 (bits .andNot .u64 (M.cs.getD 9 0) 2184) (dD M.d)),M.ram,M.d,M.hd,M.hl,M.wt⟩
theorem JS:ap (bL c) t=ap c t:=by simp [ap,bL]
theorem xu (v:Value):o.grownBy (o.setCell ⟨E,F,none⟩ v) (some E):=
 ⟨rfl,rfl,rfl,ep,λk _ a=>Below.heap_setCell o ⟨E,F,none⟩ v k (λh=>a (by rw [h]))⟩
theorem DA (u:c.cs.length=22) (hl:iU c) (h:D.heap[L]?=some (.cells (ap c t) 32 (0,0))) (v:aZ E F D (aJ c t)) (hb:∀ q ∈ aJ c t,q.v.ownBlock≠some L): Calls prog 85 #[.p L 0] D λe k=>e=.returned (.tuple #[])/\k.heap[L]?=some (.cells (ap (bL c) t) 32 (0,0))/\aZ E F k (aJ (bL c) t)/\eO (aJ c t) D k:=by
 have M:aG t.ac c.cs.length t.cc c.cs ∈ aJ c t:=ck
 have K:=v.own _ M;have w:=v.msl;obtain ⟨g,G,a,b,I⟩:=w.cs 9 ab;have n:G=0:=by
  rcases K.2 with ⟨e,_⟩|⟨A,cap,s,e,_⟩
  ·have d:Value.slice t.ac c.cs.length t.cc=.slice none 0 0:=e;injection d with e3
   rw [a] at e3;cases e3
  ·have d:Value.slice t.ac c.cs.length t.cc=.slice (some ⟨A,0,none⟩) c.cs.length cap:=e;injection d with e3
   rw [a] at e3;injection e3 with e4
   injection e4
 subst n;rw [Nat.zero_add] at I;have f:(aG t.ac c.cs.length t.cc c.cs).v.ownBlock=some g:=by show (Value.slice t.ac c.cs.length t.cc).ownBlock=_;rw [a];rfl
 have y:g≠L:=λe=>hb _ M (by rw [f,e]);have x:D.frozen? ⟨g,9,none⟩=false:=by
  rcases K.2 with ⟨e,_⟩|⟨A,cap,s,e,N,o,_⟩;·have d:Value.slice t.ac c.cs.length t.cc=.slice none 0 0:=e;rw [a] at d;cases d
  ·have d:Value.slice t.ac c.cs.length t.cc=.slice (some ⟨A,0,none⟩) c.cs.length cap:=e;rw [a] at d;injection d with e3
   injection e3 with e4
   injection e4 with e5
   subst e5;exact dh o 9
 have j:=h;unfold ap at j;rw [a,u] at j;refine (JR _ _ _ _ _ g _ _ _ _ _ _ _ _ _ _ _ _ _ _ _ _ _ L (c.cs.getD 9 0) (dD c.d) D j I x b (λk O=>sd _ _ _ _ _ _ _ _ _ _ k hl.xs)).mono ?_;rintro e k ⟨rfl,p,i,rfl⟩;have l:=v.below i;have C:=l.own _ M;refine ⟨rfl,?_,?_⟩;·rw [JS];exact dS (aB i h) ⟨g,9,none⟩ _ (λe=>y e.symm)
 ·have z:p.grownBy (p.setCell ⟨g,9,none⟩ (.u (bits .or .u64 (bits .andNot .u64 (c.cs.getD 9 0) 2184) (dD c.d)))) (aG t.ac c.cs.length t.cc c.cs).v.ownBlock:=(by rw [f];exact xu _ _ _ _);have B:(p.setCell ⟨g,9,none⟩ (.u (bits .or .u64 (bits .andNot .u64 (c.cs.getD 9 0) 2184) (dD c.d)))).ownsRow E 22 1 (.slice t.ac c.cs.length t.cc) c.cs.length ((bL c).cs.map (Value.int .u64)):=(by have o:p.ownsRow E 22 1 (.slice t.ac c.cs.length t.cc) c.cs.length (c.cs.map (Value.int .u64)):=C;rw [a] at o ⊢;have H:=(o.stored 9 (.u (bits .or .u64 (bits .andNot .u64 (c.cs.getD 9 0) 2184) (dD c.d)))).1;rw [kf] at H;exact H);have J:=aZ.markL (L1:=[aG t.ax c.x.length t.cx c.x]) (L2:=[aw t.ar c.ram.length t.cr c.ram,aw t.ai c.d.xs.length t.ci c.d.xs,aw t.ao c.d.ys.length t.co c.d.ys]) (r:=aG t.ac c.cs.length t.cc c.cs) l z _ B;refine ⟨?_,(eO.of_below i).trans J.2⟩;have m:(bL c).cs.length=c.cs.length:=(by simp [bL]);unfold aJ;rw [m];exact J.1
structure Mp (B r:Nat) (M:MV) (A:MA) (W:World):Prop where
 row:W.heap[r]?=some (.cells (ap M A) 32 (0,0))
 fam:aZ B W.heap.size W (aJ M A)
 ne:∀ q ∈ aJ M A,q.v.ownBlock≠some r
 lo:B<=r
structure Kx (r:Nat) (L L':List FRow) (w w':World):Prop where
 os:w'.os=w.os
 tape:w'.tape=w.tape
 output:w'.output=w.output
 size:w.heap.size<=w'.heap.size
 block:∀ k,k<w.heap.size->k≠r->(∀ q ∈ L,q.v.ownBlock≠some k)->w'.heap[k]?=w.heap[k]?
 own:∀ q ∈ L',∀ k,q.v.ownBlock=some k->k<w.heap.size->∃ q0 ∈ L,q0.v.ownBlock=some k
theorem Kx.refl (r:List FRow) (w:World):Kx L r r w w:=⟨rfl,rfl,rfl,Nat.le_refl _,λ_ _ _ _=>rfl,λq a k e _=>⟨q,a,e⟩⟩
theorem Kx.trans {L2 g:List FRow} {c:World} (h:Kx w k L2 n l) (L1:Kx w L2 g l c):Kx w k g n c :=
 ⟨L1.os.trans h.os,L1.tape.trans h.tape,L1.output.trans h.output,Nat.le_trans h.size L1.size,
  λi d b j=>(L1.block i (Nat.lt_of_lt_of_le d h.size) b (λq f e=>by obtain ⟨s,o,m⟩:=h.own q f i e d;exact j s o m)).trans (h.block i d b j),
  λq f i e d=>by obtain ⟨t,p,a⟩:=L1.own q f i e (Nat.lt_of_lt_of_le d h.size);exact h.own t p i a d⟩
theorem Kx.of_below {r:Nat} {L:List FRow} (h:Bw n l):Kx r L L n l :=
 ⟨h.os,h.tape,h.output,h.size,λk a _ _=>h.block k a,λq b k e _=>⟨q,b,e⟩⟩
theorem Kx.set (v:Value):Kx w k k o (o.setCell ⟨w,E,none⟩ v):=
 ⟨rfl,rfl,rfl,ep,λr _ b _=>Below.heap_setCell o ⟨w,E,none⟩ v r (λe=>b (by rw [e])),λq a r e _=>⟨q,a,e⟩⟩
theorem Kx.of_keepL {L':List FRow} (h:eO k n l) (hs:∀ q ∈ L',∃ a ∈ k,a.v=q.v):Kx w k L' n l :=
 ⟨h.os,h.tape,h.output,h.size,λr d _ f=>h.block r d f,λq g r e _=>by obtain ⟨a,c,b⟩:=hs q g;exact ⟨a,c,by rw [b];exact e⟩⟩
theorem Kx.below {L':List FRow} (h:Kx w k L' n l) (hr:x<=w) (c:x<=n.heap.size) (a:∀ q ∈ k,∀ B,q.v.ownBlock=some B->x<=B):Below x n l :=
 ⟨h.os,h.tape,h.output,h.size,λB d=>h.block B ab ab (λq b e=>by have:=a q b B e;omega)⟩
theorem Mp.below (h:Mp w x a m n) (hb:Bw n l):Mp w x a m l :=
 ⟨aB hb h.row,(h.fam.below hb).low (Nat.le_refl _) hb.size,h.ne,h.lo⟩
theorem Mp.lt (h:Mp w x a m n):x<n.heap.size:=(Array.getElem?_eq_some_iff.1 h.row).1
theorem Mp.under {M':MV} {r:MA} (h:Mp w x a m n) (k:Kx x (aJ a m) (aJ M' r) n l):Below w n l :=
 k.below h.lo (by have:=h.lt;have:=h.lo;omega) (λq b i e=>((h.fam.own q b).lt i e).1)
theorem iY {M M':MV} {A:MA} (b:M'.x.length=M.x.length) (c:M'.cs.length=M.cs.length) (d:M'.ram.length=M.ram.length) (e:M'.d.xs.length=M.d.xs.length) (f:M'.d.ys.length=M.d.ys.length):∀ q ∈ aJ M' A,∃ q0 ∈ aJ M A,q0.v=q.v:=by
 intro q a;simp only [aJ,List.mem_cons,List.not_mem_nil,or_false] at a;rcases a with rfl|rfl|rfl|rfl|rfl;·exact ⟨aG A.ax M.x.length A.cx M.x,ck,by rw [b];rfl⟩
 ·exact ⟨aG A.ac M.cs.length A.cc M.cs,ck,by rw [c];rfl⟩
 ·exact ⟨aw A.ar M.ram.length A.cr M.ram,ck,by rw [d];rfl⟩
 ·exact ⟨aw A.ai M.d.xs.length A.ci M.d.xs,ck,by rw [e];rfl⟩
 ·exact ⟨aw A.ao M.d.ys.length A.co M.d.ys,ck,by rw [f];rfl⟩
theorem xv (M:MV) (A:MA) (B r:Nat) (w:World) (a:M.cs.length=22) (hl:iU M) (h:Mp B r M A w):Calls prog 85 #[.p r 0] w λe b=>e=.returned (.tuple #[])/\Mp B r (bL M) A b/\Kx r (aJ M A) (aJ (bL M) A) w b:=by refine (DA M A r B w.heap.size w a hl h.row h.fam h.ne).mono λe b ⟨g,i,j,c⟩=>⟨g,⟨i,j.low (Nat.le_refl _) c.size,?_,h.lo⟩,Kx.of_keepL c (iY rfl (by simp [bL]) rfl rfl rfl)⟩;intro q k e;obtain ⟨l,f,d⟩:=iY (M:=M) (M':=bL M) (A:=A) rfl (by simp [bL]) rfl rfl rfl q k;exact h.ne l f (by rw [d];exact e)
theorem gW (c:E<64) (w:World):CE 129 #[.u Q,.u E] w (.u (aq Q E)):=by go_enter func129,ntmps129;exact a01
theorem gt (x:Int) (h:z≠C):(P.set z x).getD C 0=P.getD C 0:=by simp [List.getD,List.getElem?_set_ne h]
theorem PO:CE 129 #[.u Q,.u 5] o (.u (aq Q 5)):=gW Q 5 ab o
theorem JT:CE 129 #[.u Q,.u 7] o (.u (aq Q 7)):=gW Q 7 ab o
theorem PP:CE 129 #[.u Q,.u 8] o (.u (aq Q 8)):=gW Q 8 ab o
def mI (l:List Int) (d intr:Bool):Bool:=intr&&(bits .and .u64 (nP l d) 1==1)
theorem si {S:World->Prop} {fn:Func} {Rs:Ending->World->Prop} {kk:List KI} {F:Fr} {l cap:Nat} (h:ei n x l cap g) (H:Hn prog (λbase=>base=n) (λbase=>base=n)) (m j:Nat) (a:j<22) (base:Int) (hx:(iu kk,(aY prog [] H w false m kk F).1.1,iu (aY prog [] H w false m kk F).1.2.1,vP (aY prog [] H w false m kk F).1.2.2 (aY prog [] H w false m kk F).1.2.1,EW w (aY prog [] H w false m kk F).1.2.2 (aY prog [] H w false m kk F).1.2.1)=(true,false,true,false,some (do Instr.storeAt 22 (.p l j) (.u base);pure Next.skip))) (he:(aY prog [] H w false m kk F).2.map Prod.fst=(aY prog [] H w false m kk F).2.map Prod.snd) (next:∀ W,ei W x l cap (g.set j base)->n.grownBy W (some l)->Wg prog S (bodyPost prog fn Rs) w (nZ (aY prog [] H w false m kk F).1.2.2 (aY prog [] H w false m kk F).1.2.1) (pP (aY prog [] H w false m kk F).1.2.2 (aY prog [] H w false m kk F).1.2.1 undef 0) W):Wg prog S (bodyPost prog fn Rs) w kk F n :=
 eQ (R:=[]) trivial H m (E9 h j a base {dst:=none,op:=.store 22 (.tmp 0) (.tmp 1),type:=0,pos:= "",after:=#[],guard:=none} (fun | .tmp 0=>.p l j | _=>.u base) (.tmp 0) (.tmp 1) rfl rfl rfl) (hx:=hx) (he:=he) (next _ (h.put j base).1 (h.put j base).2)
abbrev sj {w:World} {base g cap:Nat} {l:List Int} (h:ei w base g cap l) (j:Nat) (a:j<22):Ov prog (λx=>x=w):=jk ⟨g,0+j,none⟩ (.u (l.getD j 0)) underlying22 rfl λW e=>by rw [e,Nat.zero_add];exact h.cell j a
theorem Hh (I:e=3\/e=0\/e=1) (k:Nat) (hk:k<16) (intr:Bool) (w:World) (h:ei w L E F P) (f:cJ P e k intr=false): Calls prog 90 #[.slice (some ⟨E,0,none⟩) 22 F,.i e,.u j,.i k,.bool intr,.u y] w λp u => p=.returned (.tuple #[.i 3,.u (dL (P.getD 4 0) k (mI P false intr))])/\ei u L E F (iM P false e (gD k intr) j y)/\w.grownBy u (some E):=by
 have pc:Uz.wrap (k:Int)=k:=by rw [IntKind.wrap_u64];omega
 have o:=λ(x:Int) (i:Nat) (H:i<64) (W q:World) (_:q=W)=>gW x i H q;obtain ⟨J,d⟩:∃ J,J=mI P false intr:=⟨_,rfl⟩;rw [<- d];obtain ⟨t,c⟩:∃ t,t=gD k intr:=⟨_,rfl⟩;obtain ⟨x,hx⟩:∃ x,x=(match intr with | true=>P.getD 2 0 | false=>P.getD 1 0):=⟨_,rfl⟩;obtain ⟨n,b⟩:∃ n,n=mB (P.getD 0 0) e:=⟨_,rfl⟩;rw [<- c];have m:(!(e==3)&&(aq x k==1))=false:=by subst hx;exact f
 clear f;unfold mI nP at d;refine bf (S:=λx=>x=w) (args:=[.slice (some ⟨E,0,none⟩) 22 F,.i e,.u j,.i k,.bool intr,.u y]) [] func90 ?_;show Wg _ _ _ _ _ _ w;cases r:(aq x k==1)<;>cases s:(bits .and .u64 (P.getD 4 0) 1==1)<;>cases intr<;>rcases I with rfl | rfl | rfl;all_goals first
  | (exfalso;revert m;(try rw [r]);decide)
  | skip
 all_goals
  dsimp only at d hx
  rw [s] at d
  refine si h {eq:=[(24,cZ .u64 pc),(42,cZ .u64 pc),(44,af r)],ov:=[(22,sj h 1 ab),(28,sj h 2 ab),(33,sj h 0 ab),(36,sj h 4 ab)],cv:=[(43,jY (o x k ab w))]} 90 7 ab t eo eo λK D z=>?_
  refine si D {} 60 6 ab (bits .andNot .u64 j 3) eo eo λbase g A=>?_
  refine si g {} 60 8 ab y eo eo λv cap B=>?_
  refine si cap {cv:=[(82,jY (o (P.getD 0 0) 3 ab v))]} 60 0 ab n ex ex λM G C=>?_
  exact jv (R:=[]) trivial {eq:=[(98,af s),(102,cZ .u64 pc)]} 60 (hx:=ex) (he:=ex) λa hk=>⟨_,results_tmp2 results90 _ _ _,by rw [hk.slot (t:=12) (v:=.i 3) ex,hk.slot (t:=13) (v:=.u (dL (P.getD 4 0) k J)) (by subst c hx b d;kernel_rfl)],by subst b;exact G,bH z (bH A (bH B C))⟩
theorem Hi (I:e=3\/e=0\/e=1) (k:Nat) (hk:k<16) (intr:Bool) (w:World) (h:ei w L E F P) (f:cJ P e k intr=true): Calls prog 90 #[.slice (some ⟨E,0,none⟩) 22 F,.i e,.u j,.i k,.bool intr,.u y] w λp v => p=.returned (.tuple #[.i 1,.u (dL (P.getD 10 0) k (mI P true intr))])/\ei v L E F (iM P true e (gD k intr) j y)/\w.grownBy v (some E):=by
 have pc:Uz.wrap (k:Int)=k:=by rw [IntKind.wrap_u64];omega
 have o:=λ(x:Int) (i:Nat) (H:i<64) (W q:World) (_:q=W)=>gW x i H q;obtain ⟨J,d⟩:∃ J,J=mI P true intr:=⟨_,rfl⟩;rw [<- d];obtain ⟨t,c⟩:∃ t,t=gD k intr:=⟨_,rfl⟩;obtain ⟨x,hx⟩:∃ x,x=(match intr with | true=>P.getD 2 0 | false=>P.getD 1 0):=⟨_,rfl⟩;obtain ⟨n,b⟩:∃ n,n=lS (P.getD 0 0) (e==1):=⟨_,rfl⟩;rw [<- c];have m:(!(e==3)&&(aq x k==1))=true:=by subst hx;exact f
 clear f;unfold mI nP at d;refine bf (S:=λx=>x=w) (args:=[.slice (some ⟨E,0,none⟩) 22 F,.i e,.u j,.i k,.bool intr,.u y]) [] func90 ?_;show Wg _ _ _ _ _ _ w;cases s:(aq x k==1)<;>cases u:(bits .and .u64 (P.getD 10 0) 1==1)<;>cases intr<;>rcases I with rfl | rfl | rfl;all_goals first
  | (exfalso;revert m;(try rw [s]);decide)
  | skip
 all_goals
  dsimp only at d hx
  rw [u] at d
  refine si h {eq:=[(24,cZ .u64 pc),(42,cZ .u64 pc),(44,af s)],ov:=[(22,sj h 1 ab),(28,sj h 2 ab),(33,sj h 0 ab),(36,sj h 4 ab)],cv:=[(43,jY (o x k ab w))]} 90 13 ab t eo eo λK g A=>?_
  refine si g {} 60 12 ab (bits .andNot .u64 j 3) eo eo λbase cap B=>?_
  refine si cap {} 60 14 ab y eo eo λz r C=>?_
  refine si r {ov:=[(68,jk ⟨E,0+10,none⟩ (.u (P.getD 10 0)) underlying22 rfl λW p=>by rw [p,Nat.zero_add,r.cell 10 ab,gt _ _ _ _ a6,gt _ _ _ _ a6,gt _ _ _ _ a6])],cv:=[(59,jY (o (P.getD 0 0) 1 ab z))]} 60 0 ab n ex ex λM G D=>?_
  exact jv (R:=[]) trivial {eq:=[(98,af u),(102,cZ .u64 pc)]} 60 (hx:=ex) (he:=ex) λa hk=>⟨_,results_tmp2 results90 _ _ _,by rw [hk.slot (t:=12) (v:=.i 1) ex,hk.slot (t:=13) (v:=.u (dL (P.getD 10 0) k J)) (by subst c hx b d;kernel_rfl)],by subst b;exact G,bH A (bH B (bH C D))⟩
theorem AY (d:bN e=true) (k:Nat) (hk:k<16) (intr:Bool) (w:World) (h:ei w L E F P): Calls prog 90 #[.slice (some ⟨E,0,none⟩) 22 F,.i e,.u j,.i k,.bool intr,.u y] w λp c => p=.returned (.tuple #[.i (rT (cJ P e k intr)),.u (dL (nP P (cJ P e k intr)) k (mI P (cJ P e k intr) intr))])/\ei c L E F (iM P (cJ P e k intr) e (gD k intr) j y)/\w.grownBy c (some E):=by
 have a:e=3\/e=0\/e=1:=by simp only [bN,Bool.or_eq_true,beq_iff_eq] at d;omega
 cases b:cJ P e k intr with
 | false=>exact Hh L E F P e j y a k hk intr w h b
 | true=>exact Hi L E F P e j y a k hk intr w h b
theorem jQ:(prog.info? 243).map (·.size)=some 5:=by kernel_rfl
theorem oQ (w p:Obj):((o.alloc w).alloc p).heap[o.heap.size]?=some w:=(Below.heap_alloc _ _ _ bc).trans (heap_alloc_new _ _)
theorem DB (d:1<=Q) (f:Q<=3) (w:World):CB 246 #[.i Q] w (.agg (bP Q).cells):=by
 have b:Q=1\/Q=2\/Q=3:=ab
 rcases b with rfl|rfl|rfl;·have F:(bP 1).cells=#[.u 0,.i 12,.bool false,.u 0,.u 0]:=rfl;exact a0i
 ·have F:(bP 2).cells=#[.u 0,.i 13,.bool false,.u 0,.u 0]:=rfl;exact a0i
 ·have F:(bP 3).cells=#[.u 0,.i 15,.bool false,.u 0,.u 0]:=rfl;exact a0i
theorem AZ (d:1<=Q) (f:Q<=3) (w:World):CB 247 #[.i Q] w (.agg (fT Q).cells):=by
 have b:Q=1\/Q=2\/Q=3:=ab
 rcases b with rfl|rfl|rfl;·have F:(fT 1).cells=#[.u 0,.i 1,.bool false,.u 0,.u 0]:=rfl;exact a0j
 ·have F:(fT 2).cells=#[.u 0,.i 5,.bool false,.u 0,.u 0]:=rfl;exact a0j
 ·have F:(fT 3).cells=#[.u 0,.i 7,.bool false,.u 0,.u 0]:=rfl;exact a0j
def fV (l:List Int) (p kind:Int):Int:=if ((kind != 1)&&(aq (l.getD 0 0) 17==1))=true then wrap64 (bits .and .u64 (l.getD 0 0/2048) 3) else p
def JU (n:Nat) (l:List Int) (p kind:Int):Int:=if (be n l p&&decide (1<=kind/\kind<=3))=true then fV l p kind else -1
theorem te (kind:Int) (w:World) (s:w.cell? ⟨L,E,none⟩=some (.u (P.getD 0 0))): CE 134 #[.slice (some ⟨L,E,none⟩) 22 F,.i e,.i kind] w (.i (fV P e kind)):=by
 have o:Hid (∀ w,CE 129 #[.u (P.getD 0 0),.u 17] w (.u (aq (P.getD 0 0) 17))):=λw=>gW _ 17 ab w;have cap:Hid (fV P e kind=if ((kind != 1)&&(aq (P.getD 0 0) 17==1))=true then wrap64 (bits .and .u64 (P.getD 0 0/2048) 3) else e):=(rfl:fV P e kind=_);generalize fV P e kind=v at *;generalize aq (P.getD 0 0) 17=y at *;generalize P.getD 0 0=x at *;cases j:(kind != 1) with
 | false =>have f:Hid (v=e):=(by show v=e;rw [cap.out,j,Bool.false_and];exact if_neg a6);clear cap;go_enter func134,ntmps134;go_wp2_with fail;go_ret;exact ⟨by rw [f.out];rfl,rfl⟩
 | true =>
   cases q:(y==1) with
   | false =>have f:Hid (v=e):=(by show v=e;rw [cap.out,j,q];exact if_neg a6);clear cap;go_enter func134,ntmps134;go_wp2_with fail;refine (o.out _).mono ?_;rintro p r ⟨rfl,c⟩;have d:=c.symm;subst d;go_wp2_with fail;go_ret;exact ⟨by rw [f.out];rfl,rfl⟩
   | true =>have f:Hid (v=wrap64 (bits .and .u64 (x/2048) 3)):=(by show v=_;rw [cap.out,j,q];exact if_pos rfl);clear cap;go_enter func134,ntmps134;go_wp2_with fail;refine (o.out _).mono ?_;rintro p r ⟨rfl,c⟩;have d:=c.symm;subst d;go_wp2_with fail;go_ret;exact ⟨by rw [f.out];rfl,rfl⟩
def jn:Array Value:=#[.u 0,.i 0,.bool false,.u 0,.u 0]
theorem iy {p:Prop} (h:p):Hid p:=h
theorem Rj:0<=Uz.wrap Q/\Uz.wrap Q<18446744073709551616:=by rw [IntKind.wrap_u64];exact ⟨Int.emod_nonneg _ ab,Int.emod_lt_of_pos _ ab⟩
theorem yI {x s:Int} (h:gU w x s=true):2147483648<=x/\x-2147483648+s<=w:=by unfold gU at h;simp only [Bool.and_eq_true,decide_eq_true_eq] at h;exact h.2
theorem lu (f:Fd):f.cells.all (·.oneCell')=true:=by simp [Fd.cells,Value.oneCell']
inductive CK where
 | plain (b:Int) | mst | mie | mip | satp | cfg | addr (e:Nat)
def CK.ty:CK->Nat
 | .plain _=>230 | .mst=>228 | .mie=>231 | .mip=>232 | .satp=>233 | .cfg=>234 | .addr _=>236
def CK.val:CK->Value
 | .plain b=>.agg #[.u b] | .mst=>.agg #[] | .mie=>.agg #[] | .mip=>.agg #[] | .satp=>.agg #[] | .cfg=>.agg #[] | .addr e=>.agg #[.i e]
def Q4:List (Int × CK):=[(768,.mst),(770,.plain 46079),(771,.plain 546),(772,.mie),(773,.plain 18446744073709551613),(832,.plain 18446744073709551615),(833,.plain 18446744073709551612),(834,.plain 9223372036854775823),
 (835,.plain 18446744073709551615),(836,.mip),(261,.plain 18446744073709551613),(320,.plain 18446744073709551615),(321,.plain 18446744073709551612),(322,.plain 9223372036854775823),(323,.plain 18446744073709551615),(384,.satp),
 (928,.cfg),(944,.addr 0),(945,.addr 1),(946,.addr 2),(947,.addr 3),(2818,.plain 18446744073709551615)]
def yJ (r:Int × CK):List Value:=[.i r.1,.iface r.2.ty r.2.val]
def gz:Array Value:=(Q4.flatMap yJ).toArray
def qi:Array Value:=(List.replicate 22 [Value.int .i64 0,.nilIface]).flatten.toArray
theorem yK:qi.size=44:=by kernel_rfl
theorem mn:gz.size=44:=by kernel_rfl
theorem yL:(prog.info? 149).bind (·.zero)=some (.agg qi):=by kernel_rfl
theorem yM:gz.all (·.oneCell')=true:=by kernel_rfl
theorem qj:(prog.info? 149).map (·.size)=some 44:=by kernel_rfl
def nf (P:Program):List Oper->Act->Option Act
 | [],a=>some a
 | o::l,a =>
   match o.guard,o.op with
   | none,.build t parts =>
     match P.built t (parts.map λ(i,x)=>(i,a.eval x)).toList with
     | some cells=>nf P l (a.put o.dst (.agg cells))
     | none=>none
   | none,.makeInterface t x=>if P.concrete t=true then nf P l (a.put o.dst (.iface t (a.eval x))) else none
   | _,_=>none
theorem uJ:∀ (w rest:List Oper) (a c:Act),nf b w a=some c->wpList b p r rest c l->wpList b p r (w++rest) a l:=by
 intro w;induction w with
 | nil=>intro rest a c h d;simp [nf] at h;subst h;exact d
 | cons o w i =>
   intro rest a c h d;unfold nf at h;split at h
   ·rename_i t parts f g;split at h;·rename_i cells e;exact wpList_buildTo f t parts g o.dst rfl cells e (i _ _ _ h d)
    ·cases h
   ·rename_i t x f g;split at h;·rename_i e;exact mZ f o.dst rfl (.iface t (a.eval x)) (by simp [execOp,g,run_makeInterface l t _ e]) (i _ _ _ h d)
    ·cases h
   ·cases h
theorem rm (v x:Value) (h:(nf b (M.take L) A).map (λP=>(P.tmps.getD E undef,P.tmps.getD F undef,P.defers))=some (v,x,[])) (hr:∀ P:Act,P.tmps.getD E undef=v->P.tmps.getD F undef=x->P.defers=[]->wpList b p r (M.drop L) P l):wpList b p r M A l:=by
 rw [<- List.take_append_drop L M];cases d:nf b (M.take L) A with
 | none=>rw [d] at h;cases h
 | some P =>rw [d] at h;simp only [Option.map_some,Option.some.injEq,Prod.mk.injEq] at h;exact uJ _ _ _ _ d (hr P h.1 h.2.1 h.2.2)
theorem Ba:CB 121 #[] o (.agg gz):=by go_enter func121,ntmps121;apply wp_seq_k;intro c b;apply wp_region_list;refine cD rfl 149 rfl (some 0) rfl _ yL ?_;apply wpList_nil;refine b _ _ ?_;clear b c;apply wp_seq_k;intro c b;apply wp_region_lit;refine rm 67 0 67 (.p o.heap.size 0) (.agg gz) a4 ?_;intro m f d j;have g:(o.alloc (.cells (Value.agg qi).cells 149)).heap[o.heap.size]?=some (.cells qi 149 (0,0)):=heap_alloc_new _ _;refine wpList_store_rowTo rfl 149 (.tmp 0) (.tmp 67) rfl rfl o.heap.size gz f d 149 qi g (by rw [qj,mn]) (by rw [yK,mn]) yM ?_;apply wpList_nil;refine b _ _ ?_;clear b c;apply wp_ret;refine bodyPost_ret (results_cell_row results121 _ _ _ _ _ _ _ f (setRow_heap _ _ _ _ _ _ g) underlying149 rfl (by rw [qj,mn])) j ⟨rfl,?_⟩;exact aF (bal _ _) (Nat.le_refl _) _
theorem oR:Calls prog 121 #[] o λe a=>∃ T,e=.returned T/\Hid (T=.agg gz)/\Bw o a :=
 (Ba o).mono λe a h=>⟨.agg gz,h.1,(rfl:Value.agg gz=.agg gz),h.2⟩
theorem yN:Q4.length=22:=by rfl
def fY (k:Nat):Int × CK:=Q4.getD k (0,.mst)
theorem JV (h:L<22):Q4[L]'(by rw [yN];exact h)=fY L:=by simp [fY,List.getD,List.getElem?_eq_getElem (show L<Q4.length by rw [yN];exact h)]
theorem wy (h:L<22):gz.extract (L*2) (L*2+2)=(yJ (fY L)).toArray:=by have:=rh yJ 2 Q4 (by intro x _;rfl) L (by rw [yN];exact h);rw [JV L h] at this;rw [<- this];simp [gz]
theorem DC (kk:IntKind) (k:Nat) (hk:k<22):(Instr.index 149 (.agg gz) (.int kk (k:Int))).run prog o=.ok (.agg #[.i (fY k).1,.iface (fY k).2.ty (fY k).2.val]) o:=by
 have f:(sizeOf 148).run prog o=.ok 2 o:=by
  obtain ⟨g,e,a⟩:∃ i,prog.info? 148=some i/\i.size=2:=by
   have h:(prog.info? 148).map (·.size)=some 2:=a4;cases b:prog.info? 148 with
   | none=>rw [b] at h;cases h
   | some i=>rw [b] at h;exact ⟨i,rfl,cp⟩
  simp [sizeOf,typeInfo,e,a]
 have c:(isAgg 148).run prog o=.ok true o:=by simp [isAgg,run_underlying underlying148]
 have d:(0:Int)<=(k:Int)/\(k:Int)<((22:Nat):Int):=ab
 unfold Instr.index;simp only [asIntOf,Sem.run_bind,Sem.run_pure,Result.andThen_ok,run_underlying underlying149];rw [if_pos d];simp only [Sem.run_bind,f,Result.andThen_ok,part,c,Int.toNat_natCast,if_true,Sem.run_pure];rw [wy k hk];rfl
theorem gX {o:Oper} {T:Value} (e:Hid (T=.agg gz)) (kk:IntKind) (k:Nat) (hk:k<22) (Q:Int × CK) (hr:Hid (Q=fY k)) (f:o.guard=none) (x i:Operand) (j:o.op=.index 149 x i) (hx:A.eval x=T) (g:A.eval i=.int kk (k:Int)) (h:wpList prog p r M (A.put o.dst (.agg #[.i Q.1,.iface Q.2.ty Q.2.val])) n):wpList prog p r (o::M) A n:=by
 refine wpList_plain f λK d=>?_;have b:(execOp A.eval o).run prog n=.ok (.value (.agg #[.i Q.1,.iface Q.2.ty Q.2.val])) n:=by simp [execOp,j,hx,g,e.out,hr.out,DC n kk k hk]
 unfold Oper.wp;rw [b,Oper.upon_value];exact d _ _ h
def iz (x:Int):Bool:=(cQ x 60 4==0)||(cQ x 60 4==8)
def Bb (x:Int) (k:Nat):Int:=if (bits .and .u64 (bits .and .u64 (cQ x (8*k) 8) 159) 1==0)=true then bits .andNot .u64 (bits .and .u64 (cQ x (8*k) 8) 159) 2 else bits .and .u64 (cQ x (8*k) 8) 159
def pK (x:Int):Nat->Int
 | 0=>0
 | k+1=>bits .or .u64 (pK x k) (Uz.wrap (Bb x k*2^(8*k)))
def ik:CK->Int->Int
 | .plain b,x=>bits .and .u64 x b
 | .mst,x=>if (bits .and .u64 x 6144==4096)=true then bits .andNot .u64 (bits .and .u64 x 924074) 6144 else bits .and .u64 x 924074
 | .mie,x=>bits .and .u64 x 2730
 | .mip,x=>bits .and .u64 x 2730
 | .satp,x=>if iz x=true then x else 0
 | .cfg,x=>pK x 4
 | .addr _,x=>bits .and .u64 x 18014398509481983
def fN (c:Int) (e:Nat):Bool:=(bits .and .u64 (cQ c (8*e) 8) 128 != 0)
def iN (c:Int) (e:Nat):Int:=cQ c (8*e+3) 2
def gQ (c:Int):Nat->Int
 | 0=>0
 | k+1=>if fN c k=true then bits .or .u64 (gQ c k) (Uz.wrap (255*2^(8*k))) else gQ c k
def jx (c:Int):CK->Int->Int
 | .mip,_=>2184
 | .satp,x=>if iz x=true then 0 else 18446744073709551615
 | .cfg,_=>gQ c 4
 | .addr e,_=>if (fN c e||(fN c (e+1)&&(iN c (e+1)==1)))=true then 18446744073709551615 else 0
 | _,_=>0
def CK.fitF:CK->Nat
 | .plain _=>336 | .mst=>334 | .mie=>337 | .mip=>339 | .satp=>342 | .cfg=>345 | .addr _=>348
def CK.staysF:CK->Nat
 | .mip=>340 | .satp=>343 | .cfg=>346 | .addr _=>349 | _=>0
def CK.viewF:CK->Nat
 | .mst=>335 | .mie=>338 | .mip=>341 | _=>0
theorem oe (g:0<=Q) (j:Q<18446744073709551616) (w:World):Calls prog 344 #[.u Q] w λe c=>e=.returned (.bool (iz Q))/\c=w.drew:=by
 have d:Hid (∀ w,Calls prog 76 #[.u Q,.i 60,.i 4] w λe c=>e=.returned (.u (cQ Q 60 4))/\c=w.drew):=λw=>bA Q 60 4 g j ab ab w;have F:Hid (iz Q=((cQ Q 60 4==0)||(cQ Q 60 4==8))):=(rfl:iz Q=_);generalize cQ Q 60 4=y at *;cases f:(y==0) with
 | true =>rw [f] at F;go_enter func344,ntmps344;go_wp2_with fail;refine (d.out _).mono ?_;rintro e l ⟨rfl,b⟩;exact a0c
 | false =>rw [f] at F;go_enter func344,ntmps344;go_wp2_with fail;refine (d.out _).mono ?_;rintro e l ⟨rfl,b⟩;exact a0c
theorem og (hk:E<5) (g:0<=Q) (j:Q<18446744073709551616) (w:World):Calls prog 124 #[.u Q,.i E] w λe c=>e=.returned (.u (cQ Q (8*E) 8))/\c=w.drew:=by
 obtain ⟨q,d⟩:∃ q,8*E=q:=⟨_,rfl⟩;have l:wrap64 (8*(E:Int))=(q:Int):=by unfold wrap64;omega
 rw [d];have f:Hid (∀ w,Calls prog 76 #[.u Q,.i q,.i 8] w λe c=>e=.returned (.u (cQ Q q 8))/\c=w.drew):=λw=>bA Q q 8 g j ab ab w;clear d hk;generalize cQ Q q 8=y at *;go_enter func124,ntmps124;go_wp2_with fail;refine (f.out _).mono ?_;rintro e m ⟨rfl,b⟩;subst b;exact a01
theorem qk (hk:E<5) (l:0<=Q) (m:Q<18446744073709551616) (w:World):Calls prog 190 #[.u Q,.i E] w λe f=>e=.returned (.u (iN Q E))/\f=w.drew:=by
 obtain ⟨q,g⟩:∃ q,8*E+3=q:=⟨_,rfl⟩;obtain ⟨b,c⟩:∃ b,8*E=b:=⟨_,rfl⟩;have p:wrap64 (8*(E:Int))=(b:Int):=by unfold wrap64;omega
 have o:wrap64 ((b:Int)+3)=(q:Int):=by unfold wrap64;omega
 unfold iN;rw [g];have j:Hid (∀ w,Calls prog 76 #[.u Q,.i q,.i 2] w λe f=>e=.returned (.u (cQ Q q 2))/\f=w.drew):=λw=>bA Q q 2 l m ab ab w;clear g c hk;generalize cQ Q q 2=y at *;go_enter func190,ntmps190;go_wp2_with fail;refine (j.out _).mono ?_;rintro e r ⟨rfl,d⟩;subst d;exact a01
theorem mo (hk:E<5) (f:0<=Q) (g:Q<18446744073709551616) (w:World):Calls prog 347 #[.u Q,.i E] w λe c=>e=.returned (.bool (fN Q E))/\c=w.drew:=by have d:Hid (∀ w,Calls prog 124 #[.u Q,.i E] w λe c=>e=.returned (.u (cQ Q (8*E) 8))/\c=w.drew):=λw=>og Q E hk f g w;have F:Hid (fN Q E=(bits .and .u64 (cQ Q (8*E) 8) 128 != 0)):=(rfl:fN Q E=_);generalize cQ Q (8*E) 8=q at *;go_enter func347,ntmps347;go_wp2_with fail;refine (d.out _).mono ?_;rintro e j ⟨rfl,b⟩;exact a0c
theorem Hj:CB 336 #[.agg #[.u Q],.u s] o (.u (bits .and .u64 s Q)):=by go_enter func336,ntmps336;go_wp2_with fail;go_ret;exact ⟨rfl,bal _ _⟩
theorem JW:CB 348 #[.agg #[.i L],.u Q] o (.u (bits .and .u64 Q 18014398509481983)):=by go_enter func348,ntmps348;go_wp2_with fail;go_ret;exact ⟨rfl,bal _ _⟩
theorem Nf:CB 337 #[.agg #[],.u Q] o (.u (bits .and .u64 Q 2730)):=by go_enter func337,ntmps337;go_wp2_with fail;go_ret;exact ⟨rfl,by go_grown⟩
theorem Ng:CB 339 #[.agg #[],.u Q] o (.u (bits .and .u64 Q 2730)):=by go_enter func339,ntmps339;go_wp2_with fail;go_ret;exact ⟨rfl,by go_grown⟩
theorem Nh:CB 334 #[.agg #[],.u Q] o (.u (ik .mst Q)):=by
 have b:ik .mst Q=if (bits .and .u64 Q 6144==4096)=true then bits .andNot .u64 (bits .and .u64 Q 924074) 6144 else bits .and .u64 Q 924074:=rfl
 cases d:(bits .and .u64 Q 6144==4096) with
 | true =>rw [if_pos d] at b;have F:Hid (ik .mst Q=bits .andNot .u64 (bits .and .u64 Q 924074) 6144):=b;clear b;go_enter func334,ntmps334;go_wp2_with fail;go_ret;exact ⟨a7,by go_grown⟩
 | false =>rw [if_neg (by rw [d];decide)] at b;have F:Hid (ik .mst Q=bits .and .u64 Q 924074):=b;clear b;go_enter func334,ntmps334;go_wp2_with fail;go_ret;exact ⟨a7,by go_grown⟩
theorem JX (j:0<=Q) (l:Q<18446744073709551616) (w:World):CB 342 #[.agg #[],.u Q] w (.u (ik .satp Q)):=by
 have f:Hid (∀ w,Calls prog 344 #[.u Q] w λe g=>e=.returned (.bool (iz Q))/\g=w.drew):=λw=>oe Q j l w;have c:ik .satp Q=if iz Q=true then Q else 0:=rfl
 cases d:iz Q with
 | true =>rw [if_pos d] at c;rw [d] at f;have F:Hid (ik .satp Q=Q):=c;clear c;go_enter func342,ntmps342;go_wp2_with fail;refine (f.out _).mono ?_;rintro e m ⟨rfl,b⟩;subst b;go_wp2_with fail;go_ret;exact ⟨a7,by go_grown⟩
 | false =>rw [if_neg (by rw [d];decide)] at c;rw [d] at f;have F:Hid (ik .satp Q=0):=c;clear c;go_enter func342,ntmps342;go_wp2_with fail;refine (f.out _).mono ?_;rintro e m ⟨rfl,b⟩;subst b;go_wp2_with fail;go_ret;exact ⟨a7,by go_grown⟩
theorem Ni (D:0<=Q) (E:Q<18446744073709551616) (w:World):CB 345 #[.agg #[],.u Q] w (.u (ik .cfg Q)):=by
 have C:Hid (∀ k:Nat,k<5->∀ w,Calls prog 124 #[.u Q,.i k] w λe m=>e=.returned (.u (cQ Q (8*k) 8))/\m=w.drew):=λk u w=>og Q k u D E w;have B:Hid (ik .cfg Q=pK Q 4):=(rfl:ik .cfg Q=_);go_enter func345,ntmps345;go_wp2_with fail;go_loopw [5,8] (λy i wr=>∃ k:Nat,k<=4/\i=.i k/\y=.u (pK Q k)/\Bw w wr)
  (λ_ i _=>4-(intOf i).toNat)
 case atStart=>exact ⟨0,ab,rfl,rfl,by go_grown⟩
 case round =>
  obtain ⟨k,u,rfl,rfl,c⟩:=hrel;by_cases H:k<4
  ·have f:pK Q (k+1)=bits .or .u64 (pK Q k) (Uz.wrap (Bb Q k*2^(8*k))):=rfl;unfold Bb at f;have g:=C.out k ab;generalize cQ Q (8*k) 8=z at *;obtain ⟨q,o⟩:∃ q,8*k=q:=⟨_,rfl⟩;have J:wrap64 (8*(k:Int))=(q:Int):=lg;have A:q<64:=ab;rw [o] at f;have d:decide ((k:Int)<4)=true:=a8;obtain ⟨b,G⟩:∃ b,bits .and .u64 z 159=b:=⟨_,rfl⟩;obtain ⟨y,p⟩:∃ y,y=pK Q k:=⟨_,rfl⟩;rw [G,<- p] at f;rw [<- p];cases t:(bits .and .u64 b 1==0) with
   | true =>
     rw [if_pos t] at f;have F:Hid (pK Q (k+1)=bits .or .u64 y (Uz.wrap (bits .andNot .u64 b 2*2^q))):=f;have j:Hid (∀ w,Calls prog 124 #[.u Q,.i k] w λe m=>e=.returned (.u z)/\m=w.drew):=g;have r:Hid (8*k=q):=o;clear f p g o;go_wp2_with fail;refine (j.out _).mono ?_;rintro e I ⟨rfl,l⟩;subst l;go_wp2_with fail;go_roundw;case rel=>exact ⟨k+1,ab,by go_num,by rw [F.out,r.out],c.drew⟩
     case measure=>simp [intOf];omega
   | false =>
     rw [if_neg (by rw [t];decide)] at f;have F:Hid (pK Q (k+1)=bits .or .u64 y (Uz.wrap (b*2^q))):=f;have j:Hid (∀ w,Calls prog 124 #[.u Q,.i k] w λe m=>e=.returned (.u z)/\m=w.drew):=g;have r:Hid (8*k=q):=o;clear f p g o;go_wp2_with fail;refine (j.out _).mono ?_;rintro e I ⟨rfl,l⟩;subst l;go_wp2_with fail;go_roundw;case rel=>exact ⟨k+1,ab,by go_num,by rw [F.out,r.out],c.drew⟩
     case measure=>simp [intOf];omega
  ·have s:k=4:=ab;subst s;generalize pK Q 4=y at *;go_wp2_with fail;go_ret;exact ⟨by rw [B.out];rfl,c⟩
theorem Fa (k:CK) (x:Int) (a:0<=x) (c:x<18446744073709551616) (w:World):CB k.fitF #[k.val,.u x] w (.u (ik k x)):=by
 cases k with
 | plain b=>exact Hj b x w
 | mst=>exact Nh x w
 | mie=>exact Nf x w
 | mip=>exact Ng x w
 | satp=>exact JX x a c w
 | cfg=>exact Ni x a c w
 | addr e=>exact JW e x w
theorem Hk:CB 340 #[.agg #[],.slice f 22 E,.u e] D (.u 2184):=by go_enter func340,ntmps340;go_wp2_with fail;go_ret;exact ⟨rfl,by go_grown⟩
theorem DD (a:Option Addr) (cap:Nat) (c x:Int) (l:0<=x) (m:x<18446744073709551616) (w:World):CB 343 #[.agg #[],.slice a 22 cap,.u x] w (.u (jx c .satp x)):=by
 have g:Hid (∀ w,Calls prog 344 #[.u x] w λe j=>e=.returned (.bool (iz x))/\j=w.drew):=λw=>oe x l m w;have f:jx c .satp x=if iz x=true then 0 else 18446744073709551615:=rfl
 cases d:iz x with
 | true =>rw [if_pos d] at f;rw [d] at g;have F:Hid (jx c .satp x=0):=f;clear f;go_enter func343,ntmps343;go_wp2_with fail;refine (g.out _).mono ?_;rintro e o ⟨rfl,b⟩;subst b;go_wp2_with fail;go_ret;exact ⟨a7,by go_grown⟩
 | false =>rw [if_neg (by rw [d];decide)] at f;rw [d] at g;have F:Hid (jx c .satp x=18446744073709551615):=f;clear f;go_enter func343,ntmps343;go_wp2_with fail;refine (g.out _).mono ?_;rintro e o ⟨rfl,b⟩;subst b;go_wp2_with fail;go_ret;exact ⟨a7,by go_grown⟩
theorem Hm (a:Option Addr) (cap:Nat) (l:List Int) (x:Int) (w:World) (hz:l.length=22) (hs:Sl .u64 w a l) (hl:∀ j,0<=l.getD j 0/\l.getD j 0<18446744073709551616):CB 346 #[.agg #[],.slice a 22 cap,.u x] w (.u (jx (l.getD 16 0) .cfg x)):=by
 obtain ⟨J,B,rfl,u,z⟩:=hs 16 ab;have E:=hl 16;have G:Hid (jx (l.getD 16 0) .cfg x=gQ (l.getD 16 0) 4):=(rfl:jx (l.getD 16 0) .cfg x=_);generalize l.getD 16 0=c at *;have H:Hid (∀ k:Nat,k<5->∀ w,Calls prog 347 #[.u c,.i k] w λe r=>e=.returned (.bool (fN c k))/\r=w.drew):=λk C w=>mo c k C E.1 E.2 w;clear hs hl hz;go_enter func346,ntmps346;go_wp2_with fail;go_loopw [7,9] (λy i wr=>∃ k:Nat,k<=4/\i=.i k/\y=.u (gQ c k)/\Bw w wr)
  (λ_ i _=>4-(intOf i).toNat)
 case atStart=>exact ⟨0,ab,rfl,rfl,by go_grown⟩
 case round =>
  obtain ⟨k,C,rfl,rfl,b⟩:=hrel;by_cases L:k<4
  ·have m:gQ c (k+1)=if fN c k=true then bits .or .u64 (gQ c k) (Uz.wrap (255*2^(8*k))) else gQ c k:=rfl
   have f:=H.out k ab;have K:wr.cell? ⟨J,B+16,none⟩=some (.u c):=(b.cell x7).trans z;obtain ⟨q,s⟩:∃ q,8*k=q:=⟨_,rfl⟩;have N:wrap64 (8*(k:Int))=(q:Int):=lg;have D:q<64:=ab;rw [s] at m;have d:decide ((k:Int)<4)=true:=a8;obtain ⟨y,t⟩:∃ y,y=gQ c k:=⟨_,rfl⟩;rw [<- t] at m;rw [<- t];cases g:fN c k with
   | true =>
     rw [if_pos g] at m;rw [g] at f;have F:Hid (gQ c (k+1)=bits .or .u64 y (Uz.wrap (255*2^q))):=m;have o:Hid (∀ w,Calls prog 347 #[.u c,.i k] w λe r=>e=.returned (.bool true)/\r=w.drew):=f;have I:Hid (8*k=q):=s;clear m t f s z g;go_wp2_with fail;refine (o.out _).mono ?_;rintro e M ⟨rfl,p⟩;subst p;go_wp2_with fail;go_roundw;case rel=>exact ⟨k+1,ab,by go_num,by rw [F.out,I.out],b.drew⟩
     case measure=>simp [intOf];omega
   | false =>
     rw [if_neg (by rw [g];decide)] at m;rw [g] at f;have F:Hid (gQ c (k+1)=y):=m;have o:Hid (∀ w,Calls prog 347 #[.u c,.i k] w λe r=>e=.returned (.bool false)/\r=w.drew):=f;clear m t f s z g;go_wp2_with fail;refine (o.out _).mono ?_;rintro e M ⟨rfl,p⟩;subst p;go_wp2_with fail;go_roundw;case rel=>exact ⟨k+1,ab,by go_num,by rw [F.out],b.drew⟩
     case measure=>simp [intOf];omega
  ·have A:k=4:=ab;subst A;generalize gQ c 4=y at *;go_wp2_with fail;go_ret;exact ⟨by rw [G.out];rfl,b⟩
theorem DE (D:L<4) (a:Option Addr) (cap:Nat) (l:List Int) (x:Int) (w:World) (hz:l.length=22) (hs:Sl .u64 w a l) (hl:∀ j,0<=l.getD j 0/\l.getD j 0<18446744073709551616): CB 349 #[.agg #[.i L],.slice a 22 cap,.u x] w (.u (jx (l.getD 16 0) (.addr L) x)):=by
 obtain ⟨C,A,rfl,z,t⟩:=hs 16 ab;have s:=hl 16;have H:∀ o,(w.alloc o).cell? ⟨C,A+16,none⟩=some (.u (l.getD 16 0)):=λo=>(((Below.refl w.heap.size w).alloc (Nat.le_refl _) o).cell (by exact z)).trans t;have m:jx (l.getD 16 0) (.addr L) x=if (fN (l.getD 16 0) L||(fN (l.getD 16 0) (L+1)&&(iN (l.getD 16 0) (L+1)==1)))=true then 18446744073709551615 else 0:=rfl
 generalize l.getD 16 0=c at *;have u:Hid (∀ w,Calls prog 347 #[.u c,.i L] w λe q=>e=.returned (.bool (fN c L))/\q=w.drew):=λw=>mo c L ab s.1 s.2 w;have y:Hid (∀ w,Calls prog 347 #[.u c,.i ((L:Int)+1)] w λe q=>e=.returned (.bool (fN c (L+1)))/\q=w.drew):=λw=>mo c (L+1) ab s.1 s.2 w;have B:Hid (∀ w,Calls prog 190 #[.u c,.i ((L:Int)+1)] w λe q=>e=.returned (.u (iN c (L+1)))/\q=w.drew):=λw=>qk c (L+1) ab s.1 s.2 w;generalize jx c (.addr L) x=g at *;generalize fN c L=E at *;generalize fN c (L+1)=G at *;generalize iN c (L+1)=r at *;clear hs hl hz t;cases E with
 | true =>have F:Hid (g=18446744073709551615):=(by show g=_;rw [m];rfl);clear m;go_enter func349,ntmps349;go_wp2_with fail;refine (u.out _).mono ?_;rintro e p ⟨rfl,b⟩;subst b;go_wp2_with fail;go_ret;exact ⟨a7,by go_grown⟩
 | false =>
   cases G with
   | false =>have F:Hid (g=0):=(by show g=_;rw [m];rfl);clear m;go_enter func349,ntmps349;go_wp2_with fail;refine (u.out _).mono ?_;rintro e p ⟨rfl,b⟩;subst b;go_wp2_with fail;refine (y.out _).mono ?_;rintro e p ⟨rfl,b⟩;subst b;go_wp2_with fail;go_ret;exact ⟨a7,by go_grown⟩
   | true =>
     cases d:(r==1) with
     | true =>have F:Hid (g=18446744073709551615):=(by show g=_;rw [m,d];rfl);clear m;go_enter func349,ntmps349;go_wp2_with fail;refine (u.out _).mono ?_;rintro e p ⟨rfl,b⟩;subst b;go_wp2_with fail;refine (y.out _).mono ?_;rintro e p ⟨rfl,b⟩;subst b;go_wp2_with fail;refine (B.out _).mono ?_;rintro e p ⟨rfl,b⟩;subst b;go_wp2_with fail;go_ret;exact ⟨a7,by go_grown⟩
     | false =>have F:Hid (g=0):=(by show g=_;rw [m,d];rfl);clear m;go_enter func349,ntmps349;go_wp2_with fail;refine (u.out _).mono ?_;rintro e p ⟨rfl,b⟩;subst b;go_wp2_with fail;refine (y.out _).mono ?_;rintro e p ⟨rfl,b⟩;subst b;go_wp2_with fail;refine (B.out _).mono ?_;rintro e p ⟨rfl,b⟩;subst b;go_wp2_with fail;go_ret;exact ⟨a7,by go_grown⟩
def CK.sees:CK->Bool
 | .mst=>true | .mie=>true | .mip=>true | _=>false
def CK.holds:CK->Bool
 | .mip=>true | .satp=>true | .cfg=>true | .addr _=>true | _=>false
def nH:CK->Int
 | .mst=>256 | .mie=>260 | .mip=>324 | _=>0
def uK (m:Int):CK->Int
 | .mst=>786722 | .mie=>m | .mip=>m | _=>0
def uL (m:Int):CK->Int
 | .mst=>786722 | .mie=>m | .mip=>bits .and .u64 m 2 | _=>0
theorem JY (k:CK) (hk:k.sees=true) (m:Int) (w:World):CB k.viewF #[k.val,.u m] w (.agg #[.i (nH k),.u (uK m k),.u (uL m k)]):=by
 cases k with
 | plain b=>cases hk
 | satp=>cases hk
 | cfg=>cases hk
 | addr e=>cases hk
 | mst =>simp only [CK.viewF,CK.val,nH,uK,uL];go_enter func335,ntmps335;go_wp2_with fail;go_returns;exact ⟨rfl,by go_grown⟩
 | mie =>simp only [CK.viewF,CK.val,nH,uK,uL];go_enter func338,ntmps338;go_wp2_with fail;go_returns;exact ⟨rfl,by go_grown⟩
 | mip =>simp only [CK.viewF,CK.val,nH,uK,uL];go_enter func341,ntmps341;go_wp2_with fail;go_returns;exact ⟨rfl,by go_grown⟩
def dA (l:List Int):Nat->Nat->Bool
 | 0,_=>true
 | n+1,k=>(ik (fY k).2 (l.getD k 0)==l.getD k 0)&&dA l n (k+1)
def jR (n:Nat) (l:List Int):Bool:=decide (n=22)&&dA l 22 0
theorem yO (hk:z<22) (h:(ik (fY z).2 (P.getD z 0)==P.getD z 0)=true):dA P (22-z) z=dA P (22-(z+1)) (z+1):=by rw [show 22-z=(22-(z+1))+1 from ab,dA,h,Bool.true_and]
theorem Bc (hk:z<22) (h:(ik (fY z).2 (P.getD z 0)==P.getD z 0)=false):dA P (22-z) z=false:=by rw [show 22-z=(22-(z+1))+1 from ab,dA,h,Bool.false_and]
theorem xw (k:CK) (w:World):(method 453 k.ty k.val "loop.example/g00134/impl.fit").run prog w=.ok (k.fitF,k.val) w:=by cases k<;>kernel_rfl
theorem ql (h:(prog.funcs[w]?).map (λa=>(a.name == "runtime.NumGoroutine",a.body.isSome))=some (false,true)) (args:Array Value) (n:World):(callFunc w args).run prog n=.ok (.enter w args) n:=by
 cases b:prog.funcs[w]? with
 | none=>rw [b] at h;cases h
 | some a =>rw [b] at h;simp only [Option.map_some,Option.some.injEq,Prod.mk.injEq] at h;have d:a.name≠ "runtime.NumGoroutine":=(by simpa using h.1);obtain ⟨c,e⟩:=Option.isSome_iff_exists.mp h.2;simp [callFunc,b,d,e,mark]
theorem uM (k:CK):(prog.funcs[k.fitF]?).map (λa=>(a.name == "runtime.NumGoroutine",a.body.isSome))=some (false,true):=by cases k<;>kernel_rfl
theorem Ho (k:CK) (x:Int) (c:0<=x) (d:x<18446744073709551616) (w:World) (p q:Addr) (u v:Value) (a:w.cell? p=some u/\w.cell? q=some v) :
 Calls prog k.fitF #[k.val,.u x] w λe b=>e=.returned (.u (ik k x))/\Bw w b/\b.cell? p=some u/\b.cell? q=some v :=
 (Fa k x c d w).mono λe b h=>⟨h.1,h.2,(h.2.cell (World.block_lt_of_cell? _ _ a.1)).trans a.1,(h.2.cell (World.block_lt_of_cell? _ _ a.2)).trans a.2⟩
theorem lw (a:Option Addr) (n cap:Nat) (l:List Int) (w:World) (hz:l.length=n) (hs:Sl .u64 w a l) (hl:∀ j,0<=l.getD j 0/\l.getD j 0<18446744073709551616):CB 72 #[.slice a n cap] w (.bool (jR n l)):=by
 by_cases D:n=22
 ·have q:jR n l=dA l 22 0:=(by simp [jR,D]);rw [q];have N:Hid (l.length=n):=hz;have L:Hid (∀ j,0<=l.getD j 0/\l.getD j 0<18446744073709551616):=hl;subst D;clear hz q hl;go_enter func72,ntmps72;go_wp2_with fail;refine (oR _).mono ?_;rintro e w1 ⟨T,rfl,M,P⟩;go_wp2_with fail;go_loopw [9] (λi wr=>∃ k:Nat,k<=22/\i=.i k/\Hid (dA l (22-k) k=dA l 22 0)/\Bw w wr)
   (λi _=>22-(intOf i).toNat)
  case atStart=>exact ⟨0,ab,rfl,(rfl:dA l (22-0) 0=dA l 22 0),P⟩
  case round =>
   obtain ⟨k,Y,rfl,B,c⟩:=hrel;by_cases g:k<22
   ·obtain ⟨b,m,rfl,A,Q⟩:=hs k (by rw [N.out];exact g);have J:=L.out k;obtain ⟨r,t⟩:∃ r,r=fY k:=⟨_,rfl⟩;have HR:Hid (r=fY k):=t;have o:(ik r.2 (l.getD k 0)==l.getD k 0)=true->Hid (dA l (22-(k+1)) (k+1)=dA l 22 0):=λh=>(yO l k g (by rw [<- t];exact h)).symm.trans B.out;have I:(ik r.2 (l.getD k 0)==l.getD k 0)=false->Hid (dA l 22 0=false):=λh=>B.out.symm.trans (Bc l k g (by rw [<- t];exact h));have f:Hid ((ik r.2 (l.getD k 0)==l.getD k 0)=true->Hid (dA l (22-(k+1)) (k+1)=dA l 22 0)):=o;have s:Hid ((ik r.2 (l.getD k 0)==l.getD k 0)=false->Hid (dA l 22 0=false)):=I;clear t o I;have X:decide ((k:Int)<22)=true:=a8;have S:(0:Int)<=(k:Int):=ab;have U:(k:Int)<22:=ab;have V:=xw r.2;have O:=ql (uM r.2);have R:wr.cell? ⟨b,m+k,none⟩=some (.u (l.getD k 0)):=(c.cell (by exact A)).trans Q;generalize l.getD k 0=x at *;go_wp2_with (first | refine gX M .i64 k g r HR rfl (.tmp 8) (.tmp 9) rfl rfl rfl ?_);go_region_held3 (λu=>u.cell? ⟨wr.heap.size,1,none⟩=some (.iface r.2.ty r.2.val)/\u.cell? ⟨b,m+k,none⟩=some (.u x)) (go_keep) (first | (refine (Ho r.2 x J.1 J.2 _ ⟨wr.heap.size,1,none⟩ ⟨b,m+k,none⟩ (.iface r.2.ty r.2.val) (.u x) ?_).mono ?_;(first | assumption | (simp [*]));rintro e W ⟨rfl,p,E,G⟩));have H:Hid (Bw w W):=(by show Below _ _ _;refine aa (w1:=(wr.alloc (Obj.cells #[.i r.1,.iface r.2.ty r.2.val] 148)).drew) ?_ p;exact (c.alloc c.size _).drew);clear p E G V O;obtain ⟨y,K⟩:∃ y,ik r.2 x=y:=⟨_,rfl⟩;rw [K] at f s ⊢;clear K;cases d:(y==x) with
    | true =>
      have F:=f.out d;have z:(y != x)=false:=(by simp [bne,d]);clear f s d;rw [z];go_wp2_with fail;go_roundw;case rel=>exact ⟨k+1,ab,by go_num,F,H.out⟩
      case measure=>simp [intOf];omega
    | false =>have F:=s.out d;have z:(y != x)=true:=(by simp [bne,d]);clear f s d;rw [z];go_wp2_with fail;go_ret;exact ⟨a7,H.out⟩
   ·have C:k=22:=ab;subst C;have F:Hid (dA l 22 0=true):=B.out.symm;go_wp2_with fail;go_ret;exact ⟨a7,c⟩
 ·have F:Hid (jR n l=false):=(by show _=_;simp [jR,D]);have d:((n:Int) != 22)=true:=a8;clear hz hs;go_enter func72,ntmps72;exact a0b
structure Vw where
 at_:Int
 num:Int
 rd:Int
 wr:Int
 ok:Bool
def Vw.cells (v:Vw):Array Value:=#[.i v.num,.u v.rd,.u v.wr]
def cO (n m:Int):Nat->Nat->Vw
 | 0,_=>⟨-1,0,0,0,false⟩
 | f+1,k=>if ((fY k).1==n)=true then ⟨k,n,18446744073709551615,18446744073709551615,true⟩
   else if ((fY k).2.sees&&(nH (fY k).2==n))=true then ⟨k,nH (fY k).2,uK m (fY k).2,uL m (fY k).2,true⟩ else cO n m f (k+1)
theorem Hp (hk:E<22) (r:Int × CK) (hr:r=fY E) (h:(r.1==Q)=true):cO Q s (22-E) E=⟨E,Q,18446744073709551615,18446744073709551615,true⟩:=by subst hr;rw [show 22-E=(22-(E+1))+1 from ab,cO,if_pos h]
theorem DF (hk:E<22) (r:Int × CK) (hr:r=fY E) (h:(r.1==Q)=false) (a:r.2.sees=true) (b:(nH r.2==Q)=true):cO Q s (22-E) E=⟨E,nH r.2,uK s r.2,uL s r.2,true⟩:=by subst hr;rw [show 22-E=(22-(E+1))+1 from ab,cO,if_neg (by rw [h];decide),a,b];rfl
theorem uN (hk:E<22) (r:Int × CK) (hr:r=fY E) (h:(r.1==Q)=false) (a:(r.2.sees&&(nH r.2==Q))=false):cO Q s (22-E) E=cO Q s (22-(E+1)) (E+1):=by subst hr;rw [show 22-E=(22-(E+1))+1 from ab,cO,if_neg (by rw [h];decide),a,if_neg a6]
theorem DG (k:CK) (hk:k.sees=true) (w:World):(method 453 k.ty k.val "loop.example/g00134/impl.view").run prog w=.ok (k.viewF,k.val) w:=by cases k<;>first | (cases hk;done) | kernel_rfl
theorem Bd (k:CK) (hk:k.sees=true):(prog.funcs[k.viewF]?).map (λa=>(a.name == "runtime.NumGoroutine",a.body.isSome))=some (false,true):=by cases k<;>first | (cases hk;done) | kernel_rfl
theorem JZ (k:CK) (hk:k.sees=true) (a:TypeId) (w:World):(Instr.typeAssert (.iface k.ty k.val) a 319 true).run prog w=.ok (.tuple #[.iface k.ty k.val,.bool true]) w:=by cases k<;>first | (cases hk;done) | exact run_typeAssert_hasB underlying319 a4 _ a w
theorem DH (k:CK) (hk:k.sees=false) (a:TypeId) (w:World):(Instr.typeAssert (.iface k.ty k.val) a 319 true).run prog w=.ok (.tuple #[.nilIface,.bool false]) w:=by cases k<;>first | (cases hk;done) | exact run_typeAssert_lacksB underlying319 a4 a4 _ a w
theorem oh {P:Program} {fn:Func} {s p u:Tmp} {ty:TypeId} (h:fn.results=#[.tmp s,.cell p ty,.tmp u]) (tmps:Array Value) (w:World) (g:Nat) (t:TypeId) (cs:Array Value) (e:Nat × Nat) (d:TypeDesc) (k:tmps.getD p undef=.p g 0) (i:w.heap[g]?=some (.cells cs t e)) (l:P.underlying ty=some d) (hd:(match d with | .struct _ | .array _ _=>true | _=>false)=true) (j:(P.info? ty).map (·.size)=some cs.size):(results fn tmps).run P w=.ok (.tuple #[tmps.getD s undef,.agg cs,tmps.getD u undef]) w:=by
 have f:(results fn tmps).run P w=((asAddr (tmps.getD p undef)).run P w).andThen λa b=>((loadVar ty a).run P b).andThen λv c=>.ok (.tuple #[tmps.getD s undef,v,tmps.getD u undef]) c:=by simp only [results,h];simp [Sem.run_bind,Result.andThen]
 rw [f,k];simp [asAddr,run_loadVar_row w g t ty cs e d i l hd j]
theorem ng {cs:Array Value} {a:Nat × Nat} (h:n.heap[w]?=some (.cells cs B a)) (i:Nat) (v:Value): (n.setCell ⟨w,i,none⟩ v).heap[w]?=some (.cells (cs.setIfInBounds i v) B a):=by simp [World.setCell,Array.getElem?_modify,h]
theorem qm:(prog.info? 308).map (·.size)=some 3:=by kernel_rfl
theorem J0:(#[Value.int .i64 Q,.u s,.u e]:Array Value).all (·.oneCell')=true:=by simp [Value.oneCell']
theorem uO: CB 267 #[.i Q,.u s] o (.tuple #[.i (cO Q s 22 0).at_,.agg (cO Q s 22 0).cells,.bool (cO Q s 22 0).ok]):=by
 obtain ⟨V,U⟩:∃ V,V=cO Q s 22 0:=⟨_,rfl⟩;rw [<- U];obtain ⟨p,l⟩:∃ p,p=o.alloc (.cells #[.i 0,.u 0,.u 0] 308):=⟨_,rfl⟩;have HW0:Hid (p=o.alloc (.cells #[.i 0,.u 0,.u 0] 308)):=l;have W:Hid (cO Q s (22-0) 0=V):=U.symm;have J:p.heap[o.heap.size]?=some (.cells #[.i 0,.u 0,.u 0] 308 (0,0)):=by rw [l];exact heap_alloc_new _ _
 have B:Hid (p.heap[o.heap.size]?=some (.cells #[.i 0,.u 0,.u 0] 308 (0,0))):=J;have c:o.heap.size<p.heap.size:=by rw [l];simp
 have t:Hid (Bw o p):=by show Below _ _ _;rw [l];exact bal _ _
 clear U J;go_enter func267,ntmps267;go_wp2_with fail;rw [<- l];clear l;refine (oR _).mono ?_;rintro e w1 ⟨T,rfl,n,hb⟩;go_wp2_with fail;go_loopw [13] (λi wr=>∃ k:Nat,k<=22/\i=.i k/\Hid (cO Q s (22-k) k=V)/\Bw p wr)
  (λi _=>22-(intOf i).toNat)
 case atStart=>exact ⟨0,ab,rfl,W,hb⟩
 case round =>
  obtain ⟨k,hk,rfl,I,b⟩:=hrel;by_cases j:k<22
  ·obtain ⟨r,hr⟩:∃ r,r=fY k:=⟨_,rfl⟩;have HR:Hid (r=fY k):=hr;clear hr;have dk:decide ((k:Int)<22)=true:=a8;have g:wr.heap[o.heap.size]?=some (.cells #[.i 0,.u 0,.u 0] 308 (0,0)):=(by rw [b.block _ c];exact B.out);cases N:(r.1==Q) with
   | true =>have F:Hid (V=⟨k,Q,18446744073709551615,18446744073709551615,true⟩):=I.out.symm.trans (Hp Q s k j r HR.out N);have y:∀ w,(wr.alloc w).heap[o.heap.size]?=some (.cells #[.i 0,.u 0,.u 0] 308 (0,0)):=(by intro w;rw [((Below.refl wr.heap.size wr).alloc (Nat.le_refl _) w).block _ (Nat.lt_of_lt_of_le c b.size)];exact g);have q:Hid (∀ w,(wr.alloc w).heap[o.heap.size]?=some (.cells #[.i 0,.u 0,.u 0] 308 (0,0))):=y;clear g y;go_wp2_with (first | refine gX n .i64 k j r HR rfl (.tmp 12) (.tmp 13) rfl rfl rfl ?_ | (refine wpList_store_rowTo rfl 308 (.tmp 5) (.tmp 23) rfl rfl o.heap.size #[.i Q,.u 18446744073709551615,.u 18446744073709551615] rfl rfl 308 _ (q.out _) qm rfl (J0 _ _ _) ?_));refine bodyPost_ret (oh results267 _ _ o.heap.size _ _ _ _ rfl (setRow_heap _ _ _ _ _ _ (q.out _)) underlying308 rfl qm) rfl ⟨a7,?_⟩;exact aF (Below.alloc (aa t.out b) (aa t.out b).size _) (Nat.le_refl _) _
   | false =>
     cases u:r.2.sees with
     | false =>
       have F:Hid (cO Q s (22-(k+1)) (k+1)=V):=(uN Q s k j r HR.out N (by rw [u];rfl)).symm.trans I.out;have hla:=DH r.2 u;clear g;go_wp2_with (first | refine gX n .i64 k j r HR rfl (.tmp 12) (.tmp 13) rfl rfl rfl ?_);go_roundw;case rel=>exact ⟨k+1,ab,by go_num,F,b.alloc b.size _⟩
       case measure=>simp [intOf];omega
     | true =>
       have X:=JZ r.2 u;have mf:=DG r.2 u;have en:=ql (Bd r.2 u);clear g;go_wp2_with (first | refine gX n .i64 k j r HR rfl (.tmp 12) (.tmp 13) rfl rfl rfl ?_);refine (JY r.2 u s _).mono ?_;rintro e d ⟨rfl,H⟩;have M:Bw p d:=aa (b.alloc b.size _) H;have A:Hid (Bw p d):=M;have C:d.heap[o.heap.size]?=some (.cells #[.i 0,.u 0,.u 0] 308 (0,0)):=(by rw [M.block _ c];exact B.out);have z:o.heap.size<d.heap.size:=Nat.lt_of_lt_of_le c M.size;have f:Hid (d.heap[o.heap.size]?=some (.cells #[.i 0,.u 0,.u 0] 308 (0,0))):=C;have K:∀ w,(d.alloc w).heap[o.heap.size]?=some (.cells #[.i 0,.u 0,.u 0] 308 (0,0)):=(by intro w;rw [((Below.refl d.heap.size d).alloc (Nat.le_refl _) w).block _ z];exact C);have HG3:Hid (∀ w,(d.alloc w).heap[o.heap.size]?=some (.cells #[.i 0,.u 0,.u 0] 308 (0,0))):=K;have vn:Hid (r.1==Q)=Hid (r.1==Q):=rfl;obtain ⟨G,m⟩:∃ v,nH r.2=v:=⟨_,rfl⟩;obtain ⟨O,D⟩:∃ v,uK s r.2=v:=⟨_,rfl⟩;obtain ⟨P,E⟩:∃ v,uL s r.2=v:=⟨_,rfl⟩;have R:Hid ((G==Q)=false->Hid (cO Q s (22-(k+1)) (k+1)=V)):=λh=>(uN Q s k j r HR.out N (by rw [u,m,h];rfl)).symm.trans I.out;have S:Hid ((G==Q)=true->Hid (V=⟨k,G,O,P,true⟩)):=λh=>I.out.symm.trans (by rw [DF Q s k j r HR.out N u (by rw [m];exact h),m,D,E]);rw [m,D,E];clear vn m D E C K M H mf en X;cases d3:(G==Q) with
       | false =>
         have F:=R.out d3;clear R S;go_wp2_with fail;go_roundw;case rel=>exact ⟨k+1,ab,by go_num,F,A.out.alloc A.out.size _⟩
         case measure=>simp [intOf];omega
       | true =>
         have F:=S.out d3;clear R S;have c0:d.cell? ⟨o.heap.size,0,none⟩=some (.i 0):=cell_of_row _ _ _ _ _ _ f.out;have c1:d.cell? ⟨o.heap.size,1,none⟩=some (.u 0):=cell_of_row _ _ _ _ _ _ f.out;have c2:d.cell? ⟨o.heap.size,2,none⟩=some (.u 0):=cell_of_row _ _ _ _ _ _ f.out;have f0:d.frozen? ⟨o.heap.size,0,none⟩=false:=frozen_of_row _ _ _ _ _ f.out;have f1:d.frozen? ⟨o.heap.size,1,none⟩=false:=frozen_of_row _ _ _ _ _ f.out;have f2:d.frozen? ⟨o.heap.size,2,none⟩=false:=frozen_of_row _ _ _ _ _ f.out;go_wp2_with fail;go_region;all_goals go_wp2_with fail
         have L:((((d.setCell ⟨o.heap.size,0,none⟩ (.i G)).setCell ⟨o.heap.size,1,none⟩ (.u O)).setCell ⟨o.heap.size,2,none⟩ (.u P)).alloc (.cells #[.i G,.u O,.u P] 308)).drew.heap[o.heap.size]?=some (.cells #[.i G,.u O,.u P] 308 (0,0)):=(by show (World.alloc _ _).heap[o.heap.size]?=_;rw [(bal _ _).block _ (by simpa [World.setCell] using z)];exact ng (ng (ng f.out 0 _) 1 _) 2 _);refine bodyPost_ret (oh results267 _ _ o.heap.size _ _ _ _ rfl L underlying308 rfl qm) rfl ⟨a7,?_⟩;have Z:=aa t.out A.out;refine Below.drew (Below.alloc (((Z.setCell (Nat.le_refl _) _).setCell (Nat.le_refl _) _).setCell (Nat.le_refl _) _) ?_ _);simpa [World.setCell] using Z.size
  ·have Y:k=22:=ab;subst Y;have F:Hid (V=⟨-1,0,0,0,false⟩):=I.out.symm;have g:wr.heap[o.heap.size]?=some (.cells #[.i 0,.u 0,.u 0] 308 (0,0)):=(by rw [b.block _ c];exact B.out);have q:Hid (wr.heap[o.heap.size]?=some (.cells #[.i 0,.u 0,.u 0] 308 (0,0))):=g;clear g;go_wp2_with (first | (refine wpList_store_rowTo rfl 308 (.tmp 5) (.tmp 41) rfl rfl o.heap.size #[.i 0,.u 0,.u 0] rfl rfl 308 _ q.out qm rfl (J0 _ _ _) ?_));refine bodyPost_ret (oh results267 _ _ o.heap.size _ _ _ _ rfl (setRow_heap _ _ _ _ _ _ q.out) underlying308 rfl qm) rfl ⟨a7,?_⟩;exact aF (aa t.out b) (Nat.le_refl _) _
def CK.goodB:CK->Bool
 | .addr e=>decide (e<4) | _=>true
theorem Nj:∀ k,k<22->(fY k).2.goodB=true:=by decide
theorem Hq (k:CK) (hk:k.holds=true) (f:k.goodB=true) (a:Option Addr) (cap:Nat) (l:List Int) (x:Int) (w:World) (hz:l.length=22) (hs:Sl .u64 w a l) (hl:∀ j,0<=l.getD j 0/\l.getD j 0<18446744073709551616) (c:0<=x) (d:x<18446744073709551616):CB k.staysF #[k.val,.slice a 22 cap,.u x] w (.u (jx (l.getD 16 0) k x)):=by
 cases k with
 | plain b=>cases hk
 | mst=>cases hk
 | mie=>cases hk
 | mip=>exact Hk a cap x w
 | satp=>exact DD a cap _ x c d w
 | cfg=>exact Hm a cap l x w hz hs hl
 | addr e=>exact DE e (by simpa [CK.goodB] using f) a cap l x w hz hs hl
theorem Be (k:CK) (hk:k.holds=true) (w:World):(method 453 k.ty k.val "loop.example/g00134/impl.stays").run prog w=.ok (k.staysF,k.val) w:=by cases k<;>first | (cases hk;done) | kernel_rfl
theorem yP (k:CK) (hk:k.holds=true):(prog.funcs[k.staysF]?).map (λa=>(a.name == "runtime.NumGoroutine",a.body.isSome))=some (false,true):=by cases k<;>first | (cases hk;done) | kernel_rfl
theorem Hr (k:CK) (hk:k.holds=true) (a:TypeId) (w:World):(Instr.typeAssert (.iface k.ty k.val) a 323 true).run prog w=.ok (.tuple #[.iface k.ty k.val,.bool true]) w:=by cases k<;>first | (cases hk;done) | exact run_typeAssert_hasB underlying323 a4 _ a w
theorem Bf (k:CK) (hk:k.holds=false) (a:TypeId) (w:World):(Instr.typeAssert (.iface k.ty k.val) a 323 true).run prog w=.ok (.tuple #[.nilIface,.bool false]) w:=by cases k<;>first | (cases hk;done) | exact run_typeAssert_lacksB underlying323 a4 a4 _ a w
def ly (c:Int) (k:CK) (wr x:Int):Int:=if k.holds=true then bits .andNot .u64 wr (jx c k x) else wr
def kH (l:List Int) (k:Nat) (wr x:Int):Int :=
 bits .or .u64 (bits .andNot .u64 (l.getD k 0) (ly (l.getD 16 0) (fY k).2 wr x)) (bits .and .u64 (ik (fY k).2 x) (ly (l.getD 16 0) (fY k).2 wr x))
theorem uP (k:CK) (x:Int) (c:0<=x) (d:x<18446744073709551616) (w:World) (p:Addr) (u:Value) (b:w.cell? p=some u) :
 Calls prog k.fitF #[k.val,.u x] w λe a=>e=.returned (.u (ik k x))/\Bw w a/\a.cell? p=some u :=
 (Fa k x c d w).mono λe a h=>⟨h.1,h.2,(h.2.cell (World.block_lt_of_cell? _ _ b)).trans b⟩
theorem DI (t:TypeId) (v:Value) (w:World):(Instr.field 148 (.agg #[.i Q,.iface t v]) 1).run prog w=.ok (.iface t v) w:=by kernel_rfl
theorem DJ (a:Option Addr) (cap:Nat) (l:List Int) (k:Nat) (hk:k<22) (wr x:Int) (w:World) (hz:l.length=22) (hs:Sl .u64 w a l) (hl:∀ j,0<=l.getD j 0/\l.getD j 0<18446744073709551616) (D:0<=x) (E:x<18446744073709551616):CB 270 #[.slice a 22 cap,.i k,.u wr,.u x] w (.u (kH l k wr x)):=by
 have g:kH l k wr x=bits .or .u64 (bits .andNot .u64 (l.getD k 0) (ly (l.getD 16 0) (fY k).2 wr x)) (bits .and .u64 (ik (fY k).2 x) (ly (l.getD 16 0) (fY k).2 wr x)):=rfl;have z:=Nj k hk;have I:=hs k ab;have m:Hid (∀ (K:CK),K.holds=true->K.goodB=true->∀ w,Sl .u64 w a l->CB K.staysF #[K.val,.slice a 22 cap,.u x] w (.u (jx (l.getD 16 0) K x))):=λK S U w hs=>Hq K S U a cap l x w hz hs hl D E;have Q:Hid (Sl .u64 w a l):=hs;obtain ⟨r,L⟩:∃ r,r=fY k:=⟨_,rfl⟩;have HR:Hid (r=fY k):=L;rw [<- L] at g z;obtain ⟨b,c,rfl,u,O⟩:=I;generalize l.getD k 0=y at *;have X:(0:Int)<=(k:Int):=ab
 have Y:(k:Int)<22:=ab
 have mf:=xw r.2;have en:=ql (uM r.2);have V:=DI r.1 r.2.ty r.2.val;clear L hz hl hs;cases d:r.2.holds with
 | false =>have q:ly (l.getD 16 0) r.2 wr x=wr:=(by simp [ly,d]);rw [q] at g;have F:Hid (kH l k wr x=bits .or .u64 (bits .andNot .u64 y wr) (bits .and .u64 (ik r.2 x) wr)):=g;clear g q m;have Z:=Bf r.2 d;go_enter func270,ntmps270;go_wp2_with fail;refine (oR _).mono ?_;rintro e w1 ⟨T,rfl,C,t⟩;have H:w1.cell? ⟨b,c+k,none⟩=some (.u y):=(t.cell x7).trans O;go_wp2_with (first | refine gX C .i64 k hk r HR rfl (.tmp 12) (.tmp 13) rfl rfl rfl ?_);go_region_held3 (λf=>f.cell? ⟨b,c+k,none⟩=some (.u y)) (go_keep) (first | (refine (uP r.2 x D E _ ⟨b,c+k,none⟩ (.u y) ?_).mono ?_;(first | assumption | (simp [*]));rintro e w2 ⟨rfl,o,J⟩));go_wp2_with fail;go_ret;exact ⟨a7,aa (w1:=w1.drew) t.drew o⟩
 | true =>obtain ⟨A,p⟩:∃ A,jx (l.getD 16 0) r.2 x=A:=⟨_,rfl⟩;have q:ly (l.getD 16 0) r.2 wr x=bits .andNot .u64 wr A:=(by unfold ly;rw [if_pos d,p]);rw [q] at g;obtain ⟨B,M⟩:∃ B,bits .andNot .u64 wr A=B:=⟨_,rfl⟩;rw [M] at g;have F:Hid (kH l k wr x=bits .or .u64 (bits .andNot .u64 y B) (bits .and .u64 (ik r.2 x) B)):=g;have s:Hid (∀ w,Sl .u64 w (some ⟨b,c,none⟩) l->CB r.2.staysF #[r.2.val,.slice (some ⟨b,c,none⟩) 22 cap,.u x] w (.u A)):=(by rw [<- p];exact m.out r.2 d z);clear g q m p;have W:=Hr r.2 d;have mf2:=Be r.2 d;have R:=ql (yP r.2 d);go_enter func270,ntmps270;go_wp2_with fail;refine (oR _).mono ?_;rintro e w1 ⟨T,rfl,C,t⟩;go_wp2_with (first | refine gX C .i64 k hk r HR rfl (.tmp 12) (.tmp 13) rfl rfl rfl ?_);refine (s.out _ (Q.out.below t)).mono ?_;rintro e P ⟨rfl,G⟩;have N:=aa t G;have H:P.cell? ⟨b,c+k,none⟩=some (.u y):=(N.cell x7).trans O;go_wp2_with fail;go_region_held3 (λf=>f.cell? ⟨b,c+k,none⟩=some (.u y)) (go_keep) (first | (refine (uP r.2 x D E _ ⟨b,c+k,none⟩ (.u y) ?_).mono ?_;(first | assumption | (simp [*]));rintro e w2 ⟨rfl,o,J⟩));go_wp2_with fail;go_ret;exact ⟨a7,aa (w1:=P.drew) N.drew o⟩
theorem uQ:CE 125 #[.i Q] o (.bool (bN Q)):=by
 have F:Hid (bN Q=((Q==0)||(Q==1)||(Q==3))):=(rfl:bN Q=_);cases b:(Q==0) with
 | true =>rw [b] at F;exact a0k
 | false =>
   cases c:(Q==1) with
   | true =>rw [b,c] at F;exact a0k
   | false =>rw [b,c] at F;exact a0k
def nh (n p:Int):Bool:=bN p&&decide (bits .and .i64 (n/256) 3<=p)
theorem qn:CE 266 #[.i Q,.i s] o (.bool (nh Q s)):=by
 have d:Hid (∀ o,CE 125 #[.i s] o (.bool (bN s))):=uQ s;have F:Hid (nh Q s=(bN s&&decide (bits .and .i64 (Q/256) 3<=s))):=(rfl:nh Q s=_);generalize bN s=q at *;cases q with
 | false =>go_enter func266,ntmps266;go_wp2_with fail;refine (d.out _).mono ?_;rintro e f ⟨rfl,b⟩;exact a0c
 | true =>go_enter func266,ntmps266;go_wp2_with fail;refine (d.out _).mono ?_;rintro e f ⟨rfl,b⟩;exact a0c
def sn (n:Int):Bool:=(bits .and .i64 (n/1024) 3==3)
theorem yQ:CE 269 #[.i Q] o (.bool (sn Q)):=by have F:Hid (sn Q=(bits .and .i64 (Q/1024) 3==3)):=(rfl:sn Q=_);go_enter func269,ntmps269;exact a09
def uR (n:Int):Bool:=(n==769)||(n==3860)
def wz (n:Int):Int:=if n=769 then 9223372036856090881 else 0
theorem qo:CE 268 #[.i Q] o (.tuple #[.u (wz Q),.bool (uR Q)]):=by
 by_cases b:Q=769;·subst b;go_enter func268,ntmps268;go_wp2_with fail;go_ret2;exact a0g
 ·by_cases c:Q=3860;·subst c;go_enter func268,ntmps268;go_wp2_with fail;go_ret2;exact ⟨rfl,rfl⟩
  ·have f:(Q==769)=false:=i6;have g:(Q==3860)=false:=ta;have F:Hid (wz Q=0/\uR Q=false):=⟨by simp [wz,b],by simp [uR,b,c]⟩;clear b c;go_enter func268,ntmps268;go_wp2_with fail;go_ret2;exact ⟨by rw [F.out.1,F.out.2];rfl,rfl⟩
theorem qp:o.ownsRow E 22 1 (.slice none 0 0) 0 (([]:List Int).map (Value.int .u64)):=⟨rfl,.inl ⟨rfl,rfl⟩⟩
theorem Bg (m:Int):∀ f k,k+f<=22->(cO Q m f k).ok=true->∃ j:Nat,j<22/\(cO Q m f k).at_=(j:Int):=by
 intro f;induction f with
 | zero=>intro k _ h;cases h
 | succ f a =>
   intro k b;unfold cO;split;·intro _;exact ⟨k,ab,rfl⟩
   ·split;·intro _;exact ⟨k,ab,rfl⟩
    ·exact a (k+1) ab
def DK (m:Nat) (l:List Int) (n p:Int):Bool:=jR m l&&nh n p
def rp (m:Nat) (l:List Int) (n p:Int):Bool:=DK m l n p&&((cO n (l.getD 2 0) 22 0).ok||uR n)
def uS (m:Nat) (l:List Int) (n p:Int):Int :=
 if DK m l n p=true then (if (cO n (l.getD 2 0) 22 0).ok=true then bits .and .u64 (l.getD (cO n (l.getD 2 0) 22 0).at_.toNat 0) (cO n (l.getD 2 0) 22 0).rd else wz n) else 0
theorem uT (h:jR w g=true):w=22:=by simp only [jR,Bool.and_eq_true,decide_eq_true_eq] at h;exact h.1
theorem tf (l:List Int) (n p:Int) (w:World) (hz:l.length=E) (hs:Sl .u64 w f l) (hl:∀ j,0<=l.getD j 0/\l.getD j 0<18446744073709551616): CB 235 #[.slice f E F,.i n,.i p] w (.tuple #[.u (uS E l n p),.bool (rp E l n p)]):=by
 have q:=λW (J:Bw w W)=>lw f E F l W hz (hs.below J) hl;have v:=qn n p;refine bf (S:=Bs w []) (args:=[.slice f E F,.i n,.i p]) [] func235 ?_;unfold uS rp DK;generalize nh n p=M at *;cases i:jR E l<;>rw [i] at q;case' true=>cases M
 case true.true =>
  have L:=uT i;subst L;have G:=qo n;have x:=uO n (l.getD 2 0);have a:=Bg n (l.getD 2 0) 22 0 ab;obtain ⟨b,c,rfl,d,H⟩:=hs 2 ab;generalize cO n (l.getD 2 0) 22 0=V at *;generalize l.getD 2 0=u at *;generalize wz n=Q at *;generalize uR n=P at *;obtain ⟨X,C,D,m,N⟩:=V;simp only [Vw.cells] at x a;refine ae Bs.eng {ov:=[(24,jk ⟨b,c+2,none⟩ (.u u) underlying22 rfl λW h=>(h.2.cell (by exact d)).trans H)],cv:=[(12,eY q),(17,jX λW _=>v W),(25,eY λW _=>x W)]} 60 (Bs.start _ _) λW h=>?_;refine fz 1 (cT (T:=308) (z:=.agg #[.i 0,.u 0,.u 0]) a4 W) ?_;refine eQ (R:=[]) trivial {} 9 (aD (g:=W.heap.size) (t:=308) (ty:=308) (cells:=#[.i C,.u D,.u m]) (heap_alloc_new _ _) a4 rfl a4) ?_;refine aK (R1 w W.heap.size #[.i C,.u D,.u m] 308) ?_;cases N;case true =>obtain ⟨k,U,r⟩:=a rfl;subst r;obtain ⟨O,B,e,K,I⟩:=hs k ab;cases e;rw [Int.toNat_natCast];generalize l.getD k 0=y at *;exact eC (t:=6) (s:=7) R1.eng {ov:=[(37,pe (a:=some ⟨b,c,none⟩) (b:=b) (o:=c) 22 F .i64 (k:Int) rfl ⟨ab,ab⟩ underlying23 a4),(38,jk ⟨b,c+(k:Int).toNat,none⟩ (.u y) underlying22 rfl λW h=>(h.2.cell (by exact d)).trans I)]} 60 (R1.new h.2) (λA h=>⟨rfl,h.2⟩)
  exact eC (t:=6) (s:=7) R1.eng {cv:=[(32,jb R1.below λW _=>(G W).mono λe cap h=>⟨h.1,ti⟩)]} 60 (R1.new h.2) (λA h=>⟨rfl,h.2⟩)
 all_goals exact eC (t:=6) (s:=7) Bs.eng {cv:=[(12,eY q),(17,jX λW _=>v W)]} 60 (Bs.start _ _) (λA h=>⟨rfl,h.2⟩)
def oS (m:Nat) (l:List Int) (n p:Int):Bool:=DK m l n p&&!sn n&&((cO n (l.getD 2 0) 22 0).ok||uR n)
def nj (l:List Int) (n x:Int):List Int :=
 if (cO n (l.getD 2 0) 22 0).ok=true then l.set (cO n (l.getD 2 0) 22 0).at_.toNat (kH l (cO n (l.getD 2 0) 22 0).at_.toNat (cO n (l.getD 2 0) 22 0).wr x) else l
def nl (m:Nat) (l:List Int) (n p x:Int):List Int:=if oS m l n p=true then nj l n x else []
theorem Fb {base:Nat} (hb:w<=x) (hz:g.length=base) (hn:base<=maxLen) (h:n.heap[x]?=some (.cells (g.map (Value.int .u64)).toArray B (0,0))):n.ownsRow w B 1 (.slice (some ⟨x,0,none⟩) base base) base (g.map (Value.int .u64)):=
 ⟨ww,.inr ⟨x,base,_,rfl,hb,h,Nat.le_refl _,hn,ww,by subst hz;simp [List.take_of_length_le]⟩⟩
theorem rq (l:List Int) (n p x:Int) (w:World) (hz:l.length=E) (hs:Sl .u64 w f l) (hl:∀ j,0<=l.getD j 0/\l.getD j 0<18446744073709551616) (h0:0<=x) (h1:x<18446744073709551616): Calls prog 236 #[.slice f E F,.i n,.i p,.u x] w λe w'=>∃ (a':Option Addr) (c:Nat),e=.returned (.tuple #[.slice a' (nl E l n p x).length c,.bool (oS E l n p)]) /\ w'.ownsRow w.heap.size 22 1 (.slice a' (nl E l n p x).length c) (nl E l n p x).length ((nl E l n p x).map (Value.int .u64))/\Bw w w':=by
 have J:=λW (H:Bw w W)=>lw f E F l W hz (hs.below H) hl
 have Q:=qn n p
 have U:=yQ n
 refine bf (S:=Bs w []) (args:=[.slice f E F,.i n,.i p,.u x]) [] func236 ?_
 have cap:oS E l n p=(jR E l&&nh n p&&!sn n&&((cO n (l.getD 2 0) 22 0).ok||uR n)):=rfl
 have I:nj l n x=if (cO n (l.getD 2 0) 22 0).ok=true then l.set (cO n (l.getD 2 0) 22 0).at_.toNat (kH l (cO n (l.getD 2 0) 22 0).at_.toNat (cO n (l.getD 2 0) 22 0).wr x) else l:=rfl
 unfold nl
 generalize nh n p=re at *
 generalize sn n=on at *
 generalize oS E l n p=wb at *
 generalize nj l n x=L at *
 cases D:jR E l<;>rw [D] at J cap
 case' true=>cases re;case' true=>cases on
 case true.true.false =>
  have hm:=uT D
  subst hm
  have HF:=qo n
  have Z:=uO n (l.getD 2 0)
  have C:=Bg n (l.getD 2 0) 22 0 ab
  obtain ⟨b,r,rfl,N,c2⟩:=hs 2 ab
  generalize cO n (l.getD 2 0) 22 0=V at *
  generalize l.getD 2 0=O at *
  generalize wz n=fv at *
  generalize uR n=G at *
  obtain ⟨va,A,B,d,m⟩:=V
  simp only [Vw.cells] at Z C cap I
  refine ae Bs.eng {ov:=[(33,jk ⟨b,r+2,none⟩ (.u O) underlying22 rfl λW h=>(h.2.cell (by exact N)).trans c2)],cv:=[(17,eY J),(22,jX λW _=>Q W),(27,jX λW _=>U W),(34,eY λW _=>Z W)]} 60 (Bs.start _ _) λW h=>?_
  refine fz 1 (cT (T:=308) (z:=.agg #[.i 0,.u 0,.u 0]) a4 W) ?_
  refine eQ (R:=[]) trivial {} 9 (aD (g:=W.heap.size) (t:=308) (ty:=308) (cells:=#[.i A,.u B,.u d]) (heap_alloc_new _ _) a4 rfl a4) ?_
  refine aK (R1 w W.heap.size #[.i A,.u B,.u d] 308) ?_
  have hF:∀ X,R1 w W.heap.size #[.i A,.u B,.u d] 308 X->_:=λX _=>(HF X).mono λe w' (h:_/\w'=X)=>(⟨h.1,ti⟩:_/\Bw X w')
  have ho:wb=(m||G):=cap
  subst ho
  obtain rfl|⟨rfl,rfl⟩|⟨rfl,rfl⟩:m=true\/(m=false/\G=true)\/m=false/\G=false:=by cases m<;>cases G<;>simp
  case inr.inr=>exact eC (t:=8) (s:=9) R1.eng {cv:=[(40,jb R1.below hF)]} 60 (R1.new h.2) (λK h=>⟨none,0,rfl,qp _ _,h.2⟩)
  all_goals
   refine ae R1.eng {cv:=[(40,jb R1.below hF)]} 60 (R1.new h.2) λX a=>?_
   refine fz 1 (s:=do pure (.value (<- Instr.makeSlice 23 (.i 22) (.i 22)))) (v:=.slice (some ⟨X.heap.size,0,none⟩) 22 22) (w':=X.alloc (.cells (Array.replicate 22 (.u 0)) 22)) a4 ?_
   have H:=a.2.alloc a.2.size (.cells (Array.replicate 22 (.u 0)) 22)
   refine jI (R:=[]) trivial {} 30 0 (s:=do pure (.value (<- Builtin.copy_ #[23,23] 3 #[.slice (some ⟨X.heap.size,0,none⟩) 22 22,.slice (some ⟨b,r,none⟩) 22 F]))) (v:=goInt (l.map (Value.int .u64)).length) (w':=(X.alloc (.cells (Array.replicate 22 (.u 0)) 22)).setRow X.heap.size (l.map (Value.int .u64)).toArray) ?_ ?_
   ·have hc:=run_copy_row (P:=prog) _ 23 23 3 22 X.heap.size 0 22 22 ⟨b,r,none⟩ 22 F _ _ (l.map (Value.int .u64)) underlying23 a4 (heap_alloc_new X (.cells (Array.replicate 22 (.u 0)) 22)) ww (λj v h=>by
     rw [List.getElem?_map] at h
     obtain ⟨y,hy,rfl⟩:=Option.map_eq_some_iff.1 h
     obtain ⟨b',o',e,_,c⟩:=hs.below H j (List.getElem?_eq_some_iff.1 hy).1
     cases e
     rw [Al,c,List.getD,hy];rfl) ww (λv h=>by obtain ⟨y,_,rfl⟩:=List.mem_map.1 h;rfl)
    simp only [List.take_zero,List.nil_append,Nat.zero_add,List.length_map,hz,Array.toList_replicate,List.drop_replicate,Nat.sub_self,List.replicate_zero,List.append_nil] at hc ⊢
    simp [hc,Result.andThen]
   have h2:R2 w W.heap.size #[.i A,.u B,.u d] 308 X.heap.size (l.map (Value.int .u64)).toArray 22 ((X.alloc (.cells (Array.replicate 22 (.u 0)) 22)).setRow X.heap.size (l.map (Value.int .u64)).toArray):=by
    have hx:=(Array.getElem?_eq_some_iff.1 a.1).1
    exact ⟨⟨(setRow_other _ _ _ _ ab).trans ((Below.heap_alloc X _ _ hx).trans a.1),aR H a.2.size _⟩,setRow_heap _ _ _ _ _ _ (heap_alloc_new _ _)⟩
   refine aK (R2 w W.heap.size #[.i A,.u B,.u d] 308 X.heap.size (l.map (Value.int .u64)).toArray 22) ?_
  case inr.inl =>
   have e:L=l:=I
   rw [e]
   exact eC (t:=8) (s:=9) (v:=.slice (some ⟨X.heap.size,0,none⟩) 22 22) (u:=.bool true) R2.eng {} 60 h2 (λK h=>⟨_,22,by show _=Ending.returned (.tuple #[.slice _ l.length 22,.bool true]);rw [hz],by show World.ownsRow _ _ _ _ (.slice _ l.length 22) l.length (l.map _);rw [hz];exact Fb a.2.size hz a6 h.2,h.1.2⟩)
  obtain ⟨k,hk,rfl⟩:=C rfl
  have HB:=λY (h:R2 w W.heap.size #[.i A,.u B,.u d] 308 X.heap.size (l.map (Value.int .u64)).toArray 22 Y)=>DJ _ F l k hk d x Y hz (hs.below h.1.2) hl h0 h1
  have e:L=l.set k (kH l k d x):=I
  rw [e]
  generalize kH l k d x=y at *
  refine ae R2.eng {ov:=[(62,pe (a:=some ⟨X.heap.size,0,none⟩) (b:=X.heap.size) (o:=0) 22 22 .i64 (k:Int) rfl ⟨ab,ab⟩ underlying23 a4)],cv:=[(61,jb R2.below HB)]} 60 h2 λY M=>?_
  refine bx (cy (i:=0+(k:Int).toNat) (T:=22) (v:=.u y) M.2 (by simp [hz];omega) a4 rfl) ?_
  have hr:=fH (j:=0+(k:Int).toNat) M.2 (.u y)
  have er:((l.map (Value.int .u64)).toArray.set! (0+(k:Int).toNat) (.u y))=((l.set k y).map (Value.int .u64)).toArray:=by simp [List.map_set]
  rw [er] at hr
  refine aK (R1 w X.heap.size ((l.set k y).map (Value.int .u64)).toArray 22) ?_
  have q:(l.set k y).length=22:=by rw [List.length_set,hz]
  exact eC (t:=8) (s:=9) (v:=.slice (some ⟨X.heap.size,0,none⟩) 22 22) (u:=.bool true) R1.eng {} 60 ⟨hr,M.1.2.setCell a.2.size _⟩ (λK h=>⟨_,22,by show _=Ending.returned (.tuple #[.slice _ (l.set k y).length 22,.bool true]);rw [q],by show World.ownsRow _ _ _ _ (.slice _ (l.set k y).length 22) (l.set k y).length ((l.set k y).map _);rw [q];exact Fb a.2.size q a6 h.1,h.2⟩)
 all_goals
  obtain rfl:wb=false:=cap
  exact eC (t:=8) (s:=9) Bs.eng {cv:=[(17,eY J),(22,jX λW _=>Q W),(27,jX λW _=>U W)]} 60 (Bs.start _ _) (λK h=>⟨none,0,rfl,qp _ _,h.2⟩)
theorem Rk:∀ i,i<64->∀ (p q:Bool) (o:Bool),(((if i=0 then p else if i=1 then q else o)&&bt 924074 (i+11))&&bt 3 i)=bt ((if p=true then 1 else 0)+(if q=true then 2 else 0)) i:=by decide +kernel
theorem OX:∀ i,i<64->∀ (p q:Bool) (o:Bool),((if i=11 then p else if i=12 then q else o)&&bt 6144 i)=bt ((if p=true then 2048 else 0)+(if q=true then 4096 else 0)) i:=by decide +kernel
theorem J1 (h:U Q):ik .mst Q=mst Q:=by
 have e:bits .and .u64 (bits .and .u64 Q 924074/2048) 3=(if bt Q 11=true then 1 else 0)+(if bt Q 12=true then 2 else 0):=by
  refine bu _ _ (aj _ _ _) (by constructor<;>(cases bt Q 11<;>cases bt Q 12<;>decide)) λi c=>?_;have d:=jw (bits .and .u64 Q 924074) (aj _ _ _) 11 i;rw [show ((2:Int)^11)=2048 from a6] at d;rw [az,d,az,<- Rk i c (bt Q 11) (bt Q 12) (bt Q (i+11))];by_cases a:i=0;·subst a;rfl
  ·by_cases b:i=1;·subst b;rfl
   ·rw [if_neg a,if_neg b]
 have f:bits .and .u64 Q 6144=(if bt Q 11=true then 2048 else 0)+(if bt Q 12=true then 4096 else 0):=by
  refine bu _ _ (aj _ _ _) (by constructor<;>(cases bt Q 11<;>cases bt Q 12<;>decide)) λi c=>?_;rw [az,<- OX i c (bt Q 11) (bt Q 12) (bt Q i)];by_cases a:i=11;·subst a;rfl
  ·by_cases b:i=12;·subst b;rfl
   ·rw [if_neg a,if_neg b]
 show (if (bits .and .u64 Q 6144==4096)=true then bits .andNot .u64 (bits .and .u64 Q 924074) 6144 else bits .and .u64 Q 924074)=mst Q;unfold mst;rw [e,f];cases bt Q 11<;>cases bt Q 12<;>rfl
theorem Rl:∀ i,i<64->∀ a:Bool,(a&&bt 18446744073709551613 i)=(a&&!bt 2 i):=by decide +kernel
theorem Su:∀ i,i<64->∀ a:Bool,(a&&bt 18446744073709551612 i)=(a&&!bt 3 i):=by decide +kernel
theorem yR:∀ i,i<64->bt 18446744073709551615 i=true:=by decide +kernel
theorem PQ:∀ i,i<64->∀ a:Bool,((decide (i<8)&&a)&&bt 159 i)=(a&&bt 159 i):=by decide +kernel
theorem Rm:bits .and .u64 Q 18446744073709551613=bits .andNot .u64 Q 2 :=
 bu _ _ (aj _ _ _) (aj _ _ _) λi a=>by rw [az,aA _ _ _ a];exact Rl i a _
theorem PR:bits .and .u64 Q 18446744073709551612=bits .andNot .u64 Q 3 :=
 bu _ _ (aj _ _ _) (aj _ _ _) λi a=>by rw [az,aA _ _ _ a];exact Su i a _
theorem oT (h:U Q):bits .and .u64 Q 18446744073709551615=Q :=
 bu _ _ (aj _ _ _) h λi a=>by rw [az,yR i a,Bool.and_true]
theorem Nk (h:U Q) (k:Nat):Bb Q k=js Q k:=by
 have e:bits .and .u64 (cQ Q (8*k) 8) 159=bits .and .u64 (Q/2^(8*k)) 159 :=
  bu _ _ (aj _ _ _) (aj _ _ _) λi a=>by
   rw [az,az,lj Q h _ _ _ ab,jw Q h];exact PQ i a _
 unfold Bb js;rw [e]
theorem J2 (h:U Q) (k:Nat):pK Q k=cI Q k:=by
 induction k with
 | zero=>rfl
 | succ k a=>rw [pK,cI,a,Nk Q h]
theorem xx (h:U Q) (k:Nat) (hk:k<22) (b:k≠9) (a:k≠15):ik (fY k).2 Q=bn k Q:=by
 have:k=0\/k=1\/k=2\/k=3\/k=4\/k=5\/k=6\/k=7\/k=8\/k=10\/k=11\/k=12\/k=13\/k=14\/k=16\/k=17\/k=18\/k=19\/k=20\/k=21:=ab
 rcases this with rfl|rfl|rfl|rfl|rfl|rfl|rfl|rfl|rfl|rfl|rfl|rfl|rfl|rfl|rfl|rfl|rfl|rfl|rfl|rfl;·exact J1 Q h
 ·rfl
 ·rfl
 ·rfl
 ·exact Rm Q
 ·exact oT Q h
 ·exact PR Q
 ·rfl
 ·exact oT Q h
 ·exact Rm Q
 ·exact oT Q h
 ·exact PR Q
 ·rfl
 ·exact oT Q h
 ·exact J2 Q h 4
 ·rfl
 ·rfl
 ·rfl
 ·rfl
 ·exact oT Q h
theorem Fc (h:U Q):iz Q=((Q/1152921504606846976==0)||(Q/1152921504606846976==8)):=by
 have e:cQ Q 60 4=Q/1152921504606846976:=by unfold cQ;rw [show ((2:Int)^60)=1152921504606846976 from a6,show ((2:Int)^4)=16 from a6];have:=h.1;have:=h.2;omega
 unfold iz;rw [e]
theorem PS (h:U Q) (k:Nat) (hk:k<22):(ik (fY k).2 Q==Q)=fy k Q:=by
 by_cases b:k=9;·subst b;rfl
 ·by_cases a:k=15
  ·subst a;show (ik .satp Q==Q)=((Q/1152921504606846976==0)||(Q/1152921504606846976==8));rw [<- Fc Q h];show ((if iz Q=true then Q else 0)==Q)=iz Q;cases c:iz Q with
   | true=>simp
   | false =>have d:Q≠0:=(by rintro rfl;revert c;decide);simp only [Bool.false_eq_true,if_false,beq_eq_false_iff_ne];exact λh=>d h.symm
  ·rw [xx Q h k hk b a];unfold fy;rw [if_neg b,if_neg a]
theorem Bh (hl:∀ j,U (P.getD j 0)):∀ n k,k+n<=22->dA P n k=fs P n k:=by
 intro n;induction n with
 | zero=>intro k _;rfl
 | succ n a =>intro k b;rw [dA,fs,PS _ (hl k) k ab,a (k+1) ab]
theorem xy (hl:∀ j,U (P.getD j 0)):jR L P=br L P:=by unfold jR br;rw [Bh P hl 22 0 ab]
def nums:List Int:=[768,770,771,772,773,832,833,834,835,836,261,320,321,322,323,384,928,944,945,946,947,2818,256,260,324]
theorem Nl:∀ k,k<22->(fY k).1 ∈ nums:=by decide
theorem J3:∀ k,k<22->fu.getD k 0 ∈ nums:=by decide
theorem lz (m:Int) (h:Q ∉ nums):∀ f k,k+f<=22->cO Q m f k=⟨-1,0,0,0,false⟩:=by
 intro f;induction f with
 | zero=>intro k _;rfl
 | succ f c =>
   intro k g;have a:((fY k).1==Q)=false:=(by rw [beq_eq_false_iff_ne];intro e;exact h (e ▸ Nl k ab));have b:((fY k).2.sees&&(nH (fY k).2==Q))=false:=by cases d:(fY k).2<;>first | rfl | (simp only [CK.sees,nH,Bool.true_and,beq_eq_false_iff_ne];intro e;apply h;rw [<- e];decide)
   rw [cO,if_neg (by rw [a];decide),if_neg (by rw [b];decide)];exact c (k+1) ab
theorem yS (h:Q ∉ nums):∀ f k,k+f<=22->dQ Q f k=-1:=by
 intro f;induction f with
 | zero=>intro k _;rfl
 | succ f b =>intro k c;have a:(fu.getD k 0==Q)=false:=(by rw [beq_eq_false_iff_ne];intro e;exact h (e ▸ J3 k ab));rw [dQ,if_neg (by rw [a];decide)];exact b (k+1) ab
theorem su (h:Q ∉ nums):cG Q=-1:=by unfold cG;rw [if_neg (λe=>h (by rw [e];decide)),if_neg (λe=>h (by rw [e];decide)),if_neg (λe=>h (by rw [e];decide))];exact yS Q h 22 0 ab
theorem jS (h:Q ∈ nums):Q=768\/Q=770\/Q=771\/Q=772\/Q=773\/Q=832\/Q=833\/Q=834\/Q=835\/Q=836\/Q=261\/Q=320\/Q=321\/Q=322\/Q=323\/Q=384\/Q=928\/Q=944\/Q=945\/Q=946\/Q=947\/Q=2818\/Q=256\/Q=260\/Q=324:=by simpa [nums] using h
theorem Bi:((cO Q s 22 0).ok||uR Q)=df Q:=by
 by_cases h:Q ∈ nums;·rcases jS Q h with rfl|rfl|rfl|rfl|rfl|rfl|rfl|rfl|rfl|rfl|rfl|rfl|rfl|rfl|rfl|rfl|rfl|rfl|rfl|rfl|rfl|rfl|rfl|rfl|rfl<;>rfl
 ·rw [lz Q s h 22 0 ab];unfold df uR;rw [su Q h];cases (Q==769)<;>cases (Q==3860)<;>rfl
end Go.Proofs.YtfagphfjfhpmjaaGreatDoor
