/- Own lemmas. -/
import Derived.Test.YtfagphfjfhpmjaaGreatDoorAuj
import Derived.Test.YtfagphfjfhpmjaaGreatDoorJ19
set_option maxRecDepth 100000
namespace Go.Proofs.YtfagphfjfhpmjaaGreatDoor
open Go.RowKit Tryz
open IntKind renaming u64->Uz
set_option linter.unusedVariables false
variable {M w M':MV} {B g t W:Nat} {a n l:World} {c E A:MA} {x b:TV} {L k:Int} {p:Option Addr} {P:List Int} {T:Ins} {d:Value} {j:Program} {q:TypeId} {s:List Value} {R:List Kr} {S:Array Value} {V:List (Int × Int)} {L1 L2:List FRow} {r:FRow} (e:MV) (f:World) (m:Ins) (o:List Int) (y z:Int)
theorem aZ.swap (h:aZ B g a (L1++r::L2)) (q:FRow) (E:a.ownsRow g q.t 1 q.v q.n q.xs) (i:B<=g) (u:g<=t) (v:a.heap.size<=t):aZ B t a (L1++q::L2):=by
 have d:∀ s ∈ L1++q::L2,s=q\/s ∈ L1++r::L2:=λs c=>by
  simp only [List.mem_append,List.mem_cons] at c ⊢;rcases c with c|c|c;·exact Or.inr (Or.inl c)
  ·exact Or.inl c
  ·exact Or.inr (Or.inr (Or.inr c))
 refine ⟨λs c=>?_,λs c k e=>?_,?_⟩
 ·rcases d s c with rfl|c;·exact dG E i
  ·exact h.own s c
 ·rcases d s c with rfl|c;·exact Nat.lt_of_lt_of_le (E.lt k e).2 v
  ·exact Nat.lt_of_lt_of_le (h.hi s c k e) u
 ·have m:=h.ne;rw [List.pairwise_append,List.pairwise_cons] at m ⊢;obtain ⟨n,⟨x,o⟩,p⟩:=m;refine ⟨n,⟨λs c k e f=>?_,o⟩,λw l b j k e f=>?_⟩;·have:=(E.lt k e).1;have:=h.hi s (by simp [c]) k f;omega
  ·rcases List.mem_cons.1 j with rfl|j;·have:=(E.lt k f).1;have:=h.hi w (by simp [l]) k e;omega
   ·exact p w l b (by simp [j]) k e f
theorem aZ.other {L:List FRow} (h:aZ B g a L) (hk:∀ q ∈ L,∀ k,q.v.ownBlock=some k->n.heap[k]?=a.heap[k]?):aZ B g n L:=⟨λr w=>ew (h.own r w) (hk r w),h.hi,h.ne⟩
theorem zS {g:Nat} {r q:FRow} (h:∀ s ∈ L1++r::L2,s.v.ownBlock≠some g) (b:q.v.ownBlock≠some g):∀ s ∈ L1++q::L2,s.v.ownBlock≠some g:=λs a=>by
 simp only [List.mem_append,List.mem_cons] at a;rcases a with a|rfl|a;·exact h s (by simp [a])
 ·exact b
 ·exact h s (by simp [a])
structure Tq (B g:Nat) (w0:World) (M:MV) (A:MA) (t:TV) (w:World):Prop where
 row:iw ⟨g,bz M A t,[]⟩ w
 fam:aZ B w.heap.size w (aJ M A)
 ne:∀ q ∈ aJ M A,q.v.ownBlock≠some g
 le:B<=w.heap.size
 os:w.os=w0.os
 tape:w.tape=w0.tape
 output:w.output=w0.output
 size:w0.heap.size<=w.heap.size
 block:∀ k,k<B->k≠g->w.heap[k]?=w0.heap[k]?
 t0:ou w0
 tb:0<B
 tn:0≠g
theorem Tq.tab (h:Tq B g a M c x n):ou n:=λj w0=>by have:=h.t0 j w0;simp only [World.cell?,h.block _ h.tb h.tn];exact this
theorem Tq.sl (h:Tq B g a M A b n):tA n M A:=by obtain ⟨w0,t,c,d,e⟩:=aZ.rsl (A:=A) (x:=M.x) (cs:=M.cs) (ram:=M.ram) (xs:=M.d.xs) (ys:=M.d.ys) h.fam;exact ⟨w0,t,c,d,e⟩
theorem Tq.glt (h:Tq B g a M c x n):g<n.heap.size:=let ⟨_,w0⟩:=h.row;(Array.getElem?_eq_some_iff.1 w0).1
theorem Tq.other {R:List Rw} (h:Tq B g a M c x n) (f:aZ B t n (aJ M c)) (k:Iv [g] n R l):aZ B t l (aJ M c):=f.other λq E i e=>k.ag.block i ((f.own q E).lt i e).2 (by rw [List.mem_singleton];exact λb=>h.ne q E (by rw [e,b]))
theorem Tq.iv1 (h:Tq B g a M c x n) (k:Iv [g] n [⟨g,bz M' E b,[]⟩] l) (f:aZ B l.heap.size l (aJ M' E)) (w0:∀ q ∈ aJ M' E,q.v.ownBlock≠some g):Tq B g a M' E b l :=
 ⟨k.row1,f,w0,Nat.le_trans h.le k.ag.size,k.ag.os.trans h.os,k.ag.tape.trans h.tape,k.ag.output.trans h.output,Nat.le_trans h.size k.ag.size,λi A t'=>(k.ag.block i (Nat.lt_of_lt_of_le A h.le) (by rw [List.mem_singleton];exact t')).trans (h.block i A t'),h.t0,h.tb,h.tn⟩
theorem Tq.iv (h:Tq B g a M c x n) (k:Iv [g] n [⟨g,bz w c b,[]⟩] l) (w0:aJ w c=aJ M c):Tq B g a w c b l :=
 h.iv1 k (by rw [w0];exact (h.other h.fam k).low (Nat.le_refl _) k.ag.size) (by rw [w0];exact h.ne)
theorem Tq.new (h:Tq B g a M c x n) (k:Iv [g] n [⟨g,bz w E b,[]⟩] l) (f:aZ n.heap.size l.heap.size l (aJ w E)):Tq B g a w E b l:=h.iv1 k (f.low h.le (Nat.le_refl _)) (λq w0 e=>by have:=((f.own q w0).lt g e).1;have:=h.glt;omega)
theorem Tq.iv0 (h:Tq B g a M c x n):Iv [g] n [⟨g,bz M c x,[]⟩] n:=Iv.one h.row
theorem Tq.below {g:Nat} (h:Tq B g a M c x n) (hb:Bw n l):Tq B g a M c x l:=h.iv (h.iv0.below hb) rfl
theorem Tq.ram (h:Tq B g a M A x n) {zs:List Int} {w0:Option Addr} {c:Nat} (k:Iv [g] n [⟨g,bz {M with ram:=zs} {A with ar:=w0,cr:=c} b,[]⟩] l) (o:l.ownsRow n.heap.size 5 1 (.slice w0 zs.length c) zs.length (zs.map (Value.int .u8))):Tq B g a (bG M zs) {A with ar:=w0,cr:=c} b l:=by refine h.iv1 (M':=bG M zs) k ?_ (zS (L1:=[aG A.ax M.x.length A.cx M.x,aG A.ac M.cs.length A.cc M.cs]) (L2:=[aw A.ai M.d.xs.length A.ci M.d.xs,aw A.ao M.d.ys.length A.co M.d.ys]) (r:=aw A.ar M.ram.length A.cr M.ram) (q:=aw w0 zs.length c zs) h.ne λe=>by have:=(o.lt g e).1;have:=h.glt;omega);have f:=h.other h.fam k;exact aZ.swap (L1:=[aG A.ax M.x.length A.cx M.x,aG A.ac M.cs.length A.cc M.cs]) (r:=aw A.ar M.ram.length A.cr M.ram) (L2:=[aw A.ai M.d.xs.length A.ci M.d.xs,aw A.ao M.d.ys.length A.co M.d.ys]) f (aw w0 zs.length c zs) o h.le k.ag.size (Nat.le_refl _)
theorem Tq.csrs {t':TV} (h:Tq B g a M c x n) {zs:List Int} {b:Option Addr} {A:Nat} (w0:M'.x=M.x/\M'.cs=zs/\M'.ram=M.ram/\M'.d=M.d) (k:Iv [g] n [⟨g,bz M' {c with ac:=b,cc:=A} t',[]⟩] l) (o:l.ownsRow n.heap.size 22 1 (.slice b zs.length A) zs.length (zs.map (Value.int .u64))):Tq B g a M' {c with ac:=b,cc:=A} t' l:=by
 have d:=zS (L1:=[aG c.ax M.x.length c.cx M.x]) (L2:=[aw c.ar M.ram.length c.cr M.ram,aw c.ai M.d.xs.length c.ci M.d.xs,aw c.ao M.d.ys.length c.co M.d.ys]) (r:=aG c.ac M.cs.length c.cc M.cs) (q:=aG b zs.length A zs) h.ne λe=>by have:=(o.lt g e).1;have:=h.glt;omega
 have f:=h.other h.fam k;have s:=aZ.swap (L1:=[aG c.ax M.x.length c.cx M.x]) (r:=aG c.ac M.cs.length c.cc M.cs) (L2:=[aw c.ar M.ram.length c.cr M.ram,aw c.ai M.d.xs.length c.ci M.d.xs,aw c.ao M.d.ys.length c.co M.d.ys]) f (aG b zs.length A zs) o h.le k.ag.size (Nat.le_refl _);refine h.iv1 k ?_ ?_;·unfold aJ;rw [w0.1,w0.2.1,w0.2.2.1,w0.2.2.2];exact s
 ·unfold aJ;rw [w0.1,w0.2.1,w0.2.2.1,w0.2.2.2];exact d
theorem oY (h:a.ownsRow B 22 1 (.slice p P.length t) P.length (P.map (Value.int .u64))) (hn:P.length=g) (k:0<g):∃ b,p=some ⟨b,0,none⟩/\B<=b/\∀ j,j<g->a.cell? ⟨b,j,none⟩=some (.u (P.getD j 0))/\a.frozen? ⟨b,j,none⟩=false:=by obtain ⟨b,n,e,f⟩:=oK h ab;simp only [Value.slice.injEq,true_and] at e;obtain ⟨d,i⟩:=e;refine ⟨b,d,f,λj l=>?_⟩;rw [d] at h;refine ⟨?_,h.frozenAt j⟩;rw [h.cellAt j ab];rw [List.getElem?_map,List.getElem?_eq_getElem (show j<P.length by omega),List.getD_eq_getElem?_getD,List.getElem?_eq_getElem (show j<P.length by omega)];rfl
theorem Tq.atX (h:Tq B g a M c x n) (w0:M.x.length=32):∃ b,c.ax=some ⟨b,0,none⟩/\b≠g/\∀ j,j<32->n.cell? ⟨b,j,none⟩=some (.u (M.x.getD j 0))/\n.frozen? ⟨b,j,none⟩=false:=by have f:n.ownsRow B 22 1 (.slice c.ax M.x.length c.cx) M.x.length (M.x.map (Value.int .u64)):=h.fam.own (aG c.ax M.x.length c.cx M.x) ck;obtain ⟨b,A,i,d⟩:=oY f w0 ab;exact ⟨b,A,λe=>h.ne (aG c.ax M.x.length c.cx M.x) ck (by show (Value.slice c.ax M.x.length c.cx).ownBlock=_;rw [A,e];rfl),d⟩
theorem Tq.atC (h:Tq B g a M c x n) (w0:M.cs.length=22):∃ b,c.ac=some ⟨b,0,none⟩/\b≠g/\∀ j,j<22->n.cell? ⟨b,j,none⟩=some (.u (M.cs.getD j 0))/\n.frozen? ⟨b,j,none⟩=false:=by have f:n.ownsRow B 22 1 (.slice c.ac M.cs.length c.cc) M.cs.length (M.cs.map (Value.int .u64)):=h.fam.own (aG c.ac M.cs.length c.cc M.cs) ck;obtain ⟨b,A,i,d⟩:=oY f w0 ab;exact ⟨b,A,λe=>h.ne (aG c.ac M.cs.length c.cc M.cs) ck (by show (Value.slice c.ac M.cs.length c.cc).ownBlock=_;rw [A,e];rfl),d⟩
theorem Tq.good (h:Tq B g a M c x n):vu M.ram.length c.ar c.cr:=Cb (h.fam.own (aw c.ar M.ram.length c.cr M.ram) ck)
theorem Tq.setX (h:Tq B g a M c x n) {b:Nat} (hb:c.ax=some ⟨b,0,none⟩) (i:Nat) (v:Int):Tq B g a (xM M (M.x.set i v)) c x (n.setCell ⟨b,i,none⟩ (.u v)):=by
 have j:n.ownsRow B 22 1 (.slice c.ax M.x.length c.cx) M.x.length (M.x.map (Value.int .u64)):=h.fam.own (aG c.ax M.x.length c.cx M.x) ck;rw [hb] at j;have f:=j.stored i (.u v);rw [kS] at f;have u:=(j.lt b rfl).1;have t:n.grownBy (n.setCell ⟨b,i,none⟩ (.u v)) (aG c.ax M.x.length c.cx M.x).v.ownBlock:=by simp only [aG];rw [hb];exact f.2
 have y:=aZ.mark (L1:=[]) (r:=aG c.ax M.x.length c.cx M.x) (L2:=[aG c.ac M.cs.length c.cc M.cs,aw c.ar M.ram.length c.cr M.ram,aw c.ai M.d.xs.length c.ci M.d.xs,aw c.ao M.d.ys.length c.co M.d.ys]) h.fam t ((M.x.set i v).map (Value.int .u64)) sb;have w0:(n.setCell ⟨b,i,none⟩ (.u v)).heap.size=n.heap.size:=aO _ _ _;have m:aJ (xM M (M.x.set i v)) c=[]++⟨(aG c.ax M.x.length c.cx M.x).t,(aG c.ax M.x.length c.cx M.x).v,(aG c.ax M.x.length c.cx M.x).n,(M.x.set i v).map (Value.int .u64)⟩::[aG c.ac M.cs.length c.cc M.cs,aw c.ar M.ram.length c.cr M.ram,aw c.ai M.d.xs.length c.ci M.d.xs,aw c.ao M.d.ys.length c.co M.d.ys]:=by simp [aJ,xM,aG]
 have A:∀ k,k≠b->(n.setCell ⟨b,i,none⟩ (.u v)).heap[k]?=n.heap[k]?:=λk A=>Below.heap_setCell n _ _ k A;have d:g≠b:=λe=>h.ne (aG c.ax M.x.length c.cx M.x) ck (by show (Value.slice c.ax M.x.length c.cx).ownBlock=_;rw [hb,e];rfl);refine ⟨?_,?_,(λq z=>by obtain ⟨C,w,l⟩:=iY (M:=M) (M':=xM M (M.x.set i v)) (A:=c) (show (M.x.set i v).length=M.x.length by simp) rfl rfl rfl rfl q z;rw [<- l];exact h.ne C w),by rw [w0];exact h.le,h.os,h.tape,h.output,by rw [w0];exact h.size,λk o p=>(A k ab).trans (h.block k o p),h.t0,h.tb,h.tn⟩;·obtain ⟨T,s⟩:=h.row;refine ⟨T,(A g d).trans (s.trans ?_)⟩;simp [bz,xM]
 ·rw [m,w0];exact y.1
theorem Tq.setC (h:Tq B g a M c x n) {b:Nat} (hb:c.ac=some ⟨b,0,none⟩) (i:Nat) (v:Int):Tq B g a (cM M (M.cs.set i v)) c x (n.setCell ⟨b,i,none⟩ (.u v)):=by
 have j:n.ownsRow B 22 1 (.slice c.ac M.cs.length c.cc) M.cs.length (M.cs.map (Value.int .u64)):=h.fam.own (aG c.ac M.cs.length c.cc M.cs) ck;rw [hb] at j;have f:=j.stored i (.u v);rw [kS] at f;have u:=(j.lt b rfl).1;have t:n.grownBy (n.setCell ⟨b,i,none⟩ (.u v)) (aG c.ac M.cs.length c.cc M.cs).v.ownBlock:=by simp only [aG];rw [hb];exact f.2
 have y:=aZ.mark (L1:=[aG c.ax M.x.length c.cx M.x]) (r:=aG c.ac M.cs.length c.cc M.cs) (L2:=[aw c.ar M.ram.length c.cr M.ram,aw c.ai M.d.xs.length c.ci M.d.xs,aw c.ao M.d.ys.length c.co M.d.ys]) h.fam t ((M.cs.set i v).map (Value.int .u64)) sb;have w0:(n.setCell ⟨b,i,none⟩ (.u v)).heap.size=n.heap.size:=aO _ _ _;have m:aJ (cM M (M.cs.set i v)) c=[aG c.ax M.x.length c.cx M.x]++⟨(aG c.ac M.cs.length c.cc M.cs).t,(aG c.ac M.cs.length c.cc M.cs).v,(aG c.ac M.cs.length c.cc M.cs).n,(M.cs.set i v).map (Value.int .u64)⟩::[aw c.ar M.ram.length c.cr M.ram,aw c.ai M.d.xs.length c.ci M.d.xs,aw c.ao M.d.ys.length c.co M.d.ys]:=by simp [aJ,cM,aG]
 have A:∀ k,k≠b->(n.setCell ⟨b,i,none⟩ (.u v)).heap[k]?=n.heap[k]?:=λk A=>Below.heap_setCell n _ _ k A;have d:g≠b:=λe=>h.ne (aG c.ac M.cs.length c.cc M.cs) ck (by show (Value.slice c.ac M.cs.length c.cc).ownBlock=_;rw [hb,e];rfl);refine ⟨?_,?_,(λq z=>by obtain ⟨C,w,l⟩:=iY (M:=M) (M':=cM M (M.cs.set i v)) (A:=c) rfl (show (M.cs.set i v).length=M.cs.length by simp) rfl rfl rfl q z;rw [<- l];exact h.ne C w),by rw [w0];exact h.le,h.os,h.tape,h.output,by rw [w0];exact h.size,λk o p=>(A k ab).trans (h.block k o p),h.t0,h.tb,h.tn⟩;·obtain ⟨T,s⟩:=h.row;refine ⟨T,(A g d).trans (s.trans ?_)⟩;simp [bz,cM]
 ·rw [m,w0];exact y.1
theorem Tq.acc (h:Tq B g a M c x n) (w0:Gd M) {addr size kind t:Int} (f:jr size=true) (b:1<=kind) (A:kind<=3) (d:kind=1->size=4) (i:U addr) (hx:U t): Calls prog 220 #[.func (.func 50) #[] #[],.agg (ap M c),.u addr,.i size,.i kind,.u t] n (wP n (aC M addr size kind t)):=by
 have q:vi M size kind=true:=by
  unfold vi;rw [w0.ok,f,decide_eq_true ⟨b,A⟩];by_cases e:kind=1;·rw [d e];simp
  ·simp [e]
 have e:tI M addr size kind t=aC M addr size kind t:=by unfold tI;rw [if_pos q]
 rw [<- e];exact zH M c addr size kind t n w0.len h.sl w0.mw w0.hd i hx h.tab (λ_=>h.good)
theorem sV:(bM o y z).length=o.length:=by exact pA o y z
theorem Ml (h:jt M.cs.length M.cs T.imm M.pr=false):nC M T L k=(aM M 2 false k,2):=by unfold nC;rw [h,Bool.not_false,Bool.true_or,if_pos rfl]
theorem OF (h:jt M.cs.length M.cs T.imm M.pr=true) (b:dN T=true) (hr:((wrap64 (T.imm.tdiv 1024)).tmod 4==3)=true):nC M T L k=(aM M 2 false k,2):=by unfold nC;rw [h,b,hr,Bool.not_true,Bool.false_or,Bool.and_self,if_pos rfl]
theorem OG (h:jt M.cs.length M.cs T.imm M.pr=true) (b:dN T=false):nC M T L k=(aX M T.rd (dj M.cs T.imm) (Uz.wrap (M.pc+4)),1):=by unfold nC;rw [h,b,Bool.not_true,Bool.false_or,Bool.false_and,if_neg a6];dsimp only;rw [if_neg a6]
theorem Mm {v:Int} (h:jt M.cs.length M.cs T.imm M.pr=true) (b:dN T=true) (hr:((wrap64 (T.imm.tdiv 1024)).tmod 4==3)=false) (hv:tw T L (dj M.cs T.imm)=v):nC M T L k=(iP (aX M T.rd (dj M.cs T.imm) (Uz.wrap (M.pc+4))) (bM (aX M T.rd (dj M.cs T.imm) (Uz.wrap (M.pc+4))).cs T.imm v),1):=by unfold nC;rw [h,b,hr,Bool.not_true,Bool.false_or,Bool.and_false,if_neg a6];dsimp only;rw [if_pos rfl,hv]
theorem EC (h:Ht B g t M c a) (w:M.cs.length=22) (n:Int) (hk:df n=true) (x:Int): Calls prog 150 #[.slice c.ac M.cs.length c.cc,.i n,.u x] a λe w'=>e=.returned (.tuple #[])/\Ht B g t (iP M (bM M.cs n x)) c w'/\Kx t (aJ M c) (aJ (iP M (bM M.cs n x)) c) a w'/\(iP M (bM M.cs n x)).cs.length=M.cs.length:=by obtain ⟨hh,A,b,d⟩:=h.mp.cs w;rw [A,w];refine (AT B hh c.cc M.cs n x hk a b).mono λe w' ⟨i,j,k⟩=>?_;obtain ⟨l,f⟩:=d w' _ (by rw [sV];exact w) k j;exact ⟨i,h.step l f,f,(sV _ _ _).trans w⟩
theorem RZ (h87:87<=m.op) (h92:m.op<=92) (E:0<=m.rd) (F:m.rd<=31) (hx:U z) (h:Ht B g W M c a) (N:Gd M): Calls prog 102 #[.p g 0,.agg #[.i m.op,.i m.rd,.i m.a,.i m.b,.i m.imm],.u y,.u z] a (HR B g W M c a (nC M m y z)):=by
 obtain ⟨V,p⟩:∃ V,nC M m y z=V:=⟨_,rfl⟩;have w:=(aI N.ok).1;rw [p];obtain ⟨hh,d,j,l,A⟩:=m;dsimp only at h87 h92 E F ⊢;have T:IntKind.i64.wrap (hh-87)=hh-87:=by rw [IntKind.wrap_i64];omega
 have fin:∀ (S:World->Prop) (v:Int) (C:MA) (r:World),df A=true->(iP (aX M d (dj M.cs A) (Uz.wrap (M.pc+4))) (bM (aX M d (dj M.cs A) (Uz.wrap (M.pc+4))).cs A v),1)=V->Hx B W (aQ g W::eE a.heap.size [(#[.i hh,.i d,.i j,.i l,.i A],80)]) M c a (aX M d (dj M.cs A) (Uz.wrap (M.pc+4))) C r->Wg prog S (bodyPost prog Tryz.f102 (HR B g W M c a V)) Tryz.f102.ntmps [.code (iZ (ay 2 (OY (ay 1 (iZ (ay 8 (aW Tryz.f102))))))),.code (ay 3 (OY (ay 1 (iZ (ay 8 (aW Tryz.f102)))))),.code (ay 9 (aW Tryz.f102))] [(0,.p g 0,2),(5,.p a.heap.size 0,3),(9,.p W 0,1),(13,.i 1,0),(14,.u v,0)] r:=by
  intro S v C r q eV f;subst eV;have X:(aX M d (dj M.cs A) (Uz.wrap (M.pc+4))).cs.length=22:=(by show (M.cs.set _ _).length=22;rw [List.length_set];exact w);refine aK (Hs W (aQ g W::eE a.heap.size [(#[.i hh,.i d,.i j,.i l,.i A],80)]) (ap (aX M d (dj M.cs A) (Uz.wrap (M.pc+4))) C)) ?_;refine mq 7 ?_;refine aN (Hs.eng (dr:=true) (λ_ h=>h.hs)) {} 60 (f.below (Below.refl _ _).drew) (λP o=>EC o.ht X A q v) ?_;rintro P e W2 o ⟨rfl,u,k2,_⟩;refine ⟨_,0,rfl,fi a4,aK (Hs W (aQ g W::eE a.heap.size [(#[.i hh,.i d,.i j,.i l,.i A],80)]) (ap (iP (aX M d (dj M.cs A) (Uz.wrap (M.pc+4))) (bM (aX M d (dj M.cs A) (Uz.wrap (M.pc+4))).cs A v)) C)) ?_⟩;have K:=o.to u k2;obtain ⟨p0,q0⟩:∃ b,(cG A==0)=b:=⟨_,rfl⟩;obtain ⟨p1,q1⟩:∃ b,(cG A==15)=b:=⟨_,rfl⟩;have J:=λr=>iV (cG A) 16 20 r;obtain ⟨p2,q2⟩:∃ b,decide (16<=cG A/\cG A<=20)=b:=⟨_,rfl⟩;rw [q2] at J;cases p0<;>cases p1<;>cases p2 <;>
  exact aU (t:=8) (v:=.i 1) (Hs.eng (dr:=true) (λ_ h=>h.hs)) {eq:=[(104,af q0),(107,af q1)],cv:=[(102,jb Hx.below λr _=>dx A r),(111,jY λr _=>J r),(114,jY λr f=>mS _ C B g W r f.ht)]} 100 K λr f=>⟨rfl,C,f.ht,f.kx⟩
 have main:∀ (I:Int) (wr:Bool),lM ⟨hh,d,j,l,A⟩ y=I->dN ⟨hh,d,j,l,A⟩=wr->∀ (S:World->Prop) (r:World),Hx B W (aQ g W::eE a.heap.size [(#[.i hh,.i d,.i j,.i l,.i A],80)]) M c a M c r->Wg prog S (bodyPost prog Tryz.f102 (HR B g W M c a V)) Tryz.f102.ntmps [.code (iZ (iZ (ay 5 (aW Tryz.f102)))),.code (ay 1 (iZ (ay 5 (aW Tryz.f102)))),.code (ay 6 (aW Tryz.f102))] [(0,.p g 0,2),(3,.u z,0),(5,.p a.heap.size 0,3),(9,.p W 0,1),(10,.i ((hh-87).tmod 3),0),(2,.u I,0),(11,.bool wr,0)] r:=by
  intro I wr D n S r f;refine aK (Hs W (aQ g W::eE a.heap.size [(#[.i hh,.i d,.i j,.i l,.i A],80)]) (ap M c)) ?_;obtain ⟨my,k⟩:∃ my,jt M.cs.length M.cs A M.pr=my:=⟨_,rfl⟩;refine aN (Hs.eng (dr:=true) (λ_ h=>h.hs)) {} 60 f (λP o=>GZ c.ac M.cs.length c.cc M.cs A M.pr P rfl o.mp.fam.msl.cs) ?_;rintro P e W2 o ⟨rfl,hb1⟩;rw [k];have u:=o.below hb1;refine ⟨_,0,rfl,λ_=>u.hs,?_⟩;cases my with
  | false =>rw [Ml k] at p;subst p;exact Hx.last (Hs.eng (dr:=false) (λ_ h=>h.hs)) {} 60 u (λr f=>dI 2 a6 z f.ht N)
  | true =>
    have q:df A=true:=(by unfold jt at k;simp only [Bool.and_eq_true] at k;exact k.1.1.2);have O:∀ r,Hx B W (aQ g W::eE a.heap.size [(#[.i hh,.i d,.i j,.i l,.i A],80)]) M c a M c r->CB 149 #[.slice c.ac M.cs.length c.cc,.i A] r (.u (dj M.cs A)):=λr f=>by rw [w];exact Eh c.ac c.cc M.cs A r w f.mp.fam.msl.cs q
    obtain ⟨Q,G⟩:∃ Q,((wrap64 (A.tdiv 1024)).tmod 4==3)=Q:=⟨_,rfl⟩;have s:((IntKind.i64.wrap (A.tdiv 1024)).tmod 4==3)=Q:=(by rw [<- G,IntKind.wrap_i64];unfold wrap64;rfl);cases wr with
    | false =>rw [OG k n] at p;subst p;refine ae (Hs.eng (dr:=false) (λ_ h=>h.hs)) {} 60 u λW3 K=>?_;refine aN (Hs.eng (dr:=true) (λ_ h=>h.hs)) {} 40 K O ?_;rintro W4 e W5 J ⟨rfl,x⟩;have L:=J.below x;refine ⟨_,0,rfl,λ_=>L.hs,?_⟩;refine ae (Hs.eng (dr:=false) (λ_ h=>h.hs)) {} 40 L λW6 Y=>?_;refine mq 9 ?_;refine aN (Hs.eng (dr:=true) (λ_ h=>h.hs)) {} 40 (Y.below (Below.refl _ _).drew) (λr f=>fg d (dj M.cs A) (Uz.wrap (M.pc+4)) E F f.ht N.x32 w) ?_;rintro W7 e W8 Z ⟨rfl,C,h8,k8⟩;refine ⟨_,0,rfl,fi a4,aK (Hs W (aQ g W::eE a.heap.size [(#[.i hh,.i d,.i j,.i l,.i A],80)]) (ap (aX M d (dj M.cs A) (Uz.wrap (M.pc+4))) C)) ?_⟩;have i:=Z.to h8 k8;exact aU (t:=8) (v:=.i 1) (Hs.eng (dr:=false) (λ_ h=>h.hs)) {} 60 i λr f=>⟨rfl,C,f.ht,f.kx⟩
    | true =>
      cases Q with
      | true =>rw [OF k n G] at p;subst p;exact Hx.last (Hs.eng (dr:=false) (λ_ h=>h.hs)) {eq:=[(56,af s)]} 60 u (λr f=>dI 2 a6 z f.ht N)
      | false =>
        refine ae (Hs.eng (dr:=false) (λ_ h=>h.hs)) {eq:=[(56,af s)]} 60 u λW3 K=>?_;refine aN (Hs.eng (dr:=true) (λ_ h=>h.hs)) {} 40 K O ?_;rintro W4 e W5 J ⟨rfl,x⟩;have L:=J.below x;refine ⟨_,0,rfl,λ_=>L.hs,?_⟩;refine ae (Hs.eng (dr:=false) (λ_ h=>h.hs)) {} 40 L λW6 Y=>?_;refine mq 9 ?_;refine aN (Hs.eng (dr:=true) (λ_ h=>h.hs)) {} 40 (Y.below (Below.refl _ _).drew) (λr f=>fg d (dj M.cs A) (Uz.wrap (M.pc+4)) E F f.ht N.x32 w) ?_;rintro W7 e W8 Z ⟨rfl,C,h8,k8⟩;refine ⟨_,0,rfl,fi a4,aK (Hs W (aQ g W::eE a.heap.size [(#[.i hh,.i d,.i j,.i l,.i A],80)]) (ap (aX M d (dj M.cs A) (Uz.wrap (M.pc+4))) C)) ?_⟩;have i:=Z.to h8 k8;obtain ⟨H,g1⟩:∃ b,((hh-87).tmod 3==1)=b:=⟨_,rfl⟩;obtain ⟨R,g2⟩:∃ b,((hh-87).tmod 3==2)=b:=⟨_,rfl⟩;have hv:tw ⟨hh,d,j,l,A⟩ y (dj M.cs A)=bif H then bits .or .u64 (dj M.cs A) I else bif R then bits .andNot .u64 (dj M.cs A) I else I:=by unfold tw;dsimp only;rw [g1,g2,D];cases H<;>cases R<;>rfl
        rw [Mm k n G hv] at p;cases H<;>cases R <;>
        ·refine ae (Hs.eng (dr:=false) (λ_ h=>h.hs)) {eq:=[(83,af g1),(88,af g2)]} 60 i λr f=>?_;exact an _ _ (fin _ _ C r q p f)
 refine bf (S:=Hs W (aQ g W::eE a.heap.size [(#[.i hh,.i d,.i j,.i l,.i A],80)]) (ap M c)) (args:=[.p g 0,.agg #[.i hh,.i d,.i j,.i l,.i A],.u y,.u z]) [(#[.i hh,.i d,.i j,.i l,.i A],80)] func102 ?_;refine aL 0 2 (aL 5 3 ?_);obtain ⟨b9,i⟩:∃ b,decide (90<=hh)=b:=⟨_,rfl⟩;obtain ⟨b0,h0⟩:∃ b,((hh-87).tmod 3==0)=b:=⟨_,rfl⟩;obtain ⟨H,o⟩:∃ b,(j != 0)=b:=⟨_,rfl⟩;have D:lM ⟨hh,d,j,l,A⟩ y=bif b9 then Uz.wrap j else y:=by
  unfold lM;dsimp only;by_cases e:90<=hh;·rw [if_pos e,<- i,decide_eq_true e];rfl
  ·rw [if_neg e,<- i,decide_eq_false e];rfl
 have n:dN ⟨hh,d,j,l,A⟩=(b0||H):=by unfold dN;dsimp only;rw [h0,o]
 cases b9<;>cases b0<;>cases H <;>
 ·refine ae (Hs.eng (dr:=false) (λ_ h=>h.hs)) {eq:=[(22,cZ .i64 T),(26,af i),(31,af h0),(35,af o)]} 80 (Hx.start h _) λr f=>?_;exact an _ _ (main _ _ D n _ r f)
def ED (b:Nat) (i:Ins):Kr:=⟨b,#[.i i.op,.i i.rd,.i i.a,.i i.b,.i i.imm],80,[]⟩
theorem QI {bi:Nat} {S:World->Prop} (hi:jJ m) (F:U y) (w0:Hx B W [aQ g W,ED bi m] w c a M E n) (x:Gd M) (hd:Ud M.d): Wg prog S (bodyPost prog Tryz.f44 (HR B g W w c a (cR M m y))) Tryz.f44.ntmps [.code (ay 9 (aW Tryz.f44))] [(0,.p g 0,2),(3,.p W 0,1),(5,.u y,0),(7,.p bi 0,3)] n:=by
 obtain ⟨o1,K,s,o,N,O,P,Q,im0,im1,_⟩:=hi;have t:=x.x32;have r:=(aI x.ok).1;obtain ⟨b,H,z⟩:=w0.ht.atX t;have J:∀ (j:Nat),j<32->∀ n,Hx B W [aQ g W,ED bi m] w c a M E n->n.cell? ⟨b,j,none⟩=some (.u (M.x.getD j 0)):=λj hj n w0=>by obtain ⟨b',C,wd⟩:=w0.ht.atX t;rw [H] at C;cases C;exact (wd j hj).1
 refine aK (Hx B W [aQ g W,ED bi m] w c a M E) ?_;refine ae (Hx.eng (dr:=true)) {ov:=[(117,pe M.x.length E.cx .i64 m.a H ⟨N,ab⟩ underlying23 a4),(118,jk ⟨b,0+m.a.toNat,none⟩ (.u (M.x.getD (0+m.a.toNat) 0)) underlying22 rfl (J (0+m.a.toNat) ab)),(125,pe M.x.length E.cx .i64 m.b H ⟨P,ab⟩ underlying23 a4),(126,jk ⟨b,0+m.b.toNat,none⟩ (.u (M.x.getD (0+m.b.toNat) 0)) underlying22 rfl (J (0+m.b.toNat) ab))]} 40 w0 λW1 v=>?_;have G:=x.ux m.a.toNat;have I:=x.ux m.b.toNat;have L:U (Uz.wrap m.imm):=bI _;refine an [.code (ay 13 (aW Tryz.f44))] [(0,.p g 0,2),(3,.p W 0,1),(5,.u y,0),(7,.p bi 0,3),(9,.u (M.x.getD (0+m.a.toNat) 0),0),(10,.u (M.x.getD (0+m.b.toNat) 0),0),(11,.u (Uz.wrap m.imm),0),(12,.u (Uz.wrap (M.pc+4)),0)] ?_;rw [Nat.zero_add,Nat.zero_add];refine aK (Hs W [aQ g W,ED bi m] (ap M E)) ?_;clear J z H w0;by_cases c0:m.op=1;·have A:(m.op==1)=true:=a8;have i:cR M m y=(aX M m.rd (Uz.wrap m.imm) (Uz.wrap (M.pc+4)),1):=(by unfold cR;dsimp only;rw [if_pos ab]);rw [i];clear i;exact Hx.last (Hs.eng (dr:=true) (λ_ h=>h.hs)) {eq:=[(138,af A)]} 300 v (λn w0=>fg m.rd _ _ s o w0.ht t r)
 by_cases c1:m.op=2;·have A:(m.op==1)=false:=a8;have M0:(m.op==2)=true:=a8;have i:cR M m y=(aX M m.rd (Uz.wrap (M.pc+Uz.wrap m.imm)) (Uz.wrap (M.pc+4)),1):=(by unfold cR;dsimp only;rw [if_neg ab,if_pos ab]);rw [i];clear i;refine ae (Hs.eng (dr:=false) (λ_ h=>h.hs)) {eq:=[(138,af A),(148,af M0)]} 20 v λW2 Z=>?_;refine mq 10 ?_;exact Hx.last (Hs.eng (dr:=true) (λ_ h=>h.hs)) {} 60 (Z.below (Below.refl _ _).drew) (λn w0=>fg m.rd _ _ s o w0.ht t r)
 by_cases R:m.op<=10;·have A:(m.op==1)=false:=a8;have M0:(m.op==2)=false:=a8;have d:decide (m.op<=10)=true:=bw;have i:cR M m y=pw M m (M.x.getD m.a.toNat 0) (M.x.getD m.b.toNat 0) (Uz.wrap m.imm):=oi;rw [i];clear i;exact Hx.last (Hs.eng (dr:=true) (λ_ h=>h.hs)) {eq:=[(138,af A),(148,af M0),(163,af d)]} 300 v (λn w0=>QB m _ _ _ ab R s o w0.ht x)
 by_cases T:m.op<=17;·have A:(m.op==1)=false:=a8;have M0:(m.op==2)=false:=a8;have d:decide (m.op<=10)=false:=ba;have f:decide (m.op<=17)=true:=bw;have i:cR M m y=mP M m (Uz.wrap (M.x.getD m.a.toNat 0+Uz.wrap m.imm)):=ib;rw [i];clear i;exact Hx.last (Hs.eng (dr:=true) (λ_ h=>h.hs)) {eq:=[(138,af A),(148,af M0),(163,af d),(173,af f)]} 300 v (λn w0=>QA m _ ab T s o (bI _) w0.ht x)
 by_cases V:m.op<=21;·have A:(m.op==1)=false:=a8;have M0:(m.op==2)=false:=a8;have d:decide (m.op<=10)=false:=ba;have f:decide (m.op<=17)=false:=ba;have hh:decide (m.op<=21)=true:=bw;have i:cR M m y=nB M m (Uz.wrap (M.x.getD m.a.toNat 0+Uz.wrap m.imm)) (M.x.getD m.b.toNat 0):=ey;rw [i];clear i;exact Hx.last (Hs.eng (dr:=true) (λ_ h=>h.hs)) {eq:=[(138,af A),(148,af M0),(163,af d),(173,af f),(183,af hh)]} 300 v (λn w0=>Oz m _ _ ab V (bI _) I w0.ht x)
 by_cases c5:m.op<=62
 ·have A:(m.op==1)=false:=a8;have M0:(m.op==2)=false:=a8;have d:decide (m.op<=10)=false:=ba;have f:decide (m.op<=17)=false:=ba;have hh:decide (m.op<=21)=false:=ba;have l:decide (m.op<=62)=true:=bw;have i:cR M m y=(aX M m.rd (m7 m.op (M.x.getD m.a.toNat 0) (if (fD m.op).toList=[82] then M.x.getD m.b.toNat 0 else Uz.wrap m.imm)) (Uz.wrap (M.pc+4)),1):=ek;rw [i];clear i;have A0:=λn=>yw m.op (sT ab ab) n;cases D:((fD m.op).toList==(⟨#[82]⟩:ByteArray).toList) with
  | true =>rw [if_pos (show (fD m.op).toList=[82] from (eq_of_beq D).trans bb)];exact Hx.last (Hs.eng (dr:=true) (λ_ h=>h.hs)) {eq:=[(138,af A),(148,af M0),(163,af d),(173,af f),(183,af hh),(194,af l),(198,af (show (!((fD m.op).toList==(⟨#[82]⟩:ByteArray).toList))=false by rw [D];rfl))],cv:=[(197,jb (λh k=>h.below k) λn _=>A0 n),(205,jb (λh k=>h.below k) λn _=>sI m.op _ _ (sT ab ab) G.1 G.2 I.1 I.2 n)]} 300 v (λn w0=>fg m.rd _ _ s o w0.ht t r)
  | false =>rw [if_neg (show ¬ (fD m.op).toList=[82] from λe=>by rw [e] at D;exact absurd D bb)];exact Hx.last (Hs.eng (dr:=true) (λ_ h=>h.hs)) {eq:=[(138,af A),(148,af M0),(163,af d),(173,af f),(183,af hh),(194,af l),(198,af (show (!((fD m.op).toList==(⟨#[82]⟩:ByteArray).toList))=true by rw [D];rfl))],cv:=[(197,jb (λh k=>h.below k) λn _=>A0 n),(205,jb (λh k=>h.below k) λn _=>sI m.op _ _ (sT ab ab) G.1 G.2 L.1 L.2 n)]} 300 v (λn w0=>fg m.rd _ _ s o w0.ht t r)
 by_cases X:m.op<=84;·have A:(m.op==1)=false:=a8;have M0:(m.op==2)=false:=a8;have d:decide (m.op<=10)=false:=ba;have f:decide (m.op<=17)=false:=ba;have hh:decide (m.op<=21)=false:=ba;have l:decide (m.op<=62)=false:=ba;have p:decide (m.op<=84)=true:=bw;have i:cR M m y=i9 M m (M.x.getD m.a.toNat 0) (M.x.getD m.b.toNat 0):=ef;rw [i];clear i;exact Hx.last (Hs.eng (dr:=true) (λ_ h=>h.hs)) {eq:=[(138,af A),(148,af M0),(163,af d),(173,af f),(183,af hh),(194,af l),(217,af p)]} 300 v (λn w0=>Mf m _ _ ab X s o G I w0.ht x hd)
 by_cases c7:m.op<=86;·have A:(m.op==1)=false:=a8;have M0:(m.op==2)=false:=a8;have d:decide (m.op<=10)=false:=ba;have f:decide (m.op<=17)=false:=ba;have hh:decide (m.op<=21)=false:=ba;have l:decide (m.op<=62)=false:=ba;have p:decide (m.op<=84)=false:=ba;have q:decide (m.op<=86)=true:=bw;have i:cR M m y=(aX M 0 0 (Uz.wrap (M.pc+4)),1):=d8;rw [i];clear i;exact Hx.last (Hs.eng (dr:=true) (λ_ h=>h.hs)) {eq:=[(138,af A),(148,af M0),(163,af d),(173,af f),(183,af hh),(194,af l),(217,af p),(226,af q)]} 300 v (λn w0=>fg 0 0 _ a6 a6 w0.ht t r)
 by_cases Y:m.op<=92;·have A:(m.op==1)=false:=a8;have M0:(m.op==2)=false:=a8;have d:decide (m.op<=10)=false:=ba;have f:decide (m.op<=17)=false:=ba;have hh:decide (m.op<=21)=false:=ba;have l:decide (m.op<=62)=false:=ba;have p:decide (m.op<=84)=false:=ba;have q:decide (m.op<=86)=false:=ba;have u:decide (m.op<=92)=true:=bw;have i:cR M m y=nC M m (M.x.getD m.a.toNat 0) y:=di;rw [i];clear i;exact Hx.last (Hs.eng (dr:=true) (λ_ h=>h.hs)) {eq:=[(138,af A),(148,af M0),(163,af d),(173,af f),(183,af hh),(194,af l),(217,af p),(226,af q),(233,af u)]} 300 v (λn w0=>RZ m _ y ab Y s o F w0.ht x)
 have A:(m.op==1)=false:=by simp;omega
 have M0:(m.op==2)=false:=by simp;omega
 have d:(decide (m.op<=10))=false:=by rw [decide_eq_false_iff_not];omega
 have f:(decide (m.op<=17))=false:=by rw [decide_eq_false_iff_not];omega
 have hh:(decide (m.op<=21))=false:=by rw [decide_eq_false_iff_not];omega
 have l:(decide (m.op<=62))=false:=by rw [decide_eq_false_iff_not];omega
 have p:(decide (m.op<=84))=false:=by rw [decide_eq_false_iff_not];omega
 have q:(decide (m.op<=86))=false:=by rw [decide_eq_false_iff_not];omega
 have u:(decide (m.op<=92))=false:=by rw [decide_eq_false_iff_not];omega
 have i:cR M m y=kC M m y:=by unfold cR;dsimp only;rw [if_neg ab,if_neg ab,if_neg ab,if_neg ab,if_neg ab,if_neg ab,if_neg ab,if_neg ab,if_neg ab]
 rw [i];exact Hx.last (Hs.eng (dr:=true) (λ_ h=>h.hs)) {eq:=[(138,af A),(148,af M0),(163,af d),(173,af f),(183,af hh),(194,af l),(217,af p),(226,af q),(233,af u)]} 300 v (λn w0=>Mb m (M.x.getD m.a.toNat 0) y ab K F w0.ht x)
theorem zT (h:0<=fJ o y):∃ k:Nat,k<16/\fJ o y=k:=by
 have key:∀ x,0<=cS x->∃ k:Nat,k<16/\cS x=k:=λx a=>by
  unfold cS at a ⊢;rcases tX x dW with e|⟨n,b,e,_⟩;·rw [e] at a;omega
  ·refine ⟨n,?_,e⟩;have:∀ m ∈ dW,m<16:=by decide
   exact this n b
 unfold fJ at h ⊢;split at h;·exact key _ h
 ·unfold EN at h ⊢;split at h;·exact key _ h
  ·omega
theorem Gi (h:Ht B g t M c a) (i:Gd M):CB 89 #[.slice c.ac M.cs.length c.cc,.i M.pr] a (.i (fJ M.cs M.pr)):=by obtain ⟨w,f,d,_,_,_⟩:=aI i.ok;obtain ⟨hh,A,b,_⟩:=h.mp.cs w;rw [A,w];exact wU hh 0 c.cc M.cs M.pr d a w (gj b)
theorem QJ {r:Nat} (h:Ht B W r M c a) (hg:Gd M) (hd:Ud M.d):Calls prog 44 #[.p W 0] a (HR B W r M c a (dP M)):=by
 obtain ⟨L,hcs,hpr,_,_,_⟩:=aI hg.ok;obtain ⟨b,I,E⟩:=h.atC L;have K:∀ (j:Nat),j<22->∀ hh,Hx B r [aQ W r] M c a M c hh->hh.cell? ⟨b,j,none⟩=some (.u (M.cs.getD j 0)):=λj hj hh w=>by obtain ⟨b',Q,p⟩:=w.ht.atC L;rw [I] at Q;cases Q;exact (p j hj).1
 have fin:∀ (S:World->Prop) (hh:World),Hx B r [aQ W r] M c a M c hh->(M.wt&&(j9 M.cs==0))=false->Wg prog S (bodyPost prog Tryz.f44 (HR B W r M c a (dP M))) Tryz.f44.ntmps [.code (ay 3 (aW Tryz.f44))] [(0,.p W 0,2),(3,.p r 0,1)] hh:=by
  intro S hh w hn;clear K E I;have Z:dP M=if 0<=fJ M.cs M.pr then (aM (gA M false) (fJ M.cs M.pr).toNat true 0,3) else (let q:=aC (gA M false) M.pc 4 1 0;if (q.2.2 != 0)=true then cC q 0 q.2.1.pc else match F4 q.1 with | none=>(aM q.2.1 2 false q.1,2) | some i=>cR q.2.1 i q.1):=by unfold dP;rw [hn,if_neg a6];rfl
  rw [Z];clear Z;have n:=hg.wait false;have U:fJ M.cs M.pr=fJ (gA M false).cs (gA M false).pr:=rfl;have R:M.pc=(gA M false).pc:=rfl;have F:Ud (gA M false).d:=hd;refine aK (Hs r [aQ W r] (ap M c)) ?_;refine ae (Hs.eng (dr:=false) (λ_ h=>h.hs)) {} 40 w λu s=>?_;refine bx (cy (i:=13) (T:=4) (v:=.bool false) s.mp.row (show 13<14 by decide) a4 rfl) ?_;have h2:=s.fld (M':=gA M false) 13 (.bool false) rfl rfl;rw [U,R];generalize gA M false=N at n h2 F ⊢;clear U R;refine aK (Hx B r [aQ W r] M c a N c) ?_;by_cases e:0<=fJ N.cs N.pr;·obtain ⟨k,k16,hk⟩:=zT _ _ e;have q:decide (0<=((k:Nat):Int))=true:=bw;have o:∀ hh,Hx B r [aQ W r] M c a N c hh->CB 89 #[.slice c.ac N.cs.length c.cc,.i N.pr] hh (.i ((k:Nat):Int)):=λhh w=>hk ▸ Gi w.ht n;rw [if_pos e,hk,Int.toNat_natCast];clear hk e;refine ae (Hx.eng (dr:=true)) {eq:=[(52,af q)],cv:=[(50,jb (λh k=>h.below k) λhh w=>o hh w)]} 22 h2 λW3 h3=>?_;have hl:(aM N k true 0).cs.length=N.cs.length:=lK _ _ _ _ _ _;have em:ap (iP N (aM N k true 0).cs) c=ap N c:=(by unfold ap iP;dsimp only;rw [hl]);refine aK (Hs r [aQ W r] (ap N c)) ?_;refine mq 21 ?_;refine aN (Hs.eng (dr:=true) (λ_ h=>h.hs)) {} 100 (h3.below (Below.refl _ _).drew) (λu s=>vH s.ht n k k16 true 0) ?_;rintro W4 e W5 h4 ⟨rfl,h5,k5⟩;have h6:=h4.to h5 k5;refine ⟨_,0,rfl,λ_=>em ▸ h6.hs,?_⟩;refine ae (Hs.eng (dr:=true) (λ_ h=>em ▸ h.hs)) {} 40 h6 λW7 G=>?_;refine bx (cy (i:=2) (T:=2) (v:=.i (aM N k true 0).pr) G.mp.row (show 2<14 by decide) a4 rfl) ?_;have O:=G.fld (M':=gB (iP N (aM N k true 0).cs) (aM N k true 0).pr) 2 (.i (aM N k true 0).pr) rfl rfl;refine aK (Hx B r [aQ W r] M c a (gB (iP N (aM N k true 0).cs) (aM N k true 0).pr) c) ?_;refine ae (Hx.eng (dr:=true)) {} 40 O λW9 H=>?_;refine bx (cy (i:=0) (T:=22) (v:=.u (aM N k true 0).pc) H.mp.row (show 0<14 by decide) a4 rfl) ?_;have l:=H.fld (M':=aM N k true 0) 0 (.u (aM N k true 0).pc) rfl rfl;refine aK (Hx B r [aQ W r] M c a (aM N k true 0) c) ?_;exact aU (t:=2) (v:=.i 3) (Hx.eng (dr:=true)) {cv:=[(77,jY λhh w=>mS (aM N k true 0) c B W r hh w.ht)]} 40 l λhh w=>w.hr 3
  ·have q:decide (0<=fJ N.cs N.pr)=false:=(by rw [decide_eq_false_iff_not];exact e);rw [if_neg e];clear e;generalize V:fJ N.cs N.pr=pv at q;have o:∀ hh,Hx B r [aQ W r] M c a N c hh->CB 89 #[.slice c.ac N.cs.length c.cc,.i N.pr] hh (.i pv):=λhh w=>V ▸ Gi w.ht n;clear V;refine ae (Hx.eng (dr:=true)) {eq:=[(52,af q)],cv:=[(50,jb (λh k=>h.below k) λhh w=>o hh w)]} 22 h2 λW3 h3=>?_;refine an [.code (ay 5 (aW Tryz.f44))] [(0,.p W 0,2),(3,.p r 0,1)] ?_;clear o q;have ga:=n.acc N.pc 4 1 0;have P:=λhh (w:Mp B r N c hh)=>fR N c B r N.pc 4 1 0 hh w n.len n.mw n.ok a6 ab ab n.pc lN;have ec:=λA=>j7 (M:=N) (addr:=N.pc) (size:=4) (kind:=1) (x:=0) (c:=A);have Y:=sU n F N.pc 4 ab 1 0;have ud:=zP F N.pc 4 1 lN;rw [show ((4:Nat):Int)=4 from rfl] at Y;generalize aC N N.pc 4 1 0=X at *;obtain ⟨y,f,A⟩:=X;dsimp only at ga P ec Y ud ⊢;refine aK (Hs r [aQ W r] (ap N c)) ?_;refine ae (Hs.eng (dr:=false) (λ_ h=>h.hs)) {} 1 h3 λW4 h4=>?_;refine mq 9 ?_;refine aN (Hs.eng (dr:=true) (λ_ h=>h.hs)) {} 100 (h4.below (Below.refl _ _).drew) (λu s=>P u s.mp) ?_;rintro W5 e W6 h5 ⟨rfl,C,h6,k6⟩;refine ⟨_,0,rfl,fi a4,aK (Hs r [aQ W r] (ap f C)) ?_⟩;have G:=h5.step h6 k6;cases o:(A != 0) with
   | true =>rw [if_pos rfl];have tg:∀ hh,Hx B r [aQ W r] M c a f C hh->Calls prog 93 #[.p W 0,.i ((A-16).toNat:Nat),.u f.pc] hh (HR B W r f C hh (cC (y,f,A) 0 f.pc)):=λhh w=>dI _ (ec A rfl o).2 f.pc w.ht ga;exact Hx.last (Hs.eng (dr:=true) (λ_ h=>h.hs)) {eq:=[(92,af o),(95,cZ .i64 (ec A rfl o).1)]} 60 G tg
   | false =>
     rw [if_neg a6];have m:=λhh=>vt y Y.1 Y.2 hh;unfold mN at m;cases he:F4 y with
     | none =>simp only [he] at m;refine aN (Hs.eng (dr:=true) (λ_ h=>h.hs)) {eq:=[(92,af o)]} 60 G (λu s=>m u) ?_;rintro W8 e W9 O ⟨rfl,k9⟩;refine ⟨_,0,rfl,fi a4,?_⟩;have H:=O.below k9;refine ae (Hs.eng (dr:=false) (λ_ h=>h.hs)) {} 3 H λd l=>?_;refine fz 3 (cT (T:=80) (z:=.agg #[.i 0,.i 0,.i 0,.i 0,.i 0]) a4 d) ?_;refine bx (aD (g:=d.heap.size) (t:=80) (ty:=80) (old:=#[.i 0,.i 0,.i 0,.i 0,.i 0]) (cells:=#[.i 0,.i 0,.i 0,.i 0,.i 0]) (heap_alloc_new _ _) a4 rfl a4) ?_;have D:=l.below (aF (bal d (.cells #[.i 0,.i 0,.i 0,.i 0,.i 0] 80)) (Nat.le_refl _) #[.i 0,.i 0,.i 0,.i 0,.i 0]);have tg:∀ hh,Hx B r [aQ W r] M c a f C hh->Calls prog 93 #[.p W 0,.i 2,.u y] hh (HR B W r f C hh (aM f 2 false y,2)):=λhh w=>dI 2 a6 y w.ht ga;exact Hx.last (Hs.eng (dr:=true) (λ_ h=>h.hs)) {} 60 D tg
     | some i =>simp only [he] at m;have hi:=zA he;refine aN (Hs.eng (dr:=true) (λ_ h=>h.hs)) {eq:=[(92,af o)]} 60 G (λu s=>m u) ?_;rintro W8 e W9 O ⟨rfl,k9⟩;refine ⟨_,0,rfl,fi a4,?_⟩;have H:=O.below k9;refine ae (Hs.eng (dr:=false) (λ_ h=>h.hs)) {} 3 H λd l=>?_;refine fz 3 (cT (T:=80) (z:=.agg #[.i 0,.i 0,.i 0,.i 0,.i 0]) a4 d) ?_;refine bx (aD (g:=d.heap.size) (t:=80) (ty:=80) (old:=#[.i 0,.i 0,.i 0,.i 0,.i 0]) (cells:=#[.i i.op,.i i.rd,.i i.a,.i i.b,.i i.imm]) (heap_alloc_new _ _) a4 rfl a4) ?_;have D:Hx B r [aQ W r,ED d.heap.size i] M c a f C ((d.alloc (.cells #[.i 0,.i 0,.i 0,.i 0,.i 0] 80)).setRow d.heap.size #[.i i.op,.i i.rd,.i i.a,.i i.b,.i i.imm]):=l.var (aF (bal d _) (Nat.le_refl _) _) (ED d.heap.size i) (setRow_heap _ _ _ _ _ _ (heap_alloc_new _ _)) (Nat.le_refl _);refine aK (Hx B r [aQ W r,ED d.heap.size i] M c a f C) ?_;refine ae (Hx.eng (dr:=false)) {} 10 D λW12 h12=>?_;exact an _ _ (QI i y hi Y h12 ga ud)
 refine bf (S:=Hx B r [aQ W r] M c a M c) (args:=[.p W 0]) [] func44 ?_;refine aL 0 2 ?_;have h0:=Hx.start h [];cases J:M.wt with
 | true =>
   cases hz:(j9 M.cs==0) with
   | true =>have Z:dP M=(M,4):=(by unfold dP;rw [J,hz,if_pos a6]);rw [Z];exact aU (t:=2) (v:=.i 4) (Hx.eng (dr:=true)) {eq:=[(22,af J),(37,af hz)],ov:=[(28,pe M.cs.length c.cc .i64 9 I ⟨ab,ab⟩ underlying23 a4),(29,jk ⟨b,0+(9:Int).toNat,none⟩ (.u (M.cs.getD 9 0)) underlying22 rfl (K 9 ab)),(34,pe M.cs.length c.cc .i64 3 I ⟨ab,ab⟩ underlying23 a4),(35,jk ⟨b,0+(3:Int).toNat,none⟩ (.u (M.cs.getD 3 0)) underlying22 rfl (K 3 ab))]} 60 h0 λhh w=>w.hr 4
   | false =>refine ae (Hx.eng (dr:=true)) {eq:=[(22,af J),(37,af hz)],ov:=[(28,pe M.cs.length c.cc .i64 9 I ⟨ab,ab⟩ underlying23 a4),(29,jk ⟨b,0+(9:Int).toNat,none⟩ (.u (M.cs.getD 9 0)) underlying22 rfl (K 9 ab)),(34,pe M.cs.length c.cc .i64 3 I ⟨ab,ab⟩ underlying23 a4),(35,jk ⟨b,0+(3:Int).toNat,none⟩ (.u (M.cs.getD 3 0)) underlying22 rfl (K 3 ab))]} 34 h0 λhh w=>?_;exact an _ _ (fin _ hh w (by rw [J,hz];rfl))
 | false =>refine ae (Hx.eng (dr:=true)) {eq:=[(22,af J)]} 34 h0 λhh w=>?_;exact an _ _ (fin _ hh w (by rw [J];rfl))
structure OH (M:MV):Prop where
 mw:MW M
 ux:∀ j,U (M.x.getD j 0)
 pc:U M.pc
 hd:U M.hd
 ud:Ud M.d
theorem OH.gd (h:OH M) (a:gE M=true):Gd M:=⟨a,h.mw,h.ux,h.pc,h.hd⟩
def Mn (M:MV):MV × Int:=if gE M=true then dP M else (au,0)
def mQ (w:World) (V:MV × Int) (e:Ending) (w':World):Prop:=∃ C:MA,e=.returned (.tuple #[.agg (ap V.1 C),.i V.2])/\aZ w.heap.size w'.heap.size w' (aJ V.1 C)/\Bw w w'
theorem QK (T:TypeId) (v:Value) (w:World):(do pure (.value (<- Instr.box T v)):Sem Next).run j w=.ok (.value (.p w.heap.size 0)) (w.alloc (.cells v.cells T)):=by simp [Instr.box,newVar,newRow]
def cw:Nat->MV->MV × List Int
 | 0,M=>(M,[])
 | n+1,M=>if ((dP M).2==4)=true then ((dP M).1,[(dP M).2]) else ((cw n (dP M).1).1,(dP M).2::(cw n (dP M).1).2)
theorem Gw.step (h:Gw M):Gw (dP M).1:=OE h λl p a=>zT l p a
theorem qQ:∀ (n:Nat) {M:MV},Gw M->Gw (cw n M).1
 | 0,_,h=>h
 | n+1,M,h=>by
   unfold cw
   split
   ·exact h.step
   ·exact qQ n h.step
theorem oZ:∀ (n:Nat) (M:MV),(cw n M).2.length<=n
 | 0,_=>Nat.le_refl _
 | n+1,M=>by
   unfold cw
   split
   ·simp
   ·have:=oZ n (dP M).1
    simp only [List.length_cons]
    omega
theorem OI {t':TypeId} {i:Value} {b:List Value} (h:a.ownsRow B q 1 d t s) (l:a.ownsRow g t' 1 i W b) (o:q≠t') {k:Nat} (e:d.ownBlock=some k):i.ownBlock≠some k:=λf=>by
 rcases h.2 with ⟨rfl,_⟩|⟨n,c,j,rfl,_,m,_⟩;·cases e
 ·rcases l.2 with ⟨rfl,_⟩|⟨r,p,v,rfl,_,B',_⟩;·cases f
  ·cases e;cases f;rw [m] at B';injection B' with h4
   injection h4 with _ h5
   exact o h5
theorem Pd {q:FRow} (h:q ∈ aJ M c):q.t=22\/q.t=5:=by simp only [aJ,List.mem_cons,List.not_mem_nil,or_false] at h;rcases h with rfl|rfl|rfl|rfl|rfl<;>simp [aG,aw]
theorem pO (h:a.ownsRow B 2 1 d W s) (f:aZ g t a (aJ M c)) {k:Nat} (e:d.ownBlock=some k):∀ q ∈ aJ M c,q.v.ownBlock≠some k:=λq B'=>OI h (f.own q B') (by rcases Pd B' with e | e<;>rw [e]<;>decide) e
theorem Ht.far (h:Ht B g t M c a) (hs:a.heap.size<=n.heap.size) (hk:∀ k,k<a.heap.size->(k=g\/k=t\/∃ q ∈ aJ M c,q.v.ownBlock=some k)->n.heap[k]?=a.heap[k]?):Ht B g t M c n:=by have f:aZ B a.heap.size n (aJ M c):=⟨λq W=>ew (h.mp.fam.own q W) λk e=>hk k ((h.mp.fam.own q W).lt k e).2 (.inr (.inr ⟨q,W,e⟩)),h.mp.fam.hi,h.mp.fam.ne⟩;exact ⟨(hk g h.lt (.inl rfl)).trans h.row,⟨(hk t h.mp.lt (.inr (.inl rfl))).trans h.mp.row,f.low (Nat.le_refl _) hs,h.mp.ne,h.mp.lo⟩,h.ne,h.nq⟩
def Cw (T:TypeId) (v u:Value):Sem Next:=execOp (λx=>match x with | .tmp 0=>v | _=>u) {dst:=none,op:=.call {callee:=.builtin .append,args:=#[.tmp 0,.tmp 1],argTypes:=#[T,T]},type:=T,pos:= "",after:=#[],guard:=none}
theorem I3 {u x:Value} (h:(Builtin.append_ #[q,q] q #[d,u]).run j a=.ok x n):(Cw q d u).run j a=.ok (.value x) n:=by unfold Cw execOp;simp only [resolve,invoke,builtin,Sem.run_bind,Sem.run_pure,Result.andThen_ok,List.map_toArray,List.map_cons,List.map_nil,h]
theorem vK:(prog.info? 2).map (λi=>(i.zero,i.size,i.bytes))=some (some (.i 0),1,8):=by kernel_rfl
theorem OJ:(do pure (.value (<- Instr.buildSlice 39 0 #[])):Sem Next).run prog f=.ok (.value (.slice (some ⟨f.heap.size,0,none⟩) 0 0)) (f.alloc (.cells #[] 2)):=by obtain ⟨c,b,e⟩:=Option.map_eq_some_iff.1 vK;have a:∀ w:Nat->Value,Array.map w (Array.range 0)=#[]:=λw=>Array.eq_empty_of_size_eq_zero bc;simp [Instr.buildSlice,run_underlying underlying39,sizeOf,typeInfo,b,Instr.fill,newRow,a]
theorem Gj:(do pure (.value (<- Instr.buildSlice 39 1 #[(0,.i y)])):Sem Next).run prog f=.ok (.value (.slice (some ⟨f.heap.size,0,none⟩) 1 1)) (f.alloc (.cells #[.i y] 2)):=by obtain ⟨d,c,e⟩:=Option.map_eq_some_iff.1 vK;simp only [Prod.mk.injEq] at e;obtain ⟨b,a,w⟩:=e;have:=run_buildSlice (P:=prog) f 39 2 1 #[(0,.i y)] #[.i y] d (.i 0) underlying39 c b (by rw [a];decide) (by rw [a];decide) (by rw [a];kernel_rfl);simp [this]
theorem Cx {xs:List Int} (h:a.ownsRow B 2 1 (.slice p xs.length g) xs.length (xs.map (Value.int .i64))) (hz:B<=a.heap.size) (hn:xs.length<=1000000) (x:Int):∃ (b:Option Addr) (d:Nat) (W':World),(Cw 39 (.slice p xs.length g) (.slice (some ⟨a.heap.size,0,none⟩) 1 1)).run prog (a.alloc (.cells #[.i x] 2))=.ok (.value (.slice b (xs++[x]).length d)) W'/\W'.ownsRow B 2 1 (.slice b (xs++[x]).length d) (xs++[x]).length ((xs++[x]).map (Value.int .i64))/\a.heap.size<=W'.heap.size/\W'.os=a.os/\W'.tape=a.tape/\W'.output=a.output/\∀ k,k<a.heap.size->(∀ j,(Value.slice p xs.length g).ownBlock=some j->j≠k)->W'.heap[k]?=a.heap[k]?:=by
 obtain ⟨A,s,e⟩:=Option.map_eq_some_iff.1 vK;simp only [Prod.mk.injEq] at e;obtain ⟨l,q,r⟩:=e;have f:=(Below.refl a.heap.size a).alloc (Nat.le_refl _) (.cells #[.i x] 2);obtain ⟨v,W',y,o,i,_⟩:=run_append_own (P:=prog) (a.alloc (.cells #[.i x] 2)) B 39 39 2 A (.i 0) 1 8 underlying39 s l q r rfl a6 _ xs.length _ (du h f) ⟨a.heap.size,0,none⟩ 1 1 [.i x] rfl (λj u z=>KO a _ _ j u z) i3 fb ab a8;have m:∃ b d,v=.slice b (xs.length+1) d:=by
  rcases o.2 with ⟨l,W⟩|⟨base,cap,c,l,_⟩;·omega
  ·exact ⟨_,_,l⟩
 obtain ⟨b,d,rfl⟩:=m;have n:(xs++[x]).length=xs.length+1:=bc
 refine ⟨b,d,W',I3 (by rw [n];exact y),?_,Nat.le_trans f.size i.size,i.os.trans f.os,i.tape.trans f.tape,i.output.trans f.output,λk w t=>(i.block k a8 (λe=>t k e.symm rfl)).trans (f.block k w)⟩;rw [n,List.map_append];exact o
structure Hl (B hh r:Nat) (M:MV) (A:MA) (w:World) (M':MV) (A':MA) (xs:List Int) (a:Option Addr) (c:Nat) (W:World):Prop where
 ht:Ht B hh r M' A' W
 kx:Kx r (aJ M A) (aJ M' A') w W
 lo:hh<w.heap.size/\r<w.heap.size
 own:W.ownsRow w.heap.size 2 1 (.slice a xs.length c) xs.length (xs.map (Value.int .i64))
theorem Hl.step {M2:MV} {A2:MA} (h:Hl B g t M c a w E P p W n) (xs:Ht B g t M2 A2 l) (k:Kx t (aJ w E) (aJ M2 A2) n l):Hl B g t M c a M2 A2 P p W l :=
 ⟨xs,h.kx.trans k,h.lo,ew h.own λj e=>by
  obtain ⟨d,b⟩:=h.own.lt j e
  have:=h.lo
  exact k.block j b ab (pO h.own h.ht.mp.fam e)⟩
theorem Hl.push (h:Hl B g t M c a w E P p W n) (hn:P.length<=1000000) (x:Int):∃ (d:Option Addr) (f:Nat) (W':World),(Cw 39 (.slice p P.length W) (.slice (some ⟨n.heap.size,0,none⟩) 1 1)).run prog (n.alloc (.cells #[.i x] 2))=.ok (.value (.slice d (P++[x]).length f)) W'/\Hl B g t M c a w E (P++[x]) d f W':=by
 have m:=h.kx.size;obtain ⟨d,f,W',z,o,A,xs,s,r,l⟩:=Cx h.own m hn x;refine ⟨d,f,W',z,h.ht.far A λk i b=>l k i λj hh e=>?_,⟨xs.trans h.kx.os,s.trans h.kx.tape,r.trans h.kx.output,Nat.le_trans m A,λk i u v=>(l k ab λj hh e=>?_).trans (h.kx.block k i u v),h.kx.own⟩,h.lo,o⟩
 ·have:=(h.own.lt j hh).1;have:=h.lo;rcases b with b|b|⟨q,y,b⟩;·omega
  ·omega
  ·exact pO h.own h.ht.mp.fam hh q y (by rw [e];exact b)
 ·have:=(h.own.lt j hh).1;omega
def LR (B hh r:Nat) (M:MV) (A:MA) (w:World) (R:MV × List Int) (e:Ending) (w':World):Prop:=∃ (a:Option Addr) (c:Nat) (A':MA),e=.returned (.slice a R.2.length c)/\Hl B hh r M A w R.1 A' R.2 a c w'
structure Ls (B hh r:Nat) (M:MV) (A:MA) (w:World) (n j:Nat) (x:MV × MA × List Int × Option Addr × Nat × Nat) (W:World):Prop where
 ej:x.2.2.2.2.2=j
 hl:Hl B hh r M A w x.1 x.2.1 x.2.2.1 x.2.2.2.1 x.2.2.2.2.1 W
 gw:Gw x.1
 ln:x.2.2.1.length+j=n
 st:cw n M=((cw j x.1).1,x.2.2.1++(cw j x.1).2)
theorem OK (n:Nat) (hn:n<=300) (h:Ht B g W M c a) (J:Gw M):Calls prog 62 #[.p g 0,.i n] a (LR B g W M c a (cw n M)):=by
 refine bf (S:=λ_=>True) (args:=[.p g 0,.i n]) [] func62 ?_;refine jI (R:=[]) trivial {} 10 0 (OJ a) ?_;have hh:=(Below.refl a.heap.size a).alloc (Nat.le_refl _) (.cells #[] 2);have s:Ls B g W M c a n n (M,c,[],some ⟨a.heap.size,0,none⟩,0,n) (a.alloc (.cells #[] 2)):=⟨rfl,⟨h.below hh,Kx.of_below hh,⟨h.lt,h.mp.lt⟩,World.ownsRow_lit a #[] 0 (Nat.le_refl _) fb rfl⟩,J,bc,bc⟩;generalize a.alloc (.cells #[] 2)=U at s ⊢;refine aP (R:=[]) trivial {} 20 ?_;refine jc (λx:MV × MA × List Int × Option Addr × Nat × Nat=>[(0,.p g 0,0),(1,.i (x.2.2.2.2.2:Nat),0),(5,.slice x.2.2.2.1 x.2.2.1.length x.2.2.2.2.1,0)]) (Ls B g W M c a n) n (M,c,[],some ⟨a.heap.size,0,none⟩,0,n) a4 a4 s ?_;clear s hh;rintro j ⟨d,E,xs,w,A,N⟩ r ⟨C,o,l,Q,f⟩ T I;dsimp only at C o l Q f ⊢;subst C;cases N with
 | zero =>have e:cw n M=(d,xs):=(by rw [f];simp [cw]);rw [e];exact gI (R:=[]) trivial {} 60 (t:=4) ⟨w,A,E,rfl,o⟩
 | succ j =>
   have q:decide ((0:Int)<((j+1:Nat):Int))=true:=bw;have u:=QJ o.ht l.1 l.2;have p:=l.step;have z:cw (j+1) d=if ((dP d).2==4)=true then ((dP d).1,[(dP d).2]) else ((cw j (dP d).1).1,(dP d).2::(cw j (dP d).1).2):=rfl
   rw [z] at f;clear z;generalize dP d=V at u p f;obtain ⟨M2,k⟩:=V;dsimp only at u p f;refine eB (R:=[]) trivial {eq:=[(9,af q)]} 60 u ?_;rintro e F ⟨rfl,A2,H,O⟩;refine ⟨_,0,rfl,?_⟩;have P:=o.step H O;refine jI (R:=[]) trivial {} 20 0 (Gj F k) ?_;obtain ⟨v,y,G,K,D⟩:=P.push ab k;refine fz 0 K ?_;have i:(xs++[k]).length=xs.length+1:=bc;cases m:(k==4) with
   | true =>rw [m,if_pos rfl] at f;rw [f];exact gI (R:=[]) trivial {eq:=[(19,af m)]} 60 (t:=4) ⟨v,y,A2,rfl,D⟩
   | false =>rw [m,if_neg a6] at f;have L:IntKind.i64.wrap (((j+1:Nat):Int)-1)=((j:Nat):Int):=d6;exact fx (R:=[]) trivial {eq:=[(19,af m),(11,cZ .i64 L)]} 60 λb hh=>I b G j (M2,A2,xs++[k],v,y,j) ab (hh.less a4) ⟨rfl,D,p,by rw [i];omega,by rw [f];simp⟩
structure R6 (w:World) (a:Option Addr) (n:Nat) (l:List (Int × Int)):Prop where
 len:l.length=n
 few:n<=9223372036854775807
 es:Es w a l
 wf:∀ i,(l.getD i (0,0)).2<=9223372036854775807
theorem Vs.sub {L':List Kr} (h:Vs a R n) (hs:∀ x ∈ L',x ∈ R):Vs a L' n:=⟨λx w=>h.rows x (hs x w),h.below⟩
theorem Vs.ag (h:Vs a R n) (k:Ag [B] n l) (hb:a.heap.size<=B) (r:n.heap[B]?=some (.cells S 105 (0,0))) (g:(R.all λx=>x.t != 105)=true):Vs a R l :=
 ⟨λx c=>(k.block x.b (Array.getElem?_eq_some_iff.1 (h.rows x c)).1 (by
  rw [List.mem_singleton]
  intro e
  have w:=h.rows x c
  rw [e,r] at w
  injection w with w
  injection w with _ w
  have d:=List.all_eq_true.1 g x c
  rw [<- w] at d
  simp at d)).trans (h.rows x c),⟨k.os.trans h.below.os,k.tape.trans h.below.tape,k.output.trans h.below.output,Nat.le_trans h.below.size k.size,λi f=>(k.block i (Nat.lt_of_lt_of_le f h.below.size) tk).trans (h.below.block i f)⟩⟩
theorem Ag.fam (h:aZ B t a (aJ M c)) (k:Ag [g] a n) (hb:a.heap[g]?=some (.cells S 105 (0,0))):aZ B t n (aJ M c):=
 h.other λq A i e=>k.block i ((h.own q A).lt i e).2 (by
  rw [List.mem_singleton]
  rintro rfl
  obtain ⟨d,W⟩:=J8 (h.own q A) e
  rw [hb] at W
  injection W with W
  injection W with _ W
  rcases Pd A with e|e<;>rw [e] at W<;>exact absurd W a6)
def qR (l:List Int):Nat:=l.countP (· != 4)
def qS (k n:Int) (M:MV):MV × Nat :=
 if (k==1&&decide (0<=n/\n<=300))=true then ((cw n.toNat M).1,qR (cw n.toNat M).2)
 else if (k==2&&decide (0<=n))=true then (bL (ch M (gy M.d n)),0)
 else if (k==3&&decide (0<=n))=true then (bL (ch M (gM M.d (IntKind.u8.wrap n))),0)
 else (M,0)
def lO:List (Int × Int)->MV->MV × Nat
 | [],M=>(M,0)
 | e::l,M=>((lO l (qS e.1 e.2 M).1).1,(qS e.1 e.2 M).2+(lO l (qS e.1 e.2 M).1).2)
def px (M:MV) (l:List (Int × Int)):MV × Nat:=if (gE M&&decide (l.length<=100))=true then lO l M else (au,0)
theorem zU:qR o<=o.length:=List.countP_le_length
theorem xX {l:List Int} {q:Nat} (h:q<l.length):qR (l.take (q+1))=qR (l.take q)+if (l.getD q 0 != 4)=true then 1 else 0:=by rw [List.take_add_one,List.getElem?_eq_getElem h,List.getD_eq_getElem?_getD,List.getElem?_eq_getElem h];unfold qR;rw [List.countP_append];simp
theorem Gw.okD (h:Gw M):kP M.d.xs.length M.d.ys.length M.d.ir=true:=(cP h.1.ok).2.2.2.2.1
theorem Gw.tick (h:Gw M) {n:Int} (hn:0<=n):Gw (bL (ch M (gy M.d n))):=by
 have e:gy M.d n=⟨Uz.wrap (M.d.t+Uz.wrap n),M.d.cm,M.d.so,M.d.xs,M.d.ys,M.d.ir⟩:=by unfold gy;rw [if_pos (by rw [h.okD];simpa using hn)]
 rw [e];exact ⟨h.1.dev h.okD ⟨h.1.mw.xs,h.1.mw.ys⟩,bI _,h.2.2⟩
theorem Gw.byte (h:Gw M) {b:Int} (hb:(Lit.int .u8 b).wf=true):Gw (bL (ch M (gM M.d b))):=by
 have e:gM M.d b=⟨M.d.t,M.d.cm,M.d.so,if M.d.xs.length<16 then M.d.xs++[b] else M.d.xs,M.d.ys,M.d.ir⟩:=by unfold gM;rw [if_pos h.okD]
 have f:=uo h.okD;rw [e];have key:∀ xs:List Int,xs.length<=16->(∀ y ∈ xs,(Lit.int .u8 y).wf=true)->Gw (bL (ch M ⟨M.d.t,M.d.cm,M.d.so,xs,M.d.ys,M.d.ir⟩)):=λxs c d=>by refine ⟨h.1.dev ?_ ⟨d,h.1.mw.ys⟩,h.2⟩;have:=h.okD;unfold kP at this ⊢;simp only [Bool.and_eq_true,decide_eq_true_eq] at this ⊢;exact ⟨⟨c,this.1.2⟩,this.2⟩
 split
 ·exact key _ a8 λy a=>by
   rcases List.mem_append.1 a with a|a;·exact h.1.mw.xs y a
   ·rw [List.mem_singleton.1 a];exact hb
 ·exact key _ ab h.1.mw.xs
theorem Gk (h:Gw M) (k n:Int):Gw (qS k n M).1:=by
 unfold qS;split;·exact qQ _ h
 ·split;·rename_i a;rw [Bool.and_eq_true,decide_eq_true_eq] at a;exact h.tick a.2
  ·split;·exact h.byte (ze (y:=IntKind.u8.wrap n) (by rw [IntKind.wrap_u8];omega))
   ·exact h
theorem Pe:(qS y z e).2<=300:=by
 unfold qS;split;·rename_i h;rw [Bool.and_eq_true,decide_eq_true_eq] at h;have a:=zU (cw z.toNat e).2;have b:=oZ z.toNat e;show qR _<=300;omega
 ·split;·exact Nat.zero_le _
  ·split<;>exact Nat.zero_le _
theorem Gl:∀ (l:List (Int × Int)) {M:MV},Gw M->Gw (lO l M).1
 | [],_,h=>h
 | e::l,_,h=>Gl l (Gk h e.1 e.2)
theorem Gm (a:B<V.length) (M:MV):lO (V.drop B) M=((lO (V.drop (B+1)) (qS (V.getD B (0,0)).1 (V.getD B (0,0)).2 M).1).1,(qS (V.getD B (0,0)).1 (V.getD B (0,0)).2 M).2+(lO (V.drop (B+1)) (qS (V.getD B (0,0)).1 (V.getD B (0,0)).2 M).1).2):=by rw [List.drop_eq_getElem_cons a,List.getD_eq_getElem?_getD,List.getElem?_eq_getElem a];rfl
theorem Gw.line (h:Gw M):bL M=M:=rH (km (cP h.1.ok).2.2.1) (h.1.mw.cs 9) (cP h.1.ok).2.2.2.2.2.2
def vL (k n:Int) (M:MV):MV × Nat :=
 if (k==1&&decide (0<=n/\n<=300))=true then ((cw n.toNat M).1,qR (cw n.toNat M).2)
 else if (k==2&&decide (0<=n))=true then (ch M (gy M.d n),0)
 else if (k==3&&decide (0<=n))=true then (ch M (gM M.d (IntKind.u8.wrap n)),0)
 else (M,0)
theorem Gn (h:Gw M) (k n:Int):qS k n M=(bL (vL k n M).1,(vL k n M).2):=by
 unfold qS vL;split;·rw [(qQ _ h).line]
 ·split;·rfl
  ·split;·rfl
   ·rw [h.line]
theorem QL (h:Gw M) (k n:Int):iU (vL k n M).1/\(vL k n M).1.cs.length=22/\kP (vL k n M).1.d.xs.length (vL k n M).1.d.ys.length (vL k n M).1.d.ir=true:=by
 have g:=Gk h k n;rw [Gn h] at g;have l:=g.1.len;have e:(bL (vL k n M).1).cs.length=(vL k n M).1.cs.length:=by simp [bL]
 exact ⟨⟨l.x,by rw [<- e];exact l.cs,l.ram,l.xs,l.ys⟩,by rw [<- e];exact km (cP g.1.ok).2.2.1,g.okD⟩
def EE (M:MV) (n:Int):MV × List Int:=if (gE M&&decide (0<=n/\n<=300))=true then cw n.toNat M else (au,[])
def SW (w:World) (V:MV × List Int) (e:Ending) (w':World):Prop:=∃ (C:MA) (a:Option Addr) (c:Nat),e=.returned (.tuple #[.agg (ap V.1 C),.slice a V.2.length c])/\aZ w.heap.size w'.heap.size w' (aJ V.1 C)/\w'.ownsRow w.heap.size 2 1 (.slice a V.2.length c) V.2.length (V.2.map (Value.int .i64))/\Bw w w'
noncomputable def Tc:Go.Code:=pq (pq (ay 1 (iZ (ay 5 (aW Tryz.f34)))))
noncomputable def Td:Go.Code:=pq (iZ (ay 1 Tc))
noncomputable def Te (T:Act->World->Prop):List KI:=[.blk 1,.code (ay 2 Tc),.fin T,.blk 0,.code (ay 6 (aW Tryz.f34))]
def Sj (w:World) (a:Option Addr) (m c r hh s i:Nat):Fr:=[(1,.slice a m c,0),(4,.p (w.heap.size+1) 0,0),(6,.p r 0,1),(7,.p hh 0,0),(8,.i (s:Nat),0),(9,.i (i:Nat),0)]
structure Py (w:World) (hh r:Nat) (M:MV) (A:MA) (W:World):Prop where
 ht:Ht (w.heap.size+2) hh r M A W
 out:W.heap[w.heap.size+1]?=some (.cells (ap au zeroA) 32 (0,0))
 bl:Bw w W
theorem Py.to (h:Py a B g M c n) (k:Mp (a.heap.size+2) g w E l) (W:Kx g (aJ M c) (aJ w E) n l):Py a B g w E l:=by have b:=h.ht.mp.under W;exact ⟨h.ht.step k W,(b.block _ ab).trans h.out,⟨b.os.trans h.bl.os,b.tape.trans h.bl.tape,b.output.trans h.bl.output,Nat.le_trans h.bl.size b.size,λk A=>(b.block k ab).trans (h.bl.block k A)⟩⟩
theorem Py.below (h:Py a B g M c n) (hb:Bw n l):Py a B g M c l:=h.to (h.ht.mp.below hb) (Kx.of_below hb)
structure Q6 (w:World) (hh r:Nat) (l:List (Int × Int)) (V:MV × Nat) (j:Nat) (x:MV × MA × Nat × Nat) (W:World):Prop where
 ej:x.2.2.2+j=l.length
 py:Py w hh r x.1 x.2.1 W
 gw:Gw x.1
 sm:x.2.2.1<=300*x.2.2.2
 st:V=((lO (l.drop x.2.2.2) x.1).1,x.2.2.1+(lO (l.drop x.2.2.2) x.1).2)
theorem Q6.next {s:MV × Nat} {i d:Nat} (h:Q6 a B g V s (t+1) (M,c,W,i) n) (hl:V.getD i (0,0)=(k,L)) (e:qS k L M=(w,d)) (p:Py a B g w E l):Q6 a B g V s t (w,E,W+d,i+1) l:=by have b:=Gk h.gw k L;have M2:=Pe M k L;have f:=h.ej;have r:=h.sm;have W':=h.st;dsimp only at f r W';rw [Gm ab,hl] at W';dsimp only at W';rw [e] at W' M2 b;dsimp only at W' M2 b;exact ⟨a9,p,b,a9,by rw [W'];dsimp only;rw [Nat.add_assoc]⟩
theorem zV (A:MA) (l:List (Int × Int)) (a:Option Addr) (c:Nat) (w:World) (hl:iU e) (hs:tA w e A) (hf:OH e) (he:Es w a l):Calls prog 34 #[.agg (ap e A),.slice a l.length c] w (mQ w ((px e l).1,((px e l).2:Int))):=by
 have HM:=λW (K:Bw w W)=>qt e A W hl (hs.below K);unfold px;refine bf (S:=Bs w [(ap e A,32),(ap au zeroA,32)]) (args:=[.agg (ap e A),.slice a l.length c]) [(ap e A,32),(ap au zeroA,32)] func34 ?_;cases ok:gE e with
 | false =>rw [ok] at HM;rw [if_neg bc];refine ae Bs.eng {cv:=[(14,eY HM)]} 40 (Bs.start _ _) λW1 I=>?_;exact hO (R:=[]) trivial {} 40 (I.1 1 _ rfl) rfl (cj _ _) underlying32 ⟨zeroA,rfl,g9 _ _ _,aR I.2 ab _⟩
 | true =>
   rw [ok] at HM;cases dl:decide ((100:Int)<(l.length:Int)) with
   | true =>have:=of_decide_eq_true dl;rw [if_neg a8];refine ae Bs.eng {cv:=[(14,eY HM)],eq:=[(19,af dl)]} 40 (Bs.start _ _) λW1 I=>?_;exact hO (R:=[]) trivial {} 40 (I.1 1 _ rfl) rfl (cj _ _) underlying32 ⟨zeroA,rfl,g9 _ _ _,aR I.2 ab _⟩
   | false =>
     have hn:=of_decide_eq_false dl;rw [if_pos a8];have hg:Gw e:=⟨hf.gd ok,hf.ud⟩;refine aN Bs.eng {cv:=[(14,eY HM)],eq:=[(19,af dl)]} 40 (Bs.start _ _) (λW1 I=>D6 e A W1 hl (hs.below I.2)) ?_;rintro W1 M B I ⟨C,rfl,F2,N⟩;refine ⟨_,0,rfl,fi a4,?_⟩;have X:=I.below N;have s1:w.heap.size+2<=W1.heap.size:=(by have:=(Array.getElem?_eq_some_iff.1 (I.1 1 _ rfl)).1;omega);refine fz 1 (cT (T:=32) (z:=.agg (ap au zeroA)) a4 B) ?_;refine bx (aD (g:=B.heap.size) (t:=32) (ty:=32) (old:=ap au zeroA) (cells:=ap e C) (heap_alloc_new _ _) a4 rfl (cj _ _)) ?_;have b3:Bw B ((B.alloc (.cells (ap au zeroA) 32)).setRow B.heap.size (ap e C)):=aR (bal _ _) (Nat.le_refl _) _;have r3:((B.alloc (.cells (ap au zeroA) 32)).setRow B.heap.size (ap e C)).heap[B.heap.size]?=some (.cells (ap e C) 32 (0,0)):=setRow_heap _ _ _ _ _ _ (heap_alloc_new _ _);have z3:((B.alloc (.cells (ap au zeroA) 32)).setRow B.heap.size (ap e C)).heap.size=B.heap.size+1:=(by rw [setRow_size,World.size_alloc]);have P:(Value.agg (ap au zeroA)).cells=ap au zeroA:=rfl;rw [P];generalize (B.alloc (.cells (ap au zeroA) 32)).setRow B.heap.size (ap e C)=D at b3 r3 z3 ⊢;refine jI (R:=[]) trivial {} 40 0 (v:=.p D.heap.size 0) (w':=D.alloc (.cells #[.p B.heap.size 0,.slice none 0 0] 72)) (QK 72 (.agg #[.p B.heap.size 0,.slice none 0 0]) D) ?_;have b4:Bw D (D.alloc (.cells #[.p B.heap.size 0,.slice none 0 0] 72)):=bal _ _;have r4:(D.alloc (.cells #[.p B.heap.size 0,.slice none 0 0] 72)).heap[D.heap.size]?=some (.cells #[.p B.heap.size 0,.slice none 0 0] 72 (0,0)):=heap_alloc_new _ _;generalize D.alloc (.cells #[.p B.heap.size 0,.slice none 0 0] 72)=W4 at b4 r4 ⊢;have k4:=aa b3 b4;have s2:=N.size;have f4:aZ (w.heap.size+2) W4.heap.size W4 (aJ e C):=(F2.below k4).low s1 k4.size;have m4:Mp (w.heap.size+2) B.heap.size e C W4:=⟨aB b4 r3,f4,λq hq M=>by have:=F2.hi q hq _ M;omega,ab⟩;have t4:Py w D.heap.size B.heap.size e C W4:=⟨⟨r4,m4,ab,λq hq M=>by have:=F2.hi q hq _ M;omega⟩,(X.below k4).1 1 _ rfl,(X.below k4).2⟩;obtain ⟨V,L⟩:∃ V,V=lO l e:=⟨_,rfl⟩;have l0:Q6 w D.heap.size B.heap.size l V l.length (e,C,0,0) W4:=⟨bc,t4,hg,bc,by rw [L];simp⟩;rw [<- L];refine aP (R:=[]) trivial {} 7 ?_;refine an [.code (iZ (ay 5 (aW Tryz.f34))),.code (ay 6 (aW Tryz.f34))] [(1,.slice a l.length c,0),(4,.p (w.heap.size+1) 0,0),(6,.p B.heap.size 0,1),(7,.p D.heap.size 0,0),(8,.i 0,0)] ?_;generalize D.heap.size=hh at l0 ⊢;generalize B.heap.size=r at l0 ⊢;clear I F2 N X b3 r3 b4 r4 k4 f4 m4 t4 L HM s1 s2 P z3;refine aP (R:=[]) trivial {} 20 ?_;refine jc (λx:MV × MA × Nat × Nat=>Sj w a l.length c r hh x.2.2.1 x.2.2.2) (Q6 w hh r l V) l.length (e,C,0,0) a4 a4 l0 ?_;clear l0;rintro j ⟨f,E,s,i⟩ W h T hT;have ej:=h.ej;have Q:=h.gw;have sm:=h.sm;have py:=h.py;dsimp only at ej Q sm py ⊢;cases j with
     | zero =>have q:decide ((i:Int)<(l.length:Int))=false:=ba;have st:=h.st;dsimp only at st;rw [List.drop_of_length_le ab] at st;rw [st];exact hO (R:=[⟨r,ap f E,[]⟩]) ⟨⟨_,_,py.ht.mp.row⟩,trivial⟩ {eq:=[(29,af q)]} 60 py.out (by rfl) (cj _ _) underlying32 ⟨E,rfl,by rw [setRow_size];exact (py.ht.mp.fam.mono λk I X h3=>setRow_other _ _ _ _ ab).low ab (Nat.le_refl _),aR py.bl ab _⟩
     | succ j =>
       have q:decide ((i:Int)<(l.length:Int))=true:=bw;obtain ⟨b,o,ha,I,X,h3⟩:=he.below py.bl i ab;obtain ⟨k,n,hk⟩:∃ k n,l.getD i (0,0)=(k,n):=⟨_,_,rfl⟩;rw [hk] at X h3;dsimp only at X h3;refine jI (R:=[]) trivial {eq:=[(29,af q)],ov:=[(34,Bl l.length c i ha ab underlying53 a4),(35,Ro b (o+i*2) (.i k) (.i n) underlying105 rfl a4 λV L=>by subst L;exact ⟨X,h3⟩)]} 60 2 (cT (T:=105) (z:=.agg #[.i 0,.i 0]) a4 W) ?_;refine eQ (R:=[]) trivial {} 20 (aD (g:=W.heap.size) (t:=105) (ty:=105) (old:=#[.i 0,.i 0]) (cells:=#[.i k,.i n]) (heap_alloc_new _ _) a4 rfl i3) ?_;have P:(Value.agg #[.i 0,.i 0]).cells=#[.i 0,.i 0]:=rfl;rw [P];have b2:=iD W #[.i 0,.i 0] #[.i k,.i n] 105;have r2:((W.alloc (.cells #[.i 0,.i 0] 105)).setRow W.heap.size #[.i k,.i n]).heap[W.heap.size]?=some (.cells #[.i k,.i n] 105 (0,0)):=setRow_heap _ _ _ _ _ _ (heap_alloc_new _ _);have H:=py.below b2;refine aP (R:=[]) trivial {} 1 ?_;refine an (.code (ay 1 Td)::Te T) ((10,.p W.heap.size 0,2)::Sj w a l.length c r hh s i) ?_;generalize (W.alloc (.cells #[.i 0,.i 0] 105)).setRow W.heap.size #[.i k,.i n]=B at b2 r2 H ⊢;generalize W.heap.size=g at r2 ⊢;have R2:gH B [⟨r,ap f E,[]⟩,⟨g,#[.i k,.i n],[]⟩]:=⟨⟨_,_,H.ht.mp.row⟩,⟨_,_,r2⟩,trivial⟩;have hw:IntKind.i64.wrap (((i:Nat):Int)+1)=((i+1:Nat):Int):=d6;have pass:qS k n f=(f,0)->∀ W',Py w hh r f E W'->Q6 w hh r l V j (f,E,s,i+1) W':=λM W' p=>h.next hk M p;have fin:∀ (M2:MV) (A2:MA) (d:Nat) (W':World),iU M2->M2.cs.length=22->qS k n f=(bL M2,d)->Py w hh r M2 A2 W'->Wg prog (Bs w [(ap e A,32),(ap au zeroA,32)]) (bodyPost prog Tryz.f34 (mQ w (V.1,(V.2:Int)))) Tryz.f34.ntmps (.code (ay 3 Td)::Te T) (Sj w a l.length c r hh (s+d) i) W':=λM2 A2 d W' hl2 J M p=>by refine eB (R:=[]) trivial {} 60 (xv M2 A2 _ r W' J hl2 p.ht.mp) ?_;rintro M D ⟨rfl,m3,k3⟩;refine ⟨_,0,rfl,?_⟩;exact fx (R:=[]) trivial {eq:=[(31,cZ .i64 hw)]} 60 λb K=>hT b D j (bL M2,A2,s+d,i+1) ab (K.less a4) (h.next hk M (p.to m3 k3))
       cases O:decide (n<0) with
       | true =>have:=of_decide_eq_true O;have M:qS k n f=(f,0):=(by unfold qS;rw [if_neg a8,if_neg a8,if_neg a8]);exact fx R2 {eq:=[(38,af O),(31,cZ .i64 hw)]} 60 λb K=>hT b B j (f,E,s,i+1) ab (K.less a4) (pass M B H)
       | false =>
         have n0:0<=n:=(by have:=of_decide_eq_false O;omega);have l1:=Q.1.len;have J:=km (cP Q.1.ok).2.2.1;cases k1:(k==1) with
         | true =>
           have e1:=beq_iff_eq.1 k1;subst e1;cases dm:decide (300<n) with
           | true =>have:=of_decide_eq_true dm;have M:qS 1 n f=(f,0):=(by unfold qS;rw [if_neg a8];rfl);exact fx R2 {eq:=[(38,af O),(42,af k1),(45,af dm),(31,cZ .i64 hw)]} 80 λb K=>hT b B j (f,E,s,i+1) ab (K.less a4) (pass M B H)
           | false =>
             have n3:=of_decide_eq_false dm;obtain ⟨m,rfl⟩:=Int.eq_ofNat_of_zero_le n0;have sr:=OK m ab H.ht Q;have M:qS 1 m f=((cw m f).1,qR (cw m f).2):=(by unfold qS;rw [if_pos a8];rfl);have F:=qQ m Q;have Y:=oZ m f;generalize cw m f=U at sr M F Y;obtain ⟨M2,told⟩:=U;dsimp only at sr M F Y;refine eB R2 {eq:=[(38,af O),(42,af k1),(45,af dm)]} 80 sr ?_;rintro M D ⟨a',c',A2,rfl,l3⟩;refine ⟨_,0,rfl,?_⟩;have p3:=H.to l3.ht.mp l3.kx;have ht:=gj l3.own;dsimp only at p3 ht;refine aP (R:=[]) trivial {} 20 ?_;refine jc (λx:Nat × Nat=>(11,.slice a' told.length c',0)::(12,.i (x.1:Nat),0)::Sj w a l.length c r hh x.2 i) (λj x W=>x.1+j=told.length/\x.2=s+qR (told.take x.1)/\W=D) told.length (0,s) a4 a4 ⟨bc,by simp [qR],rfl⟩ ?_;rintro j2 ⟨G,u⟩ W ⟨e2,eu,rfl⟩ T2 hT2;dsimp only at e2 eu ⊢;cases j2 with
             | zero =>have q:decide ((G:Int)<(told.length:Int))=false:=ba;rw [List.take_of_length_le ab] at eu;subst eu;refine aP (R:=[]) trivial {eq:=[(53,af q)]} 11 ?_;exact an _ _ (fin M2 A2 (qR told) W F.1.len (km (cP F.1.ok).2.2.1) (by rw [F.line];exact M) p3)
             | succ j2 =>
               have q:decide ((G:Int)<(told.length:Int))=true:=bw;have eg:=xX (l:=told) (q:=G) ab;have hgo:=zU (told.take (G+1));obtain ⟨b',o',ha',hb',Z⟩:=ht G ab;have hlt:=List.length_take_le (G+1) told;generalize told.getD G 0=y at eg Z;have hw2:IntKind.i64.wrap (((G:Nat):Int)+1)=((G+1:Nat):Int):=d6;cases dy:(y != 4) with
               | true =>rw [dy,if_pos rfl] at eg;have hw3:IntKind.i64.wrap (((u:Nat):Int)+1)=((u+1:Nat):Int):=d6;exact fx (R:=[]) trivial {eq:=[(53,af q),(60,af dy),(62,cZ .i64 hw3),(55,cZ .i64 hw2)],ov:=[(58,pe told.length c' .i64 G ha' ab underlying39 a4),(59,jk ⟨b',o'+(G:Int).toNat,none⟩ (.i y) underlying2 rfl λV L=>by subst L;exact Z)]} 80 λb K=>hT2 b W j2 (G+1,u+1) ab (K.less a4) ⟨a9,a9,rfl⟩
               | false =>rw [dy,if_neg a6] at eg;exact fx (R:=[]) trivial {eq:=[(53,af q),(60,af dy),(55,cZ .i64 hw2)],ov:=[(58,pe told.length c' .i64 G ha' ab underlying39 a4),(59,jk ⟨b',o'+(G:Int).toNat,none⟩ (.i y) underlying2 rfl λV L=>by subst L;exact Z)]} 80 λb K=>hT2 b W j2 (G+1,u) ab (K.less a4) ⟨a9,a9,rfl⟩
         | false =>
           have e1:¬ k=1:=(by simpa using k1);have sl:=H.ht.mp.fam.msl;cases N:(k==2) with
           | true =>have e2:=beq_iff_eq.1 N;subst e2;have M:qS 2 n f=(bL (ch f (gy f.d n)),0):=(by unfold qS;rw [if_neg bc,if_pos (by simpa using n0)]);have F:=(Q.tick n0).1.len;refine eB R2 {eq:=[(38,af O),(42,af k1),(64,af N)]} 80 (zh f.d E.ai E.ci E.ao E.co n B l1.xs l1.ys sl.xs sl.ys) ?_;rintro M D ⟨b1,d1,b2,d2,rfl,f3,x3⟩;refine ⟨_,0,rfl,?_⟩;obtain ⟨m3,kx⟩:=H.ht.mp.dev x3 (gy f.d n) (.inr (.inr (.inr f3)));refine eQ (R:=[]) trivial {} 10 (zm (gy f.d n) b1 d1 b2 d2 (aB x3 H.ht.mp.row) rfl) ?_;refine aP (R:=[]) trivial {} 2 ?_;exact an _ _ (fin (ch f (gy f.d n)) _ 0 _ ⟨F.x,l1.cs,F.ram,F.xs,F.ys⟩ J M (H.to m3 kx))
           | false =>
             have e2:¬ k=2:=(by simpa using N);cases k3:(k==3) with
             | true =>have P:=beq_iff_eq.1 k3;subst P;have M:qS 3 n f=(bL (ch f (gM f.d (IntKind.u8.wrap n))),0):=(by unfold qS;rw [if_neg bc,if_neg bc,if_pos (by simpa using n0)]);have F:=(Q.byte (ze (y:=IntKind.u8.wrap n) (by rw [IntKind.wrap_u8];omega))).1.len;have h8:IntKind.u8.wrap (n.tmod 256)=IntKind.u8.wrap n:=(by rw [IntKind.wrap_u8,IntKind.wrap_u8,Int.tmod_eq_emod_of_nonneg n0];omega);refine eB R2 {eq:=[(38,af O),(42,af k1),(64,af N),(72,af k3),(78,cZ .u8 h8)],ov:=[(77,Js .i64 n 256 a6)]} 80 (zj f.d E.ai E.ci E.ao E.co (IntKind.u8.wrap n) B l1.xs l1.ys sl.xs sl.ys) ?_;rintro M D ⟨b1,d1,b2,d2,rfl,f3,x3⟩;refine ⟨_,0,rfl,?_⟩;obtain ⟨m3,kx⟩:=H.ht.mp.dev x3 (gM f.d (IntKind.u8.wrap n)) (.inr (.inr (.inr f3)));refine eQ (R:=[]) trivial {} 10 (zm (gM f.d (IntKind.u8.wrap n)) b1 d1 b2 d2 (aB x3 H.ht.mp.row) rfl) ?_;refine aP (R:=[]) trivial {} 2 ?_;exact an _ _ (fin (ch f (gM f.d (IntKind.u8.wrap n))) _ 0 _ ⟨F.x,l1.cs,F.ram,F.xs,F.ys⟩ J M (H.to m3 kx))
             | false =>have P:¬ k=3:=(by simpa using k3);have M:qS k n f=(bL f,0):=(by unfold qS;rw [if_neg (by simp [e1]),if_neg (by simp [e2]),if_neg (by simp [P]),Q.line]);refine aP R2 {eq:=[(38,af O),(42,af k1),(64,af N),(72,af k3)]} 36 ?_;exact an _ _ (fin f E 0 B l1 J M H)
def wN (op:Int):Nat:=2^((bO (op-1).toNat).f3z%4).toNat
def wS (op:Int):Bool:=decide ((bO (op-1).toNat).f3z<4)
def dY (op:Int):Value :=
 if op<3 then .iface 203 (.agg #[])
 else if op<11 then .iface 204 (.agg #[])
 else if op<18 then mU .ld (wN op) (wS op)
 else if op<22 then mU .st (wN op) (wS op)
 else if op<63 then .iface 203 (.agg #[])
 else if op<85 then (if op=63\/op=74 then mU .hd (wN op) (wS op) else if op=64\/op=75 then mU .sc (wN op) (wS op) else mU .am (wN op) (wS op))
 else if op<87 then .iface 215 (.agg #[])
 else if op<93 then .iface 216 (.agg #[])
 else .iface 217 (.agg #[])
theorem Mo:∀ k,k<98->0<=(bO k).f3z/\(bO k).f3z<8/\((10<=k/\k<=16)->wN ((k:Nat)+1:Int)=jF ((k:Nat)+1:Int)/\wS ((k:Nat)+1:Int)=decide (k<14))/\((17<=k/\k<=20)->wN ((k:Nat)+1:Int)=2^(k-17))/\((62<=k/\k<=83)->wN ((k:Nat)+1:Int)=bp ((k:Nat)+1:Int)/\wS ((k:Nat)+1:Int)=true):=by
 have h:(List.range 98).all (λk=>decide (0<=(bO k).f3z/\(bO k).f3z<8/\((10<=k/\k<=16)->wN ((k:Nat)+1:Int)=jF ((k:Nat)+1:Int)/\wS ((k:Nat)+1:Int)=decide (k<14))/\((17<=k/\k<=20)->wN ((k:Nat)+1:Int)=2^(k-17))/\((62<=k/\k<=83)->wN ((k:Nat)+1:Int)=bp ((k:Nat)+1:Int)/\wS ((k:Nat)+1:Int)=true)))=true:=a4
 intro k a;exact of_decide_eq_true (List.all_eq_true.1 h k qh)
theorem Gp (a:1<=L) (i:L<=98):0<=(bO (L-1).toNat).f3z/\(bO (L-1).toNat).f3z<8/\((11<=L/\L<=17)->wN L=jF L/\wS L=decide (L-11<4))/\((18<=L/\L<=21)->wN L=2^(L-18).toNat)/\((63<=L/\L<=84)->wN L=bp L/\wS L=true):=by
 obtain ⟨k,rfl⟩:∃ k:Nat,L=(k:Int)+1:=⟨(L-1).toNat,ab⟩;obtain ⟨a,d,f,g,h⟩:=Mo k ab;rw [show ((k:Int)+1-1).toNat=k from ab];refine ⟨a,d,λe=>?_,λe=>?_,λe=>h ab⟩
 ·obtain ⟨b,c⟩:=f ab;refine ⟨b,c.trans ?_⟩;by_cases q:k<14;·rw [decide_eq_true q,decide_eq_true ab]
  ·rw [decide_eq_false q,decide_eq_false ab]
 ·rw [g ab,show ((k:Int)+1-18).toNat=k-17 from ab]
theorem sW (op:Int) (J:1<=op) (u:op<=98) (w:World):CB 225 #[.i op] w (.agg #[.i (wN op:Nat),.bool (wS op)]):=by
 obtain ⟨N,Z,_⟩:=Gp J u;have B:rX op=true:=decide_eq_true ⟨J,u⟩;have f:=λW=>xm op (sT ab ab) W;have H:wk op=(bO (op-1).toNat).val:=by unfold wk;rw [B];rfl
 rw [H,B] at f;unfold wN wS;generalize bO (op-1).toNat=R at *;obtain ⟨i,I,o,z,m⟩:=R;unfold Row.val at f;dsimp only at f;generalize Fm.str I=l at f;generalize (Row.mk i I o z m).f3z=y at *;refine bf (S:=Bs w [(#[.i 0,.bool false],206)]) (args:=[.i op]) [(#[.i 0,.bool false],206)] func225 ?_;refine aN Bs.eng {} 40 (Bs.start _ _) (λG _=>f G) ?_;rintro G e Y L ⟨rfl,M⟩;refine ⟨_,0,rfl,fi a4,?_⟩;have v:=L.below M;refine ae Bs.eng {} 3 v λb q=>?_;refine fz 2 (cT (T:=260) (z:=noRow) a4 b) ?_;refine bx (aD (g:=b.heap.size) (t:=260) (ty:=260) (old:=#[.string ⟨#[]⟩,.string ⟨#[]⟩,.u 0,.u 0,.u 0]) (cells:=#[.string i,.string l,.u o,.u y,.u m]) (heap_alloc_new _ _) a4 rfl a4) ?_;have X:w.heap.size<b.heap.size:=(Array.getElem?_eq_some_iff.1 (q.1 0 _ rfl)).1;have D:Bw b ((b.alloc (.cells noRow.cells 260)).setRow b.heap.size #[.string i,.string l,.u o,.u y,.u m]):=aR (bal _ _) (Nat.le_refl _) _;have E:iw ⟨b.heap.size,#[.string i,.string l,.u o,.u y,.u m],[]⟩ ((b.alloc (.cells noRow.cells 260)).setRow b.heap.size #[.string i,.string l,.u o,.u y,.u m]):=⟨_,setRow_heap _ _ _ _ _ _ (heap_alloc_new _ _)⟩;generalize (b.alloc (.cells noRow.cells 260)).setRow b.heap.size #[.string i,.string l,.u o,.u y,.u m]=r at D E ⊢;have j:=q.below D;have p:Iv [w.heap.size,b.heap.size] r [⟨w.heap.size,#[.i 0,.bool false],[]⟩,⟨b.heap.size,#[.string i,.string l,.u o,.u y,.u m],[]⟩] r:=Iv.two ⟨_,j.1 0 _ rfl⟩ E ab;refine aK (Iv [w.heap.size,b.heap.size] r [⟨w.heap.size,#[.i 0,.bool false],[]⟩,⟨b.heap.size,#[.string i,.string l,.u o,.u y,.u m],[]⟩]) ?_;refine aP (R:=[]) trivial {} 3 ?_;refine yU ?_;have fin:∀ (n:Nat) (s:Bool) (k:List KI) (F:Fr) (c:World),Iv [w.heap.size,b.heap.size] r [⟨w.heap.size,#[.i 0,.bool false],[]⟩,⟨b.heap.size,#[.string i,.string l,.u o,.u y,.u m],[]⟩] c->iu k=true->((dJ prog ({}:Hw prog (Ag [w.heap.size,b.heap.size] c)) Tryz.f225.ntmps 40 k (wh 2 1 F) [⟨w.heap.size,#[.i 0,.bool false],[]⟩,⟨b.heap.size,#[.string i,.string l,.u o,.u y,.u m],[]⟩]).1.1,(dJ prog ({}:Hw prog (Ag [w.heap.size,b.heap.size] c)) Tryz.f225.ntmps 40 k (wh 2 1 F) [⟨w.heap.size,#[.i 0,.bool false],[]⟩,⟨b.heap.size,#[.string i,.string l,.u o,.u y,.u m],[]⟩]).1.2.2.2)=(true,[⟨w.heap.size,#[.i n,.bool s],[]⟩,⟨b.heap.size,#[.string i,.string l,.u o,.u y,.u m],[]⟩]) ->
  (dJ prog ({}:Hw prog (Ag [w.heap.size,b.heap.size] c)) Tryz.f225.ntmps 40 k (wh 2 1 F) [⟨w.heap.size,#[.i 0,.bool false],[]⟩,⟨b.heap.size,#[.string i,.string l,.u o,.u y,.u m],[]⟩]).2.map Prod.fst=(dJ prog ({}:Hw prog (Ag [w.heap.size,b.heap.size] c)) Tryz.f225.ntmps 40 k (wh 2 1 F) [⟨w.heap.size,#[.i 0,.bool false],[]⟩,⟨b.heap.size,#[.string i,.string l,.u o,.u y,.u m],[]⟩]).2.map Prod.snd ->
  (lk (dJ prog ({}:Hw prog (Ag [w.heap.size,b.heap.size] c)) Tryz.f225.ntmps 40 k (wh 2 1 F) [⟨w.heap.size,#[.i 0,.bool false],[]⟩,⟨b.heap.size,#[.string i,.string l,.u o,.u y,.u m],[]⟩]).1.2.2.1 2).map Prod.fst=some (.p w.heap.size 0) ->
  n=2^(y%4).toNat/\s=decide (y<4)->Wg prog (Iv [w.heap.size,b.heap.size] r [⟨w.heap.size,#[.i 0,.bool false],[]⟩,⟨b.heap.size,#[.string i,.string l,.u o,.u y,.u m],[]⟩]) (bodyPost prog Tryz.f225 λe w'=>e=.returned (.agg #[.i (2^(y%4).toNat:Nat),.bool (decide (y<4))])/\Bw w w') Tryz.f225.ntmps k F c:=by
  intro n s k F c d hn hx he U A
  refine aK (λ_=>True) (hn:=hn) ?_
  refine aL 2 1 ?_
  have O:=Iv.two (d.rows _ (List.mem_cons_self ..)) (d.rows _ (List.mem_cons_of_mem _ (List.mem_cons_self ..))) (λe=>by have:=d.nd;simp [e] at this)
  refine jf O {} 40 (hx:=hx) (he:=he) λQ a K C=>?_
  obtain ⟨P,V⟩:=K.rows _ (List.mem_cons_self ..)
  have x:=d.ag.trans K.ag
  refine ⟨_,results_cell_row results225 a.tmps Q w.heap.size P _ (0,0) _ (C.slot U) V underlying206 rfl rfl,by rw [<- A.1,<- A.2],?_⟩
  exact ⟨x.os.trans j.2.os,x.tape.trans j.2.tape,x.output.trans j.2.output,Nat.le_trans j.2.size x.size,λk C=>(x.block k (Nat.lt_of_lt_of_le C j.2.size) lh).trans (j.2.block k C)⟩
 have LO:=λW=>(bA y 0 2 N ab a6 a6 W).mono λe w' k=>And.intro k.1 (show Bw W w' by rw [k.2];exact (Below.refl _ _).drew);have h:=λW=>(bA y 2 1 N ab a6 a6 W).mono λe w' k=>And.intro k.1 (show Bw W w' by rw [k.2];exact (Below.refl _ _).drew);clear L v q M H f X D E;obtain rfl | rfl | rfl | rfl | rfl | rfl | rfl | rfl:y=0\/y=1\/y=2\/y=3\/y=4\/y=5\/y=6\/y=7:=ab
 ·refine ae Iv.eng {cv:=[(12,jb Iv.below λW _=>LO W),(16,jb Iv.below λW _=>h W)]} 40 (p.below (Below.refl _ _).drew) λc d=>?_;exact fin 1 true _ _ c d a4 a4 a4 a4 bb
 ·refine ae Iv.eng {cv:=[(12,jb Iv.below λW _=>LO W),(16,jb Iv.below λW _=>h W)]} 40 (p.below (Below.refl _ _).drew) λc d=>?_;exact fin 2 true _ _ c d a4 a4 a4 a4 bb
 ·refine ae Iv.eng {cv:=[(12,jb Iv.below λW _=>LO W),(16,jb Iv.below λW _=>h W)]} 40 (p.below (Below.refl _ _).drew) λc d=>?_;exact fin 4 true _ _ c d a4 a4 a4 a4 bb
 ·refine ae Iv.eng {cv:=[(12,jb Iv.below λW _=>LO W),(16,jb Iv.below λW _=>h W)]} 40 (p.below (Below.refl _ _).drew) λc d=>?_;exact fin 8 true _ _ c d a4 a4 a4 a4 bb
 ·refine ae Iv.eng {cv:=[(12,jb Iv.below λW _=>LO W),(16,jb Iv.below λW _=>h W)]} 40 (p.below (Below.refl _ _).drew) λc d=>?_;exact fin 1 false _ _ c d a4 a4 a4 a4 bb
 ·refine ae Iv.eng {cv:=[(12,jb Iv.below λW _=>LO W),(16,jb Iv.below λW _=>h W)]} 40 (p.below (Below.refl _ _).drew) λc d=>?_;exact fin 2 false _ _ c d a4 a4 a4 a4 bb
 ·refine ae Iv.eng {cv:=[(12,jb Iv.below λW _=>LO W),(16,jb Iv.below λW _=>h W)]} 40 (p.below (Below.refl _ _).drew) λc d=>?_;exact fin 4 false _ _ c d a4 a4 a4 a4 bb
 ·refine ae Iv.eng {cv:=[(12,jb Iv.below λW _=>LO W),(16,jb Iv.below λW _=>h W)]} 40 (p.below (Below.refl _ _).drew) λc d=>?_;exact fin 8 false _ _ c d a4 a4 a4 a4 bb
theorem rS (b:63<=y) (c:y<=84) (w:World):CB 226 #[.i y] w (if y=63\/y=74 then mU .hd (wN y) (wS y) else if y=64\/y=75 then mU .sc (wN y) (wS y) else mU .am (wN y) (wS y)):=by
 have a:=λW (_:Bw w W)=>sW y ab ab W;generalize wN y=n at *;generalize wS y=s at *;refine bf (S:=Bs w []) (args:=[.i y]) [] func226 ?_;by_cases d:y=63;·rw [if_pos ab];exact aU (t:=2) (v:=mU .hd n s) Bs.eng {eq:=[(5,af (show (y==63)=true by simp;omega))],cv:=[(8,eY a),(15,eY a),(19,eY a)]} 60 (Bs.start w []) λw' h=>⟨rfl,h.2⟩
 by_cases f:y=74;·rw [if_pos ab];exact aU (t:=2) (v:=mU .hd n s) Bs.eng {eq:=[(5,af (show (y==63)=false by simp;omega)),(6,af (show (y==74)=true by simp;omega))],cv:=[(8,eY a),(15,eY a),(19,eY a)]} 60 (Bs.start w []) λw' h=>⟨rfl,h.2⟩
 by_cases g:y=64;·rw [if_neg ab,if_pos ab];exact aU (t:=2) (v:=mU .sc n s) Bs.eng {eq:=[(5,af (show (y==63)=false by simp;omega)),(6,af (show (y==74)=false by simp;omega)),(12,af (show (y==64)=true by simp;omega))],cv:=[(8,eY a),(15,eY a),(19,eY a)]} 60 (Bs.start w []) λw' h=>⟨rfl,h.2⟩
 by_cases i:y=75;·rw [if_neg ab,if_pos ab];exact aU (t:=2) (v:=mU .sc n s) Bs.eng {eq:=[(5,af (show (y==63)=false by simp;omega)),(6,af (show (y==74)=false by simp;omega)),(12,af (show (y==64)=false by simp;omega)),(13,af (show (y==75)=true by simp;omega))],cv:=[(8,eY a),(15,eY a),(19,eY a)]} 60 (Bs.start w []) λw' h=>⟨rfl,h.2⟩
 rw [if_neg ab,if_neg ab];exact aU (t:=2) (v:=mU .am n s) Bs.eng {eq:=[(5,af (show (y==63)=false by simp;omega)),(6,af (show (y==74)=false by simp;omega)),(12,af (show (y==64)=false by simp;omega)),(13,af (show (y==75)=false by simp;omega))],cv:=[(8,eY a),(15,eY a),(19,eY a)]} 60 (Bs.start w []) λw' h=>⟨rfl,h.2⟩
theorem EF (g:1<=y) (d:y<=98) (w:World):CB 169 #[.i y] w (dY y):=by
 have a:=λW (_:Bw w W)=>sW y g d W;have i:=λW (b:63<=y) (c:y<=84)=>rS y b c W;unfold dY;generalize wN y=n at *;generalize wS y=s at *;refine bf (S:=Bs w []) (args:=[.i y]) [] func169 ?_;by_cases k:y<3;·rw [if_pos ab];exact aU (t:=2) (v:=.iface 203 (.agg #[])) Bs.eng {eq:=[(5,af (show decide (y<3)=true by rw [decide_eq_true_eq];omega))]} 100 (Bs.start w []) λw' h=>⟨rfl,h.2⟩
 by_cases l:y<11;·rw [if_neg ab,if_pos ab];exact aU (t:=2) (v:=.iface 204 (.agg #[])) Bs.eng {eq:=[(5,af (show decide (y<3)=false by rw [decide_eq_false_iff_not];omega)),(10,af (show decide (y<11)=true by rw [decide_eq_true_eq];omega))]} 100 (Bs.start w []) λw' h=>⟨rfl,h.2⟩
 by_cases m:y<18;·rw [if_neg ab,if_neg ab,if_pos ab];exact aU (t:=2) (v:=mU .ld n s) Bs.eng {eq:=[(5,af (show decide (y<3)=false by rw [decide_eq_false_iff_not];omega)),(10,af (show decide (y<11)=false by rw [decide_eq_false_iff_not];omega)),(15,af (show decide (y<18)=true by rw [decide_eq_true_eq];omega))],cv:=[(17,eY a),(24,eY a)]} 100 (Bs.start w []) λw' h=>⟨rfl,h.2⟩
 by_cases o:y<22;·rw [if_neg ab,if_neg ab,if_neg ab,if_pos ab];exact aU (t:=2) (v:=mU .st n s) Bs.eng {eq:=[(5,af (show decide (y<3)=false by rw [decide_eq_false_iff_not];omega)),(10,af (show decide (y<11)=false by rw [decide_eq_false_iff_not];omega)),(15,af (show decide (y<18)=false by rw [decide_eq_false_iff_not];omega)),(22,af (show decide (y<22)=true by rw [decide_eq_true_eq];omega))],cv:=[(17,eY a),(24,eY a)]} 100 (Bs.start w []) λw' h=>⟨rfl,h.2⟩
 by_cases p:y<63;·rw [if_neg ab,if_neg ab,if_neg ab,if_neg ab,if_pos ab];exact aU (t:=2) (v:=.iface 203 (.agg #[])) Bs.eng {eq:=[(5,af (show decide (y<3)=false by rw [decide_eq_false_iff_not];omega)),(10,af (show decide (y<11)=false by rw [decide_eq_false_iff_not];omega)),(15,af (show decide (y<18)=false by rw [decide_eq_false_iff_not];omega)),(22,af (show decide (y<22)=false by rw [decide_eq_false_iff_not];omega)),(29,af (show decide (y<63)=true by rw [decide_eq_true_eq];omega))]} 100 (Bs.start w []) λw' h=>⟨rfl,h.2⟩
 by_cases q:y<85;·rw [if_neg ab,if_neg ab,if_neg ab,if_neg ab,if_neg ab,if_pos ab];have j:=λW (_:Bw w W)=>i W ab ab;generalize (if y=63\/y=74 then mU .hd n s else if y=64\/y=75 then mU .sc n s else mU .am n s)=f at *;exact aU (t:=2) (v:=f) Bs.eng {eq:=[(5,af (show decide (y<3)=false by rw [decide_eq_false_iff_not];omega)),(10,af (show decide (y<11)=false by rw [decide_eq_false_iff_not];omega)),(15,af (show decide (y<18)=false by rw [decide_eq_false_iff_not];omega)),(22,af (show decide (y<22)=false by rw [decide_eq_false_iff_not];omega)),(29,af (show decide (y<63)=false by rw [decide_eq_false_iff_not];omega)),(34,af (show decide (y<85)=true by rw [decide_eq_true_eq];omega))],cv:=[(36,eY j)]} 100 (Bs.start w []) λw' h=>⟨rfl,h.2⟩
 by_cases r:y<87;·rw [if_neg ab,if_neg ab,if_neg ab,if_neg ab,if_neg ab,if_neg ab,if_pos ab];exact aU (t:=2) (v:=.iface 215 (.agg #[])) Bs.eng {eq:=[(5,af (show decide (y<3)=false by rw [decide_eq_false_iff_not];omega)),(10,af (show decide (y<11)=false by rw [decide_eq_false_iff_not];omega)),(15,af (show decide (y<18)=false by rw [decide_eq_false_iff_not];omega)),(22,af (show decide (y<22)=false by rw [decide_eq_false_iff_not];omega)),(29,af (show decide (y<63)=false by rw [decide_eq_false_iff_not];omega)),(34,af (show decide (y<85)=false by rw [decide_eq_false_iff_not];omega)),(39,af (show decide (y<87)=true by rw [decide_eq_true_eq];omega))]} 100 (Bs.start w []) λw' h=>⟨rfl,h.2⟩
 by_cases u:y<93;·rw [if_neg ab,if_neg ab,if_neg ab,if_neg ab,if_neg ab,if_neg ab,if_neg ab,if_pos ab];exact aU (t:=2) (v:=.iface 216 (.agg #[])) Bs.eng {eq:=[(5,af (show decide (y<3)=false by rw [decide_eq_false_iff_not];omega)),(10,af (show decide (y<11)=false by rw [decide_eq_false_iff_not];omega)),(15,af (show decide (y<18)=false by rw [decide_eq_false_iff_not];omega)),(22,af (show decide (y<22)=false by rw [decide_eq_false_iff_not];omega)),(29,af (show decide (y<63)=false by rw [decide_eq_false_iff_not];omega)),(34,af (show decide (y<85)=false by rw [decide_eq_false_iff_not];omega)),(39,af (show decide (y<87)=false by rw [decide_eq_false_iff_not];omega)),(44,af (show decide (y<93)=true by rw [decide_eq_true_eq];omega))]} 100 (Bs.start w []) λw' h=>⟨rfl,h.2⟩
 rw [if_neg ab,if_neg ab,if_neg ab,if_neg ab,if_neg ab,if_neg ab,if_neg ab,if_neg ab];exact aU (t:=2) (v:=.iface 217 (.agg #[])) Bs.eng {eq:=[(5,af (show decide (y<3)=false by rw [decide_eq_false_iff_not];omega)),(10,af (show decide (y<11)=false by rw [decide_eq_false_iff_not];omega)),(15,af (show decide (y<18)=false by rw [decide_eq_false_iff_not];omega)),(22,af (show decide (y<22)=false by rw [decide_eq_false_iff_not];omega)),(29,af (show decide (y<63)=false by rw [decide_eq_false_iff_not];omega)),(34,af (show decide (y<85)=false by rw [decide_eq_false_iff_not];omega)),(39,af (show decide (y<87)=false by rw [decide_eq_false_iff_not];omega)),(44,af (show decide (y<93)=false by rw [decide_eq_false_iff_not];omega))]} 100 (Bs.start w []) λw' h=>⟨rfl,h.2⟩
def tz (cf:Bool) (M:MV) (t:TV):MV × Int :=
 if t.up=true then (aM M t.cz.toNat false t.vl,2)
 else (⟨t.nx,if t.rd=0 then M.x else M.x.set t.rd.toNat t.rs,M.pr,if cf=true then M.cs else M.cs.set 21 (Uz.wrap (M.cs.getD 21 0+1)),M.ram,M.d,M.hd,M.hl,M.wt⟩,1)
def t0 (M:MV) (i:Ins) (wd:Int):TV:=⟨.func (.func 50) #[] #[],wd,i.op,i.rd,i.a,i.b,i.imm,dY i.op,M.x.getD i.rd.toNat 0,Uz.wrap (M.pc+4),false,false,0,0⟩
structure Pf (cf:Bool) (V:MV × Int) (i:Ins) (M':MV) (t':TV):Prop where
 e:tz cf M' t'=V
 g:Gd M'
 rd:t'.rd=i.rd
 fm:t'.fm=dY i.op
 c:t'.up=true->∃ k:Nat,k<16/\t'.cz=k
def TR (B g:Nat) (w0:World) (P:MV->TV->Prop) (e:Ending) (w':World):Prop:=e=.returned (.tuple #[])/\∃ M' A' t',P M' t'/\Tq B g w0 M' A' t' w'
theorem Tq.eng {P:Program} {fn:Func} {Rs:Ending->World->Prop} {dr:Bool}:oM P (Tq B g a M c x) (Tq B g a M c x) [⟨g,bz M c x,[]⟩] dr (bodyPost P fn Rs):=
 ⟨λ_ h=>h,λW h r w0=>by rw [List.mem_singleton] at w0;subst w0;exact h.row.in_,λ_ W h=>h.below (Below.refl _ _).drew,cL⟩
def sX {B g:Nat} {w0:World} {M:MV} {A:MA} {t:TV} {P:Program} {f:Nat} {args:Array Value} {v:Value} (h:∀ W,Tq B g w0 M A t W->Calls P f args W λe w'=>e=.returned v/\Iv [g] W [⟨g,bz M A t,[]⟩] w'):Cv P (Tq B g w0 M A t):=⟨f,args,v,0,λW a=>(h W a).mono λe w' k=>⟨k.1,a.iv k.2 rfl⟩⟩
def MH {B g:Nat} {w0:World} {M:MV} {A:MA} {t:TV} {P:Program} {f:Nat} {args:Array Value} {v:Value} (h:∀ W,Tq B g w0 M A t W->Calls P f args W λe w'=>e=.returned v/\Bw W w'):Cv P (Tq B g w0 M A t):=⟨f,args,v,0,λW a=>(h W a).mono λe w' k=>⟨k.1,a.below k.2⟩⟩
theorem QM (h:Tq B g a M c b n) (w0:M.x.length=32) (d:0<=b.ra) (f:b.ra<=31):Calls prog 173 #[.p g 0] n λe w'=>e=.returned (.u (M.x.getD b.ra.toNat 0))/\Iv [g] n [⟨g,bz M c b,[]⟩] w':=by obtain ⟨t,i,A,j⟩:=h.atX w0;have:=J7 (x:=M.x.getD (0+b.ra.toNat) 0) h.row i ⟨d,ab⟩ A (j (0+b.ra.toNat) ab).1;rw [Nat.zero_add] at this;exact this
theorem SX (h:Tq B g a M c b n) (w0:M.x.length=32) (d:0<=b.rb) (f:b.rb<=31):Calls prog 176 #[.p g 0] n λe w'=>e=.returned (.u (M.x.getD b.rb.toNat 0))/\Iv [g] n [⟨g,bz M c b,[]⟩] w':=by obtain ⟨t,i,A,j⟩:=h.atX w0;have:=Sf (x:=M.x.getD (0+b.rb.toNat) 0) h.row i ⟨d,ab⟩ A (j (0+b.rb.toNat) ab).1;rw [Nat.zero_add] at this;exact this
def vM (M:MV) (i:Ins):Int:=if i.op=1 then Uz.wrap i.imm else if i.op=2 then Uz.wrap (M.pc+Uz.wrap i.imm) else m7 i.op (M.x.getD i.a.toNat 0) (if (fD i.op).toList=[82] then M.x.getD i.b.toNat 0 else Uz.wrap i.imm)
theorem EG (C:jJ m) (h:Tq B g a M c (t0 M m y) n) (w:Gd M):Calls prog 170 #[.p g 0] n λe w'=>e=.returned (.u (vM M m))/\Tq B g a M c (t0 M m y) w':=by
 obtain ⟨H,F,G,s,wd,l,z,i,D,E,_⟩:=C;have A:=w.x32;have k:=w.ux m.a.toNat;have u:=w.ux m.b.toNat;have x:U (Uz.wrap m.imm):=bI _;have q:=λW (h:Tq B g a M c (t0 M m y) W)=>QM h A wd l;have r:=λW (h:Tq B g a M c (t0 M m y) W)=>SX h A z i;have j:=λW (h:Tq B g a M c (t0 M m y) W)=>sx h.row;unfold vM;refine bf (S:=Tq B g a M c (t0 M m y)) (args:=[.p g 0]) [] func170 ?_;refine aL 0 1 ?_;by_cases o:m.op=1;·rw [if_pos o];exact aU (t:=2) (v:=.u (Uz.wrap m.imm)) (Tq.eng (dr:=true)) {eq:=[(12,af (show (m.op==1)=true by simp;omega))],cv:=[(14,sX j)]} 100 h λw' h=>⟨rfl,h⟩
 rw [if_neg o];have w0:(m.op==1)=false:=by simp;omega
 by_cases p:m.op=2;·rw [if_pos p];exact aU (t:=2) (v:=.u (Uz.wrap (M.pc+Uz.wrap m.imm))) (Tq.eng (dr:=true)) {eq:=[(12,af w0),(16,af (show (m.op==2)=true by simp;omega))],cv:=[(23,sX j)]} 100 h λw' h=>⟨rfl,h⟩
 rw [if_neg p];have b:(m.op==2)=false:=by simp;omega
 have f:=λW (_:Tq B g a M c (t0 M m y) W)=>yu m.op (sT ab ab) W;cases d:((fD m.op).toList==(⟨#[82]⟩:ByteArray).toList) with
 | true =>rw [if_pos (show (fD m.op).toList=[82] from (eq_of_beq d).trans bb)];exact aU (t:=2) (v:=.u (m7 m.op (M.x.getD m.a.toNat 0) (M.x.getD m.b.toNat 0))) (Tq.eng (dr:=true)) {eq:=[(12,af w0),(16,af b),(33,af d)],cv:=[(26,sX j),(32,MH f),(35,sX r),(43,sX q),(45,MH λW _=>sK m.op _ _ (sT ab ab) k.1 k.2 u.1 u.2 W)]} 200 h λw' h=>⟨rfl,h⟩
 | false =>rw [if_neg (show ¬ (fD m.op).toList=[82] from λe=>by rw [e] at d;exact absurd d bb)];exact aU (t:=2) (v:=.u (m7 m.op (M.x.getD m.a.toNat 0) (Uz.wrap m.imm))) (Tq.eng (dr:=true)) {eq:=[(12,af w0),(16,af b),(33,af d)],cv:=[(26,sX j),(32,MH f),(35,sX r),(43,sX q),(45,MH λW _=>sK m.op _ _ (sT ab ab) k.1 k.2 x.1 x.2 W)]} 200 h λw' h=>⟨rfl,h⟩
end Go.Proofs.YtfagphfjfhpmjaaGreatDoor
