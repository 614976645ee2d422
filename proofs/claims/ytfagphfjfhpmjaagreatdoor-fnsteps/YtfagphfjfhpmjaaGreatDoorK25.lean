/- Own lemmas. -/
import Derived.Test.YtfagphfjfhpmjaaGreatDoorAut
import Derived.Test.YtfagphfjfhpmjaaGreatDoorK17
import Derived.Test.YtfagphfjfhpmjaaGreatDoorK24
import Derived.Deep.WholeRow
import Derived.Deep.CutRange
set_option maxRecDepth 100000
set_option maxHeartbeats 40000000
namespace Go.Proofs.YtfagphfjfhpmjaaGreatDoor
open Go.RowKit Tryz
open IntKind renaming u64->Uz
set_option linter.unusedVariables false
variable {n a w:World} {m M r A W g:Nat} {B:Option Addr} {D:MV} {v:MA} {b:List Int} {t x o:Value} {c:DV} {j:TypeId} {K:Oper} {Q:Act} {p:Array Value} {E:Int} {P:Act->World->Prop} {e:Exit->Act->World->Prop} {f:List Value} {k:Nat->Option Bool} {y:Program} {L:Addr} (N:Option Addr) (d:TypeId) (l:World) (q s:Int) (z:List Int) (C F:Nat)
theorem UD (a:n.ownsRow w.heap.size 5 1 (.slice (some ⟨w.heap.size,0,none⟩) m m) m (madeCells (Value.int .u8 0).cells (m*1)).toList):n.ownsRow w.heap.size 5 1 (.slice (some ⟨w.heap.size,0,none⟩) m m) m ((List.replicate m (0:Int)).map (Value.int .u8)):=by rw [List.map_replicate,<- toList_madeCells_one];simpa [Value.cells] using a
theorem lf.up (h:lf c m M) (a:m<=r) (b:M<=A):lf c r A:=⟨h.t,h.cm,h.ir,h.by_,Nat.le_trans h.l1 a,Nat.le_trans h.l2 b⟩
theorem lf.pushIn (h:lf c m M) (y:Int):lf ⟨c.t,c.cm,c.so,c.xs++[IntKind.u8.wrap y],c.ys,c.ir⟩ (m+1) M:=by
 refine ⟨h.t,h.cm,h.ir,⟨λz a=>?_,h.by_.2⟩,?_,h.l2⟩
 ·rcases List.mem_append.1 a with a|a;·exact h.by_.1 z a
  ·rw [List.mem_singleton.1 a];exact UO ro ro
 ·have:=h.l1;simp;omega
theorem lf.pushOut (h:lf c m M) (y:Int):lf ⟨c.t,c.cm,c.so,c.xs,c.ys++[IntKind.u8.wrap y],c.ir⟩ m (M+1):=by
 refine ⟨h.t,h.cm,h.ir,⟨h.by_.1,λz a=>?_⟩,h.l1,?_⟩
 ·rcases List.mem_append.1 a with a|a;·exact h.by_.2 z a
  ·rw [List.mem_singleton.1 a];exact UO ro ro
 ·have:=h.l2;simp;omega
theorem lf.newIn (h:lf c m M) (k1:Nat):lf ⟨c.t,c.cm,c.so,List.replicate k1 0,c.ys,c.ir⟩ k1 M:=⟨h.t,h.cm,h.ir,⟨DC k1,h.by_.2⟩,cp,h.l2⟩
theorem lf.newOut (h:lf c m M) (k1:Nat):lf ⟨c.t,c.cm,c.so,c.xs,List.replicate k1 0,c.ir⟩ m k1:=⟨h.t,h.cm,h.ir,⟨h.by_.1,DC k1⟩,h.l1,cp⟩
set_option maxRecDepth 100000
def Ro (v u:Value):Sem Next:=execOp (λx=>match x with | .tmp 0=>v | _=>u) {dst:=none,op:=.call {callee:=.builtin .append,args:=#[.tmp 0,.tmp 1],argTypes:=#[24,24]},type:=24,pos:= "",after:=#[],guard:=none}
theorem DF (h:(Builtin.append_ #[24,24] 24 #[t,o]).run prog w=.ok x n):(Ro t o).run prog w=.ok (.value x) n:=by unfold Ro execOp;simp only [resolve,invoke,builtin,Sem.run_bind,Sem.run_pure,Result.andThen_ok,List.map_toArray,List.map_cons,List.map_nil,h]
theorem Im:(do pure (.value (<- Instr.buildSlice 24 1 #[(0,.int .u8 q)])):Sem Next).run prog l=.ok (.value (.slice (some ⟨l.heap.size,0,none⟩) 1 1)) (l.alloc (.cells #[.int .u8 q] 5)):=by obtain ⟨i0,b,a,e2,e3⟩:=info_parts info5;have:=run_buildSlice (P:=prog) l 24 5 1 #[(0,.int .u8 q)] #[.int .u8 q] i0 (.int .u8 0) underlying24 b a o0 o0 (by rw [e2];kernel_rfl);simp [this]
theorem In (j:C<=1048576):∃ W',(do pure (.value (<- Instr.makeSlice 24 (.i C) (.i C))):Sem Next).run prog l=.ok (.value (.slice (some ⟨l.heap.size,0,none⟩) C C)) W'/\W'.ownsRow l.heap.size 5 1 (.slice (some ⟨l.heap.size,0,none⟩) C C) C ((List.replicate C (0:Int)).map (Value.int .u8))/\Bw l W':=by obtain ⟨i0,f,c,d,e⟩:=info_parts info5;obtain ⟨W',i,h,a⟩:=run_make_full (P:=prog) l l.heap.size 24 5 i0 (.int .u8 0) 1 underlying24 f c d .i64 .i64 C (by rw [e];omega) et (Nat.le_refl _);have b:(Instr.makeSlice 24 (.i C) (.i C)).run prog l=.ok (.slice (some ⟨l.heap.size,0,none⟩) C C) W':=i;exact ⟨W',by simp [b],UD h,a.os,a.tape,a.output,a.size,λk g=>a.block k g cp⟩
section
variable {w0 w W W' : World} {g n cap b : Nat} {a a1 a2 : Option Addr} {c1 c2 : Nat} {D : DV} {zs : List Int}
theorem Cs.behind (h:Cs w0 g a n cap w W) (hb:Below w.heap.size W W') (e:g<w.heap.size) (l:w0.heap.size<=w.heap.size):Cs w0 g a n cap w W':=by obtain ⟨i,f,j,b⟩:=h.1.row;refine ⟨⟨h.1.new,?_,i,f,j,(hb.block g e).trans b⟩,⟨hb.os.trans h.2.os,hb.tape.trans h.2.tape,hb.output.trans h.2.output,Nat.le_trans h.2.size hb.size,λk c d=>(hb.block k c).trans (h.2.block k c d)⟩⟩;exact ⟨hb.os.trans h.1.below.os,hb.tape.trans h.1.below.tape,hb.output.trans h.1.below.output,Nat.le_trans h.1.below.size hb.size,λk c=>(hb.block k ab).trans (h.1.below.block k c)⟩
theorem Dx.below (h:Dx w0 g a n cap w w.heap.size b D a1 c1 a2 c2 W) (k:Bw W W'):Dx w0 g a n cap w w.heap.size b D a1 c1 a2 c2 W':=h.next (Cs.of_below h.c.cu.1 k)
theorem Dx.eng {P:Program} {fn:Func} {Rs:Ending->World->Prop}:nZ P (Dx w0 g a n cap w w.heap.size b D a1 c1 a2 c2) (Dx w0 g a n cap w w.heap.size b D a1 c1 a2 c2) [⟨b,fU D a1 c1 a2 c2,[]⟩] true (bodyPost P fn Rs):=
 ⟨λ_ h=>h,λW h x c=>by rw [List.mem_singleton.1 c];exact ⟨_,_,h.c.row⟩,λ_ W h=>h.drew,cH⟩
theorem Dx.rows (h:Dx w0 g a n cap w w.heap.size b D a1 c1 a2 c2 W):ik W [⟨b,fU D a1 c1 a2 c2,[]⟩]:=⟨⟨_,_,h.c.row⟩,trivial⟩
theorem Oh {P:Program} {fn:Func} {Rs:Ending->World->Prop}:nZ P (Dw W) (Dw W) [] true (bodyPost P fn Rs):=⟨λ_ h=>h,λ_ _ _ h=>absurd h (List.not_mem_nil),λ_ _ h=>by obtain ⟨d,rfl⟩:=h;exact ⟨d+1,rfl⟩,cH⟩
theorem Io (W:World) (z:Nat) (p:Addr):(W.drewN z).cell? p=W.cell? p:=rfl
theorem Ip (W:World) (z:Nat) (p:Addr):(W.drewN z).frozen? p=W.frozen? p:=rfl
theorem Dx.dN {p:Addr} {v:Value} (h:Dx w0 g a n cap w w.heap.size b D a1 c1 a2 c2 (W.setCell p v)) (z:Nat):Dx w0 g a n cap w w.heap.size b D a1 c1 a2 c2 ((W.drewN z).setCell p v):=by
 have:(W.drewN z).setCell p v=(W.setCell p v).drewN z:=rfl;rw [this];induction z with
 | zero=>exact h
 | succ z c=>exact (c rfl).drew
def Ej (w0:World) (g:Nat) (a:Option Addr) (n cap:Nat) (w:World) (b j k1 k2:Nat):Prop:=∀ D a1 c1 a2 c2 W,Dx w0 g a n cap w w.heap.size b D a1 c1 a2 c2 W->lf D k1 k2->Wg prog (λ_=>True) (bodyPost prog Tryz.f186 λe c=>∃ (D:DV) (a1:Option Addr) (c1:Nat) (a2:Option Addr) (c2:Nat),e=.returned (.agg (fU D a1 c1 a2 c2))/\Hid (lf D 16 4096)/\Hid (bA w.heap.size c.heap.size c (vg D a1 c1 a2 c2))/\Hid (Cs w0 g a n cap w c)) Tryz.f186.ntmps [.code (aq j (aL Tryz.f186))] [(0,.p g 0,0),(2,.p w.heap.size 0,0),(3,.p b 0,1)] W
theorem e7:Ej w0 g a n cap w b 7 16 4096:=by intro D a1 c1 a2 c2 W h d;have k:=h.c.rlt;have c:=h.c.glt;have f:=h.c.cu.1.new;refine cq h.rows {} 40 (az (g:=w.heap.size) (t:=30) (ty:=30) (cells:=fU D a1 c1 a2 c2) h.c.res bN rfl (fG _ _ _ _ _)) ?_;exact gu (R:=[]) trivial {} 40 λq e=>⟨_,results_cell_row rfl q.tmps _ w.heap.size 30 (fU D a1 c1 a2 c2) (0,0) _ (e.slot ba) (setRow_heap _ _ _ _ _ _ h.c.res) underlying30 rfl ba,D,a1,c1,a2,c2,rfl,d,(h.fam.mono λj i _ _=>setRow_other _ _ _ _ ab).low ab lr,h.c.cu.behind (aR (Below.refl _ _) (Nat.le_refl _) _) c ab⟩
theorem e6 (d:Code w0 a n zs):Ej w0 g a n cap w b 6 16 4096:=by
 intro D a1 c1 a2 c2 W h j;refine aN (R:=[]) trivial {} 40 (bH d 60 bc W h.cur) ?_;rintro e V ⟨c,rfl,l⟩;refine ⟨_,0,rfl,?_⟩;replace h:=h.next l.out;cases c with
 | false =>refine an (R:=[]) trivial {} 3 ?_;exact af _ _ (e7 _ _ _ _ _ _ h j)
 | true =>obtain ⟨o,r,m,f⟩:=In V 4096 bc;obtain ⟨_,_,k⟩:=h.newOut _ 4096 4096 _ cp m f;refine an (R:=[]) trivial {} 3 ?_;refine dF 0 r ?_;refine cq (R:=[]) trivial {} 10 (bJ (i:=4) (T:=24) (v:=.slice (some ⟨V.heap.size,0,none⟩) 4096 4096) (h.below f).c.row (by simp [fU]) ba rfl) ?_;refine an (R:=[]) trivial {} 1 ?_;exact af _ _ (e7 _ _ _ _ _ _ k (j.newOut 4096))
theorem e5 (d:Code w0 a n zs):Ej w0 g a n cap w b 5 16 4096:=by
 intro D a1 c1 a2 c2 W h j;refine aN (R:=[]) trivial {} 40 (bH d 30 bc W h.cur) ?_;rintro e V ⟨c,rfl,l⟩;refine ⟨_,0,rfl,?_⟩;replace h:=h.next l.out;cases c with
 | false =>refine an (R:=[]) trivial {} 3 ?_;exact af _ _ (e6 d _ _ _ _ _ _ h j)
 | true =>obtain ⟨o,r,m,f⟩:=In V 16 bc;obtain ⟨_,_,k⟩:=h.newIn _ 16 16 _ cp m f;refine an (R:=[]) trivial {} 3 ?_;refine dF 0 r ?_;refine cq (R:=[]) trivial {} 10 (bJ (i:=3) (T:=24) (v:=.slice (some ⟨V.heap.size,0,none⟩) 16 16) (h.below f).c.row (by simp [fU]) ba rfl) ?_;refine an (R:=[]) trivial {} 1 ?_;exact af _ _ (e6 d _ _ _ _ _ _ k (j.newIn 16))
theorem e4 (c:Code w0 a n zs):Ej w0 g a n cap w b 4 16 4000:=by
 intro D a1 c1 a2 c2 W h i;refine aN (R:=[]) trivial {} 40 (aA c 5 bc W h.cur) ?_;rintro e V ⟨x,rfl,⟨l,G⟩,j⟩;refine ⟨_,0,rfl,?_⟩;replace h:=h.next j.out;obtain ⟨x,rfl⟩:=Int.eq_ofNat_of_zero_le l;refine an (R:=[]) trivial {} 20 ?_;refine kS (λy:DV × Option Addr × Nat × Option Addr × Nat × Nat=>[(0,.p g 0,0),(2,.p w.heap.size 0,0),(3,.p b 0,1),(5,.i (y.2.2.2.2.2:Nat),0)]) (λk y W=>y.2.2.2.2.2=k/\k<=4/\Dx w0 g a n cap w w.heap.size b y.1 y.2.1 y.2.2.1 y.2.2.2.1 y.2.2.2.2.1 W/\lf y.1 16 (4096-k)) x (D,a1,c1,a2,c2,x) ba ba ⟨rfl,ab,h,i.up ab ab⟩ ?_;clear h i j;rintro k ⟨D,a1,c1,a2,c2,I⟩ W ⟨m,B,h,i⟩ J t;dsimp only at m B h i;subst m;cases I with
 | zero =>have d:decide (0<((0:Nat):Int))=false:=bc;refine an (R:=[]) trivial {eq:=[(37,ak d)]} 8 ?_;exact af _ _ (e5 c _ _ _ _ _ _ h (i.up ab ab))
 | succ k =>have d:decide (0<((k+1:Nat):Int))=true:=ef;have F:IntKind.i64.wrap (((k+1:Nat):Int)-1)=((k:Nat):Int):=i6;refine aH (Dx w0 g a n cap w w.heap.size b D a1 c1 a2 c2) ?_;refine an (R:=[]) trivial {eq:=[(37,ak d)]} 60 ?_;refine lG 6 ?_;refine aS Dx.eng {} 30 h.drew (λW k=>kA c W k.cur) ?_;rintro L e M o ⟨y,rfl,N,j⟩;refine ⟨_,0,rfl,λ_=>o.next j.out,?_⟩;refine ae Dx.eng {} 30 (o.next j.out) λV r=>?_;refine dF 0 (Im V (IntKind.u8.wrap y)) ?_ (hS:=λ_=>r.below (bal _ _));obtain ⟨f,q,X,E,A,H,s⟩:=r.pushOut (by have:=i.l2;omega) (IntKind.u8.wrap y) 24;refine dF 0 (DF E) ?_;refine aH (Dw X) ?_;refine ae Oh {} 10 (Dw.refl _) λK u=>?_;obtain ⟨z,rfl⟩:=u;refine bM (jw (T:=24) (v:=.slice f (D.ys.length+1) q) ⟨(Io X z _).trans A,(Ip X z _).trans H⟩ ba rfl) ?_;exact oo (R:=[]) trivial {eq:=[(39,dG .i64 F)]} 60 λp C=>t p _ k (⟨D.t,D.cm,D.so,D.xs,D.ys++[IntKind.u8.wrap y],D.ir⟩,a1,c1,f,q,k) ab (C.less ba) ⟨rfl,ab,s.dN z,(i.pushOut y).up ab ab⟩
theorem e3 (c:Code w0 a n zs):Ej w0 g a n cap w b 3 12 4000:=by
 intro D a1 c1 a2 c2 W h i;refine aN (R:=[]) trivial {} 40 (aA c 5 bc W h.cur) ?_;rintro e V ⟨x,rfl,⟨l,G⟩,j⟩;refine ⟨_,0,rfl,?_⟩;replace h:=h.next j.out;obtain ⟨x,rfl⟩:=Int.eq_ofNat_of_zero_le l;refine an (R:=[]) trivial {} 20 ?_;refine kS (λy:DV × Option Addr × Nat × Option Addr × Nat × Nat=>[(0,.p g 0,0),(2,.p w.heap.size 0,0),(3,.p b 0,1),(4,.i (y.2.2.2.2.2:Nat),0)]) (λk y W=>y.2.2.2.2.2=k/\k<=4/\Dx w0 g a n cap w w.heap.size b y.1 y.2.1 y.2.2.1 y.2.2.2.1 y.2.2.2.2.1 W/\lf y.1 (16-k) 4000) x (D,a1,c1,a2,c2,x) ba ba ⟨rfl,ab,h,i.up ab ab⟩ ?_;clear h i j;rintro k ⟨D,a1,c1,a2,c2,I⟩ W ⟨m,B,h,i⟩ J t;dsimp only at m B h i;subst m;cases I with
 | zero =>have d:decide (0<((0:Nat):Int))=false:=bc;refine an (R:=[]) trivial {eq:=[(23,ak d)]} 8 ?_;exact af _ _ (e4 c _ _ _ _ _ _ h (i.up ab ab))
 | succ k =>have d:decide (0<((k+1:Nat):Int))=true:=ef;have F:IntKind.i64.wrap (((k+1:Nat):Int)-1)=((k:Nat):Int):=i6;refine aH (Dx w0 g a n cap w w.heap.size b D a1 c1 a2 c2) ?_;refine an (R:=[]) trivial {eq:=[(23,ak d)]} 60 ?_;refine lG 6 ?_;refine aS Dx.eng {} 30 h.drew (λW k=>kA c W k.cur) ?_;rintro L e M o ⟨y,rfl,N,j⟩;refine ⟨_,0,rfl,λ_=>o.next j.out,?_⟩;refine ae Dx.eng {} 30 (o.next j.out) λV r=>?_;refine dF 0 (Im V (IntKind.u8.wrap y)) ?_ (hS:=λ_=>r.below (bal _ _));obtain ⟨f,q,X,E,A,H,s⟩:=r.pushIn (by have:=i.l1;omega) (IntKind.u8.wrap y) 24;refine dF 0 (DF E) ?_;refine aH (Dw X) ?_;refine ae Oh {} 10 (Dw.refl _) λK u=>?_;obtain ⟨z,rfl⟩:=u;refine bM (jw (T:=24) (v:=.slice f (D.xs.length+1) q) ⟨(Io X z _).trans A,(Ip X z _).trans H⟩ ba rfl) ?_;exact oo (R:=[]) trivial {eq:=[(25,dG .i64 F)]} 60 λp C=>t p _ k (⟨D.t,D.cm,D.so,D.xs++[IntKind.u8.wrap y],D.ys,D.ir⟩,f,q,a2,c2,k) ab (C.less ba) ⟨rfl,ab,s.dN z,(i.pushIn y).up ab ab⟩
theorem e2 (d:Code w0 a n zs):Ej w0 g a n cap w b 2 12 4000:=by
 intro D a1 c1 a2 c2 W h f;refine aN (R:=[]) trivial {} 40 (bH d 6 bc W h.cur) ?_;rintro e V ⟨c,rfl,j⟩;refine ⟨_,0,rfl,?_⟩;replace h:=h.next j.out;cases c with
 | false =>refine an (R:=[]) trivial {} 3 ?_;exact af _ _ (e3 d _ _ _ _ _ _ h f)
 | true =>refine cq h.rows {} 40 (bJ (i:=1) (T:=22) (v:=.u 18446744073709551615) h.c.row (by simp [fU]) ba rfl) ?_;refine an (R:=[]) trivial {} 1 ?_;exact af _ _ (e3 d _ _ _ _ _ _ (h.cmp _) ⟨f.t,(show U 18446744073709551615 from ⟨bc,bc⟩),f.ir,f.by_,f.l1,f.l2⟩)
theorem Oi (b:Code w0 a n zs) (w:World) (q:lq w0 w g a n cap):Calls prog 186 #[.p g 0] w λe j=>∃ (D:DV) (a1:Option Addr) (c1:Nat) (a2:Option Addr) (c2:Nat),e=.returned (.agg (fU D a1 c1 a2 c2))/\Hid (lf D 16 4096)/\Hid (bA w.heap.size j.heap.size j (vg D a1 c1 a2 c2))/\Hid (Cs w0 g a n cap w j):=by
 refine bC (S:=λ_=>True) (args:=[.p g 0]) [(fU zeroD none 0 none 0,30)] func186 ?_;have d:=q.lt;have o:Cs w0 g a n cap w (bP w [(fU zeroD none 0 none 0,30)]):=Cs.alloc q _;have u:=(Bs.start w [(fU zeroD none 0 none 0,30)]).1 0 _ rfl;have F:(bP w [(fU zeroD none 0 none 0,30)]).heap.size=w.heap.size+1:=by simp [bP]
 generalize bP w [(fU zeroD none 0 none 0,30)]=x at *;refine aN (R:=[]) trivial {} 40 (aA b 50 bc x o.1) ?_;rintro e A ⟨k,rfl,G,r⟩;refine ⟨_,0,rfl,?_⟩;refine aN (R:=[]) trivial {} 40 (aA b 50 bc A r.out.1) ?_;rintro e B ⟨l,rfl,H,s⟩;refine ⟨_,0,rfl,?_⟩;refine aN (R:=[]) trivial {} 40 (bH b 4 bc B s.out.1) ?_;rintro e C ⟨i,rfl,t⟩;refine ⟨_,0,rfl,?_⟩;refine aN (R:=[]) trivial {} 40 (aA b 2 bc C t.out.1) ?_;rintro e c ⟨m,rfl,I,E⟩;refine ⟨_,0,rfl,?_⟩;have K:=r.out.trans (s.out.trans (t.out.trans E.out));have p:=o.trans K;have v:=K.keep u ab;have J:=K.2.size;refine jh (R:=[]) trivial {} 10 1 (dD (T:=30) (z:=.agg (fU zeroD none 0 none 0)) ba c) ?_;refine cq (R:=[]) trivial {} 10 (az (ty:=30) (cells:=fU ⟨Uz.wrap k,Uz.wrap l,i,[],[],m⟩ none 0 none 0) (heap_alloc_new c _) ba ba (fG _ _ _ _ _)) ?_;rw [World.setRow_alloc_new];have h:Dx w0 g a n cap w w.heap.size c.heap.size ⟨Uz.wrap k,Uz.wrap l,i,[],[],m⟩ none 0 none 0 (c.alloc (.cells (fU ⟨Uz.wrap k,Uz.wrap l,i,[],[],m⟩ none 0 none 0) 30)):=
  ⟨⟨heap_alloc_new _ _,de v _,p.trans (Cs.alloc p.1 _),d,ab,Nat.le_refl _⟩,lA _ _ _⟩
 refine an (R:=[]) trivial {} 1 ?_;exact af _ _ (e2 b _ _ _ _ _ _ h ⟨aU _,aU _,di,⟨λy f=>(nomatch f),λy f=>(nomatch f)⟩,Nat.zero_le _,Nat.zero_le _⟩)
end
structure Rp (D:DV):Prop where
 t:U D.t
 cm:U D.cm
 ir:(Lit.int .i64 D.ir).wf=true
 by_:dU D
 l1:D.xs.length<=17
 l2:D.ys.length<=4097
theorem lf.any (h:lf c 16 4096):Rp c:=⟨h.t,h.cm,by rcases h.ir with e|e<;>rw [e]<;>decide,h.by_,Nat.le_trans h.l1 ab,Nat.le_trans h.l2 ab⟩
structure Mf (M:MV):Prop where
 x:M.x.length=32
 ux:∀ j,U (M.x.getD j 0)
 cs:M.cs.length=22
 ucs:∀ j,U (M.cs.getD j 0)
 ram:M.ram.length=4096\/M.ram.length=8192
 bram:∀ y ∈ M.ram,(Lit.int .u8 y).wf=true
 d:lf M.d 16 4096
 pc:U M.pc
 hd:U M.hd
 pr:M.pr=0\/M.pr=1\/M.pr=3
theorem Mf.len (h:Mf D):jR D:=⟨by rw [h.x];omega,by rw [h.cs];omega,by rcases h.ram with e|e<;>rw [e]<;>omega,by have:=h.d.l1;omega,by have:=h.d.l2;omega⟩
structure Dm (w0:World) (g:Nat) (a:Option Addr) (n cap:Nat) (w:World) (r m:Nat) (M:MV) (A:MA) (wr:World):Prop where
 cu:Cs w0 g a n cap w wr
 res:wr.heap[r]?=some (.cells (aj zeroM zeroA) 32 (0,0))
 mp:Mp (r+1) m M A wr
 fit:Mf M
 gr:g<r
 wr_:w.heap.size<=r
 w0w:w0.heap.size<=w.heap.size
theorem Dm.cur {wr:World} (h:Dm n M B A W w r m D v wr):lq n wr M B A W:=h.cu.1
theorem Dm.next {wr:World} (h:Dm n M B A W w r m D v wr) (k:Cs n M B A W wr a):Dm n M B A W w r m D v a:=by have e:=h.gr;have f:=h.mp.lo;exact ⟨h.cu.trans k,k.keep h.res ab,⟨k.keep h.mp.row ab,(h.mp.fam.mono λj c d b=>k.2.block j b bv).low (Nat.le_refl _) k.2.size,h.mp.ne,h.mp.lo⟩,h.fit,h.gr,h.wr_,h.w0w⟩
theorem Dm.below {wr:World} (h:Dm n g B M A w r m D v wr) (k:Bw wr a):Dm n g B M A w r m D v a:=h.next (Cs.of_below h.cu.1 k)
theorem Dm.step {wr:World} (h:Dm n M B A W w r m D v wr) {M':MV} {e:MA} (hb:Below (r+1) wr a) (o:Mp (r+1) m M' e a) (f:Mf M'):Dm n M B A W w r m M' e a:=by have q:=h.gr;have t:=h.wr_;have p:=h.w0w;have s:=(Array.getElem?_eq_some_iff.1 h.res).1;obtain ⟨i,j,l,b⟩:=h.cu.1.row;refine ⟨⟨⟨h.cu.1.new,?_,i,j,l,(hb.block M ab).trans b⟩,⟨hb.os.trans h.cu.2.os,hb.tape.trans h.cu.2.tape,hb.output.trans h.cu.2.output,Nat.le_trans h.cu.2.size hb.size,λk c d=>(hb.block k ab).trans (h.cu.2.block k c d)⟩⟩,(hb.block r ab).trans h.res,o,f,h.gr,h.wr_,h.w0w⟩;exact ⟨hb.os.trans h.cu.1.below.os,hb.tape.trans h.cu.1.below.tape,hb.output.trans h.cu.1.below.output,Nat.le_trans h.cu.1.below.size hb.size,λk c=>(hb.block k ab).trans (h.cu.1.below.block k c)⟩
theorem Dm.setX {wr:World} (h:Dm n M B A W w r m D v wr) (b:Nat) (hb:v.ax=some ⟨b,0,none⟩) (i:Nat) (hv:U E):Dm n M B A W w r m (xM D (D.x.set i E)) v (wr.setCell ⟨b,i,none⟩ (.u E)):=
 h.step (h.mp.setX b hb i E).2 (h.mp.setX b hb i E).1 ⟨by simp [xM,h.fit.x],GJ h.fit.ux i hv,h.fit.cs,h.fit.ucs,h.fit.ram,h.fit.bram,h.fit.d,h.fit.pc,h.fit.hd,h.fit.pr⟩
theorem Dm.setC {wr:World} (h:Dm n M B A W w r m D v wr) (b:Nat) (hb:v.ac=some ⟨b,0,none⟩) (i:Nat) (hv:U E):Dm n M B A W w r m (cM D (D.cs.set i E)) v (wr.setCell ⟨b,i,none⟩ (.u E)):=
 h.step (h.mp.setC b hb i E).2 (h.mp.setC b hb i E).1 ⟨h.fit.x,h.fit.ux,by simp [cM,h.fit.cs],GJ h.fit.ucs i hv,h.fit.ram,h.fit.bram,h.fit.d,h.fit.pc,h.fit.hd,h.fit.pr⟩
theorem Dm.atX {wr:World} (h:Dm n M B A W w r m D v wr):∃ b c,v.ax=some ⟨b,0,none⟩/\v.cx=c/\wr.cell? ⟨m,1,none⟩=some (.slice (some ⟨b,0,none⟩) 32 c)/\(∀ j,j<32->wr.cell? ⟨b,j,none⟩=some (.u (D.x.getD j 0))/\wr.frozen? ⟨b,j,none⟩=false):=by
 have d:=h.mp.xrow;rw [h.fit.x] at d;obtain ⟨b,c,e,k⟩:=jP d ab;simp only [Value.slice.injEq,true_and] at e;obtain ⟨f,e2⟩:=e;have i:=h.mp.row;refine ⟨b,c,f,e2,?_,λj l=>?_⟩;·simp [World.cell?,i,aj,f,e2,h.fit.x]
 ·rw [f] at d;refine ⟨?_,d.frozenAt j⟩;rw [d.cellAt j ab];have o:=h.fit.x;rw [List.getElem?_map,List.getElem?_eq_getElem (show j<D.x.length by omega),List.getD_eq_getElem?_getD,List.getElem?_eq_getElem (show j<D.x.length by omega)];rfl
theorem Dm.atC {wr:World} (h:Dm n M B A W w r m D v wr):∃ b c,v.ac=some ⟨b,0,none⟩/\v.cc=c/\wr.cell? ⟨m,3,none⟩=some (.slice (some ⟨b,0,none⟩) 22 c)/\(∀ j,j<22->wr.cell? ⟨b,j,none⟩=some (.u (D.cs.getD j 0))/\wr.frozen? ⟨b,j,none⟩=false):=by
 have d:=h.mp.crow;rw [h.fit.cs] at d;obtain ⟨b,c,e,k⟩:=jP d ab;simp only [Value.slice.injEq,true_and] at e;obtain ⟨f,e2⟩:=e;have i:=h.mp.row;refine ⟨b,c,f,e2,?_,λj l=>?_⟩;·simp [World.cell?,i,aj,f,e2,h.fit.cs]
 ·rw [f] at d;refine ⟨?_,d.frozenAt j⟩;rw [d.cellAt j ab];have o:=h.fit.cs;rw [List.getElem?_map,List.getElem?_eq_getElem (show j<D.cs.length by omega),List.getD_eq_getElem?_getD,List.getElem?_eq_getElem (show j<D.cs.length by omega)];rfl
theorem Dm.setF {M':MV} {wr:World} (h:Dm n M B A W w r m D v wr) (i:Nat) (a:Value) (b:aj M' v=(aj D v).setIfInBounds i a) (c:aG M' v=aG D v) (fit:Mf M'):Dm n M B A W w r m M' v (wr.setCell ⟨m,i,none⟩ a):=
 h.step (h.mp.setF i a b c).2 (h.mp.setF i a b c).1 fit
theorem Dm.dev {wr:World} (h:Dm n M B A W w r m D v wr) (k:Cs n M B A W wr a) (g:DV) (a1:Option Addr) (c1:Nat) (a2:Option Addr) (c2:Nat) (t:lf g 16 4096) (hd:bA wr.heap.size a.heap.size a (vg g a1 c1 a2 c2)): Dm n M B A W w r m (db D g) (ky v a1 c1 a2 c2) (a.setRow m (aj (db D g) (ky v a1 c1 a2 c2))):=by
 have p:=h.next k;have u:=h.mp.lo;have cap:=h.mp.lt;have l:∀ q ∈ aG (db D g) (ky v a1 c1 a2 c2),q.v.ownBlock≠some m:=by
  intro q c e;simp only [aG,List.mem_cons,List.not_mem_nil,or_false] at c;have i:∀ q ∈ vg g a1 c1 a2 c2,q.v.ownBlock≠some m:=λq c e=>by have:=(hd.own q c).lt _ e;omega
  rcases c with rfl|rfl|rfl|rfl|rfl;·exact h.mp.ne (aJ v.ax D.x.length v.cx D.x) dv e
  ·exact h.mp.ne (aJ v.ac D.cs.length v.cc D.cs) dv e
  ·exact h.mp.ne (aD v.ar D.ram.length v.cr D.ram) dv e
  ·exact i (aD a1 g.xs.length c1 g.xs) (by simp [vg,fW]) e
  ·exact i (aD a2 g.ys.length c2 g.ys) (by simp [vg,fW]) e
 have o:bA (r+1) wr.heap.size a [aJ v.ax D.x.length v.cx D.x,aJ v.ac D.cs.length v.cc D.cs,aD v.ar D.ram.length v.cr D.ram]:=by have z:=h.gr;have:=(h.mp.fam.mono (w':=a) λj x y s=>k.2.block j s bv);exact this.sub (by simp [aG,List.Sublist.refl])
 have d:=o.app hd ab k.2.size;have b:bA (r+1) a.heap.size a (aG (db D g) (ky v a1 c1 a2 c2)):=d;have f:Below (r+1) a (a.setRow m (aj (db D g) (ky v a1 c1 a2 c2))):=aR (Below.refl _ _) ab _;refine p.step f ⟨setRow_heap a m _ _ _ _ p.mp.row,?_,l,h.mp.lo⟩ ⟨h.fit.x,h.fit.ux,h.fit.cs,h.fit.ucs,h.fit.ram,h.fit.bram,t,h.fit.pc,h.fit.hd,h.fit.pr⟩;rw [setRow_size];exact ⟨λq c=>eg (b.own q c) (λj e=>setRow_other a m j _ (λe2=>l q c (by rw [e,e2]))),b.hi,b.ne⟩
def cA (A:MA) (b c:Nat):MA:={A with ac:=some ⟨b,0,none⟩,cc:=c}
theorem Dm.csrs {wr:World} (h:Dm n M B A W w r m D v wr) (k:Cs n M B A W wr a) (zs:List Int) (cap:∀ j,U (zs.getD j 0)) (l:a.ownsRow wr.heap.size 22 1 (.slice (some ⟨wr.heap.size,0,none⟩) 22 22) 22 (zs.map (Value.int .u64))): Dm n M B A W w r m (cM D zs) (cA v wr.heap.size 22) (a.setCell ⟨m,3,none⟩ (.slice (some ⟨wr.heap.size,0,none⟩) 22 22)):=by
 have b:zs.length=22:=by have:=l.1;simpa using this
 have p:=h.next k;have t:=h.mp.lo;have u:=h.mp.lt;have z:=h.gr;have i:bA (r+1) wr.heap.size a ([aJ v.ax D.x.length v.cx D.x]++[aD v.ar D.ram.length v.cr D.ram,aD v.ai D.d.xs.length v.ci D.d.xs,aD v.ao D.d.ys.length v.co D.d.ys]):=by have:=(h.mp.fam.mono (w':=a) λj x y s=>k.2.block j s bv);exact this.sub dv
 have d:=i.ins (q:=aJ (some ⟨wr.heap.size,0,none⟩) zs.length 22 zs) (E':=a.heap.size) (by simp only [aJ];rw [b];exact l) ab (Nat.le_refl _) k.2.size;have c:bA (r+1) a.heap.size a (aG (cM D zs) (cA v wr.heap.size 22)):=d;have f:∀ q ∈ aG (cM D zs) (cA v wr.heap.size 22),q.v.ownBlock≠some m:=by
  intro q o e;simp only [aG,List.mem_cons,List.not_mem_nil,or_false] at o;rcases o with rfl|rfl|rfl|rfl|rfl;·exact h.mp.ne (aJ v.ax D.x.length v.cx D.x) dv e
  ·simp only [aJ,cA,Value.ownBlock,Option.some.injEq] at e;omega
  ·exact h.mp.ne (aD v.ar D.ram.length v.cr D.ram) dv e
  ·exact h.mp.ne (aD v.ai D.d.xs.length v.ci D.d.xs) dv e
  ·exact h.mp.ne (aD v.ao D.d.ys.length v.co D.d.ys) dv e
 refine p.step ⟨rfl,rfl,rfl,eo,λj wx=>Below.heap_setCell _ _ _ j di⟩ ⟨?_,Mp.fam_set c f 3 _,f,h.mp.lo⟩ ⟨h.fit.x,h.fit.ux,b,cap,h.fit.ram,h.fit.bram,h.fit.d,h.fit.pc,h.fit.hd,h.fit.pr⟩;have:=bI p.mp.row 3 (.slice (some ⟨wr.heap.size,0,none⟩) 22 22);rw [this];simp [aj,cM,cA,b]
def nX (ram:List Int):MV:=⟨2147483648,List.replicate 32 0,3,List.replicate 22 0,ram,zeroD,0,false,false⟩
def AY (ram:List Int):MV:=if bf ram.length=true then cK (nX ram) else zeroM
theorem QJ (a:n.ownsRow w.heap.size 22 1 (.slice (some ⟨w.heap.size,0,none⟩) m m) m (madeCells (Value.int .u64 0).cells (m*1)).toList):n.ownsRow w.heap.size 22 1 (.slice (some ⟨w.heap.size,0,none⟩) m m) m ((List.replicate m (0:Int)).map (Value.int .u64)):=by rw [List.map_replicate,<- toList_madeCells_one];simpa [Value.cells] using a
theorem Oj {a:Act->World->Prop} (W:Region.wanted K k=true) (m:Nat) (l c:Operand) (d:K.op=Op.makeSlice 23 l c) (hl:Q.eval l=.i m) (i:Q.eval c=.i m) (hm:m<=1048576) (h:∀ W',W'.ownsRow n.heap.size 22 1 (.slice (some ⟨n.heap.size,0,none⟩) m m) m ((List.replicate m (0:Int)).map (Value.int .u64))->Bw n W'->a (Q.put K.dst (.slice (some ⟨n.heap.size,0,none⟩) m m)) W'): if Region.wanted K k=true then Oper.wp prog K Q n a e else a (Q.put K.dst undef) n:=by obtain ⟨i0,j,o,f,g⟩:=info_parts Bh;obtain ⟨r,b,p,q⟩:=run_make_full (P:=prog) n n.heap.size 23 22 i0 (.u 0) 1 underlying23 j o f .i64 .i64 m (by rw [g];omega) et (Nat.le_refl _);rw [if_pos W];unfold Oper.wp;simp [execOp,d,hl,i,b,Result.andThen];exact h _ (QJ p) ((Below.refl _ _).grown q (Nat.le_refl _) (by intro ys h;cases h))
theorem Ok (ty:n.ownsRow 0 5 1 (.slice (some ⟨C,0,none⟩) 0 0) 0 []) (ad:Addr) (m c:Nat) (zs:List Int) (hz:zs.length=m) (E:0<m) (hm:m<=1048576) (w:Sl .u8 n (some ad) zs): ∃ (k:Nat) (W':World),(Builtin.append_ #[24,24] d #[.slice (some ⟨C,0,none⟩) 0 0,.slice (some ad) m c]).run prog n=.ok (.slice (some ⟨n.heap.size,0,none⟩) m k) W'/\W'.ownsRow n.heap.size 5 1 (.slice (some ⟨n.heap.size,0,none⟩) m k) m (zs.map (Value.int .u8))/\Bw n W':=by
 obtain ⟨i0,x,f,i,l⟩:=info_parts info5;have a:∀ j u,(zs.map (Value.int .u8))[j]?=some u->n.cell? (ad.add j)=some u:=by
  intro j u W;have s:j<zs.length:=by
   rcases Nat.lt_or_ge j zs.length with h|h;·exact h
   ·rw [List.getElem?_eq_none el] at W;cases W
  obtain ⟨b,g,e,_,z⟩:=w j s;cases e;rw [zp,z];rw [List.getElem?_map,List.getElem?_eq_getElem s] at W;rw [List.getD_eq_getElem?_getD,List.getElem?_eq_getElem s];exact W
 have B:(zs.map (Value.int .u8)).length=m*i0.size:=by rw [List.length_map,hz,i];omega
 obtain ⟨H,I,t,p,F,G⟩:=run_append_own (P:=prog) n 0 24 d 5 i0 (.int .u8 0) 1 1 underlying24 x f i l rfl bc _ 0 [] ty ad m c (zs.map (Value.int .u8)) (by rw [List.length_map,hz];omega) a (ints_oneCell _ _) et ab (Nat.zero_le _);have q:=run_append_grow (P:=prog) n 24 d 5 i0 (.int .u8 0) underlying24 x f ⟨C,0,none⟩ 0 0 [] cp (λj v h=>by simp at h) ad m c (zs.map (Value.int .u8)) B a ab ab (growslice_fits ab (by rw [l];omega));rw [q] at t;simp only [Nat.zero_add,List.nil_append] at p t q;injection t with e1 e2
 subst e1;subst e2;refine ⟨_,_,q,?_,(Below.refl _ _).drew.alloc (by exact Nat.le_refl _) _⟩;refine ⟨p.1,?_⟩;rcases p.2 with ⟨e,D⟩|⟨y,cap,o,e,A,r⟩;·cases e
 ·refine .inr ⟨y,cap,o,e,?_,r⟩;simp only [Value.slice.injEq,Option.some.injEq,Addr.mk.injEq] at e;omega
theorem Ol (W:Region.wanted K k=true) (s x:Operand) (d:K.op=.call {callee:=.builtin .append,args:=#[s,x],argTypes:=#[24,24]}) (g:Nat) (hs:Q.eval s=.slice (some ⟨g,0,none⟩) 0 0) (ad:Addr) (m c:Nat) (zs:List Int) (hx:Q.eval x=.slice (some ad) m c) (b:n.ownsRow 0 5 1 (.slice (some ⟨g,0,none⟩) 0 0) 0 []) (hz:zs.length=m) (f:0<m) (hm:m<=1048576) (a:Sl .u8 n (some ad) zs) (h:∀ ys W',W'.ownsRow n.heap.size 5 1 (.slice (some ⟨n.heap.size,0,none⟩) m ys) m (zs.map (Value.int .u8))->Bw n W'->P (Q.put K.dst (.slice (some ⟨n.heap.size,0,none⟩) m ys)) W'): if Region.wanted K k=true then Oper.wp prog K Q n P e else P (Q.put K.dst undef) n:=by obtain ⟨ys,W',l,i,j⟩:=Ok K.type g b ad m c zs hz f hm a;rw [if_pos W];unfold Oper.wp execOp;simp only [d,resolve,invoke,builtin,Sem.run_bind,Sem.run_pure,Result.andThen_ok,List.map_toArray,List.map_cons,List.map_nil,hs,hx,l];exact h _ _ i j
theorem QK (h:z.length<=1048576):jR (nX z):=⟨by simp [nX],by simp [nX],h,by simp [nX,zeroD],by simp [nX,zeroD]⟩
theorem Kn (h:bf m=true):0<m:=by
 rcases Nat.eq_zero_or_pos m with a|a;·subst a;revert h;decide
 ·exact a
theorem Gc {L:List FRow} (h:bA m M w L) (g:Nat) (b:∀ q ∈ L,q.v.ownBlock≠some g) (cs:Array Value):bA m M (w.setRow g cs) L :=
 ⟨λr a=>eg (h.own r a) (λk e=>setRow_other w g k cs (λe2=>b r a (by rw [<- e2];exact e))),h.hi,h.ne⟩
theorem Ge (h:Below m n w) (b:m<=M) (cs:Array Value):Below m n (w.setRow M cs):=
 ⟨h.os,h.tape,h.output,by rw [setRow_size];exact h.size,λk a=>(setRow_other w M k cs ab).trans (h.block k a)⟩
theorem AZ (parts:Array (Nat × Operand)) (c:K.op=.build d parts) (vs:List (Nat × Value)) (hv:parts.toList.map (λp=>(p.1,Q.eval p.2))=vs) (cells:Array Value) (h:y.built d vs=some cells):(execOp Q.eval K).run y w=.ok (.value (.agg cells)) w:=by
 have b:(parts.map λ(i,x)=>(i,Q.eval x)).toList=vs:=by rw [Array.toList_map];exact hv
 subst b;clear hv;unfold execOp;simp only [c,Sem.run_bind,run_build w d _ cells h,Result.andThen_ok];rfl
def ye (b a vr:Value):Array Value:=#[.u 2147483648,b,.i 3,a,vr,.u 0,.u 0,.bool false,.slice none 0 0,.slice none 0 0,.i 0,.u 0,.bool false,.bool false]
def Zs (B:Nat) (W:World) (m:Nat) (v:Value):Prop:=∃ a,v=.slice a m m/\W.ownsRow B 22 1 (.slice a m m) m ((List.replicate m (0:Int)).map (Value.int .u64))
structure Ku (B n:Nat) (ram:List Int) (W:World) (vx vc vr:Value):Prop where
 x:Zs B W 32 vx
 c:Zs B W 22 vc
 r:W.ownsRow B 5 1 vr n (ram.map (Value.int .u8))
def Rq (B n cap:Nat) (ad:Addr) (ram:List Int) (W:World):Nat->List Value->Prop
 | 0,[v]=>Zs B W 32 v
 | 1,[v]=>Zs B W 22 v
 | 2,[v]=>∃ g,v=.slice (some ⟨g,0,none⟩) 0 0/\W.ownsRow 0 5 1 (.slice (some ⟨g,0,none⟩) 0 0) 0 []
 | 3,[v]=>v=.slice (some ad) n cap
 | 4,[v]=>W.ownsRow B 5 1 v n (ram.map (Value.int .u8))
 | 5,[v]=>∃ c a b,v=.agg (ye c a b)/\Ku B n ram W c a b
 | 6,[v]=>∃ r d,v=.p r 0/\B<=r/\W.heap[r]?=some (.cells d 32 (0,0))/\d.size=14
 | 7,[p]=>∃ r c a b,p=.p r 0/\B<=r/\W.heap[r]?=some (.cells (ye c a b) 32 (0,0))/\Ku B n ram W c a b
 | _,_=>True
def Wl:Nat->List Nat
 | 7=>[6]
 | i=>[i]
theorem Gf (ac ar:Option Addr) (n cr:Nat):prog.built 32 [(0,.u 2147483648),(1,.slice N 32 32),(2,.i 3),(3,.slice ac 22 22),(4,.slice ar n cr)]=some (ye (.slice N 32 32) (.slice ac 22 22) (.slice ar n cr)):=by kernel_rfl
theorem rH (ys:Nat->Option Bool) (b:Region.wanted K ys=true) (h:if Region.wanted K ys=true then Oper.wp y K Q n P e else P (Q.put K.dst undef) n):K.wp y Q n P e:=by rwa [if_pos b] at h
theorem rI (h:n.ownsRow m j 1 t M f) (hk:∀ (g:Nat) (b:Array Value),n.heap[g]?=some (.cells b j (0,0))->a.heap[g]?=some (.cells b j (0,0))):a.ownsRow m j 1 t M f:=by
 refine ⟨h.1,?_⟩;rcases h.2 with d|⟨g,cap,W,c,e2,e3,e4⟩;·exact .inl d
 ·exact .inr ⟨g,cap,W,c,e2,hk g W e3,e4⟩
theorem Zs.kept (h:Zs M n m t) (hk:∀ (g:Nat) (b:Array Value),n.heap[g]?=some (.cells b 22 (0,0))->a.heap[g]?=some (.cells b 22 (0,0))):Zs M a m t:=by obtain ⟨W',e,h⟩:=h;exact ⟨W',e,rI h hk⟩
theorem Ku.kept (h:Ku m M b n t x o) (hk:∀ (g:Nat) (W:Array Value) (W':TypeId),W'≠32->n.heap[g]?=some (.cells W W' (0,0))->a.heap[g]?=some (.cells W W' (0,0))):Ku m M b a t x o :=
 ⟨h.x.kept (λg W=>hk g W _ bc),h.c.kept (λg W=>hk g W _ bc),rI h.r (λg W=>hk g W _ bc)⟩
theorem DG (hk:∀ (g:Nat) (W':Array Value) (t:TypeId),t≠32->n.heap[g]?=some (.cells W' t (0,0))->a.heap[g]?=some (.cells W' t (0,0))) (hm:∀ (g:Nat) (W':Array Value),n.heap[g]?=some (.cells W' 32 (0,0))->∃ W:Array Value,a.heap[g]?=some (.cells W 32 (0,0))/\W.size=W'.size/\(W=W'\/∃ f c d,W=ye f c d/\Ku m M b a f c d)): ∀ j l,Rq m M r L b n j l->Rq m M r L b a j l:=by
 intro j l h;unfold Rq at h ⊢;split;·exact h.kept (λg W'=>hk g W' _ bc)
 ·exact h.kept (λg W'=>hk g W' _ bc)
 ·obtain ⟨g,e,h⟩:=h;exact ⟨g,e,rI h (λg W'=>hk g W' _ bc)⟩
 ·exact h
 ·exact rI h (λg W'=>hk g W' _ bc)
 ·obtain ⟨f,c,d,e,h⟩:=h;exact ⟨f,c,d,e,h.kept hk⟩
 ·obtain ⟨ad,W',e,k,B,s⟩:=h;obtain ⟨W,i,u,_⟩:=hm ad W' B;exact ⟨ad,W,e,k,i,ab⟩
 ·obtain ⟨ad,f,c,d,e,k,B,s⟩:=h;obtain ⟨W,i,u,v⟩:=hm ad _ B;rcases v with rfl|⟨q,o,p,rfl,w⟩;·exact ⟨ad,f,c,d,e,k,i,s.kept hk⟩
  ·exact ⟨ad,q,o,p,e,k,i,w⟩
 ·trivial
theorem nf (hb:Bw n a):∀ j l,Rq m M r L b n j l->Rq m M r L b a j l:=by
 have h:∀ (g:Nat) (o:Obj),n.heap[g]?=some o->a.heap[g]?=some o:=λg o e=>by rw [hb.block g (Array.getElem?_eq_some_iff.1 e).1];exact e
 exact DG (λg W' t _ e=>h g _ e) (λg W' e=>⟨W',h g _ e,rfl,.inl rfl⟩)
theorem QL {cap:Nat} {ad:Addr} (hr:n.heap[r]?=some (.cells p 32 (0,0))) (hs:p.size=14) (i:Ku m M b n t x o): Ku m M b (n.setRow r (ye t x o)) t x o/\∀ j l,Rq m M cap ad b n j l->Rq m M cap ad b (n.setRow r (ye t x o)) j l:=by
 have h:∀ (g:Nat) (c:Array Value) (cs:TypeId),cs≠32->n.heap[g]?=some (.cells c cs (0,0))->(n.setRow r (ye t x o)).heap[g]?=some (.cells c cs (0,0)):=by
  intro g c cs k e;rw [setRow_other n r g _ (λe2=>?_)];·exact e
  ·subst e2;rw [hr] at e;simp only [Option.some.injEq,Obj.cells.injEq] at e;exact k e.2.1.symm
 have d:=i.kept h;refine ⟨d,DG h (λg c e=>?_)⟩;by_cases f:g=r;·subst f;rw [hr] at e;simp only [Option.some.injEq,Obj.cells.injEq,and_true] at e;subst e;exact ⟨_,setRow_heap _ _ _ _ _ _ hr,by rw [hs];rfl,.inr ⟨t,x,o,rfl,d⟩⟩
 ·exact ⟨c,by rw [setRow_other n r g _ f];exact e,rfl,.inl rfl⟩
theorem qq (h:n.ownsRow m j 1 t M f):∃ a c,t=.slice a M c:=by
 rcases h.2 with ⟨b,e⟩|⟨g,cap,d,b,_⟩;·exact ⟨none,0,by rw [b,e]⟩
 ·exact ⟨_,_,b⟩
theorem Ku.one (h:Ku m M b n t x o):(ye t x o).all (·.oneCell')=true:=by obtain ⟨e,rfl,_⟩:=h.x;obtain ⟨c,rfl,_⟩:=h.c;obtain ⟨d,f,rfl⟩:=qq h.r;kernel_rfl
theorem Gg {k:Nat} (h:n.ownsRow m j 1 (.slice B M r) M f) (hk:(Value.slice B M r).ownBlock=some k):∃ e,n.heap[k]?=some (.cells e j (0,0))/\e.size=r:=by
 rcases h.2 with ⟨d,_⟩|⟨g,cap,b,d,_,xs,_,_,i,_⟩;·rw [d] at hk;cases hk
 ·cases d;cases hk;exact ⟨b,xs,ab⟩
theorem Ku.fam (h:Ku m M b n t x o) (hr:n.heap[r]?=some (.cells p 32 (0,0))): ∃ C:MA,t=.slice C.ax 32 C.cx/\x=.slice C.ac 22 C.cc/\o=.slice C.ar M C.cr/\C.ai=none/\C.ci=0/\C.ao=none/\C.co=0/\bA m n.heap.size n [aJ C.ax 32 C.cx (List.replicate 32 0),aJ C.ac 22 C.cc (List.replicate 22 0),aD C.ar M C.cr b,aD none 0 0 [],aD none 0 0 []]/\(∀ q ∈ [aJ C.ax 32 C.cx (List.replicate 32 0),aJ C.ac 22 C.cc (List.replicate 22 0),aD C.ar M C.cr b,aD none 0 0 [],aD none 0 0 []],q.v.ownBlock≠some r):=by
 obtain ⟨H,rfl,A⟩:=h.x;obtain ⟨F,rfl,z⟩:=h.c;obtain ⟨G,I,e⟩:=qq h.r;have v:=h.r;rw [e] at v;have g:∀ (k:Nat) (p cs:Array Value) (E u:TypeId),n.heap[k]?=some (.cells p E (0,0))->n.heap[k]?=some (.cells cs u (0,0))->E=u/\p=cs:=by intro k p cs E u a d;rw [a] at d;simp only [Option.some.injEq,Obj.cells.injEq] at d;exact ⟨d.2.1,d.1⟩
 have w:=λk=>Gg (k:=k) A;have vr:=λk=>Gg (k:=k) z;have B:=λk=>Gg (k:=k) v;have D:∀ (k:Nat) (p:Array Value) (E:TypeId),n.heap[k]?=some (.cells p E (0,0))->k<n.heap.size:=λk p E h=>(Array.getElem?_eq_some_iff.1 h).1;refine ⟨⟨H,32,F,22,G,I,none,0,none,0⟩,rfl,rfl,e,rfl,rfl,rfl,rfl,⟨λq W=>?_,λq W k i=>?_,?_⟩,λq W j=>?_⟩
 ·simp only [List.mem_cons,List.not_mem_nil,or_false] at W;rcases W with rfl|rfl|rfl|rfl|rfl;·exact A
  ·exact z
  ·exact v
  ·exact ⟨rfl,.inl ⟨rfl,rfl⟩⟩
  ·exact ⟨rfl,.inl ⟨rfl,rfl⟩⟩
 ·simp only [List.mem_cons,List.not_mem_nil,or_false] at W;rcases W with rfl|rfl|rfl|rfl|rfl;·obtain ⟨_,a,_⟩:=w k i;exact D _ _ _ a
  ·obtain ⟨_,a,_⟩:=vr k i;exact D _ _ _ a
  ·obtain ⟨_,a,_⟩:=B k i;exact D _ _ _ a
  ·cases i
  ·cases i
 ·simp only [List.pairwise_cons,List.mem_cons,List.not_mem_nil,or_false];refine ⟨λs c k f e2=>?_,λs c k f e2=>?_,λs c k f e2=>?_,λs c k f=>(by cases f),λs c=>c.elim,List.Pairwise.nil⟩
  ·obtain ⟨_,a,d⟩:=w k f;rcases c with rfl|rfl|rfl|rfl;·obtain ⟨_,l,y⟩:=vr k e2;rw [(g _ _ _ _ _ a l).2] at d;omega
   ·obtain ⟨_,l,y⟩:=B k e2;exact absurd (g _ _ _ _ _ a l).1 bc
   ·cases e2
   ·cases e2
  ·obtain ⟨_,a,d⟩:=vr k f;rcases c with rfl|rfl|rfl;·obtain ⟨_,l,y⟩:=B k e2;exact absurd (g _ _ _ _ _ a l).1 bc
   ·cases e2
   ·cases e2
  ·rcases c with rfl|rfl;·cases e2
   ·cases e2
 ·simp only [List.mem_cons,List.not_mem_nil,or_false] at W;rcases W with rfl|rfl|rfl|rfl|rfl;·obtain ⟨_,a,_⟩:=w r j;exact absurd (g _ _ _ _ _ a hr).1 bc
  ·obtain ⟨_,a,_⟩:=vr r j;exact absurd (g _ _ _ _ _ a hr).1 bc
  ·obtain ⟨_,a,_⟩:=B r j;exact absurd (g _ _ _ _ _ a hr).1 bc
  ·cases j
  ·cases j
theorem qr (ram:List Int) (w:World) (hz:ram.length=C) (hn:C<=1048576) (hs:Sl .u8 w N ram): Calls prog 185 #[.slice N C F] w λe d=>∃ n:MA,e=.returned (.tuple #[.agg (aj (AY ram) n),.bool (bf C)])/\bA w.heap.size d.heap.size d (aG (AY ram) n)/\Bw w d:=by
 have B0:Bw w (w.alloc (.cells #[.u 0,.slice none 0 0,.i 0,.slice none 0 0,.slice none 0 0,.u 0,.u 0,.bool false,.slice none 0 0,.slice none 0 0,.i 0,.u 0,.bool false,.bool false] 32)):=bal _ _;have rb:(w.alloc (.cells #[.u 0,.slice none 0 0,.i 0,.slice none 0 0,.slice none 0 0,.u 0,.u 0,.bool false,.slice none 0 0,.slice none 0 0,.i 0,.u 0,.bool false,.bool false] 32)).heap[w.heap.size]?=some (.cells #[.u 0,.slice none 0 0,.i 0,.slice none 0 0,.slice none 0 0,.u 0,.u 0,.bool false,.slice none 0 0,.slice none 0 0,.i 0,.u 0,.bool false,.bool false] 32):=heap_alloc_new _ _;obtain ⟨Q,G⟩:∃ Q:World->Prop,Q=λW=>Below (w.heap.size+1) (w.alloc (.cells #[.u 0,.slice none 0 0,.i 0,.slice none 0 0,.slice none 0 0,.u 0,.u 0,.bool false,.slice none 0 0,.slice none 0 0,.i 0,.u 0,.bool false,.bool false] 32)) W:=⟨_,rfl⟩;have T:Hid (∀ W W',Q W->Bw W W'->Q W'):=by rw [G];exact λW W' h p=>h.trans (p.mono (by have:=h.size;simp only [World.size_alloc] at this;omega))
 have PU:Hid (∀ W g,Q W->w.heap.size+1<=g->∀ cs,Q (W.setRow g cs)):=by rw [G];exact λW g h hg=>Ge h hg
 have PE:Hid (∀ W,Q W->Bw w W):=by rw [G];exact λW h=>B0.trans (h.mono ab)
 have PZ:Hid (∀ W,Q W->w.heap.size+1<=W.heap.size):=by rw [G];exact λW h=>by have:=h.size;simp only [World.size_alloc] at this;omega
 have PR:Hid (∀ W,Q W->W.heap[w.heap.size]?=some (.cells #[.u 0,.slice none 0 0,.i 0,.slice none 0 0,.slice none 0 0,.u 0,.u 0,.bool false,.slice none 0 0,.slice none 0 0,.i 0,.u 0,.bool false,.bool false] 32)):=by rw [G];exact λW h=>(h.block _ ab).trans rb
 have PK:Hid (∀ W W' L B E,Q W->jv L W W'->bA B E W L->w.heap.size+1<=B->Q W'):=by rw [G];exact λW W' L B E h k f U=>h.trans ((k.keep f).below U (by have:=h.size;simp only [World.size_alloc] at this;omega))
 have q0:Q (w.alloc (.cells #[.u 0,.slice none 0 0,.i 0,.slice none 0 0,.slice none 0 0,.u 0,.u 0,.bool false,.slice none 0 0,.slice none 0 0,.i 0,.u 0,.bool false,.bool false] 32)):=by rw [G];exact Below.refl _ _
 have KS:Hid (∀ d,Q d->Q d):=λd h=>h;have z:Hid (∀ w,CE 69 #[.slice N C F] w (.bool (bf C))):=λw=>pN _ _ _ w hn;have Z:Hid (∀ w,Calls prog 241 #[] w λe d=>e=.returned (.slice (some ⟨w.heap.size,0,none⟩) 22 22)/\d.ownsRow w.heap.size 22 1 (.slice (some ⟨w.heap.size,0,none⟩) 22 22) 22 ((List.replicate 22 (0:Int)).map (Value.int .u64))/\Bw w d):=nT;have X:Hid (∀ (n:MA) (b B E:Nat) (d:World),d.heap[b]?=some (.cells #[.u 2147483648,.slice n.ax 32 n.cx,.i 3,.slice n.ac 22 n.cc,.slice n.ar C n.cr,.u 0,.u 0,.bool false,.slice n.ai 0 n.ci,.slice n.ao 0 n.co,.i 0,.u 0,.bool false,.bool false] 32 (0,0))->bA B E d (aG (nX ram) n)->(∀ q ∈ aG (nX ram) n,q.v.ownBlock≠some b)->Calls prog 85 #[.p b 0] d λe S=>e=.returned (.tuple #[])/\S.heap[b]?=some (.cells #[.u 2147483648,.slice n.ax 32 n.cx,.i 3,.slice n.ac 22 n.cc,.slice n.ar C n.cr,.u 0,.u 0,.bool false,.slice n.ai 0 n.ci,.slice n.ao 0 n.co,.i 0,.u 0,.bool false,.bool false] 32 (0,0))/\bA B E S (aG (cK (nX ram)) n)/\jv (aG (nX ram) n) d S):=λn b B E d D hf p=>by subst hz;have h2:=vu (nX ram) n b B E d rfl (QK ram hn) D hf p;rw [vt] at h2;exact h2
 have Y:Hid (∀ n:MA,aj (cK (nX ram)) n=#[.u 2147483648,.slice n.ax 32 n.cx,.i 3,.slice n.ac 22 n.cc,.slice n.ar C n.cr,.u 0,.u 0,.bool false,.slice n.ai 0 n.ci,.slice n.ao 0 n.co,.i 0,.u 0,.bool false,.bool false]):=λn=>by subst hz;exact (vt (nX ram) n).trans rfl
 obtain ⟨V,hV⟩:∃ V,V=AY ram:=⟨_,rfl⟩;rw [<- hV];clear G rb;cases s:bf C with
 | false =>have cap:Hid (V=zeroM):=(by show _=_;rw [hV];unfold AY;rw [hz,s];rfl);rw [s] at z;clear Z X hV Y hs hz hn s;go_enter func185,ntmps185;go_wp2_with fail;refine (z.out _).mono ?_;rintro e w1 ⟨rfl,P⟩;subst P;go_wp2_with fail;exact bodyPost_ret (cT results185 _ _ _ _ _ _ _ rfl (PR.out _ q0) underlying32 rfl oa) rfl ⟨zeroA,by rw [cap.out];rfl,by rw [cap.out];exact jZ _ _ _,PE.out _ q0⟩
 | true =>
   have cap:Hid (V=cK (nX ram)):=(by show _=_;rw [hV];unfold AY;rw [hz,s];rfl);have H:=Kn s;rw [s] at z;have HN:Hid (ram.length=C/\0<C/\C<=1048576):=⟨hz,H,hn⟩;obtain ⟨m,rfl⟩:∃ x,N=some x:=(by obtain ⟨b,off,e,_⟩:=hs 0 ab;exact ⟨_,e⟩);have HSL:Hid (∀ W,Bw w W->Sl .u8 W (some m) ram):=λW p=>hs.below p;clear hs hz hn s H hV;go_enter func185,ntmps185;go_wp2_with fail;refine (z.out _).mono ?_;rintro e w1 ⟨rfl,P⟩;subst P;go_wp2_with fail;go_cut [4] from 5 (λy wc=>∃ (r:Nat) (n:MA),y=.p r 0/\Hid (wc.heap[r]?=some (.cells #[.u 2147483648,.slice n.ax 32 n.cx,.i 3,.slice n.ac 22 n.cc,.slice n.ar C n.cr,.u 0,.u 0,.bool false,.slice none 0 0,.slice none 0 0,.i 0,.u 0,.bool false,.bool false] 32 (0,0))/\bA (w.heap.size+1) wc.heap.size wc ([aJ n.ax 32 n.cx (List.replicate 32 0),aJ n.ac 22 n.cc (List.replicate 22 0),aD n.ar C n.cr ram,aD none 0 0 [],aD none 0 0 []])/\(∀ q ∈ [aJ n.ax 32 n.cx (List.replicate 32 0),aJ n.ac 22 n.cc (List.replicate 22 0),aD n.ar C n.cr ram,aD none 0 0 [],aD none 0 0 []],q.v.ownBlock≠some r)/\w.heap.size+1<=r/\Q wc)/\n.ai=none/\n.ci=0/\n.ao=none/\n.co=0)
   case first =>
    have p0:=T.out _ _ q0 (Below.refl _ _).drew;refine xr ba Wl (λj l W=>Rq (w.heap.size+1) C F m ram W j l) Q ba p0 ?_ ?_
    ·intro i o A a W t u c O;rcases i with _ | _ | _ | _ | _ | _ | _ | _ | i;·obtain rfl:=Option.some.inj A;refine rH (λ_=>none) (by rfl) (Oj (by rfl) 32 (.const (.i 32)) (.const (.i 32)) rfl rfl rfl ab ?_);intro W' ow p;exact ⟨_,rfl,⟨_,rfl,cG ow (PZ.out _ t)⟩,T.out _ _ t p,nf p⟩
     ·obtain rfl:=Option.some.inj A;go_simp;refine (Z.out _).mono ?_;rintro e W' ⟨rfl,ow,p⟩;exact ⟨_,rfl,⟨_,rfl,cG ow (PZ.out _ t)⟩,T.out _ _ t p,nf p⟩
     ·obtain rfl:=Option.some.inj A;have p:Bw W (W.alloc (.cells #[] 5 (0,0))):=bal _ _;go_simp;exact ⟨_,rfl,⟨_,rfl,cG (iZ W _ (Nat.le_refl _) _ rfl) (Nat.zero_le _)⟩,T.out _ _ t p,nf p⟩
     ·obtain rfl:=Option.some.inj A;have e0:a.tmps[0]?=some (.slice (some m) C F):=u 0 ba;refine KA (v:=.slice (some m) C F) ?_ ⟨_,rfl,rfl,t,λ_ _ h=>h⟩;simp [execOp,Act.eval,Array.getD_eq_getD_getElem?,e0]
     ·obtain rfl:=Option.some.inj A;obtain ⟨g,e2,ol⟩:=O 2 bc ba;have e3:=O 3 bc ba;refine rH (λ_=>none) (by rfl) (Ol (by rfl) (.tmp 11) (.tmp 12) rfl g e2 m C F ram e3 ol HN.out.1 HN.out.2.1 HN.out.2.2 (HSL.out _ (PE.out _ t)) ?_);intro k W' ow p;exact ⟨_,rfl,cG ow (PZ.out _ t),T.out _ _ t p,nf p⟩
     ·obtain rfl:=Option.some.inj A;have h0:=O 0 bc ba;have h1:=O 1 bc ba;have h4:=O 4 bc ba;obtain ⟨ax,ex,hx⟩:=h0;obtain ⟨ac,ec,hc⟩:=h1;obtain ⟨ar,cr,er⟩:=qq h4;refine KA (v:=.agg (ye (.slice ax 32 32) (.slice ac 22 22) (.slice ar C cr))) (AZ _ _ rfl [(0,.u 2147483648),(1,.slice ax 32 32),(2,.i 3),(3,.slice ac 22 22),(4,.slice ar C cr)] ?_ _ (Gf _ _ _ _ _)) ⟨_,rfl,⟨_,_,_,rfl,⟨?_,?_,?_⟩⟩,t,λ_ _ h=>h⟩;·rw [<- ex,<- ec,<- er];rfl
      ·exact ⟨_,rfl,hx⟩
      ·exact ⟨_,rfl,hc⟩
      ·rw [<- er];exact h4
     ·obtain rfl:=Option.some.inj A;go_simp;exact ⟨_,rfl,⟨W.heap.size,_,rfl,PZ.out _ t,heap_alloc_new _ _,rfl⟩,T.out _ _ t (bal _ _),nf (bal _ _)⟩
     ·obtain rfl:=Option.some.inj A;obtain ⟨vx,vc,vr,e5,h3⟩:=O 5 bc ba;obtain ⟨r,cs,e6,U,D,hs⟩:=O 6 bc ba;obtain ⟨h4,h5⟩:=QL (cap:=F) (ad:=m) D hs h3;refine wp_store_row 32 (.tmp 4) (.tmp 14) rfl r (ye vx vc vr) e6 e5 _ cs D oa hs h3.one ?_;exact ⟨_,rfl,⟨r,vx,vc,vr,e6,U,setRow_heap _ _ _ _ _ _ D,h4⟩,PU.out _ r t U _,h5⟩
     ·cases A
    ·intro a W t u c hdf hv;obtain ⟨u4,g4⟩:=jO c 4 (by rfl);obtain ⟨u9,g9⟩:=jO c 9 (by rfl);obtain ⟨u10,g10⟩:=jO c 10 (by rfl);obtain ⟨u11,g11⟩:=jO c 11 (by rfl);obtain ⟨u12,g12⟩:=jO c 12 (by rfl);obtain ⟨u13,g13⟩:=jO c 13 (by rfl);obtain ⟨u14,g14⟩:=jO c 14 (by rfl);obtain ⟨r,vx,vc,vr,e6,U,D,h3⟩:=hv 7 bc;have e6':u4=.p r 0:=(by rw [<- e6];show u4=a.tmps.getD 4 undef;rw [Array.getD_eq_getD_getElem?,g4];rfl);subst e6';obtain ⟨n,rfl,rfl,rfl,ai,ci,ao,co,hf,hn⟩:=h3.fam D;have ha:=OI (a:=a) (l:=[.slice (some m) C F,undef,.p w.heap.size 0,.bool false,.p r 0,.slice (some m) C F,.bool true,.bool false,undef,u9,u10,u11,u12,u13,u14,undef,undef]) c (λi hi=>?_) hdf;·subst ha;clear hv u c hdf g4 g9 g10 g11 g12 g13 g14 e6;go_wp2_with fail;go_meet;exact ⟨r,n,rfl,⟨D,hf,hn,U,t⟩,ai,ci,ao,co⟩
     ·rcases i with _ | _ | _ | _ | _ | _ | _ | _ | _ | _ | _ | _ | _ | _ | _ | _ | _ | i;all_goals first | assumption | exact u _ ba | (simp at hi;omega)
   case rest =>obtain ⟨r,n,rfl,LI,I,K,J,M⟩:=hcut;have LJ:Hid (wc.heap[r]?=some (.cells #[.u 2147483648,.slice n.ax 32 n.cx,.i 3,.slice n.ac 22 n.cc,.slice n.ar C n.cr,.u 0,.u 0,.bool false,.slice n.ai 0 n.ci,.slice n.ao 0 n.co,.i 0,.u 0,.bool false,.bool false] 32 (0,0))/\bA (w.heap.size+1) wc.heap.size wc (aG (nX ram) n)/\(∀ q ∈ aG (nX ram) n,q.v.ownBlock≠some r)/\w.heap.size+1<=r/\Q wc):=(by have h:=LI.out;obtain ⟨ax,cx,ac,cc,ar,cr,ai,ci,ao,co⟩:=n;dsimp only at I K J M h;subst I;subst K;subst J;subst M;have hn2:=HN.out.1;subst hn2;exact h);obtain ⟨row,ad,ne,D,qc⟩:=LJ.out;clear LI LJ I K J M;go_wp2_with fail;refine (X.out n r _ _ _ row ad ne).mono ?_;rintro e w3 ⟨rfl,row3,fm3,R⟩;have q3:Q w3:=PK.out _ _ _ _ _ qc R ad (Nat.le_refl _);have Z3:=aE R.size;have nd1:¬ r=w.heap.size:=ab;have nd2:¬ w.heap.size=r:=ab;clear R row ad ne;obtain ⟨a0,a1,a2,a3,a4,a5,a6,a7,a8,a9,a10,a11,a12,a13⟩:=aZ row3;obtain ⟨s0,s1,s2,s3,s4,s5,s6,s7,s8,s9,s10,s11,s12,s13⟩:=aZ (PR.out _ q3);obtain ⟨y0,y1,y2,y3,y4,y5,y6,y7,y8,y9,y10,y11,y12,y13⟩:=fi (PR.out _ q3);go_wp2_with fail;exact bodyPost_ret (cT results185 _ _ _ _ _ _ _ rfl (rO (PR.out _ q3) (.u 2147483648) (.slice n.ax 32 n.cx) (.i 3) (.slice n.ac 22 n.cc) (.slice n.ar C n.cr) (.u 0) (.u 0) (.bool false) (.slice n.ai 0 n.ci) (.slice n.ao 0 n.co) (.i 0) (.u 0) (.bool false) (.bool false)) underlying32 rfl oa) rfl ⟨n,by rw [cap.out,Y.out];rfl,by rw [cap.out];exact (fm3.put14 w.heap.size (.inl ab) (.u 2147483648) (.slice n.ax 32 n.cx) (.i 3) (.slice n.ac 22 n.cc) (.slice n.ar C n.cr) (.u 0) (.u 0) (.bool false) (.slice n.ai 0 n.ci) (.slice n.ao 0 n.co) (.i 0) (.u 0) (.bool false) (.bool false)).low ab (by have:=Z3.out;simp only [aT];omega),n9 (PE.out _ q3) (Nat.le_refl _) (.u 2147483648) (.slice n.ax 32 n.cx) (.i 3) (.slice n.ac 22 n.cc) (.slice n.ar C n.cr) (.u 0) (.u 0) (.bool false) (.slice n.ai 0 n.ci) (.slice n.ao 0 n.co) (.i 0) (.u 0) (.bool false) (.bool false)⟩
def Rg (w0:World) (g:Nat) (a:Option Addr) (n cap:Nat) (w wr:World):Prop :=
 ∃ zs:List Int,(∀ j,U (zs.getD j 0))/\wr.ownsRow w.heap.size 22 1 (.slice (some ⟨w.heap.size,0,none⟩) 22 22) 22 (zs.map (Value.int .u64))/\Cs w0 g a n cap w wr/\g<w.heap.size
theorem Rg.next {wr:World} (h:Rg n m B M r w wr) (k:Cs n m B M r wr a):Rg n m B M r w a:=by obtain ⟨zs,i,f,c,d⟩:=h;refine ⟨zs,i,zq f k.2 ?_,c.trans k,d⟩;intro j e b;simp [Value.ownBlock] at e b;omega
theorem Rg.cur {wr:World} (h:Rg n m B M r w wr):lq n wr m B M r:=by obtain ⟨zs,e,d,b,c⟩:=h;exact b.1
theorem Om (y:Int) (c:∀ F,U (z.getD F 0)) (hy:U y):U ((z.set C y).getD F 0):=by
 by_cases a:C=F
 ·subst a;by_cases b:C<z.length;·have e:(z.set C y).getD C 0=y:=(by simp [List.getD,b]);rw [e];exact hy
  ·have e:(z.set C y).getD C 0=0:=(by simp [List.getD,b]);rw [e];constructor<;>decide
 ·have e:(z.set C y).getD F 0=z.getD F 0:=(by simp [List.getD,a]);rw [e];exact c F
theorem Rg.put {wr:World} (h:Rg n m B M r w wr) (k:Nat) (y:Int) (hy:U y):Rg n m B M r w (wr.setCell ⟨w.heap.size,k,none⟩ (.u y)):=by
 obtain ⟨zs,p,o,b,f⟩:=h;have d:=o.stored k (.u y);rw [ks] at d;refine ⟨zs.set k y,λj=>Om zs k j y p hy,d.1,⟨?_,?_⟩,f⟩
 ·obtain ⟨i,x,l,c⟩:=b.1.row;refine ⟨b.1.new,b.1.below.setCell ?_ _,i,x,l,?_⟩;·show n.heap.size<=w.heap.size;have:=b.1.new;omega
  ·rw [heap_setCell_other _ _ _ _ (by show m≠w.heap.size;omega)];exact c
 ·refine ⟨b.2.os,b.2.tape,b.2.output,by simpa [World.setCell] using b.2.size,λj w0 e=>?_⟩;rw [heap_setCell_other _ _ _ _ (by show j≠w.heap.size;omega)];exact b.2.block j w0 e
theorem Rg.cell {wr:World} (h:Rg n g B m M w wr) (k:Nat) (hk:k<22):∃ v,U v/\wr.cell? ⟨w.heap.size,k,none⟩=some (.u v)/\wr.frozen? ⟨w.heap.size,k,none⟩=false:=by
 obtain ⟨zs,f,d,j,l⟩:=h;have a:zs.length=22:=by have:=d.1;simpa using this
 obtain ⟨b,i,e,_,c⟩:=kE d k ab;simp only [Option.some.injEq,Addr.mk.injEq,and_true] at e;obtain ⟨rfl,rfl⟩:=e;rw [Nat.zero_add] at c;exact ⟨_,f k,c,d.frozenAt k⟩
theorem QM (h:U s):U (bz q s):=by
 unfold bz;split;·unfold mst;split<;>exact ah _ _ _
 ·split;·exact ah _ _ _
  ·split;·exact ah _ _ _
   ·split;·exact ah _ _ _
    ·split;·exact ah _ _ _
     ·split;·exact ah _ _ _
      ·split;·exact ah _ _ _
       ·split;·exact ah _ _ _
        ·split;·exact ah _ _ _
         ·exact h
theorem U0:U 0:=⟨bc,bc⟩
theorem On:(List.replicate C (0:Int)).getD F 0=0:=by
 by_cases a:F<C;·simp [List.getD,a]
 ·simp [List.getD,a]
theorem QN:U ((List.replicate 22 (0:Int)).getD C 0):=by rw [On];exact U0
theorem g6 (h:U s) (w:World):Calls prog 189 #[.i q,.u s] w λe b=>∃ v,e=.returned (.u v)/\Hid (U v)/\b=w :=
 (fu q s w).mono λe b a=>⟨_,a.1,QM q s h,a.2⟩
theorem Ba (V:Code n B M b) (w:World) (hc:lq n w m B M r): Calls prog 187 #[.p m 0] w λe w'=>e=.returned (.slice (some ⟨w.heap.size,0,none⟩) 22 22)/\Hid (Rg n m B M r w w'):=by
 have u:Hid (Code n B M b):=V;have HC:Hid (lq n w m B M r):=hc;clear V hc;go_enter func187,ntmps187;go_wp2_with fail;refine (nT _).mono ?_;rintro e w1 ⟨rfl,W,T⟩;have R1:Hid (Rg n m B M r w w1):=⟨List.replicate 22 0,QN,W,Cs.of_below HC.out T,HC.out.lt⟩;clear W T;go_wp2_with fail;refine (aA u.out 16 ab _ R1.out.cur).mono ?_;rintro e w2 ⟨w0,rfl,⟨hm0,hm1⟩,X⟩;have R2:Hid (Rg n m B M r w w2):=R1.out.next X.out;obtain ⟨mm,rfl⟩:=Int.eq_ofNat_of_zero_le hm0;clear R1 X;go_wp2_with fail;go_loopw [4] (λi wr=>∃ k:Nat,k<=16/\i=.i k/\Hid (Rg n m B M r w wr)) (λi _=>(intOf i).toNat);case atStart=>exact ⟨mm,ab,rfl,R2⟩
 case round =>
  obtain ⟨k,hk,rfl,I⟩:=hrel;by_cases hlt:0<k
  ·go_wp2_with fail;refine (aA u.out 22 ab _ I.out.cur).mono ?_;rintro e w3 ⟨p,rfl,⟨hp0,hp1⟩,Y⟩;have R3:Hid (Rg n m B M r w w3):=I.out.next Y.out;obtain ⟨D,rfl⟩:=Int.eq_ofNat_of_zero_le hp0;clear Y I;go_wp2_with fail;refine (kZ u.out _ R3.out.cur).mono ?_;rintro e w4 ⟨x,rfl,hx,Z⟩;have s:Hid (Rg n m B M r w w4):=R3.out.next Z.out;have N:Hid (U x):=hx;clear Z R3 hx;obtain ⟨j,rfl⟩:∃ j,k=j+1:=⟨k-1,ab⟩;by_cases h4:D=4\/D=10
   ·rcases h4 with rfl|rfl
    ·go_wp2_with fail;refine (aA u.out 512 ab _ s.out.cur).mono ?_;rintro e F ⟨y,rfl,⟨E,G⟩,d⟩;have cap:Hid (Rg n m B M r w F):=s.out.next d.out;clear d s;go_wp2_with fail;refine (aA u.out 2 ab _ cap.out.cur).mono ?_;rintro e H ⟨z,rfl,⟨hz0,hz1⟩,f⟩;have t:Hid (Rg n m B M r w H):=cap.out.next f.out;clear f cap N;obtain ⟨K,_,a,C⟩:=t.out.cell 4 ab;go_wp2_with fail;refine (g6 _ _ ?_ _).mono ?_;·first | exact aU _ | (constructor<;>omega)
     rintro e g ⟨L,rfl,l,o⟩;have zs:=o.symm;subst zs;go_wp2_with fail;go_roundw;case rel=>exact ⟨j,ab,by go_num,t.out.put 4 _ l.out⟩
     case measure=>simp [intOf]
    ·go_wp2_with fail;refine (aA u.out 512 ab _ s.out.cur).mono ?_;rintro e F ⟨y,rfl,⟨E,G⟩,d⟩;have cap:Hid (Rg n m B M r w F):=s.out.next d.out;clear d s;go_wp2_with fail;refine (aA u.out 2 ab _ cap.out.cur).mono ?_;rintro e H ⟨z,rfl,⟨hz0,hz1⟩,f⟩;have t:Hid (Rg n m B M r w H):=cap.out.next f.out;clear f cap N;obtain ⟨K,_,a,C⟩:=t.out.cell 10 ab;go_wp2_with fail;refine (g6 _ _ ?_ _).mono ?_;·first | exact aU _ | (constructor<;>omega)
     rintro e g ⟨L,rfl,l,o⟩;have zs:=o.symm;subst zs;go_wp2_with fail;go_roundw;case rel=>exact ⟨j,ab,by go_num,t.out.put 10 _ l.out⟩
     case measure=>simp [intOf]
   by_cases P:D=16
   ·subst P;go_wp2_with fail;go_loopw [6,7] (λy i wx=>∃ (q:Nat) (v:Int),q<=4/\y=.u v/\U v/\i=.i q/\Hid (Rg n m B M r w wx)) (λ_ i _=>4-(intOf i).toNat);case atStart=>exact ⟨0,0,ab,rfl,U0,rfl,s⟩
    case round =>
     obtain ⟨q,v,hq,rfl,hv,rfl,I⟩:=hrel;have S:Hid (U v):=hv;clear hv;by_cases hq4:q<4
     ·go_wp2_with fail;have HA:=Cs.alloc I.out.cur (.cells #[.u 0,.u 15,.u 31,.u 27,.u 25,.u 7,.u 24,.u 159,.u 143,.u 153] 22);refine (aA u.out 10 ab _ HA.1).mono ?_;rintro e F ⟨y,rfl,⟨E,G⟩,d⟩;obtain ⟨yy,rfl⟩:=Int.eq_ofNat_of_zero_le E;obtain ⟨v2,hv2,hcell⟩:=sR [0,15,31,27,25,7,24,159,143,153] 22 (d.out.keep (heap_alloc_new _ _) (Nat.ne_of_gt I.out.cur.lt)) (by intro x hx;simp at hx;constructor<;>omega) (k:=yy) bv;have cap:Hid (Rg n m B M r w F):=(I.out.next HA).next d.out
      clear d I HA hv2;go_wp2_with fail;go_roundw;case rel=>exact ⟨q+1,_,ab,rfl,ah _ _ _,by go_num,cap⟩
      case measure=>simp [intOf];omega
     ·go_wp2_with fail;refine (bH u.out 3 ab _ I.out.cur).mono ?_;rintro e F ⟨c,rfl,d⟩;have cap:Hid (Rg n m B M r w F):=I.out.next d.out;clear d I;cases c with
      | true =>
       obtain ⟨K,_,a,C⟩:=cap.out.cell 16 ab;go_wp2_with fail;refine (g6 _ _ ?_ _).mono ?_;·first | exact S.out | exact ah _ _ _
       rintro e g ⟨L,rfl,l,o⟩;have zs:=o.symm;subst zs;go_wp2_with fail;go_roundw;case rel=>exact ⟨j,ab,by go_num,cap.out.put 16 _ l.out⟩
       case measure=>simp [intOf]
       | false =>
         obtain ⟨K,_,a,C⟩:=cap.out.cell 16 ab;go_wp2_with fail;refine (g6 _ _ ?_ _).mono ?_;·first | exact ah _ _ _ | exact S.out
         rintro e g ⟨L,rfl,l,o⟩;have zs:=o.symm;subst zs;go_wp2_with fail;go_roundw;case rel=>exact ⟨j,ab,by go_num,cap.out.put 16 _ l.out⟩
         case measure=>simp [intOf]
   by_cases Q:D=17\/D=18\/D=19\/D=20
   ·rcases Q with rfl|rfl|rfl|rfl
    ·go_wp2_with fail;refine (aA u.out 2048 ab _ s.out.cur).mono ?_;rintro e F ⟨y,rfl,⟨E,G⟩,d⟩;have cap:Hid (Rg n m B M r w F):=s.out.next d.out;clear d s;go_wp2_with fail;refine (bH u.out 2 ab _ cap.out.cur).mono ?_;rintro e H ⟨c,rfl,f⟩;have t:Hid (Rg n m B M r w H):=cap.out.next f.out;clear f cap N;cases c with
     | _ =>
       go_wp2_with fail;refine (bH u.out 3 ab _ t.out.cur).mono ?_;rintro e R ⟨c,rfl,A⟩;have J:Hid (Rg n m B M r w R):=t.out.next A.out;clear A t;cases c with
       | _ =>
         obtain ⟨K,_,a,C⟩:=J.out.cell 17 ab;go_wp2_with fail;refine (g6 _ _ ?_ _).mono ?_;·first | exact aU _ | (constructor<;>omega)
         rintro e g ⟨L,rfl,l,o⟩;have zs:=o.symm;subst zs;go_wp2_with fail;go_roundw;case rel=>exact ⟨j,ab,by go_num,J.out.put 17 _ l.out⟩
         case measure=>simp [intOf]
    ·go_wp2_with fail;refine (aA u.out 2048 ab _ s.out.cur).mono ?_;rintro e F ⟨y,rfl,⟨E,G⟩,d⟩;have cap:Hid (Rg n m B M r w F):=s.out.next d.out;clear d s;go_wp2_with fail;refine (bH u.out 2 ab _ cap.out.cur).mono ?_;rintro e H ⟨c,rfl,f⟩;have t:Hid (Rg n m B M r w H):=cap.out.next f.out;clear f cap N;cases c with
     | _ =>
       go_wp2_with fail;refine (bH u.out 3 ab _ t.out.cur).mono ?_;rintro e R ⟨c,rfl,A⟩;have J:Hid (Rg n m B M r w R):=t.out.next A.out;clear A t;cases c with
       | _ =>
         obtain ⟨K,_,a,C⟩:=J.out.cell 18 ab;go_wp2_with fail;refine (g6 _ _ ?_ _).mono ?_;·first | exact aU _ | (constructor<;>omega)
         rintro e g ⟨L,rfl,l,o⟩;have zs:=o.symm;subst zs;go_wp2_with fail;go_roundw;case rel=>exact ⟨j,ab,by go_num,J.out.put 18 _ l.out⟩
         case measure=>simp [intOf]
    ·go_wp2_with fail;refine (aA u.out 2048 ab _ s.out.cur).mono ?_;rintro e F ⟨y,rfl,⟨E,G⟩,d⟩;have cap:Hid (Rg n m B M r w F):=s.out.next d.out;clear d s;go_wp2_with fail;refine (bH u.out 2 ab _ cap.out.cur).mono ?_;rintro e H ⟨c,rfl,f⟩;have t:Hid (Rg n m B M r w H):=cap.out.next f.out;clear f cap N;cases c with
     | _ =>
       go_wp2_with fail;refine (bH u.out 3 ab _ t.out.cur).mono ?_;rintro e R ⟨c,rfl,A⟩;have J:Hid (Rg n m B M r w R):=t.out.next A.out;clear A t;cases c with
       | _ =>
         obtain ⟨K,_,a,C⟩:=J.out.cell 19 ab;go_wp2_with fail;refine (g6 _ _ ?_ _).mono ?_;·first | exact aU _ | (constructor<;>omega)
         rintro e g ⟨L,rfl,l,o⟩;have zs:=o.symm;subst zs;go_wp2_with fail;go_roundw;case rel=>exact ⟨j,ab,by go_num,J.out.put 19 _ l.out⟩
         case measure=>simp [intOf]
    ·go_wp2_with fail;refine (aA u.out 2048 ab _ s.out.cur).mono ?_;rintro e F ⟨y,rfl,⟨E,G⟩,d⟩;have cap:Hid (Rg n m B M r w F):=s.out.next d.out;clear d s;go_wp2_with fail;refine (bH u.out 2 ab _ cap.out.cur).mono ?_;rintro e H ⟨c,rfl,f⟩;have t:Hid (Rg n m B M r w H):=cap.out.next f.out;clear f cap N;cases c with
     | _ =>
       go_wp2_with fail;refine (bH u.out 3 ab _ t.out.cur).mono ?_;rintro e R ⟨c,rfl,A⟩;have J:Hid (Rg n m B M r w R):=t.out.next A.out;clear A t;cases c with
       | _ =>
         obtain ⟨K,_,a,C⟩:=J.out.cell 20 ab;go_wp2_with fail;refine (g6 _ _ ?_ _).mono ?_;·first | exact aU _ | (constructor<;>omega)
         rintro e g ⟨L,rfl,l,o⟩;have zs:=o.symm;subst zs;go_wp2_with fail;go_roundw;case rel=>exact ⟨j,ab,by go_num,J.out.put 20 _ l.out⟩
         case measure=>simp [intOf]
   by_cases O:D=15
   ·subst O;go_wp2_with fail;refine (aA u.out 2 ab _ s.out.cur).mono ?_;rintro e F ⟨y,rfl,⟨E,G⟩,d⟩;have cap:Hid (Rg n m B M r w F):=s.out.next d.out;clear d s;go_wp2_with fail;refine (aA u.out 2 ab _ cap.out.cur).mono ?_;rintro e H ⟨z,rfl,⟨hz0,hz1⟩,f⟩;have t:Hid (Rg n m B M r w H):=cap.out.next f.out;clear f cap N;obtain ⟨K,_,a,C⟩:=t.out.cell 15 ab;go_wp2_with fail;refine (g6 _ _ ?_ _).mono ?_;·first | exact aU _ | (constructor<;>omega)
    rintro e g ⟨L,rfl,l,o⟩;have zs:=o.symm;subst zs;go_wp2_with fail;go_roundw;case rel=>exact ⟨j,ab,by go_num,t.out.put 15 _ l.out⟩
    case measure=>simp [intOf]
   have d4:((D:Int)==4)=false:=bv;have US:((D:Int)==10)=false:=bv;have UF:((D:Int)==16)=false:=bv;have UQ:((D:Int)==17)=false:=bv;have d18:((D:Int)==18)=false:=bv;have d19:((D:Int)==19)=false:=bv;have d20:((D:Int)==20)=false:=bv;have UG:((D:Int)==15)=false:=bv;by_cases h9:D=9
   ·subst h9;clear h4 P Q O;obtain ⟨K,_,a,C⟩:=s.out.cell 9 ab;go_wp2_with fail;go_roundw;case rel=>exact ⟨j,ab,by go_num,s.out.put 9 _ (ah _ _ _)⟩
    case measure=>simp [intOf]
   ·have d9:((D:Int)==9)=false:=bv;have hp22:D<22:=ab;clear h4 P Q O h9;obtain ⟨K,_,a,C⟩:=s.out.cell D ab;go_wp2_with fail;refine (g6 _ _ ?_ _).mono ?_;·exact N.out
    rintro e g ⟨L,rfl,l,o⟩;have zs:=o.symm;subst zs;go_wp2_with fail;go_roundw;case rel=>exact ⟨j,ab,by go_num,s.out.put D _ l.out⟩
    case measure=>simp [intOf]
  ·have hk0:k=0:=ab;subst hk0;go_wp2_with fail;go_ret;exact ⟨rfl,I⟩
theorem pK:U (kJ q s):=by
 unfold kJ;split;·exact U0
 ·split;·exact ah _ _ _
  ·exact U0
theorem Iq (h:∀ y ∈ z,(Lit.int .u8 y).wf=true) (f:Nat) (x:Int) (k:Nat):∀ y ∈ km z f x k,(Lit.int .u8 y).wf=true:=λy b=>by have a:=Ky z (λzs c=>by have:=h zs c;simpa [Lit.wf,IntKind.min,IntKind.max,IntKind.signed,IntKind.bits] using this) f x k y b;exact UO a.1 a.2
theorem iV (h:n.heap[m]?=some (.cells p j (0,0))) (i:Nat):n.cell? ⟨m,i,none⟩=p[i]?:=by simp [World.cell?,h]
def VB (M:MV) (v:Int):MV:={M with pr:=v}
def VJ (M:MV) (v:Int):MV:={M with pc:=v}
def VK (M:MV) (v:Int):MV:={M with hd:=v}
def VL (M:MV) (v:Bool):MV:={M with hl:=v}
def VM (M:MV) (v:Bool):MV:={M with wt:=v}
theorem Dm.setPr {wr:World} (h:Dm n M B A W w r m D v wr) (a:Int) (hv:a=0\/a=1\/a=3):Dm n M B A W w r m (VB D a) v (wr.setCell ⟨m,2,none⟩ (.i a)):=
 h.setF 2 (.i a) (M':=VB D a) rfl rfl ⟨h.fit.x,h.fit.ux,h.fit.cs,h.fit.ucs,h.fit.ram,h.fit.bram,h.fit.d,h.fit.pc,h.fit.hd,hv⟩
theorem Dm.setPc {wr:World} (h:Dm n M B A W w r m D v wr) (a:Int) (hv:U a):Dm n M B A W w r m (VJ D a) v (wr.setCell ⟨m,0,none⟩ (.u a)):=
 h.setF 0 (.u a) (M':=VJ D a) rfl rfl ⟨h.fit.x,h.fit.ux,h.fit.cs,h.fit.ucs,h.fit.ram,h.fit.bram,h.fit.d,hv,h.fit.hd,h.fit.pr⟩
theorem Dm.setHd {wr:World} (h:Dm n M B A W w r m D v wr) (a:Int) (hv:U a):Dm n M B A W w r m (VK D a) v (wr.setCell ⟨m,11,none⟩ (.u a)):=
 h.setF 11 (.u a) (M':=VK D a) rfl rfl ⟨h.fit.x,h.fit.ux,h.fit.cs,h.fit.ucs,h.fit.ram,h.fit.bram,h.fit.d,h.fit.pc,hv,h.fit.pr⟩
theorem Dm.setHl {wr:World} (h:Dm n M B A W w r m D v wr) (a:Bool):Dm n M B A W w r m (VL D a) v (wr.setCell ⟨m,12,none⟩ (.bool a)):=
 h.setF 12 (.bool a) (M':=VL D a) rfl rfl ⟨h.fit.x,h.fit.ux,h.fit.cs,h.fit.ucs,h.fit.ram,h.fit.bram,h.fit.d,h.fit.pc,h.fit.hd,h.fit.pr⟩
theorem Dm.setWt {wr:World} (h:Dm n M B A W w r m D v wr) (a:Bool):Dm n M B A W w r m (VM D a) v (wr.setCell ⟨m,13,none⟩ (.bool a)):=
 h.setF 13 (.bool a) (M':=VM D a) rfl rfl ⟨h.fit.x,h.fit.ux,h.fit.cs,h.fit.ucs,h.fit.ram,h.fit.bram,h.fit.d,h.fit.pc,h.fit.hd,h.fit.pr⟩
theorem Oo (h:Mf D):Mf (cK D):=⟨h.x,h.ux,by simp [cK,h.cs],GJ h.ucs 9 (aU _),h.ram,h.bram,h.d,h.pc,h.hd,h.pr⟩
theorem rJ (M:MV) (A:MA):(aj M A).all (·.oneCell')=true:=by simp [aj,Value.oneCell']
theorem Dm.outM {wr:World} (h:Dm n M B r A w w.heap.size m D v wr) (cs:Array Value):bA w.heap.size (wr.setRow w.heap.size cs).heap.size (wr.setRow w.heap.size cs) (aG D v)/\Cs n M B r A w (wr.setRow w.heap.size cs):=by
 have b:Below w.heap.size wr (wr.setRow w.heap.size cs):=aR (Below.refl _ _) (Nat.le_refl _) cs;have j:=h.gr;have w0:=h.w0w;obtain ⟨i,l,o,c⟩:=h.cu.1.row;refine ⟨?_,⟨⟨h.cu.1.new,?_,i,l,o,(b.block M j).trans c⟩,⟨b.os.trans h.cu.2.os,b.tape.trans h.cu.2.tape,b.output.trans h.cu.2.output,Nat.le_trans h.cu.2.size b.size,λk d f=>(b.block k d).trans (h.cu.2.block k d f)⟩⟩⟩;·exact (Gc h.mp.fam w.heap.size (λq p e=>by have:=(h.mp.fam.own q p).lt _ e;omega) cs).low ab b.size
 ·exact ⟨b.os.trans h.cu.1.below.os,b.tape.trans h.cu.1.below.tape,b.output.trans h.cu.1.below.output,Nat.le_trans h.cu.1.below.size b.size,λk d=>(b.block k ab).trans (h.cu.1.below.block k d)⟩
theorem ng {wr:World} (h:Dm n M B A W w r m D v wr) (L:Nat) (o:D.ram.length=L) (f:Nat) (x:Int) (hx:U x) (p:f+8<=L): Calls prog 137 #[.slice v.ar L v.cr,.u (2147483648+(f:Int)),.i 8,.u x] wr λe k=>e=.returned (.tuple #[])/\∃ j:MV,Hid (Dm n M B A W w r m j v k)/\Hid (j.ram.length=L):=by
 subst o;have i:=h.fit.ram;have d:gB D.ram.length (2147483648+(f:Int)) 8=true:=by have b:bf D.ram.length=true:=(by rcases i with e|e<;>rw [e]<;>decide);have c:jf 8=true:=bc;simp only [gB,b,c,Bool.true_and,decide_eq_true_eq];omega
 refine (vO D v _ m _ 8 x wr (by rcases i with e | e<;>rw [e]<;>omega) d hx.1 (by have:=hx.2;omega) h.mp).mono λe k ⟨b,c,l⟩=>⟨b,_,aE (h.step (h.mp.under l) c ?_),aE (jq _ _ _ _)⟩;exact ⟨h.fit.x,h.fit.ux,h.fit.cs,h.fit.ucs,(by show (km D.ram _ x _).length=4096\/(km D.ram _ x _).length=8192;rw [jq];exact i),Iq _ h.fit.bram _ _ _,h.fit.d,h.fit.pc,h.fit.hd,h.fit.pr⟩
theorem sS {wr:World} (F:Code n B A b) (h:Dm n M B A W w r m D v wr) (T:D.ram.length=4096): Calls prog 188 #[.p M 0,.p m 0] wr λe d=>e=.returned (.tuple #[])/\∃ l:MV,Hid (Dm n M B A W w r m l v d):=by
 have R:Hid (Code n B A b):=F;have c:=aE T;obtain ⟨E,cc,S,ec,cm,cells⟩:=h.atC;obtain ⟨w0,X⟩:=cells 15 ab;have o:wr.cell? ⟨m,4,none⟩=some (.slice v.ar 4096 v.cr):=by rw [iV h.mp.row 4,<- T];rfl
 have c2:wr.cell? ⟨m,2,none⟩=some (.i D.pr):=iV h.mp.row 2;have J:¬ m=E:=λe=>h.mp.ne (aJ v.ac D.cs.length v.cc D.cs) dv (by simp only [aJ];rw [S,e];rfl);have V:¬ E=m:=λe=>J e.symm;have cap:=aE (λa (N:U a)=>h.setC E S 15 N);clear F T h cells ec;go_enter func188,ntmps188;go_upto_if 30 with fail
 generalize N:Uz.wrap (bits BinOp.or IntKind.u64 9223372036854775808 524289-1)=t;have O:Hid (∃ D:MV,Dm n M B A W w r m D v (wr.setCell ⟨E,15,none⟩ (.u t))/\D.ram.length=4096):=⟨_,cap.out t (by rw [<- N];exact aU _),c.out⟩;generalize wr.setCell ⟨E,15,none⟩ (.u t)=w1 at O ⊢;generalize (D.pr==0)=p0;clear N cap J V c2 o w0 X cm S;go_cut [6] from 7 (λa wc=>∃ zs:Int,a=.i zs/\∃ (D:MV),Hid (Dm n M B A W w r m D v wc)/\Hid (D.ram.length=4096))
 case first =>
  obtain ⟨M1,d1,l1⟩:=O.out;cases p0;·go_wp2_with fail;go_meet;exact ⟨207,rfl,M1,d1,l1⟩
  ·go_wp2_with fail;go_meet;exact ⟨223,rfl,M1,d1,l1⟩
 case rest =>
  clear O c;obtain ⟨b1,rfl,D,f,c⟩:=hcut;go_wp2_with fail;refine (bH R.out 2 ab _ f.out.cur).mono ?_;rintro e w2 ⟨c2,rfl,G⟩;have P:=aE (f.out.next G.out);clear G f;go_upto_if 32 with fail
  go_cut [6] from 7 (λa wc=>∃ zs:Int,a=.i zs/\∃ (D:MV),Hid (Dm n M B A W w r m D v wc)/\Hid (D.ram.length=4096))
  case first =>
   cases c2;·go_wp2_with fail;go_meet;exact ⟨b1,rfl,D,P,c⟩
   ·go_wp2_with fail;go_meet;exact ⟨_,rfl,D,P,c⟩
  case rest =>
   clear P c;obtain ⟨b2,rfl,D,f,c⟩:=hcut;obtain ⟨Y,p⟩:∃ z,z=kJ 524288 b2:=⟨_,rfl⟩;have u:Hid (∀ d,CE 242 #[.u 524288,.i b2] d (.u Y)):=λd=>by rw [p];exact gU _ _ d
   have g:Hid (U Y):=(by rw [p];exact pK _ _);have o:wc.cell? ⟨m,4,none⟩=some (.slice v.ar 4096 v.cr):=(by rw [iV f.out.mp.row 4,<- c.out];rfl);have y:=aE (ng (f.out.below (Below.refl _ _).drew) 4096 c.out 16 Y g.out ab);clear p;go_wp2_with fail;go_cut [] from 7 (λwc=>∃ (D:MV),Hid (Dm n M B A W w r m D v wc)/\Hid (D.ram.length=4096))
   case first =>
    go_region_with (first | (go_at_call 242;with_reducible refine (u.out _).mono ?_;rintro e wy ⟨rfl,rfl⟩) | (go_at_call 137;refine y.out.mono ?_;rintro e wz ⟨rfl,l,C,L⟩));all_goals go_wp2_with fail
    all_goals go_meet
    all_goals exact ⟨l,C,L⟩
   case rest =>
    clear c f u g o y;obtain ⟨D,f,c⟩:=hcut;go_wp2_with fail;refine (bH R.out 2 ab _ f.out.cur).mono ?_;rintro e w3 ⟨c3,rfl,H⟩;have K:=aE (f.out.next H.out);clear H f;go_upto_if 45 with fail
    go_cut [] from 7 (λwc=>∃ (D:MV),Hid (Dm n M B A W w r m D v wc)/\Hid (D.ram.length=4096))
    case first =>
     cases c3;·go_wp2_with fail;go_meet;exact ⟨D,K,c⟩
     ·obtain ⟨Z,q⟩:∃ z,z=kJ 524288 223:=⟨_,rfl⟩;have u:Hid (∀ d,CE 242 #[.u 524288,.i 223] d (.u Z)):=λd=>by rw [q];exact gU _ _ d
      have g:Hid (U Z):=(by rw [q];exact pK _ _);have o:w3.cell? ⟨m,4,none⟩=some (.slice v.ar 4096 v.cr):=(by rw [iV K.out.mp.row 4,<- c.out];rfl);have y:=aE (ng (K.out.below (Below.refl _ _).drew) 4096 c.out 8 Z g.out ab);clear q;go_wp2_with fail;go_region_with (first | (go_at_call 242;with_reducible refine (u.out _).mono ?_;rintro e wy ⟨rfl,rfl⟩) | (go_at_call 137;refine y.out.mono ?_;rintro e wz ⟨rfl,l,C,L⟩));all_goals go_wp2_with fail
      all_goals go_meet
      all_goals exact ⟨l,C,L⟩
    case rest =>
     clear K c;obtain ⟨D,f,c⟩:=hcut;go_wp2_with fail;refine (bH R.out 3 ab _ f.out.cur).mono ?_;rintro e w4 ⟨o,rfl,I⟩;have Q:=aE (f.out.next I.out);clear I f;cases o;·go_wp2_with fail;refine bodyPost_end (results_none rfl _ _ _) rfl ?_;exact ⟨rfl,D,Q⟩
     ·obtain ⟨z3,s⟩:∃ z,z=kJ 0 207:=⟨_,rfl⟩;have u:Hid (∀ d,CE 242 #[.u 0,.i 207] d (.u z3)):=λd=>by rw [s];exact gU _ _ d
      have g:Hid (U z3):=(by rw [s];exact pK _ _);have o:w4.cell? ⟨m,4,none⟩=some (.slice v.ar 4096 v.cr):=(by rw [iV Q.out.mp.row 4,<- c.out];rfl);have y:=aE (ng (Q.out.below (Below.refl _ _).drew) 4096 c.out 0 z3 g.out ab);clear s;go_wp2_with fail;go_region_with (first | (go_at_call 242;with_reducible refine (u.out _).mono ?_;rintro e wy ⟨rfl,rfl⟩) | (go_at_call 137;refine y.out.mono ?_;rintro e wz ⟨rfl,l,C,L⟩));all_goals go_wp2_with fail
      all_goals refine bodyPost_end (results_none rfl _ _ _) rfl ?_
      all_goals exact ⟨rfl,l,C⟩
theorem sT {wr:World} (F:Code n B A b) (h:Dm n M B A W w r m D v wr) (T:D.ram.length=8192): Calls prog 188 #[.p M 0,.p m 0] wr λe d=>e=.returned (.tuple #[])/\∃ l:MV,Hid (Dm n M B A W w r m l v d):=by
 have R:Hid (Code n B A b):=F;have c:=aE T;obtain ⟨E,cc,S,ec,cm,cells⟩:=h.atC;obtain ⟨w0,X⟩:=cells 15 ab;have o:wr.cell? ⟨m,4,none⟩=some (.slice v.ar 8192 v.cr):=by rw [iV h.mp.row 4,<- T];rfl
 have c2:wr.cell? ⟨m,2,none⟩=some (.i D.pr):=iV h.mp.row 2;have J:¬ m=E:=λe=>h.mp.ne (aJ v.ac D.cs.length v.cc D.cs) dv (by simp only [aJ];rw [S,e];rfl);have V:¬ E=m:=λe=>J e.symm;have cap:=aE (λa (N:U a)=>h.setC E S 15 N);clear F T h cells ec;go_enter func188,ntmps188;go_upto_if 30 with fail
 generalize N:Uz.wrap (bits BinOp.or IntKind.u64 9223372036854775808 524290-1)=t;have O:Hid (∃ D:MV,Dm n M B A W w r m D v (wr.setCell ⟨E,15,none⟩ (.u t))/\D.ram.length=8192):=⟨_,cap.out t (by rw [<- N];exact aU _),c.out⟩;generalize wr.setCell ⟨E,15,none⟩ (.u t)=w1 at O ⊢;generalize (D.pr==0)=p0;clear N cap J V c2 o w0 X cm S;go_cut [6] from 7 (λa wc=>∃ zs:Int,a=.i zs/\∃ (D:MV),Hid (Dm n M B A W w r m D v wc)/\Hid (D.ram.length=8192))
 case first =>
  obtain ⟨M1,d1,l1⟩:=O.out;cases p0;·go_wp2_with fail;go_meet;exact ⟨207,rfl,M1,d1,l1⟩
  ·go_wp2_with fail;go_meet;exact ⟨223,rfl,M1,d1,l1⟩
 case rest =>
  clear O c;obtain ⟨b1,rfl,D,f,c⟩:=hcut;go_wp2_with fail;refine (bH R.out 2 ab _ f.out.cur).mono ?_;rintro e w2 ⟨c2,rfl,G⟩;have P:=aE (f.out.next G.out);clear G f;go_upto_if 32 with fail
  go_cut [6] from 7 (λa wc=>∃ zs:Int,a=.i zs/\∃ (D:MV),Hid (Dm n M B A W w r m D v wc)/\Hid (D.ram.length=8192))
  case first =>
   cases c2;·go_wp2_with fail;go_meet;exact ⟨b1,rfl,D,P,c⟩
   ·go_wp2_with fail;go_meet;exact ⟨_,rfl,D,P,c⟩
  case rest =>
   clear P c;obtain ⟨b2,rfl,D,f,c⟩:=hcut;obtain ⟨Y,p⟩:∃ z,z=kJ 524288 b2:=⟨_,rfl⟩;have u:Hid (∀ d,CE 242 #[.u 524288,.i b2] d (.u Y)):=λd=>by rw [p];exact gU _ _ d
   have g:Hid (U Y):=(by rw [p];exact pK _ _);have o:wc.cell? ⟨m,4,none⟩=some (.slice v.ar 8192 v.cr):=(by rw [iV f.out.mp.row 4,<- c.out];rfl);have y:=aE (ng (f.out.below (Below.refl _ _).drew) 8192 c.out 4112 Y g.out ab);clear p;go_wp2_with fail;go_cut [] from 7 (λwc=>∃ (D:MV),Hid (Dm n M B A W w r m D v wc)/\Hid (D.ram.length=8192))
   case first =>
    go_region_with (first | (go_at_call 242;with_reducible refine (u.out _).mono ?_;rintro e wy ⟨rfl,rfl⟩) | (go_at_call 137;refine y.out.mono ?_;rintro e wz ⟨rfl,l,C,L⟩));all_goals go_wp2_with fail
    all_goals go_meet
    all_goals exact ⟨l,C,L⟩
   case rest =>
    clear c f u g o y;obtain ⟨D,f,c⟩:=hcut;go_wp2_with fail;refine (bH R.out 2 ab _ f.out.cur).mono ?_;rintro e w3 ⟨c3,rfl,H⟩;have K:=aE (f.out.next H.out);clear H f;go_upto_if 45 with fail
    go_cut [] from 7 (λwc=>∃ (D:MV),Hid (Dm n M B A W w r m D v wc)/\Hid (D.ram.length=8192))
    case first =>
     cases c3;·go_wp2_with fail;go_meet;exact ⟨D,K,c⟩
     ·obtain ⟨Z,q⟩:∃ z,z=kJ 524288 223:=⟨_,rfl⟩;have u:Hid (∀ d,CE 242 #[.u 524288,.i 223] d (.u Z)):=λd=>by rw [q];exact gU _ _ d
      have g:Hid (U Z):=(by rw [q];exact pK _ _);have o:w3.cell? ⟨m,4,none⟩=some (.slice v.ar 8192 v.cr):=(by rw [iV K.out.mp.row 4,<- c.out];rfl);have y:=aE (ng (K.out.below (Below.refl _ _).drew) 8192 c.out 4104 Z g.out ab);clear q;go_wp2_with fail;go_region_with (first | (go_at_call 242;with_reducible refine (u.out _).mono ?_;rintro e wy ⟨rfl,rfl⟩) | (go_at_call 137;refine y.out.mono ?_;rintro e wz ⟨rfl,l,C,L⟩));all_goals go_wp2_with fail
      all_goals go_meet
      all_goals exact ⟨l,C,L⟩
    case rest =>
     clear K c;obtain ⟨D,f,c⟩:=hcut;go_wp2_with fail;refine (bH R.out 3 ab _ f.out.cur).mono ?_;rintro e w4 ⟨o,rfl,I⟩;have Q:=aE (f.out.next I.out);clear I f;cases o;·go_wp2_with fail;refine bodyPost_end (results_none rfl _ _ _) rfl ?_;exact ⟨rfl,D,Q⟩
     ·obtain ⟨z3,s⟩:∃ z,z=kJ 0 207:=⟨_,rfl⟩;have u:Hid (∀ d,CE 242 #[.u 0,.i 207] d (.u z3)):=λd=>by rw [s];exact gU _ _ d
      have g:Hid (U z3):=(by rw [s];exact pK _ _);have o:w4.cell? ⟨m,4,none⟩=some (.slice v.ar 8192 v.cr):=(by rw [iV Q.out.mp.row 4,<- c.out];rfl);have y:=aE (ng (Q.out.below (Below.refl _ _).drew) 8192 c.out 4096 z3 g.out ab);clear s;go_wp2_with fail;go_region_with (first | (go_at_call 242;with_reducible refine (u.out _).mono ?_;rintro e wy ⟨rfl,rfl⟩) | (go_at_call 137;refine y.out.mono ?_;rintro e wz ⟨rfl,l,C,L⟩));all_goals go_wp2_with fail
      all_goals refine bodyPost_end (results_none rfl _ _ _) rfl ?_
      all_goals exact ⟨rfl,l,C⟩
theorem yf {wr:World} (zs:Code n B A b) (h:Dm n M B A W w r m D v wr): Calls prog 188 #[.p M 0,.p m 0] wr λe d=>e=.returned (.tuple #[])/\∃ c:MV,Hid (Dm n M B A W w r m c v d):=by
 rcases h.fit.ram with e|e;·exact sS zs h e
 ·exact sT zs h e
theorem UP:(Lit.int .i64 (wrap64 q)).wf=true:=by unfold wrap64;exact Ty ab ab
def Ins.wf (i:Ins):Prop:=(Lit.int .i64 i.op).wf=true/\(Lit.int .i64 i.rd).wf=true/\(Lit.int .i64 i.a).wf=true/\(Lit.int .i64 i.b).wf=true/\(Lit.int .i64 i.imm).wf=true
theorem Ins.wf_mk {v1 v2 b c:Int} (d:(Lit.int .i64 E).wf=true) (e:(Lit.int .i64 v1).wf=true) (f:(Lit.int .i64 v2).wf=true) (g:(Lit.int .i64 b).wf=true) (h4:(Lit.int .i64 c).wf=true):(Ins.mk E v1 v2 b c).wf:=⟨d,e,f,g,h4⟩
def Ins.cells (i:Ins):Array Value:=#[.i i.op,.i i.rd,.i i.a,.i i.b,.i i.imm]
def Rt (w:World) (b:Nat):Prop:=∃ i:Ins,i.wf/\w.heap[b]?=some (.cells i.cells 80 (0,0))
def It (w0:World) (g:Nat) (a:Option Addr) (n cap:Nat) (w:World) (rb ib:Nat) (wr:World):Prop :=
 Cs w0 g a n cap w wr/\Rt wr rb/\Rt wr ib/\w.heap.size<=rb/\w.heap.size<=ib/\rb≠ib/\g<w.heap.size
theorem sU {a:Nat × Nat} (h:w.heap[m]?=some (.cells p j a)) (i:Nat) (v:Value): (w.setCell ⟨m,i,none⟩ v).heap[m]?=some (.cells (p.setIfInBounds i v) j a):=by simp [World.setCell,Array.getElem?_modify,h]
def Ru:Option Fm->ByteArray
 | none=>⟨#[]⟩
 | some f=>f.str
theorem QO:∃ a:Option Fm,fp q=Ru a:=by
 unfold fp;split;·exact ⟨some _,rfl⟩
 ·exact ⟨none,rfl⟩
theorem Gh:(prog.info? 80).map (·.size)=some 5:=by kernel_rfl
theorem mc (zs:Code n B M b) (d c:Int) (cap: -4611686018427387904<=d) (s:c<=2305843009213693952) (t:d<=c) (u:c-d<=2305843009213693952) (w:World) (f:lq n w m B M r): Calls prog 239 #[.p m 0,.i d,.i c] w λe o=>∃ x:Int,e=.returned (.i x)/\(d<=x/\x<=c)/\Hid (Cs n m B M r w o):=by
 have l:Hid (Code n B M b):=zs;have j:Hid (lq n w m B M r):=f;clear zs f;go_enter func239,ntmps239;go_wp2_with fail;refine (aA l.out _ ?_ _ j.out).mono ?_;·first | omega | (unfold wrap64;omega)
 rintro e y ⟨x,rfl,⟨p,q⟩,w0⟩;go_wp2_with fail;go_ret;refine ⟨_,rfl,?_,w0⟩;first | (constructor<;>omega) | (unfold wrap64 at *;constructor<;>omega)
structure Cw (w0:World) (g:Nat) (a:Option Addr) (n cap:Nat) (w:World) (bs:List Nat) (R:List Rw) (W:World):Prop where
 cs:Cs w0 g a n cap w W
 iv:Iv bs W R W
 bw:∀ b ∈ bs,w.heap.size<=b
 lt:g<w.heap.size
section
variable {w0 : World} {g : Nat} {a : Option Addr} {n cap : Nat} {w W : World} {bs : List Nat} {R R1 : List Rw}
theorem Cw.cs2 (h:Cw w0 g a n cap w bs R W) {V:World} (k:Iv bs W R1 V):Cs w0 g a n cap w V:=by
 obtain ⟨b,l⟩:=h.cs;have o:g ∉ bs:=λe=>by have:=h.bw _ e;have:=h.lt;omega
 obtain ⟨i,x,q,c⟩:=b.row;have p:=(Array.getElem?_eq_some_iff.1 c).1;have f:=l.size;refine ⟨⟨b.new,⟨k.ag.os.trans b.below.os,k.ag.tape.trans b.below.tape,k.ag.output.trans b.below.output,Nat.le_trans b.below.size k.ag.size,λj d=>(k.ag.block j (Nat.lt_of_lt_of_le d b.below.size) λe=>?_).trans (b.below.block j d)⟩,i,x,q,(k.ag.block g p o).trans c⟩,⟨k.ag.os.trans l.os,k.ag.tape.trans l.tape,k.ag.output.trans l.output,Nat.le_trans f k.ag.size,λj d m=>(k.ag.block j (Nat.lt_of_lt_of_le d f) λe=>?_).trans (l.block j d m)⟩⟩;·have:=h.bw _ e;have:=h.lt;have:=b.new;omega
 ·have:=h.bw _ e;omega
theorem Cw.next (h:Cw w0 g a n cap w bs R W) {V V2:World} (k:Iv bs W R1 V) (hs:Cs w0 g a n cap V V2):Cw w0 g a n cap w bs R1 V2:=by have d:=h.cs2 k;refine ⟨d.trans hs,⟨λr c=>?_,Ag.refl _ _,k.sub,k.nd⟩,h.bw,h.lt⟩;obtain ⟨t,b⟩:=k.rows r c;exact ⟨t,hs.keep b (by have:=h.bw _ (k.sub r c);have:=h.lt;omega)⟩
theorem dW {P:Program} {fn:Func} {Rs:Ending->World->Prop} {b:Nat} {k:List KI} {F:Fr} (h:Cw w0 g a n cap w bs R W) (H:Hw P (Ag bs W)) (m:Nat) {f:Nat} {args:Array Value} {α:Type} {v:α->Value} {T:α->Prop}
 (j:∀ V,lq w0 V g a n cap->Calls P f args V (λe c=>∃ x:α,e=.returned (v x)/\T x/\Hid (Cs w0 g a n cap V c)))
 (i:∀ x V,T x->Cw w0 g a n cap w bs R1 V->Wg P (λ_=>True) (bodyPost P fn Rs) b (po (cC P H b m k F R).1.2.2.1 (cC P H b m k F R).1.2.1) (qA (cC P H b m k F R).1.2.2.1 (cC P H b m k F R).1.2.1 (v x) 0) V)
 (hx:((cC P H b m k F R).1.1,(cC P H b m k F R).1.2.2.2,OA P b (cC P H b m k F R).1.2.2.1 (cC P H b m k F R).1.2.1)=(false,R1,some (f,args)):=by kernel_rfl) (he:(cC P H b m k F R).2.map Prod.fst=(cC P H b m k F R).2.map Prod.snd:=by kernel_rfl):Wg P (λ_=>True) (bodyPost P fn Rs) b k F W :=
 fH h.iv H m (Rc:=λV e c=>∃ x:α,e=.returned (v x)/\T x/\Hid (Cs w0 g a n cap V c)) (λV d=>j V (h.cs2 d).1) (λV e c d ⟨x,hx,o,l⟩=>⟨v x,0,hx,i x c o (h.next d l.out)⟩) hx he
end
theorem DH:(Lit.int .i64 (IntKind.i64.wrap q)).wf=true:=by rw [IntKind.wrap_i64];exact Ty ab ab
abbrev Ri (rb ib:Nat) (i:Ins):List Rw:=[⟨rb,#[.i 0,.i 0,.i 0,.i 0,.i 0],[]⟩,⟨ib,i.cells,[]⟩]
section
variable {w0 : World} {g : Nat} {a : Option Addr} {n cap : Nat} {w W : World} {bs : List Nat} {rb ib : Nat} {i0 : Ins} {k : List KI} {F : Fr}
theorem hC (h:Cw w0 g a n cap w bs (Ri rb ib i0) W) (H:Hw prog (Ag bs W)) (m:Nat) (i:Ins) (d:i.wf:=by refine Ins.wf_mk ?_ ?_ ?_ ?_ ?_<;>first | exact Ty ab ab | exact DH _ | assumption) (hx:((cC prog H Tryz.f183.ntmps m k F (Ri rb ib i0)).1.1,(cC prog H Tryz.f183.ntmps m k F (Ri rb ib i0)).1.2.2.2,(lk (cC prog H Tryz.f183.ntmps m k F (Ri rb ib i0)).1.2.2.1 2).map Prod.fst)=(true,[⟨rb,i.cells,[]⟩,⟨ib,i.cells,[]⟩],some (.p rb 0)):=by kernel_rfl) (he:(cC prog H Tryz.f183.ntmps m k F (Ri rb ib i0)).2.map Prod.fst=(cC prog H Tryz.f183.ntmps m k F (Ri rb ib i0)).2.map Prod.snd:=by kernel_rfl):Wg prog (λ_=>True) (bodyPost prog Tryz.f183 (λe j=>∃ i:Ins,e=.returned i.val/\i.wf/\Hid (Cs w0 g a n cap w j))) Tryz.f183.ntmps k F W:=by simp only [Prod.mk.injEq] at hx;refine iH h.iv H m (hx:=vw) (he:=he) λV a c f=>?_;obtain ⟨t,b⟩:=c.rows _ (List.mem_cons_self ..);exact ⟨_,results_cell_row results183 _ _ rb _ _ _ _ (f.slot hx.2.2) b underlying80 rfl Gh,i,rfl,d,h.cs2 c⟩
end
theorem Oq {zs:List Int} (k:Code n B M zs) (w:World) (hc:lq n w m B M r): Calls prog 183 #[.p m 0] w λe w'=>∃ i:Ins,e=.returned i.val/\i.wf/\Hid (Cs n m B M r w w'):=by
 have F:=hc.lt
 have A:∀ w0:Int,0<w0->∀ V,lq n V m B M r->Calls prog 66 #[.p m 0,.i w0] V λe a=>∃ x:Bool,e=.returned (.bool x)/\True/\Hid (Cs n m B M r V a):=λw0 p V h=>(bH k w0 p V h).mono λe a ⟨x,h1,h3⟩=>⟨x,h1,trivial,h3⟩
 refine bC (S:=λ_=>True) (args:=[.p m 0]) [(#[.i 0,.i 0,.i 0,.i 0,.i 0],80)] func183 ?_
 have R:Cw n m B M r w [w.heap.size] [⟨w.heap.size,#[.i 0,.i 0,.i 0,.i 0,.i 0],[]⟩] (bP w [(#[.i 0,.i 0,.i 0,.i 0,.i 0],80)]):=⟨Cs.alloc hc _,⟨λcap v=>by
  obtain rfl:=List.mem_singleton.1 v
  exact ⟨_,heap_alloc_new _ _⟩,Ag.refl _ _,cp,cp⟩,cp,F⟩
 generalize bP w [(#[.i 0,.i 0,.i 0,.i 0,.i 0],80)]=W0 at *
 refine dW R {} 60 (R1:=[⟨w.heap.size,#[.i 0,.i 0,.i 0,.i 0,.i 0],[]⟩]) (aA k 98 ab) λop W1 K H=>?_
 obtain ⟨q,hq⟩:∃ q,IntKind.i64.wrap (1+op)=q:=⟨_,rfl⟩
 have L:(Lit.int .i64 q).wf=true:=by subst hq;exact DH _
 refine T0 H.iv {eq:=[(10,dG .i64 hq)]} 60 2 (R1:=[⟨w.heap.size,#[.i 0,.i 0,.i 0,.i 0,.i 0],[]⟩]) (λV=>V.alloc (.cells #[.i 0,.i 0,.i 0,.i 0,.i 0] 80)) (λV l=>dD (T:=80) (z:=.agg #[.i 0,.i 0,.i 0,.i 0,.i 0]) ba V) (λV l=>?_)
 have G:w.heap.size<V.heap.size:=by
  obtain ⟨t,h⟩:=l.rows _ (List.mem_singleton_self _)
  exact (Array.getElem?_eq_some_iff.1 h).1
 have U:Cw n m B M r w [w.heap.size,V.heap.size] (Ri w.heap.size V.heap.size ⟨0,0,0,0,0⟩) (V.alloc (.cells #[.i 0,.i 0,.i 0,.i 0,.i 0] 80)):=⟨(H.cs2 l).trans (Cs.alloc (H.cs2 l).1 _),⟨λcap v=>by
  simp only [List.mem_cons,List.not_mem_nil,or_false] at v
  rcases v with rfl|rfl
  ·obtain ⟨t,h⟩:=l.rows _ (List.mem_singleton_self _)
   exact ⟨t,(Below.heap_alloc _ _ _ G).trans h⟩
  ·exact ⟨_,heap_alloc_new _ _⟩,Ag.refl _ _,cp,bv⟩,bv,F⟩
 clear R H l G K
 generalize V.alloc (.cells #[.i 0,.i 0,.i 0,.i 0,.i 0] 80)=W2 at *
 generalize V.heap.size=ib at *
 obtain ⟨Q,D⟩:∃ t,(q==98)=t:=⟨_,rfl⟩
 obtain ⟨O,d1⟩:∃ t,(q==63)=t:=⟨_,rfl⟩
 obtain ⟨P,d2⟩:∃ t,(q==74)=t:=⟨_,rfl⟩
 obtain ⟨fo,E⟩:=QO q
 have HF:=λV=>qC q L V
 rw [E] at HF
 clear E
 refine dW U {} 60 (R1:=Ri w.heap.size ib ⟨q,0,0,0,0⟩) (aA k 8 ab) λd W3 J X=>?_
 refine dW X {} 60 (R1:=Ri w.heap.size ib ⟨q,0,0,0,0⟩) (aA k 8 ab) λx W4 g Y=>?_
 refine dW Y {} 60 (R1:=Ri w.heap.size ib ⟨q,0,0,0,0⟩) (aA k 8 ab) λy W5 N Z=>?_
 refine dW Z {} 60 (R1:=Ri w.heap.size ib ⟨q,0,0,0,0⟩) (A 6 ab) λc W6 _ I=>?_
 have J:0<=d/\d<32:=ab
 have g:0<=x/\x<32:=ab
 have N:0<=y/\y<32:=ab
 clear U X Y Z
 cases c
 case' true =>
  clear J g N
  refine dW I {} 60 (R1:=Ri w.heap.size ib ⟨q,0,0,0,0⟩) (aA k 32 ab) λd W7 J C7=>?_
  refine dW C7 {} 60 (R1:=Ri w.heap.size ib ⟨q,0,0,0,0⟩) (aA k 32 ab) λx W8 g C8=>?_
  refine dW C8 {} 60 (R1:=Ri w.heap.size ib ⟨q,0,0,0,0⟩) (aA k 32 ab) λy W9 N I=>?_
 all_goals
  refine dW I {} 90 (R1:=Ri w.heap.size ib ⟨q,0,0,0,0⟩) (mc k (-40) 40 ab ab ab ab) λz W10 hz o=>?_
  refine fH o.iv {} 90 (R1:=Ri w.heap.size ib ⟨q,0,0,0,0⟩) (Rc:=λV e a=>e=.returned (.string (Ru fo))/\Bw V a) (λV _=>HF V) λV e a l v=>⟨_,0,v.1,?_⟩
  have C:=o.next l (Cs.of_below (o.cs2 l).1 v.2)
  clear l v I o
  cases fo
  case none=>exact hC C {} 160 ⟨q,0,0,0,0⟩
  rename_i f
  cases f
  case x =>
   exact hC C {} 160 ⟨q,0,0,0,0⟩
  case s =>
   exact hC C {} 160 ⟨q,0,x,y,z⟩
  case r =>
   cases Q
   case true=>exact hC C {eq:=[(41,ak D)]} 160 ⟨q,0,x,y,0⟩
   exact hC C {eq:=[(41,ak D)]} 160 ⟨q,d,x,y,0⟩
  case h =>
   exact dW C {} 160 (R1:=Ri w.heap.size ib ⟨q,d,x,0,0⟩) (aA k 64 ab) λw0 W p C=>hC C {} 160 ⟨q,d,x,0,w0⟩
  case w =>
   exact dW C {} 160 (R1:=Ri w.heap.size ib ⟨q,d,x,0,0⟩) (aA k 32 ab) λw0 W p C=>hC C {} 160 ⟨q,d,x,0,w0⟩
  case c =>
   exact dW C {} 160 (R1:=Ri w.heap.size ib ⟨q,d,x,0,0⟩) (xn k) λw0 W p C=>hC C {} 160 ⟨q,d,x,0,w0⟩
  case i =>
   refine dW C {} 160 (R1:=Ri w.heap.size ib ⟨q,d,x,0,z⟩) (A 6 ab) λc V _ C=>?_
   cases c
   case false=>exact hC C {} 160 ⟨q,d,x,0,z⟩
   exact dW C {} 160 (R1:=Ri w.heap.size ib ⟨q,d,x,0,z⟩) (mc k (-2048) 2047 ab ab ab ab) λi V hi C=>hC C {} 160 ⟨q,d,x,0,i⟩
  case b =>
   refine dW C {} 160 (R1:=Ri w.heap.size ib ⟨q,0,x,y,0⟩) (mc k (-3) 6 ab ab ab ab) λw0 V p C=>?_
   refine dW C {} 160 (R1:=Ri w.heap.size ib ⟨q,0,x,y,IntKind.i64.wrap (4*w0)⟩) (A 6 ab) λc V _ C=>?_
   cases c
   case false=>exact hC C {} 160 ⟨q,0,x,y,IntKind.i64.wrap (4*w0)⟩
   exact dW C {} 160 (R1:=Ri w.heap.size ib ⟨q,0,x,y,IntKind.i64.wrap (4*w0)⟩) (mc k (-2048) 2047 ab ab ab ab) λi V hi C=>hC C {} 160 ⟨q,0,x,y,IntKind.i64.wrap (2*i)⟩
  case u =>
   refine dW C {} 160 (R1:=Ri w.heap.size ib ⟨q,d,0,0,0⟩) (mc k (-524288) 524287 ab ab ab ab) λw0 V p C=>?_
   refine dW C {} 160 (R1:=Ri w.heap.size ib ⟨q,d,0,0,IntKind.i64.wrap (4096*w0)⟩) (A 2 ab) λc V _ C=>?_
   cases c
   case false=>exact hC C {} 160 ⟨q,d,0,0,IntKind.i64.wrap (4096*w0)⟩
   exact hC C {} 160 ⟨q,d,0,0,-2147483648⟩
  case j =>
   refine dW C {} 160 (R1:=Ri w.heap.size ib ⟨q,d,0,0,0⟩) (mc k (-4) 8 ab ab ab ab) λw0 V p C=>?_
   refine dW C {} 160 (R1:=Ri w.heap.size ib ⟨q,d,0,0,IntKind.i64.wrap (4*w0)⟩) (A 6 ab) λc V _ C=>?_
   cases c
   case false=>exact hC C {} 160 ⟨q,d,0,0,IntKind.i64.wrap (4*w0)⟩
   exact dW C {} 160 (R1:=Ri w.heap.size ib ⟨q,d,0,0,IntKind.i64.wrap (4*w0)⟩) (mc k (-524288) 524287 ab ab ab ab) λi V hi C=>hC C {} 160 ⟨q,d,0,0,IntKind.i64.wrap (2*i)⟩
  case a =>
   cases O<;>cases P
   case false.false=>exact dW C {eq:=[(133,ak d1),(137,ak d2)]} 160 (R1:=Ri w.heap.size ib ⟨q,d,x,y,0⟩) (aA k 4 ab) λw0 W p C=>hC C {} 160 ⟨q,d,x,y,w0⟩
   all_goals exact dW C {eq:=[(133,ak d1),(137,ak d2)]} 160 (R1:=Ri w.heap.size ib ⟨q,d,x,0,0⟩) (aA k 4 ab) λw0 W p C=>hC C {} 160 ⟨q,d,x,0,w0⟩
end Go.Proofs.YtfagphfjfhpmjaaGreatDoor
