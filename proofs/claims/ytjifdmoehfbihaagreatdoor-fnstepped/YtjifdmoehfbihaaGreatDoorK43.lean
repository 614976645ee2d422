/- Own lemmas. -/
import Derived.Test.YtjifdmoehfbihaaGreatDoorAut
import Derived.Test.YtjifdmoehfbihaaGreatDoorK24
import Derived.Test.YtjifdmoehfbihaaGreatDoorK26
import Derived.Test.YtjifdmoehfbihaaGreatDoorK41
import Derived.Deep.WholeRow
set_option maxHeartbeats 4000000
namespace Go.Proofs.YtjifdmoehfbihaaGreatDoor
open Go.RowKit Tryz
open IntKind renaming u64->Uz
set_option linter.unusedVariables false
theorem TJ {w w':World} {m:Nat} (a:w'.ownsRow w.heap.size 5 1 (.slice (some ⟨w.heap.size,0,none⟩) m m) m (madeCells (Value.int .u8 0).cells (m*1)).toList):w'.ownsRow w.heap.size 5 1 (.slice (some ⟨w.heap.size,0,none⟩) m m) m ((List.replicate m (0:Int)).map (Value.int .u8)):=by rw [List.map_replicate,<- toList_madeCells_one];simpa [Value.cells] using a
theorem kL.up {D:DV} {k1 k2 m1 m2:Nat} (h:kL D k1 k2) (a:k1<=m1) (b:k2<=m2):kL D m1 m2:=⟨h.t,h.cm,h.ir,h.by_,Nat.le_trans h.l1 a,Nat.le_trans h.l2 b⟩
theorem kL.pushIn {D:DV} {k1 k2:Nat} (h:kL D k1 k2) (y:Int):kL ⟨D.t,D.cm,D.so,D.xs++[IntKind.u8.wrap y],D.ys,D.ir⟩ (k1+1) k2:=by
 refine ⟨h.t,h.cm,h.ir,⟨λz a=>?_,h.by_.2⟩,?_,h.l2⟩
 ·rcases List.mem_append.1 a with a|a;·exact h.by_.1 z a
  ·rw [List.mem_singleton.1 a];exact TW ps ps
 ·have:=h.l1;simp;omega
theorem kL.pushOut {D:DV} {k1 k2:Nat} (h:kL D k1 k2) (y:Int):kL ⟨D.t,D.cm,D.so,D.xs,D.ys++[IntKind.u8.wrap y],D.ir⟩ k1 (k2+1):=by
 refine ⟨h.t,h.cm,h.ir,⟨h.by_.1,λz a=>?_⟩,h.l1,?_⟩
 ·rcases List.mem_append.1 a with a|a;·exact h.by_.2 z a
  ·rw [List.mem_singleton.1 a];exact TW ps ps
 ·have:=h.l2;simp;omega
theorem kL.newIn {D:DV} {k1 k2:Nat} (h:kL D k1 k2) (m:Nat):kL ⟨D.t,D.cm,D.so,List.replicate m 0,D.ys,D.ir⟩ m k2:=⟨h.t,h.cm,h.ir,⟨Cu m,h.by_.2⟩,cp,h.l2⟩
theorem kL.newOut {D:DV} {k1 k2:Nat} (h:kL D k1 k2) (m:Nat):kL ⟨D.t,D.cm,D.so,D.xs,List.replicate m 0,D.ir⟩ k1 m:=⟨h.t,h.cm,h.ir,⟨h.by_.1,Cu m⟩,h.l1,cp⟩
set_option maxRecDepth 100000
def Qq (v u:Value):Sem Next:=execOp (λx=>match x with | .tmp 0=>v | _=>u) {dst:=none,op:=.call {callee:=.builtin .append,args:=#[.tmp 0,.tmp 1],argTypes:=#[24,24]},type:=24,pos:= "",after:=#[],guard:=none}
theorem Cz {v u x:Value} {w w':World} (h:(Builtin.append_ #[24,24] 24 #[v,u]).run prog w=.ok x w'):(Qq v u).run prog w=.ok (.value x) w':=by unfold Qq execOp;simp only [resolve,invoke,builtin,Sem.run_bind,Sem.run_pure,Result.andThen_ok,List.map_toArray,List.map_cons,List.map_nil,h]
theorem GS (W:World) (x:Int):(do pure (.value (<- Instr.buildSlice 24 1 #[(0,.int .u8 x)])):Sem Next).run prog W=.ok (.value (.slice (some ⟨W.heap.size,0,none⟩) 1 1)) (W.alloc (.cells #[.int .u8 x] 5)):=by obtain ⟨c,b,a,e2,e3⟩:=info_parts info5;have:=run_buildSlice (P:=prog) W 24 5 1 #[(0,.int .u8 x)] #[.int .u8 x] c (.int .u8 0) underlying24 b a (by rw [e2];decide) (by rw [e2];decide) (by rw [e2];kernel_rfl);simp [this]
theorem GT (W:World) (N:Nat) (l:N<=1048576):∃ W',(do pure (.value (<- Instr.makeSlice 24 (.i N) (.i N))):Sem Next).run prog W=.ok (.value (.slice (some ⟨W.heap.size,0,none⟩) N N)) W'/\W'.ownsRow W.heap.size 5 1 (.slice (some ⟨W.heap.size,0,none⟩) N N) N ((List.replicate N (0:Int)).map (Value.int .u8))/\Bw W W':=by obtain ⟨j,f,c,d,e⟩:=info_parts info5;obtain ⟨W',i,h,a⟩:=run_make_full (P:=prog) W W.heap.size 24 5 j (.int .u8 0) 1 underlying24 f c d .i64 .i64 N (by rw [e];omega) et (Nat.le_refl _);have b:(Instr.makeSlice 24 (.i N) (.i N)).run prog W=.ok (.slice (some ⟨W.heap.size,0,none⟩) N N) W':=i;exact ⟨W',by simp [b],TJ h,a.os,a.tape,a.output,a.size,λk g=>a.block k g cp⟩
section
variable {w0 w W W' : World} {g n cap b : Nat} {a a1 a2 : Option Addr} {c1 c2 : Nat} {D : DV} {zs : List Int}
theorem Cs.behind (h:Cs w0 g a n cap w W) (hb:Below w.heap.size W W') (e:g<w.heap.size) (l:w0.heap.size<=w.heap.size):Cs w0 g a n cap w W':=by obtain ⟨i,f,j,b⟩:=h.1.row;refine ⟨⟨h.1.new,?_,i,f,j,(hb.block g e).trans b⟩,⟨hb.os.trans h.2.os,hb.tape.trans h.2.tape,hb.output.trans h.2.output,Nat.le_trans h.2.size hb.size,λk c d=>(hb.block k c).trans (h.2.block k c d)⟩⟩;exact ⟨hb.os.trans h.1.below.os,hb.tape.trans h.1.below.tape,hb.output.trans h.1.below.output,Nat.le_trans h.1.below.size hb.size,λk c=>(hb.block k ab).trans (h.1.below.block k c)⟩
theorem Dx.below (h:Dx w0 g a n cap w w.heap.size b D a1 c1 a2 c2 W) (k:Bw W W'):Dx w0 g a n cap w w.heap.size b D a1 c1 a2 c2 W':=h.next (Cs.of_below h.c.cu.1 k)
theorem Dx.eng {P:Program} {fn:Func} {Rs:Ending->World->Prop}:nE P (Dx w0 g a n cap w w.heap.size b D a1 c1 a2 c2) (Dx w0 g a n cap w w.heap.size b D a1 c1 a2 c2) [⟨b,fM D a1 c1 a2 c2,[]⟩] true (bodyPost P fn Rs):=
 ⟨λ_ h=>h,λW h x c=>by rw [List.mem_singleton.1 c];exact ⟨_,_,h.c.row⟩,λ_ W h=>h.drew,ct⟩
theorem Dx.rows (h:Dx w0 g a n cap w w.heap.size b D a1 c1 a2 c2 W):g6 W [⟨b,fM D a1 c1 a2 c2,[]⟩]:=⟨⟨_,_,h.c.row⟩,trivial⟩
theorem Nl {P:Program} {fn:Func} {Rs:Ending->World->Prop}:nE P (Dw W) (Dw W) [] true (bodyPost P fn Rs):=⟨λ_ h=>h,λ_ _ _ h=>absurd h (List.not_mem_nil),λ_ _ h=>by obtain ⟨d,rfl⟩:=h;exact ⟨d+1,rfl⟩,ct⟩
theorem GU (W:World) (z:Nat) (p:Addr):(W.drewN z).cell? p=W.cell? p:=rfl
theorem GV (W:World) (z:Nat) (p:Addr):(W.drewN z).frozen? p=W.frozen? p:=rfl
theorem Dx.dN {p:Addr} {v:Value} (h:Dx w0 g a n cap w w.heap.size b D a1 c1 a2 c2 (W.setCell p v)) (z:Nat):Dx w0 g a n cap w w.heap.size b D a1 c1 a2 c2 ((W.drewN z).setCell p v):=by
 have:(W.drewN z).setCell p v=(W.setCell p v).drewN z:=rfl;rw [this];induction z with
 | zero=>exact h
 | succ z c=>exact (c rfl).drew
def Ej (w0:World) (g:Nat) (a:Option Addr) (n cap:Nat) (w:World) (b j k1 k2:Nat):Prop:=∀ D a1 c1 a2 c2 W,Dx w0 g a n cap w w.heap.size b D a1 c1 a2 c2 W->kL D k1 k2->Wg prog (λ_=>True) (bodyPost prog Tryz.f169 λe c=>∃ (D:DV) (a1:Option Addr) (c1:Nat) (a2:Option Addr) (c2:Nat),e=.returned (.agg (fM D a1 c1 a2 c2))/\Hid (kL D 16 4096)/\Hid (bx w.heap.size c.heap.size c (um D a1 c1 a2 c2))/\Hid (Cs w0 g a n cap w c)) Tryz.f169.ntmps [.code (az j (aW Tryz.f169))] [(0,.p g 0,0),(2,.p w.heap.size 0,0),(3,.p b 0,1)] W
theorem e7:Ej w0 g a n cap w b 7 16 4096:=by intro D a1 c1 a2 c2 W h d;have k:=h.c.rlt;have c:=h.c.glt;have f:=h.c.cu.1.new;refine cw h.rows {} 40 (aG (g:=w.heap.size) (t:=30) (ty:=30) (cells:=fM D a1 c1 a2 c2) h.c.res bI rfl (fw _ _ _ _ _)) ?_;exact fP (R:=[]) trivial {} 40 λq e=>⟨_,results_cell_row rfl q.tmps _ w.heap.size 30 (fM D a1 c1 a2 c2) (0,0) _ (e.slot al) (setRow_heap _ _ _ _ _ _ h.c.res) underlying30 rfl al,D,a1,c1,a2,c2,rfl,d,(h.fam.mono λj i _ _=>setRow_other _ _ _ _ ab).low ab la,h.c.cu.behind (bm (Below.refl _ _) (Nat.le_refl _) _) c ab⟩
theorem e6 (d:Code w0 a n zs):Ej w0 g a n cap w b 6 16 4096:=by
 intro D a1 c1 a2 c2 W h j;refine aS (R:=[]) trivial {} 40 (bG d 60 bb W h.cur) ?_;rintro e V ⟨c,rfl,l⟩;refine ⟨_,0,rfl,?_⟩;replace h:=h.next l.out;cases c with
 | false =>refine an (R:=[]) trivial {} 3 ?_;exact ah _ _ (e7 _ _ _ _ _ _ h j)
 | true =>obtain ⟨o,r,m,f⟩:=GT V 4096 bb;obtain ⟨_,_,k⟩:=h.newOut _ 4096 4096 _ cp m f;refine an (R:=[]) trivial {} 3 ?_;refine dU 0 r ?_;refine cw (R:=[]) trivial {} 10 (bE (i:=4) (T:=24) (v:=.slice (some ⟨V.heap.size,0,none⟩) 4096 4096) (h.below f).c.row (by simp [fM]) al rfl) ?_;refine an (R:=[]) trivial {} 1 ?_;exact ah _ _ (e7 _ _ _ _ _ _ k (j.newOut 4096))
theorem e5 (d:Code w0 a n zs):Ej w0 g a n cap w b 5 16 4096:=by
 intro D a1 c1 a2 c2 W h j;refine aS (R:=[]) trivial {} 40 (bG d 30 bb W h.cur) ?_;rintro e V ⟨c,rfl,l⟩;refine ⟨_,0,rfl,?_⟩;replace h:=h.next l.out;cases c with
 | false =>refine an (R:=[]) trivial {} 3 ?_;exact ah _ _ (e6 d _ _ _ _ _ _ h j)
 | true =>obtain ⟨o,r,m,f⟩:=GT V 16 bb;obtain ⟨_,_,k⟩:=h.newIn _ 16 16 _ cp m f;refine an (R:=[]) trivial {} 3 ?_;refine dU 0 r ?_;refine cw (R:=[]) trivial {} 10 (bE (i:=3) (T:=24) (v:=.slice (some ⟨V.heap.size,0,none⟩) 16 16) (h.below f).c.row (by simp [fM]) al rfl) ?_;refine an (R:=[]) trivial {} 1 ?_;exact ah _ _ (e6 d _ _ _ _ _ _ k (j.newIn 16))
theorem e4 (c:Code w0 a n zs):Ej w0 g a n cap w b 4 16 4000:=by
 intro D a1 c1 a2 c2 W h i;refine aS (R:=[]) trivial {} 40 (aB c 5 bb W h.cur) ?_;rintro e V ⟨x,rfl,⟨l,G⟩,j⟩;refine ⟨_,0,rfl,?_⟩;replace h:=h.next j.out;obtain ⟨x,rfl⟩:=Int.eq_ofNat_of_zero_le l;refine an (R:=[]) trivial {} 20 ?_;refine pQ (λy:DV × Option Addr × Nat × Option Addr × Nat × Nat=>[(0,.p g 0,0),(2,.p w.heap.size 0,0),(3,.p b 0,1),(5,.i (y.2.2.2.2.2:Nat),0)]) (λk y W=>y.2.2.2.2.2=k/\k<=4/\Dx w0 g a n cap w w.heap.size b y.1 y.2.1 y.2.2.1 y.2.2.2.1 y.2.2.2.2.1 W/\kL y.1 16 (4096-k)) x (D,a1,c1,a2,c2,x) al al ⟨rfl,ab,h,i.up ab ab⟩ ?_;clear h i j;rintro k ⟨D,a1,c1,a2,c2,I⟩ W ⟨m,B,h,i⟩ J t;dsimp only at m B h i;subst m;cases I with
 | zero =>have d:decide (0<((0:Nat):Int))=false:=bb;refine an (R:=[]) trivial {eq:=[(37,aj d)]} 8 ?_;exact ah _ _ (e5 c _ _ _ _ _ _ h (i.up ab ab))
 | succ k =>have d:decide (0<((k+1:Nat):Int))=true:=ek;have F:IntKind.i64.wrap (((k+1:Nat):Int)-1)=((k:Nat):Int):=sy;refine aH (Dx w0 g a n cap w w.heap.size b D a1 c1 a2 c2) ?_;refine an (R:=[]) trivial {eq:=[(37,aj d)]} 60 ?_;refine lg 6 ?_;refine aN Dx.eng {} 30 h.drew (λW k=>kh c W k.cur) ?_;rintro L e M o ⟨y,rfl,N,j⟩;refine ⟨_,0,rfl,λ_=>o.next j.out,?_⟩;refine ae Dx.eng {} 30 (o.next j.out) λV r=>?_;refine dU 0 (GS V (IntKind.u8.wrap y)) ?_ (hS:=λ_=>r.below (bal _ _));obtain ⟨f,q,X,E,A,H,s⟩:=r.pushOut (by have:=i.l2;omega) (IntKind.u8.wrap y) 24;refine dU 0 (Cz E) ?_;refine aH (Dw X) ?_;refine ae Nl {} 10 (Dw.refl _) λK u=>?_;obtain ⟨z,rfl⟩:=u;refine bJ (jh (T:=24) (v:=.slice f (D.ys.length+1) q) ⟨(GU X z _).trans A,(GV X z _).trans H⟩ al rfl) ?_;exact rj (R:=[]) trivial {eq:=[(39,dI .i64 F)]} 60 λp C=>t p _ k (⟨D.t,D.cm,D.so,D.xs,D.ys++[IntKind.u8.wrap y],D.ir⟩,a1,c1,f,q,k) ab (C.less al) ⟨rfl,ab,s.dN z,(i.pushOut y).up ab ab⟩
theorem e3 (c:Code w0 a n zs):Ej w0 g a n cap w b 3 12 4000:=by
 intro D a1 c1 a2 c2 W h i;refine aS (R:=[]) trivial {} 40 (aB c 5 bb W h.cur) ?_;rintro e V ⟨x,rfl,⟨l,G⟩,j⟩;refine ⟨_,0,rfl,?_⟩;replace h:=h.next j.out;obtain ⟨x,rfl⟩:=Int.eq_ofNat_of_zero_le l;refine an (R:=[]) trivial {} 20 ?_;refine pQ (λy:DV × Option Addr × Nat × Option Addr × Nat × Nat=>[(0,.p g 0,0),(2,.p w.heap.size 0,0),(3,.p b 0,1),(4,.i (y.2.2.2.2.2:Nat),0)]) (λk y W=>y.2.2.2.2.2=k/\k<=4/\Dx w0 g a n cap w w.heap.size b y.1 y.2.1 y.2.2.1 y.2.2.2.1 y.2.2.2.2.1 W/\kL y.1 (16-k) 4000) x (D,a1,c1,a2,c2,x) al al ⟨rfl,ab,h,i.up ab ab⟩ ?_;clear h i j;rintro k ⟨D,a1,c1,a2,c2,I⟩ W ⟨m,B,h,i⟩ J t;dsimp only at m B h i;subst m;cases I with
 | zero =>have d:decide (0<((0:Nat):Int))=false:=bb;refine an (R:=[]) trivial {eq:=[(23,aj d)]} 8 ?_;exact ah _ _ (e4 c _ _ _ _ _ _ h (i.up ab ab))
 | succ k =>have d:decide (0<((k+1:Nat):Int))=true:=ek;have F:IntKind.i64.wrap (((k+1:Nat):Int)-1)=((k:Nat):Int):=sy;refine aH (Dx w0 g a n cap w w.heap.size b D a1 c1 a2 c2) ?_;refine an (R:=[]) trivial {eq:=[(23,aj d)]} 60 ?_;refine lg 6 ?_;refine aN Dx.eng {} 30 h.drew (λW k=>kh c W k.cur) ?_;rintro L e M o ⟨y,rfl,N,j⟩;refine ⟨_,0,rfl,λ_=>o.next j.out,?_⟩;refine ae Dx.eng {} 30 (o.next j.out) λV r=>?_;refine dU 0 (GS V (IntKind.u8.wrap y)) ?_ (hS:=λ_=>r.below (bal _ _));obtain ⟨f,q,X,E,A,H,s⟩:=r.pushIn (by have:=i.l1;omega) (IntKind.u8.wrap y) 24;refine dU 0 (Cz E) ?_;refine aH (Dw X) ?_;refine ae Nl {} 10 (Dw.refl _) λK u=>?_;obtain ⟨z,rfl⟩:=u;refine bJ (jh (T:=24) (v:=.slice f (D.xs.length+1) q) ⟨(GU X z _).trans A,(GV X z _).trans H⟩ al rfl) ?_;exact rj (R:=[]) trivial {eq:=[(25,dI .i64 F)]} 60 λp C=>t p _ k (⟨D.t,D.cm,D.so,D.xs++[IntKind.u8.wrap y],D.ys,D.ir⟩,f,q,a2,c2,k) ab (C.less al) ⟨rfl,ab,s.dN z,(i.pushIn y).up ab ab⟩
theorem e2 (d:Code w0 a n zs):Ej w0 g a n cap w b 2 12 4000:=by
 intro D a1 c1 a2 c2 W h f;refine aS (R:=[]) trivial {} 40 (bG d 6 bb W h.cur) ?_;rintro e V ⟨c,rfl,j⟩;refine ⟨_,0,rfl,?_⟩;replace h:=h.next j.out;cases c with
 | false =>refine an (R:=[]) trivial {} 3 ?_;exact ah _ _ (e3 d _ _ _ _ _ _ h f)
 | true =>refine cw h.rows {} 40 (bE (i:=1) (T:=22) (v:=.u 18446744073709551615) h.c.row (by simp [fM]) al rfl) ?_;refine an (R:=[]) trivial {} 1 ?_;exact ah _ _ (e3 d _ _ _ _ _ _ (h.cmp _) ⟨f.t,(show U 18446744073709551615 from ⟨bb,bb⟩),f.ir,f.by_,f.l1,f.l2⟩)
theorem Nm (b:Code w0 a n zs) (w:World) (q:lL w0 w g a n cap):Calls prog 169 #[.p g 0] w λe j=>∃ (D:DV) (a1:Option Addr) (c1:Nat) (a2:Option Addr) (c2:Nat),e=.returned (.agg (fM D a1 c1 a2 c2))/\Hid (kL D 16 4096)/\Hid (bx w.heap.size j.heap.size j (um D a1 c1 a2 c2))/\Hid (Cs w0 g a n cap w j):=by
 refine bz (S:=λ_=>True) (args:=[.p g 0]) [(fM zeroD none 0 none 0,30)] func169 ?_;have d:=q.lt;have o:Cs w0 g a n cap w (bM w [(fM zeroD none 0 none 0,30)]):=Cs.alloc q _;have u:=(Bs.start w [(fM zeroD none 0 none 0,30)]).1 0 _ rfl;have F:(bM w [(fM zeroD none 0 none 0,30)]).heap.size=w.heap.size+1:=by simp [bM]
 generalize bM w [(fM zeroD none 0 none 0,30)]=x at *;refine aS (R:=[]) trivial {} 40 (aB b 50 bb x o.1) ?_;rintro e A ⟨k,rfl,G,r⟩;refine ⟨_,0,rfl,?_⟩;refine aS (R:=[]) trivial {} 40 (aB b 50 bb A r.out.1) ?_;rintro e B ⟨l,rfl,H,s⟩;refine ⟨_,0,rfl,?_⟩;refine aS (R:=[]) trivial {} 40 (bG b 4 bb B s.out.1) ?_;rintro e C ⟨i,rfl,t⟩;refine ⟨_,0,rfl,?_⟩;refine aS (R:=[]) trivial {} 40 (aB b 2 bb C t.out.1) ?_;rintro e c ⟨m,rfl,I,E⟩;refine ⟨_,0,rfl,?_⟩;have K:=r.out.trans (s.out.trans (t.out.trans E.out));have p:=o.trans K;have v:=K.keep u ab;have J:=K.2.size;refine nQ (R:=[]) trivial {} 10 1 (dW (T:=30) (z:=.agg (fM zeroD none 0 none 0)) al c) ?_;refine cw (R:=[]) trivial {} 10 (aG (ty:=30) (cells:=fM ⟨Uz.wrap k,Uz.wrap l,i,[],[],m⟩ none 0 none 0) (heap_alloc_new c _) al al (fw _ _ _ _ _)) ?_;rw [World.setRow_alloc_new];have h:Dx w0 g a n cap w w.heap.size c.heap.size ⟨Uz.wrap k,Uz.wrap l,i,[],[],m⟩ none 0 none 0 (c.alloc (.cells (fM ⟨Uz.wrap k,Uz.wrap l,i,[],[],m⟩ none 0 none 0) 30)):=
  ⟨⟨heap_alloc_new _ _,cS v _,p.trans (Cs.alloc p.1 _),d,ab,Nat.le_refl _⟩,kU _ _ _⟩
 refine an (R:=[]) trivial {} 1 ?_;exact ah _ _ (e2 b _ _ _ _ _ _ h ⟨aP _,aP _,cb,⟨λy f=>(nomatch f),λy f=>(nomatch f)⟩,Nat.zero_le _,Nat.zero_le _⟩)
end
structure Qr (D:DV):Prop where
 t:U D.t
 cm:U D.cm
 ir:(Lit.int .i64 D.ir).wf=true
 by_:dH D
 l1:D.xs.length<=17
 l2:D.ys.length<=4097
theorem kL.any {D:DV} (h:kL D 16 4096):Qr D:=⟨h.t,h.cm,by rcases h.ir with e|e<;>rw [e]<;>decide,h.by_,Nat.le_trans h.l1 ab,Nat.le_trans h.l2 ab⟩
structure Mf (M:MV):Prop where
 x:M.x.length=32
 ux:∀ j,U (M.x.getD j 0)
 cs:M.cs.length=22
 ucs:∀ j,U (M.cs.getD j 0)
 ram:M.ram.length=4096\/M.ram.length=8192
 bram:∀ y ∈ M.ram,(Lit.int .u8 y).wf=true
 d:kL M.d 16 4096
 pc:U M.pc
 hd:U M.hd
 pr:M.pr=0\/M.pr=1\/M.pr=3
theorem Mf.len {M:MV} (h:Mf M):j7 M:=⟨by rw [h.x];omega,by rw [h.cs];omega,by rcases h.ram with e|e<;>rw [e]<;>omega,by have:=h.d.l1;omega,by have:=h.d.l2;omega⟩
structure Dm (w0:World) (g:Nat) (a:Option Addr) (n cap:Nat) (w:World) (r m:Nat) (M:MV) (A:MA) (wr:World):Prop where
 cu:Cs w0 g a n cap w wr
 res:wr.heap[r]?=some (.cells (aq zeroM zeroA) 32 (0,0))
 mp:Mp (r+1) m M A wr
 fit:Mf M
 gr:g<r
 wr_:w.heap.size<=r
 w0w:w0.heap.size<=w.heap.size
theorem Dm.cur {w0:World} {g:Nat} {a:Option Addr} {n cap:Nat} {w:World} {r m:Nat} {M:MV} {A:MA} {wr:World} (h:Dm w0 g a n cap w r m M A wr):lL w0 wr g a n cap:=h.cu.1
theorem Dm.next {w0:World} {g:Nat} {a:Option Addr} {n cap:Nat} {w:World} {r m:Nat} {M:MV} {A:MA} {wr wx:World} (h:Dm w0 g a n cap w r m M A wr) (k:Cs w0 g a n cap wr wx):Dm w0 g a n cap w r m M A wx:=by have e:=h.gr;have f:=h.mp.lo;exact ⟨h.cu.trans k,k.keep h.res ab,⟨k.keep h.mp.row ab,(h.mp.fam.mono λj c d b=>k.2.block j b bh).low (Nat.le_refl _) k.2.size,h.mp.ne,h.mp.lo⟩,h.fit,h.gr,h.wr_,h.w0w⟩
theorem Dm.below {w0:World} {g:Nat} {a:Option Addr} {n cap:Nat} {w:World} {r m:Nat} {M:MV} {A:MA} {wr wx:World} (h:Dm w0 g a n cap w r m M A wr) (k:Bw wr wx):Dm w0 g a n cap w r m M A wx:=h.next (Cs.of_below h.cu.1 k)
theorem Dm.step {w0:World} {g:Nat} {a:Option Addr} {n cap:Nat} {w:World} {r m:Nat} {M:MV} {A:MA} {wr wx:World} (h:Dm w0 g a n cap w r m M A wr) {M':MV} {e:MA} (hb:Below (r+1) wr wx) (o:Mp (r+1) m M' e wx) (f:Mf M'):Dm w0 g a n cap w r m M' e wx:=by have q:=h.gr;have t:=h.wr_;have p:=h.w0w;have s:=(Array.getElem?_eq_some_iff.1 h.res).1;obtain ⟨i,j,l,b⟩:=h.cu.1.row;refine ⟨⟨⟨h.cu.1.new,?_,i,j,l,(hb.block g ab).trans b⟩,⟨hb.os.trans h.cu.2.os,hb.tape.trans h.cu.2.tape,hb.output.trans h.cu.2.output,Nat.le_trans h.cu.2.size hb.size,λk c d=>(hb.block k ab).trans (h.cu.2.block k c d)⟩⟩,(hb.block r ab).trans h.res,o,f,h.gr,h.wr_,h.w0w⟩;exact ⟨hb.os.trans h.cu.1.below.os,hb.tape.trans h.cu.1.below.tape,hb.output.trans h.cu.1.below.output,Nat.le_trans h.cu.1.below.size hb.size,λk c=>(hb.block k ab).trans (h.cu.1.below.block k c)⟩
theorem Dm.setX {w0:World} {g:Nat} {a:Option Addr} {n cap:Nat} {w:World} {r m:Nat} {M:MV} {A:MA} {wr:World} (h:Dm w0 g a n cap w r m M A wr) (b:Nat) (hb:A.ax=some ⟨b,0,none⟩) (i:Nat) {v:Int} (hv:U v):Dm w0 g a n cap w r m (xM M (M.x.set i v)) A (wr.setCell ⟨b,i,none⟩ (.u v)):=
 h.step (h.mp.setX b hb i v).2 (h.mp.setX b hb i v).1 ⟨by simp [xM,h.fit.x],FG h.fit.ux i hv,h.fit.cs,h.fit.ucs,h.fit.ram,h.fit.bram,h.fit.d,h.fit.pc,h.fit.hd,h.fit.pr⟩
theorem Dm.setC {w0:World} {g:Nat} {a:Option Addr} {n cap:Nat} {w:World} {r m:Nat} {M:MV} {A:MA} {wr:World} (h:Dm w0 g a n cap w r m M A wr) (b:Nat) (hb:A.ac=some ⟨b,0,none⟩) (i:Nat) {v:Int} (hv:U v):Dm w0 g a n cap w r m (cM M (M.cs.set i v)) A (wr.setCell ⟨b,i,none⟩ (.u v)):=
 h.step (h.mp.setC b hb i v).2 (h.mp.setC b hb i v).1 ⟨h.fit.x,h.fit.ux,by simp [cM,h.fit.cs],FG h.fit.ucs i hv,h.fit.ram,h.fit.bram,h.fit.d,h.fit.pc,h.fit.hd,h.fit.pr⟩
theorem Dm.atX {w0:World} {g:Nat} {a:Option Addr} {n cap:Nat} {w:World} {r m:Nat} {M:MV} {A:MA} {wr:World} (h:Dm w0 g a n cap w r m M A wr):∃ b c,A.ax=some ⟨b,0,none⟩/\A.cx=c/\wr.cell? ⟨m,1,none⟩=some (.slice (some ⟨b,0,none⟩) 32 c)/\(∀ j,j<32->wr.cell? ⟨b,j,none⟩=some (.u (M.x.getD j 0))/\wr.frozen? ⟨b,j,none⟩=false):=by
 have d:=h.mp.xrow;rw [h.fit.x] at d;obtain ⟨b,c,e,k⟩:=jC d ab;simp only [Value.slice.injEq,true_and] at e;obtain ⟨f,e2⟩:=e;have i:=h.mp.row;refine ⟨b,c,f,e2,?_,λj l=>?_⟩;·simp [World.cell?,i,aq,f,e2,h.fit.x]
 ·rw [f] at d;refine ⟨?_,d.frozenAt j⟩;rw [d.cellAt j ab];have o:=h.fit.x;rw [List.getElem?_map,List.getElem?_eq_getElem (show j<M.x.length by omega),List.getD_eq_getElem?_getD,List.getElem?_eq_getElem (show j<M.x.length by omega)];rfl
theorem Dm.atC {w0:World} {g:Nat} {a:Option Addr} {n cap:Nat} {w:World} {r m:Nat} {M:MV} {A:MA} {wr:World} (h:Dm w0 g a n cap w r m M A wr):∃ b c,A.ac=some ⟨b,0,none⟩/\A.cc=c/\wr.cell? ⟨m,3,none⟩=some (.slice (some ⟨b,0,none⟩) 22 c)/\(∀ j,j<22->wr.cell? ⟨b,j,none⟩=some (.u (M.cs.getD j 0))/\wr.frozen? ⟨b,j,none⟩=false):=by
 have d:=h.mp.crow;rw [h.fit.cs] at d;obtain ⟨b,c,e,k⟩:=jC d ab;simp only [Value.slice.injEq,true_and] at e;obtain ⟨f,e2⟩:=e;have i:=h.mp.row;refine ⟨b,c,f,e2,?_,λj l=>?_⟩;·simp [World.cell?,i,aq,f,e2,h.fit.cs]
 ·rw [f] at d;refine ⟨?_,d.frozenAt j⟩;rw [d.cellAt j ab];have o:=h.fit.cs;rw [List.getElem?_map,List.getElem?_eq_getElem (show j<M.cs.length by omega),List.getD_eq_getElem?_getD,List.getElem?_eq_getElem (show j<M.cs.length by omega)];rfl
theorem Dm.setF {w0:World} {g:Nat} {a:Option Addr} {n cap:Nat} {w:World} {r m:Nat} {M M':MV} {A:MA} {wr:World} (h:Dm w0 g a n cap w r m M A wr) (i:Nat) (v:Value) (b:aq M' A=(aq M A).setIfInBounds i v) (c:aI M' A=aI M A) (fit:Mf M'):Dm w0 g a n cap w r m M' A (wr.setCell ⟨m,i,none⟩ v):=
 h.step (h.mp.setF i v b c).2 (h.mp.setF i v b c).1 fit
theorem Dm.dev {w0:World} {g:Nat} {a:Option Addr} {n cap:Nat} {w:World} {r m:Nat} {M:MV} {A:MA} {wr wx:World} (h:Dm w0 g a n cap w r m M A wr) (k:Cs w0 g a n cap wr wx) (D:DV) (a1:Option Addr) (c1:Nat) (a2:Option Addr) (c2:Nat) (t:kL D 16 4096) (hd:bx wr.heap.size wx.heap.size wx (um D a1 c1 a2 c2)):Dm w0 g a n cap w r m (cP M D) (ke A a1 c1 a2 c2) (wx.setRow m (aq (cP M D) (ke A a1 c1 a2 c2))):=by
 have p:=h.next k;have u:=h.mp.lo;have v:=h.mp.lt;have l:∀ q ∈ aI (cP M D) (ke A a1 c1 a2 c2),q.v.ownBlock≠some m:=by
  intro q c e;simp only [aI,List.mem_cons,List.not_mem_nil,or_false] at c;have i:∀ q ∈ um D a1 c1 a2 c2,q.v.ownBlock≠some m:=λq c e=>by have:=(hd.own q c).lt _ e;omega
  rcases c with rfl|rfl|rfl|rfl|rfl;·exact h.mp.ne (aJ A.ax M.x.length A.cx M.x) dm e
  ·exact h.mp.ne (aJ A.ac M.cs.length A.cc M.cs) dm e
  ·exact h.mp.ne (aF A.ar M.ram.length A.cr M.ram) dm e
  ·exact i (aF a1 D.xs.length c1 D.xs) (by simp [um,fO]) e
  ·exact i (aF a2 D.ys.length c2 D.ys) (by simp [um,fO]) e
 have o:bx (r+1) wr.heap.size wx [aJ A.ax M.x.length A.cx M.x,aJ A.ac M.cs.length A.cc M.cs,aF A.ar M.ram.length A.cr M.ram]:=by have z:=h.gr;have:=(h.mp.fam.mono (w':=wx) λj x y s=>k.2.block j s bh);exact this.sub (by simp [aI,List.Sublist.refl])
 have d:=o.app hd ab k.2.size;have b:bx (r+1) wx.heap.size wx (aI (cP M D) (ke A a1 c1 a2 c2)):=d;have f:Below (r+1) wx (wx.setRow m (aq (cP M D) (ke A a1 c1 a2 c2))):=bm (Below.refl _ _) ab _;refine p.step f ⟨setRow_heap wx m _ _ _ _ p.mp.row,?_,l,h.mp.lo⟩ ⟨h.fit.x,h.fit.ux,h.fit.cs,h.fit.ucs,h.fit.ram,h.fit.bram,t,h.fit.pc,h.fit.hd,h.fit.pr⟩;rw [setRow_size];exact ⟨λq c=>fH (b.own q c) (λj e=>setRow_other wx m j _ (λe2=>l q c (by rw [e,e2]))),b.hi,b.ne⟩
def cA (A:MA) (b c:Nat):MA:={A with ac:=some ⟨b,0,none⟩,cc:=c}
theorem Dm.csrs {w0:World} {g:Nat} {a:Option Addr} {n cap:Nat} {w:World} {r m:Nat} {M:MV} {A:MA} {wr wx:World} (h:Dm w0 g a n cap w r m M A wr) (k:Cs w0 g a n cap wr wx) (zs:List Int) (v:∀ j,U (zs.getD j 0)) (l:wx.ownsRow wr.heap.size 22 1 (.slice (some ⟨wr.heap.size,0,none⟩) 22 22) 22 (zs.map (Value.int .u64))):Dm w0 g a n cap w r m (cM M zs) (cA A wr.heap.size 22) (wx.setCell ⟨m,3,none⟩ (.slice (some ⟨wr.heap.size,0,none⟩) 22 22)):=by
 have b:zs.length=22:=by have:=l.1;simpa using this
 have p:=h.next k;have t:=h.mp.lo;have u:=h.mp.lt;have z:=h.gr;have i:bx (r+1) wr.heap.size wx ([aJ A.ax M.x.length A.cx M.x]++[aF A.ar M.ram.length A.cr M.ram,aF A.ai M.d.xs.length A.ci M.d.xs,aF A.ao M.d.ys.length A.co M.d.ys]):=by have:=(h.mp.fam.mono (w':=wx) λj x y s=>k.2.block j s bh);exact this.sub dm
 have d:=i.ins (q:=aJ (some ⟨wr.heap.size,0,none⟩) zs.length 22 zs) (E':=wx.heap.size) (by simp only [aJ];rw [b];exact l) ab (Nat.le_refl _) k.2.size;have c:bx (r+1) wx.heap.size wx (aI (cM M zs) (cA A wr.heap.size 22)):=d;have f:∀ q ∈ aI (cM M zs) (cA A wr.heap.size 22),q.v.ownBlock≠some m:=by
  intro q o e;simp only [aI,List.mem_cons,List.not_mem_nil,or_false] at o;rcases o with rfl|rfl|rfl|rfl|rfl;·exact h.mp.ne (aJ A.ax M.x.length A.cx M.x) dm e
  ·simp only [aJ,cA,Value.ownBlock,Option.some.injEq] at e;omega
  ·exact h.mp.ne (aF A.ar M.ram.length A.cr M.ram) dm e
  ·exact h.mp.ne (aF A.ai M.d.xs.length A.ci M.d.xs) dm e
  ·exact h.mp.ne (aF A.ao M.d.ys.length A.co M.d.ys) dm e
 refine p.step ⟨rfl,rfl,rfl,ef,λj B=>Below.heap_setCell _ _ _ j cb⟩ ⟨?_,Mp.fam_set c f 3 _,f,h.mp.lo⟩ ⟨h.fit.x,h.fit.ux,b,v,h.fit.ram,h.fit.bram,h.fit.d,h.fit.pc,h.fit.hd,h.fit.pr⟩;have:=bD p.mp.row 3 (.slice (some ⟨wr.heap.size,0,none⟩) 22 22);rw [this];simp [aq,cM,cA,b]
def nC (ram:List Int):MV:=⟨2147483648,List.replicate 32 0,3,List.replicate 22 0,ram,zeroD,0,false,false⟩
def Aa (ram:List Int):MV:=if aU ram.length=true then cC (nC ram) else zeroM
theorem PN {w w':World} {m:Nat} (a:w'.ownsRow w.heap.size 22 1 (.slice (some ⟨w.heap.size,0,none⟩) m m) m (madeCells (Value.int .u64 0).cells (m*1)).toList):w'.ownsRow w.heap.size 22 1 (.slice (some ⟨w.heap.size,0,none⟩) m m) m ((List.replicate m (0:Int)).map (Value.int .u64)):=by rw [List.map_replicate,<- toList_madeCells_one];simpa [Value.cells] using a
theorem Nn {K:Act->World->Prop} {Q:Exit->Act->World->Prop} {o:Oper} {a:Act} {W:World} {ys:Nat->Option Bool} (n:Region.wanted o ys=true) (m:Nat) (l c:Operand) (d:o.op=Op.makeSlice 23 l c) (hl:a.eval l=.i m) (i:a.eval c=.i m) (hm:m<=1048576) (h:∀ W',W'.ownsRow W.heap.size 22 1 (.slice (some ⟨W.heap.size,0,none⟩) m m) m ((List.replicate m (0:Int)).map (Value.int .u64))->Bw W W'->K (a.put o.dst (.slice (some ⟨W.heap.size,0,none⟩) m m)) W'):if Region.wanted o ys=true then Oper.wp prog o a W K Q else K (a.put o.dst undef) W:=by obtain ⟨p,j,e,f,g⟩:=info_parts An;obtain ⟨s,b,q,r⟩:=run_make_full (P:=prog) W W.heap.size 23 22 p (.u 0) 1 underlying23 j e f .i64 .i64 m (by rw [g];omega) et (Nat.le_refl _);rw [if_pos n];unfold Oper.wp;simp [execOp,d,hl,i,b,Result.andThen];exact h _ (PN q) ((Below.refl _ _).grown r (Nat.le_refl _) ta)
theorem Np (ty:TypeId) {W:World} (g:Nat) (d:W.ownsRow 0 5 1 (.slice (some ⟨g,0,none⟩) 0 0) 0 []) (ad:Addr) (m c:Nat) (zs:List Int) (hz:zs.length=m) (F:0<m) (hm:m<=1048576) (w:Sl .u8 W (some ad) zs):∃ (k:Nat) (W':World),(Builtin.append_ #[24,24] ty #[.slice (some ⟨g,0,none⟩) 0 0,.slice (some ad) m c]).run prog W=.ok (.slice (some ⟨W.heap.size,0,none⟩) m k) W'/\W'.ownsRow W.heap.size 5 1 (.slice (some ⟨W.heap.size,0,none⟩) m k) m (zs.map (Value.int .u8))/\Bw W W':=by
 obtain ⟨x,y,f,i,l⟩:=info_parts info5;have a:∀ j u,(zs.map (Value.int .u8))[j]?=some u->W.cell? (ad.add j)=some u:=by
  intro j u n;have s:j<zs.length:=by
   rcases Nat.lt_or_ge j zs.length with h|h;·exact h
   ·rw [List.getElem?_eq_none ej] at n;cases n
  obtain ⟨b,D,e,_,A⟩:=w j s;cases e;rw [yz,A];rw [List.getElem?_map,List.getElem?_eq_getElem s] at n;rw [List.getD_eq_getElem?_getD,List.getElem?_eq_getElem s];exact n
 have C:(zs.map (Value.int .u8)).length=m*x.size:=by rw [List.length_map,hz,i];omega
 obtain ⟨I,J,t,p,G,H⟩:=run_append_own (P:=prog) W 0 24 ty 5 x (.int .u8 0) 1 1 underlying24 y f i l rfl bb _ 0 [] d ad m c (zs.map (Value.int .u8)) (by rw [List.length_map,hz];omega) a (ints_oneCell _ _) et ab (Nat.zero_le _);have q:=run_append_grow (P:=prog) W 24 ty 5 x (.int .u8 0) underlying24 y f ⟨g,0,none⟩ 0 0 [] cp (λj v h=>by simp at h) ad m c (zs.map (Value.int .u8)) C a ab ab (growslice_fits ab (by rw [l];omega));rw [q] at t;simp only [Nat.zero_add,List.nil_append] at p t q;injection t with e1 e2
 subst e1;subst e2;refine ⟨_,_,q,?_,(Below.refl _ _).drew.alloc (by exact Nat.le_refl _) _⟩;refine ⟨p.1,?_⟩;rcases p.2 with ⟨e,E⟩|⟨z,cap,o,e,B,r⟩;·cases e
 ·refine .inr ⟨z,cap,o,e,?_,r⟩;simp only [Value.slice.injEq,Option.some.injEq,Addr.mk.injEq] at e;omega
theorem Nq {K:Act->World->Prop} {Q:Exit->Act->World->Prop} {o:Oper} {a:Act} {W:World} {ys:Nat->Option Bool} (n:Region.wanted o ys=true) (s x:Operand) (d:o.op=.call {callee:=.builtin .append,args:=#[s,x],argTypes:=#[24,24]}) (g:Nat) (hs:a.eval s=.slice (some ⟨g,0,none⟩) 0 0) (ad:Addr) (m c:Nat) (zs:List Int) (hx:a.eval x=.slice (some ad) m c) (b:W.ownsRow 0 5 1 (.slice (some ⟨g,0,none⟩) 0 0) 0 []) (hz:zs.length=m) (f:0<m) (hm:m<=1048576) (e:Sl .u8 W (some ad) zs) (h:∀ k W',W'.ownsRow W.heap.size 5 1 (.slice (some ⟨W.heap.size,0,none⟩) m k) m (zs.map (Value.int .u8))->Bw W W'->K (a.put o.dst (.slice (some ⟨W.heap.size,0,none⟩) m k)) W'):if Region.wanted o ys=true then Oper.wp prog o a W K Q else K (a.put o.dst undef) W:=by obtain ⟨k,W',l,i,j⟩:=Np o.type g b ad m c zs hz f hm e;rw [if_pos n];unfold Oper.wp execOp;simp only [d,resolve,invoke,builtin,Sem.run_bind,Sem.run_pure,Result.andThen_ok,List.map_toArray,List.map_cons,List.map_nil,hs,hx,l];exact h _ _ i j
theorem PO (ram:List Int) (h:ram.length<=1048576):j7 (nC ram):=⟨by simp [nC],by simp [nC],h,by simp [nC,zeroD],by simp [nC,zeroD]⟩
theorem JD {n:Nat} (h:aU n=true):0<n:=by
 rcases Nat.eq_zero_or_pos n with a|a;·subst a;revert h;decide
 ·exact a
theorem E6 {B E:Nat} {w:World} {L:List FRow} (h:bx B E w L) (g:Nat) (b:∀ q ∈ L,q.v.ownBlock≠some g) (cs:Array Value):bx B E (w.setRow g cs) L :=
 ⟨λr a=>fH (h.own r a) (λk e=>setRow_other w g k cs (λe2=>b r a (by rw [<- e2];exact e))),h.hi,h.ne⟩
theorem E7 {B:Nat} {v w:World} (h:Below B v w) {g:Nat} (b:B<=g) (cs:Array Value):Below B v (w.setRow g cs):=
 ⟨h.os,h.tape,h.output,by rw [setRow_size];exact h.size,λk a=>(setRow_other w g k cs ab).trans (h.block k a)⟩
theorem Ab {P:Program} {o:Oper} {a:Act} {w:World} (t:TypeId) (parts:Array (Nat × Operand)) (c:o.op=.build t parts) (vs:List (Nat × Value)) (hv:parts.toList.map (λp=>(p.1,a.eval p.2))=vs) (cells:Array Value) (h:P.built t vs=some cells):(execOp a.eval o).run P w=.ok (.value (.agg cells)) w:=by
 have b:(parts.map λ(i,x)=>(i,a.eval x)).toList=vs:=by rw [Array.toList_map];exact hv
 subst b;clear hv;unfold execOp;simp only [c,Sem.run_bind,run_build w t _ cells h,Result.andThen_ok];rfl
end Go.Proofs.YtjifdmoehfbihaaGreatDoor
