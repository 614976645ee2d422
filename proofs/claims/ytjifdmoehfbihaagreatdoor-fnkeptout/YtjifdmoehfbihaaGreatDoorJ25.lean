/- Own lemmas. -/
import Derived.Test.YtjifdmoehfbihaaGreatDoorAuj
import Derived.Test.YtjifdmoehfbihaaGreatDoorJ17
import Derived.Test.YtjifdmoehfbihaaGreatDoorJ24
import Derived.Deep.WholeRow
import Derived.Deep.CutRange
set_option maxRecDepth 100000
set_option maxHeartbeats 40000000
namespace Go.Proofs.YtjifdmoehfbihaaGreatDoor
open Go.RowKit Tryz
open IntKind renaming u64->Uz
set_option linter.unusedVariables false
variable {n a w W:World} {m M r A b B g:Nat} {D t x:Option Addr} {p:MV} {o:MA} {P:List Int} {c:DV} {j k K:Value} {Q:TypeId} {R:Array Value} {f:Program} {z:Oper} {E:Act} {F:List Nat} {V:Addr} {e:Int} {y:Act->World->Prop} {L:Exit->Act->World->Prop} {N:List Value} {d:List Rw} {l:Func} {q:Ending->World->Prop} {s:Nat->Option Bool} {C:List KI} {G:Fr} (I:Option Addr) (J:TypeId) (O:List Int) (S:World) (T X:Nat) (Y:Addr) (Z:Int)
theorem Vv (a:n.ownsRow w.heap.size 5 1 (.slice (some ⟨w.heap.size,0,none⟩) m m) m (madeCells (Value.int .u8 0).cells (m*1)).toList):n.ownsRow w.heap.size 5 1 (.slice (some ⟨w.heap.size,0,none⟩) m m) m ((List.replicate m (0:Int)).map (Value.int .u8)):=by rw [List.map_replicate,<- toList_madeCells_one];simpa [Value.cells] using a
theorem lm.up (h:lm c m M) (a:m<=r) (b:M<=A):lm c r A:=⟨h.t,h.cm,h.ir,h.by_,Nat.le_trans h.l1 a,Nat.le_trans h.l2 b⟩
theorem lm.pushIn (h:lm c m M) (y:Int):lm ⟨c.t,c.cm,c.so,c.xs++[IntKind.u8.wrap y],c.ys,c.ir⟩ (m+1) M:=by
 refine ⟨h.t,h.cm,h.ir,⟨λz a=>?_,h.by_.2⟩,?_,h.l2⟩
 ·rcases List.mem_append.1 a with a|a;·exact h.by_.1 z a
  ·rw [List.mem_singleton.1 a];exact VH rz rz
 ·have:=h.l1;simp;omega
theorem lm.pushOut (h:lm c m M) (y:Int):lm ⟨c.t,c.cm,c.so,c.xs,c.ys++[IntKind.u8.wrap y],c.ir⟩ m (M+1):=by
 refine ⟨h.t,h.cm,h.ir,⟨h.by_.1,λz a=>?_⟩,h.l1,?_⟩
 ·rcases List.mem_append.1 a with a|a;·exact h.by_.2 z a
  ·rw [List.mem_singleton.1 a];exact VH rz rz
 ·have:=h.l2;simp;omega
theorem lm.newIn (h:lm c m M) (k1:Nat):lm ⟨c.t,c.cm,c.so,List.replicate k1 0,c.ys,c.ir⟩ k1 M:=⟨h.t,h.cm,h.ir,⟨DQ k1,h.by_.2⟩,cp,h.l2⟩
theorem lm.newOut (h:lm c m M) (k1:Nat):lm ⟨c.t,c.cm,c.so,c.xs,List.replicate k1 0,c.ir⟩ m k1:=⟨h.t,h.cm,h.ir,⟨h.by_.1,DQ k1⟩,h.l1,cp⟩
set_option maxRecDepth 100000
def St (v u:Value):Sem Next:=execOp (λx=>match x with | .tmp 0=>v | _=>u) {dst:=none,op:=.call {callee:=.builtin .append,args:=#[.tmp 0,.tmp 1],argTypes:=#[24,24]},type:=24,pos:= "",after:=#[],guard:=none}
theorem DT (h:(Builtin.append_ #[24,24] 24 #[j,k]).run prog w=.ok K n):(St j k).run prog w=.ok (.value K) n:=by unfold St execOp;simp only [resolve,invoke,builtin,Sem.run_bind,Sem.run_pure,Result.andThen_ok,List.map_toArray,List.map_cons,List.map_nil,h]
theorem IG:(do pure (.value (<- Instr.buildSlice 24 1 #[(0,.int .u8 Z)])):Sem Next).run prog S=.ok (.value (.slice (some ⟨S.heap.size,0,none⟩) 1 1)) (S.alloc (.cells #[.int .u8 Z] 5)):=by obtain ⟨i0,b,a,e2,e3⟩:=info_parts info5;have:=run_buildSlice (P:=prog) S 24 5 1 #[(0,.int .u8 Z)] #[.int .u8 Z] i0 (.int .u8 0) underlying24 b a ph ph (by rw [e2];kernel_rfl);simp [this]
theorem IH (j:T<=1048576):∃ W',(do pure (.value (<- Instr.makeSlice 24 (.i T) (.i T))):Sem Next).run prog S=.ok (.value (.slice (some ⟨S.heap.size,0,none⟩) T T)) W'/\W'.ownsRow S.heap.size 5 1 (.slice (some ⟨S.heap.size,0,none⟩) T T) T ((List.replicate T (0:Int)).map (Value.int .u8))/\Bw S W':=by obtain ⟨i0,f,c,d,e⟩:=info_parts info5;obtain ⟨W',i,h,a⟩:=run_make_full (P:=prog) S S.heap.size 24 5 i0 (.int .u8 0) 1 underlying24 f c d .i64 .i64 T (by rw [e];omega) et (Nat.le_refl _);have b:(Instr.makeSlice 24 (.i T) (.i T)).run prog S=.ok (.slice (some ⟨S.heap.size,0,none⟩) T T) W':=i;exact ⟨W',by simp [b],Vv h,a.os,a.tape,a.output,a.size,λk g=>a.block k g cp⟩
theorem Cs.behind (h:Cs n m D M r w W) (hb:Below w.heap.size W a) (e:m<w.heap.size) (l:n.heap.size<=w.heap.size):Cs n m D M r w a:=by obtain ⟨i,f,j,b⟩:=h.1.row;refine ⟨⟨h.1.new,?_,i,f,j,(hb.block m e).trans b⟩,⟨hb.os.trans h.2.os,hb.tape.trans h.2.tape,hb.output.trans h.2.output,Nat.le_trans h.2.size hb.size,λk c d=>(hb.block k c).trans (h.2.block k c d)⟩⟩;exact ⟨hb.os.trans h.1.below.os,hb.tape.trans h.1.below.tape,hb.output.trans h.1.below.output,Nat.le_trans h.1.below.size hb.size,λk c=>(hb.block k ab).trans (h.1.below.block k c)⟩
theorem Dx.below (h:Dx n g D m M w w.heap.size b c t r x A W) (k:Bw W a):Dx n g D m M w w.heap.size b c t r x A a:=h.next (Cs.of_below h.c.cu.1 k)
theorem Dx.eng {P:Program} {fn:Func} {Rs:Ending->World->Prop}:n6 P (Dx n m D M r w w.heap.size b c t A x B) (Dx n m D M r w w.heap.size b c t A x B) [⟨b,gh c t A x B,[]⟩] true (bodyPost P fn Rs):=
 ⟨λ_ h=>h,λW h a1 a2=>by rw [List.mem_singleton.1 a2];exact ⟨_,_,h.c.row⟩,λ_ W h=>h.drew,cJ⟩
theorem Dx.rows (h:Dx n m D M r w w.heap.size b c t A x B W):iq W [⟨b,gh c t A x B,[]⟩]:=⟨⟨_,_,h.c.row⟩,trivial⟩
theorem OR:n6 f (Dw W) (Dw W) [] true (bodyPost f l q):=⟨λ_ h=>h,λ_ _ _ h=>absurd h (List.not_mem_nil),λ_ _ h=>by obtain ⟨d,rfl⟩:=h;exact ⟨d+1,rfl⟩,cJ⟩
theorem II:(S.drewN T).cell? Y=S.cell? Y:=rfl
theorem IJ:(S.drewN T).frozen? Y=S.frozen? Y:=rfl
theorem Dx.dN (h:Dx n m D M r w w.heap.size b c t A x B (W.setCell V j)) (z:Nat):Dx n m D M r w w.heap.size b c t A x B ((W.drewN z).setCell V j):=by
 have:(W.drewN z).setCell V j=(W.setCell V j).drewN z:=rfl;rw [this];induction z with
 | zero=>exact h
 | succ z a2=>exact (a2 rfl).drew
def Ej (w0:World) (g:Nat) (a:Option Addr) (n cap:Nat) (w:World) (b j k1 k2:Nat):Prop:=∀ D a1 c1 a2 c2 W,Dx w0 g a n cap w w.heap.size b D a1 c1 a2 c2 W->lm D k1 k2->Wg prog (λ_=>True) (bodyPost prog Tryz.f169 λe c=>∃ (D:DV) (a1:Option Addr) (c1:Nat) (a2:Option Addr) (c2:Nat),e=.returned (.agg (gh D a1 c1 a2 c2))/\Hid (lm D 16 4096)/\Hid (bz w.heap.size c.heap.size c (vm D a1 c1 a2 c2))/\Hid (Cs w0 g a n cap w c)) Tryz.f169.ntmps [.code (aw j (aM Tryz.f169))] [(0,.p g 0,0),(2,.p w.heap.size 0,0),(3,.p b 0,1)] W
theorem e7:Ej n m D M r w b 7 16 4096:=by intro a a1 c1 a2 c2 W h d;have k:=h.c.rlt;have c:=h.c.glt;have f:=h.c.cu.1.new;refine ct h.rows {} 40 (aD (g:=w.heap.size) (t:=30) (ty:=30) (cells:=gh a a1 c1 a2 c2) h.c.res bO rfl (fM _ _ _ _ _)) ?_;exact gz (R:=[]) trivial {} 40 λq e=>⟨_,results_cell_row rfl q.tmps _ w.heap.size 30 (gh a a1 c1 a2 c2) (0,0) _ (e.slot ba) (setRow_heap _ _ _ _ _ _ h.c.res) underlying30 rfl ba,a,a1,c1,a2,c2,rfl,d,(h.fam.mono λj i _ _=>setRow_other _ _ _ _ ab).low ab lg,h.c.cu.behind (aS (Below.refl _ _) (Nat.le_refl _) _) c ab⟩
theorem e6 (d:Code n D M P):Ej n m D M r w b 6 16 4096:=by
 intro a a1 c1 a2 c2 W h j;refine aO (R:=[]) trivial {} 40 (bG d 60 bc W h.cur) ?_;rintro e V ⟨c,rfl,l⟩;refine ⟨_,0,rfl,?_⟩;replace h:=h.next l.out;cases c with
 | false =>refine an (R:=[]) trivial {} 3 ?_;exact af _ _ (e7 _ _ _ _ _ _ h j)
 | true =>obtain ⟨o,cap,w0,f⟩:=IH V 4096 bc;obtain ⟨_,_,k⟩:=h.newOut _ 4096 4096 _ cp w0 f;refine an (R:=[]) trivial {} 3 ?_;refine dM 0 cap ?_;refine ct (R:=[]) trivial {} 10 (bJ (i:=4) (T:=24) (v:=.slice (some ⟨V.heap.size,0,none⟩) 4096 4096) (h.below f).c.row (by simp [gh]) ba rfl) ?_;refine an (R:=[]) trivial {} 1 ?_;exact af _ _ (e7 _ _ _ _ _ _ k (j.newOut 4096))
theorem e5 (d:Code n D M P):Ej n m D M r w b 5 16 4096:=by
 intro a a1 c1 a2 c2 W h j;refine aO (R:=[]) trivial {} 40 (bG d 30 bc W h.cur) ?_;rintro e V ⟨c,rfl,l⟩;refine ⟨_,0,rfl,?_⟩;replace h:=h.next l.out;cases c with
 | false =>refine an (R:=[]) trivial {} 3 ?_;exact af _ _ (e6 d _ _ _ _ _ _ h j)
 | true =>obtain ⟨o,cap,w0,f⟩:=IH V 16 bc;obtain ⟨_,_,k⟩:=h.newIn _ 16 16 _ cp w0 f;refine an (R:=[]) trivial {} 3 ?_;refine dM 0 cap ?_;refine ct (R:=[]) trivial {} 10 (bJ (i:=3) (T:=24) (v:=.slice (some ⟨V.heap.size,0,none⟩) 16 16) (h.below f).c.row (by simp [gh]) ba rfl) ?_;refine an (R:=[]) trivial {} 1 ?_;exact af _ _ (e6 d _ _ _ _ _ _ k (j.newIn 16))
theorem e4 (c:Code n D M P):Ej n m D M r w b 4 16 4000:=by
 intro a a1 c1 a2 c2 W h i;refine aO (R:=[]) trivial {} 40 (aB c 5 bc W h.cur) ?_;rintro e V ⟨x,rfl,⟨l,G⟩,j⟩;refine ⟨_,0,rfl,?_⟩;replace h:=h.next j.out;obtain ⟨x,rfl⟩:=Int.eq_ofNat_of_zero_le l;refine an (R:=[]) trivial {} 20 ?_;refine mh (λy:DV × Option Addr × Nat × Option Addr × Nat × Nat=>[(0,.p m 0,0),(2,.p w.heap.size 0,0),(3,.p b 0,1),(5,.i (y.2.2.2.2.2:Nat),0)]) (λk y W=>y.2.2.2.2.2=k/\k<=4/\Dx n m D M r w w.heap.size b y.1 y.2.1 y.2.2.1 y.2.2.2.1 y.2.2.2.2.1 W/\lm y.1 16 (4096-k)) x (a,a1,c1,a2,c2,x) ba ba ⟨rfl,ab,h,i.up ab ab⟩ ?_;clear h i j;rintro k ⟨a,a1,c1,a2,c2,I⟩ W ⟨w0,B,h,i⟩ J t;dsimp only at w0 B h i;subst w0;cases I with
 | zero =>have d:decide (0<((0:Nat):Int))=false:=bc;refine an (R:=[]) trivial {eq:=[(37,ak d)]} 8 ?_;exact af _ _ (e5 c _ _ _ _ _ _ h (i.up ab ab))
 | succ k =>have d:decide (0<((k+1:Nat):Int))=true:=ef;have F:IntKind.i64.wrap (((k+1:Nat):Int)-1)=((k:Nat):Int):=kp;refine aJ (Dx n m D M r w w.heap.size b a a1 c1 a2 c2) ?_;refine an (R:=[]) trivial {eq:=[(37,ak d)]} 60 ?_;refine lJ 6 ?_;refine aW Dx.eng {} 30 h.drew (λW k=>kF c W k.cur) ?_;rintro L e g o ⟨y,rfl,N,j⟩;refine ⟨_,0,rfl,λ_=>o.next j.out,?_⟩;refine ae Dx.eng {} 30 (o.next j.out) λV cap=>?_;refine dM 0 (IG V (IntKind.u8.wrap y)) ?_ (hS:=λ_=>cap.below (bal _ _));obtain ⟨f,q,X,E,A,H,s⟩:=cap.pushOut (by have:=i.l2;omega) (IntKind.u8.wrap y) 24;refine dM 0 (DT E) ?_;refine aJ (Dw X) ?_;refine ae OR {} 10 (Dw.refl _) λK u=>?_;obtain ⟨z,rfl⟩:=u;refine bM (iD (T:=24) (v:=.slice f (a.ys.length+1) q) ⟨(II X z _).trans A,(IJ X z _).trans H⟩ ba rfl) ?_;exact ou (R:=[]) trivial {eq:=[(39,dP .i64 F)]} 60 λp C=>t p _ k (⟨a.t,a.cm,a.so,a.xs,a.ys++[IntKind.u8.wrap y],a.ir⟩,a1,c1,f,q,k) ab (C.less ba) ⟨rfl,ab,s.dN z,(i.pushOut y).up ab ab⟩
theorem e3 (c:Code n D M P):Ej n m D M r w b 3 12 4000:=by
 intro a a1 c1 a2 c2 W h i;refine aO (R:=[]) trivial {} 40 (aB c 5 bc W h.cur) ?_;rintro e V ⟨x,rfl,⟨l,G⟩,j⟩;refine ⟨_,0,rfl,?_⟩;replace h:=h.next j.out;obtain ⟨x,rfl⟩:=Int.eq_ofNat_of_zero_le l;refine an (R:=[]) trivial {} 20 ?_;refine mh (λy:DV × Option Addr × Nat × Option Addr × Nat × Nat=>[(0,.p m 0,0),(2,.p w.heap.size 0,0),(3,.p b 0,1),(4,.i (y.2.2.2.2.2:Nat),0)]) (λk y W=>y.2.2.2.2.2=k/\k<=4/\Dx n m D M r w w.heap.size b y.1 y.2.1 y.2.2.1 y.2.2.2.1 y.2.2.2.2.1 W/\lm y.1 (16-k) 4000) x (a,a1,c1,a2,c2,x) ba ba ⟨rfl,ab,h,i.up ab ab⟩ ?_;clear h i j;rintro k ⟨a,a1,c1,a2,c2,I⟩ W ⟨w0,B,h,i⟩ J t;dsimp only at w0 B h i;subst w0;cases I with
 | zero =>have d:decide (0<((0:Nat):Int))=false:=bc;refine an (R:=[]) trivial {eq:=[(23,ak d)]} 8 ?_;exact af _ _ (e4 c _ _ _ _ _ _ h (i.up ab ab))
 | succ k =>have d:decide (0<((k+1:Nat):Int))=true:=ef;have F:IntKind.i64.wrap (((k+1:Nat):Int)-1)=((k:Nat):Int):=kp;refine aJ (Dx n m D M r w w.heap.size b a a1 c1 a2 c2) ?_;refine an (R:=[]) trivial {eq:=[(23,ak d)]} 60 ?_;refine lJ 6 ?_;refine aW Dx.eng {} 30 h.drew (λW k=>kF c W k.cur) ?_;rintro L e g o ⟨y,rfl,N,j⟩;refine ⟨_,0,rfl,λ_=>o.next j.out,?_⟩;refine ae Dx.eng {} 30 (o.next j.out) λV cap=>?_;refine dM 0 (IG V (IntKind.u8.wrap y)) ?_ (hS:=λ_=>cap.below (bal _ _));obtain ⟨f,q,X,E,A,H,s⟩:=cap.pushIn (by have:=i.l1;omega) (IntKind.u8.wrap y) 24;refine dM 0 (DT E) ?_;refine aJ (Dw X) ?_;refine ae OR {} 10 (Dw.refl _) λK u=>?_;obtain ⟨z,rfl⟩:=u;refine bM (iD (T:=24) (v:=.slice f (a.xs.length+1) q) ⟨(II X z _).trans A,(IJ X z _).trans H⟩ ba rfl) ?_;exact ou (R:=[]) trivial {eq:=[(25,dP .i64 F)]} 60 λp C=>t p _ k (⟨a.t,a.cm,a.so,a.xs++[IntKind.u8.wrap y],a.ys,a.ir⟩,f,q,a2,c2,k) ab (C.less ba) ⟨rfl,ab,s.dN z,(i.pushIn y).up ab ab⟩
theorem e2 (d:Code n D M P):Ej n m D M r w b 2 12 4000:=by
 intro a a1 c1 a2 c2 W h f;refine aO (R:=[]) trivial {} 40 (bG d 6 bc W h.cur) ?_;rintro e V ⟨c,rfl,j⟩;refine ⟨_,0,rfl,?_⟩;replace h:=h.next j.out;cases c with
 | false =>refine an (R:=[]) trivial {} 3 ?_;exact af _ _ (e3 d _ _ _ _ _ _ h f)
 | true =>refine ct h.rows {} 40 (bJ (i:=1) (T:=22) (v:=.u 18446744073709551615) h.c.row (by simp [gh]) ba rfl) ?_;refine an (R:=[]) trivial {} 1 ?_;exact af _ _ (e3 d _ _ _ _ _ _ (h.cmp _) ⟨f.t,(show U 18446744073709551615 from ⟨bc,bc⟩),f.ir,f.by_,f.l1,f.l2⟩)
theorem OS (b:Code n D M P) (w:World) (q:lu n w m D M r):Calls prog 169 #[.p m 0] w λe j=>∃ (a:DV) (a1:Option Addr) (c1:Nat) (a2:Option Addr) (c2:Nat),e=.returned (.agg (gh a a1 c1 a2 c2))/\Hid (lm a 16 4096)/\Hid (bz w.heap.size j.heap.size j (vm a a1 c1 a2 c2))/\Hid (Cs n m D M r w j):=by
 refine bD (S:=λ_=>True) (args:=[.p m 0]) [(gh zeroD none 0 none 0,30)] func169 ?_;have d:=q.lt;have o:Cs n m D M r w (bT w [(gh zeroD none 0 none 0,30)]):=Cs.alloc q _;have u:=(Bs.start w [(gh zeroD none 0 none 0,30)]).1 0 _ rfl;have F:(bT w [(gh zeroD none 0 none 0,30)]).heap.size=w.heap.size+1:=by simp [bT]
 generalize bT w [(gh zeroD none 0 none 0,30)]=x at *;refine aO (R:=[]) trivial {} 40 (aB b 50 bc x o.1) ?_;rintro e A ⟨k,rfl,G,cap⟩;refine ⟨_,0,rfl,?_⟩;refine aO (R:=[]) trivial {} 40 (aB b 50 bc A cap.out.1) ?_;rintro e B ⟨l,rfl,H,s⟩;refine ⟨_,0,rfl,?_⟩;refine aO (R:=[]) trivial {} 40 (bG b 4 bc B s.out.1) ?_;rintro e C ⟨i,rfl,t⟩;refine ⟨_,0,rfl,?_⟩;refine aO (R:=[]) trivial {} 40 (aB b 2 bc C t.out.1) ?_;rintro e c ⟨w0,rfl,I,E⟩;refine ⟨_,0,rfl,?_⟩;have K:=cap.out.trans (s.out.trans (t.out.trans E.out));have p:=o.trans K;have v:=K.keep u ab;have J:=K.2.size;refine kz (R:=[]) trivial {} 10 1 (dQ (T:=30) (z:=.agg (gh zeroD none 0 none 0)) ba c) ?_;refine ct (R:=[]) trivial {} 10 (aD (ty:=30) (cells:=gh ⟨Uz.wrap k,Uz.wrap l,i,[],[],w0⟩ none 0 none 0) (heap_alloc_new c _) ba ba (fM _ _ _ _ _)) ?_;rw [World.setRow_alloc_new];have h:Dx n m D M r w w.heap.size c.heap.size ⟨Uz.wrap k,Uz.wrap l,i,[],[],w0⟩ none 0 none 0 (c.alloc (.cells (gh ⟨Uz.wrap k,Uz.wrap l,i,[],[],w0⟩ none 0 none 0) 30)):=
  ⟨⟨heap_alloc_new _ _,dj v _,p.trans (Cs.alloc p.1 _),d,ab,Nat.le_refl _⟩,lD _ _ _⟩
 refine an (R:=[]) trivial {} 1 ?_;exact af _ _ (e2 b _ _ _ _ _ _ h ⟨aT _,aT _,di,⟨λy f=>(nomatch f),λy f=>(nomatch f)⟩,Nat.zero_le _,Nat.zero_le _⟩)
structure Su (D:DV):Prop where
 t:U D.t
 cm:U D.cm
 ir:(Lit.int .i64 D.ir).wf=true
 by_:dW D
 l1:D.xs.length<=17
 l2:D.ys.length<=4097
theorem lm.any (h:lm c 16 4096):Su c:=⟨h.t,h.cm,by rcases h.ir with e|e<;>rw [e]<;>decide,h.by_,Nat.le_trans h.l1 ab,Nat.le_trans h.l2 ab⟩
structure Mf (M:MV):Prop where
 x:M.x.length=32
 ux:∀ j,U (M.x.getD j 0)
 cs:M.cs.length=22
 ucs:∀ j,U (M.cs.getD j 0)
 ram:M.ram.length=4096\/M.ram.length=8192
 bram:∀ y ∈ M.ram,(Lit.int .u8 y).wf=true
 d:lm M.d 16 4096
 pc:U M.pc
 hd:U M.hd
 pr:M.pr=0\/M.pr=1\/M.pr=3
theorem Mf.len (h:Mf p):kV p:=⟨by rw [h.x];omega,by rw [h.cs];omega,by rcases h.ram with e|e<;>rw [e]<;>omega,by have:=h.d.l1;omega,by have:=h.d.l2;omega⟩
structure Dm (w0:World) (g:Nat) (a:Option Addr) (n cap:Nat) (w:World) (r m:Nat) (M:MV) (A:MA) (wr:World):Prop where
 cu:Cs w0 g a n cap w wr
 res:wr.heap[r]?=some (.cells (aj aq zeroA) 32 (0,0))
 mp:Mp (r+1) m M A wr
 fit:Mf M
 gr:g<r
 wr_:w.heap.size<=r
 w0w:w0.heap.size<=w.heap.size
theorem Dm.cur {wr:World} (h:Dm n M D A b w r m p o wr):lu n wr M D A b:=h.cu.1
theorem Dm.next {wr:World} (h:Dm n M D A b w r m p o wr) (k:Cs n M D A b wr a):Dm n M D A b w r m p o a:=by have e:=h.gr;have f:=h.mp.lo;exact ⟨h.cu.trans k,k.keep h.res ab,⟨k.keep h.mp.row ab,(h.mp.fam.mono λj c d w0=>k.2.block j w0 bv).low (Nat.le_refl _) k.2.size,h.mp.ne,h.mp.lo⟩,h.fit,h.gr,h.wr_,h.w0w⟩
theorem Dm.below {wr:World} (h:Dm n g D M A w r m p o wr) (k:Bw wr a):Dm n g D M A w r m p o a:=h.next (Cs.of_below h.cu.1 k)
theorem Dm.step {wr:World} (h:Dm n M D A b w r m p o wr) {M':MV} {e:MA} (hb:Below (r+1) wr a) (cap:Mp (r+1) m M' e a) (f:Mf M'):Dm n M D A b w r m M' e a:=by have q:=h.gr;have t:=h.wr_;have g:=h.w0w;have s:=(Array.getElem?_eq_some_iff.1 h.res).1;obtain ⟨i,j,l,w0⟩:=h.cu.1.row;refine ⟨⟨⟨h.cu.1.new,?_,i,j,l,(hb.block M ab).trans w0⟩,⟨hb.os.trans h.cu.2.os,hb.tape.trans h.cu.2.tape,hb.output.trans h.cu.2.output,Nat.le_trans h.cu.2.size hb.size,λk c d=>(hb.block k ab).trans (h.cu.2.block k c d)⟩⟩,(hb.block r ab).trans h.res,cap,f,h.gr,h.wr_,h.w0w⟩;exact ⟨hb.os.trans h.cu.1.below.os,hb.tape.trans h.cu.1.below.tape,hb.output.trans h.cu.1.below.output,Nat.le_trans h.cu.1.below.size hb.size,λk c=>(hb.block k ab).trans (h.cu.1.below.block k c)⟩
theorem Dm.setX {wr:World} (h:Dm n M D A b w r m p o wr) (w0:Nat) (hb:o.ax=some ⟨w0,0,none⟩) (i:Nat) (hv:U e):Dm n M D A b w r m (xM p (p.x.set i e)) o (wr.setCell ⟨w0,i,none⟩ (.u e)):=
 h.step (h.mp.setX w0 hb i e).2 (h.mp.setX w0 hb i e).1 ⟨by simp [xM,h.fit.x],GX h.fit.ux i hv,h.fit.cs,h.fit.ucs,h.fit.ram,h.fit.bram,h.fit.d,h.fit.pc,h.fit.hd,h.fit.pr⟩
theorem Dm.setC {wr:World} (h:Dm n M D A b w r m p o wr) (w0:Nat) (hb:o.ac=some ⟨w0,0,none⟩) (i:Nat) (hv:U e):Dm n M D A b w r m (cM p (p.cs.set i e)) o (wr.setCell ⟨w0,i,none⟩ (.u e)):=
 h.step (h.mp.setC w0 hb i e).2 (h.mp.setC w0 hb i e).1 ⟨h.fit.x,h.fit.ux,by simp [cM,h.fit.cs],GX h.fit.ucs i hv,h.fit.ram,h.fit.bram,h.fit.d,h.fit.pc,h.fit.hd,h.fit.pr⟩
theorem Dm.atX {wr:World} (h:Dm n M D A b w r m p o wr):∃ w0 c,o.ax=some ⟨w0,0,none⟩/\o.cx=c/\wr.cell? ⟨m,1,none⟩=some (.slice (some ⟨w0,0,none⟩) 32 c)/\(∀ j,j<32->wr.cell? ⟨w0,j,none⟩=some (.u (p.x.getD j 0))/\wr.frozen? ⟨w0,j,none⟩=false):=by
 have d:=h.mp.xrow;rw [h.fit.x] at d;obtain ⟨w0,c,e,k⟩:=jV d ab;simp only [Value.slice.injEq,true_and] at e;obtain ⟨f,e2⟩:=e;have i:=h.mp.row;refine ⟨w0,c,f,e2,?_,λj l=>?_⟩;·simp [World.cell?,i,aj,f,e2,h.fit.x]
 ·rw [f] at d;refine ⟨?_,d.frozenAt j⟩;rw [d.cellAt j ab];have a:=h.fit.x;rw [List.getElem?_map,List.getElem?_eq_getElem (show j<p.x.length by omega),List.getD_eq_getElem?_getD,List.getElem?_eq_getElem (show j<p.x.length by omega)];rfl
theorem Dm.atC {wr:World} (h:Dm n M D A b w r m p o wr):∃ w0 c,o.ac=some ⟨w0,0,none⟩/\o.cc=c/\wr.cell? ⟨m,3,none⟩=some (.slice (some ⟨w0,0,none⟩) 22 c)/\(∀ j,j<22->wr.cell? ⟨w0,j,none⟩=some (.u (p.cs.getD j 0))/\wr.frozen? ⟨w0,j,none⟩=false):=by
 have d:=h.mp.crow;rw [h.fit.cs] at d;obtain ⟨w0,c,e,k⟩:=jV d ab;simp only [Value.slice.injEq,true_and] at e;obtain ⟨f,e2⟩:=e;have i:=h.mp.row;refine ⟨w0,c,f,e2,?_,λj l=>?_⟩;·simp [World.cell?,i,aj,f,e2,h.fit.cs]
 ·rw [f] at d;refine ⟨?_,d.frozenAt j⟩;rw [d.cellAt j ab];have a:=h.fit.cs;rw [List.getElem?_map,List.getElem?_eq_getElem (show j<p.cs.length by omega),List.getD_eq_getElem?_getD,List.getElem?_eq_getElem (show j<p.cs.length by omega)];rfl
theorem Dm.setF {M':MV} {wr:World} (h:Dm n M D A b w r m p o wr) (i:Nat) (v:Value) (w0:aj M' o=(aj p o).setIfInBounds i v) (c:aH M' o=aH p o) (fit:Mf M'):Dm n M D A b w r m M' o (wr.setCell ⟨m,i,none⟩ v):=
 h.step (h.mp.setF i v w0 c).2 (h.mp.setF i v w0 c).1 fit
theorem Dm.dev {wr:World} (h:Dm n M D A b w r m p o wr) (k:Cs n M D A b wr a) (wx:DV) (a1:Option Addr) (c1:Nat) (a2:Option Addr) (c2:Nat) (t:lm wx 16 4096) (hd:bz wr.heap.size a.heap.size a (vm wx a1 c1 a2 c2)): Dm n M D A b w r m (dc p wx) (kC o a1 c1 a2 c2) (a.setRow m (aj (dc p wx) (kC o a1 c1 a2 c2))):=by
 have g:=h.next k;have u:=h.mp.lo;have v:=h.mp.lt;have l:∀ q ∈ aH (dc p wx) (kC o a1 c1 a2 c2),q.v.ownBlock≠some m:=by
  intro q c e;simp only [aH,List.mem_cons,List.not_mem_nil,or_false] at c;have i:∀ q ∈ vm wx a1 c1 a2 c2,q.v.ownBlock≠some m:=λq c e=>by have:=(hd.own q c).lt _ e;omega
  rcases c with rfl|rfl|rfl|rfl|rfl;·exact h.mp.ne (aK o.ax p.x.length o.cx p.x) dv e
  ·exact h.mp.ne (aK o.ac p.cs.length o.cc p.cs) dv e
  ·exact h.mp.ne (aF o.ar p.ram.length o.cr p.ram) dv e
  ·exact i (aF a1 wx.xs.length c1 wx.xs) (by simp [vm,gj]) e
  ·exact i (aF a2 wx.ys.length c2 wx.ys) (by simp [vm,gj]) e
 have cap:bz (r+1) wr.heap.size a [aK o.ax p.x.length o.cx p.x,aK o.ac p.cs.length o.cc p.cs,aF o.ar p.ram.length o.cr p.ram]:=by have z:=h.gr;have:=(h.mp.fam.mono (w':=a) λj x y s=>k.2.block j s bv);exact this.sub (by simp [aH,List.Sublist.refl])
 have d:=cap.app hd ab k.2.size;have w0:bz (r+1) a.heap.size a (aH (dc p wx) (kC o a1 c1 a2 c2)):=d;have f:Below (r+1) a (a.setRow m (aj (dc p wx) (kC o a1 c1 a2 c2))):=aS (Below.refl _ _) ab _;refine g.step f ⟨setRow_heap a m _ _ _ _ g.mp.row,?_,l,h.mp.lo⟩ ⟨h.fit.x,h.fit.ux,h.fit.cs,h.fit.ucs,h.fit.ram,h.fit.bram,t,h.fit.pc,h.fit.hd,h.fit.pr⟩;rw [setRow_size];exact ⟨λq c=>eu (w0.own q c) (λj e=>setRow_other a m j _ (λe2=>l q c (by rw [e,e2]))),w0.hi,w0.ne⟩
def cA (A:MA) (b c:Nat):MA:={A with ac:=some ⟨b,0,none⟩,cc:=c}
theorem Dm.csrs {wr:World} (h:Dm n M D A b w r m p o wr) (k:Cs n M D A b wr a) (zs:List Int) (v:∀ j,U (zs.getD j 0)) (l:a.ownsRow wr.heap.size 22 1 (.slice (some ⟨wr.heap.size,0,none⟩) 22 22) 22 (zs.map (Value.int .u64))): Dm n M D A b w r m (cM p zs) (cA o wr.heap.size 22) (a.setCell ⟨m,3,none⟩ (.slice (some ⟨wr.heap.size,0,none⟩) 22 22)):=by
 have w0:zs.length=22:=by have:=l.1;simpa using this
 have g:=h.next k;have t:=h.mp.lo;have u:=h.mp.lt;have z:=h.gr;have i:bz (r+1) wr.heap.size a ([aK o.ax p.x.length o.cx p.x]++[aF o.ar p.ram.length o.cr p.ram,aF o.ai p.d.xs.length o.ci p.d.xs,aF o.ao p.d.ys.length o.co p.d.ys]):=by have:=(h.mp.fam.mono (w':=a) λj x y s=>k.2.block j s bv);exact this.sub dv
 have d:=i.ins (q:=aK (some ⟨wr.heap.size,0,none⟩) zs.length 22 zs) (E':=a.heap.size) (by simp only [aK];rw [w0];exact l) ab (Nat.le_refl _) k.2.size;have c:bz (r+1) a.heap.size a (aH (cM p zs) (cA o wr.heap.size 22)):=d;have f:∀ q ∈ aH (cM p zs) (cA o wr.heap.size 22),q.v.ownBlock≠some m:=by
  intro q cap e;simp only [aH,List.mem_cons,List.not_mem_nil,or_false] at cap;rcases cap with rfl|rfl|rfl|rfl|rfl;·exact h.mp.ne (aK o.ax p.x.length o.cx p.x) dv e
  ·simp only [aK,cA,Value.ownBlock,Option.some.injEq] at e;omega
  ·exact h.mp.ne (aF o.ar p.ram.length o.cr p.ram) dv e
  ·exact h.mp.ne (aF o.ai p.d.xs.length o.ci p.d.xs) dv e
  ·exact h.mp.ne (aF o.ao p.d.ys.length o.co p.d.ys) dv e
 refine g.step ⟨rfl,rfl,rfl,ek,λj B=>Below.heap_setCell _ _ _ j di⟩ ⟨?_,Mp.fam_set c f 3 _,f,h.mp.lo⟩ ⟨h.fit.x,h.fit.ux,w0,v,h.fit.ram,h.fit.bram,h.fit.d,h.fit.pc,h.fit.hd,h.fit.pr⟩;have:=bH g.mp.row 3 (.slice (some ⟨wr.heap.size,0,none⟩) 22 22);rw [this];simp [aj,cM,cA,w0]
def nY (ram:List Int):MV:=⟨2147483648,List.replicate 32 0,3,List.replicate 22 0,ram,zeroD,0,false,false⟩
def Bh (ram:List Int):MV:=if bf ram.length=true then cL (nY ram) else aq
theorem RD (a:n.ownsRow w.heap.size 22 1 (.slice (some ⟨w.heap.size,0,none⟩) m m) m (madeCells (Value.int .u64 0).cells (m*1)).toList):n.ownsRow w.heap.size 22 1 (.slice (some ⟨w.heap.size,0,none⟩) m m) m ((List.replicate m (0:Int)).map (Value.int .u64)):=by rw [List.map_replicate,<- toList_madeCells_one];simpa [Value.cells] using a
theorem OT (n:Region.wanted z s=true) (m:Nat) (l c:Operand) (d:z.op=Op.makeSlice 23 l c) (hl:E.eval l=.i m) (i:E.eval c=.i m) (hm:m<=1048576) (h:∀ W',W'.ownsRow W.heap.size 22 1 (.slice (some ⟨W.heap.size,0,none⟩) m m) m ((List.replicate m (0:Int)).map (Value.int .u64))->Bw W W'->y (E.put z.dst (.slice (some ⟨W.heap.size,0,none⟩) m m)) W'): if Region.wanted z s=true then Oper.wp prog z E W y L else y (E.put z.dst undef) W:=by obtain ⟨i0,j,e,f,g⟩:=info_parts Bq;obtain ⟨r,b,p,q⟩:=run_make_full (P:=prog) W W.heap.size 23 22 i0 (.u 0) 1 underlying23 j e f .i64 .i64 m (by rw [g];omega) et (Nat.le_refl _);rw [if_pos n];unfold Oper.wp;simp [execOp,d,hl,i,b,Result.andThen];exact h _ (RD p) ((Below.refl _ _).grown q (Nat.le_refl _) tk)
theorem OU (d:W.ownsRow 0 5 1 (.slice (some ⟨T,0,none⟩) 0 0) 0 []) (ad:Addr) (m c:Nat) (zs:List Int) (hz:zs.length=m) (E:0<m) (hm:m<=1048576) (w:Sl .u8 W (some ad) zs): ∃ (k:Nat) (W':World),(Builtin.append_ #[24,24] J #[.slice (some ⟨T,0,none⟩) 0 0,.slice (some ad) m c]).run prog W=.ok (.slice (some ⟨W.heap.size,0,none⟩) m k) W'/\W'.ownsRow W.heap.size 5 1 (.slice (some ⟨W.heap.size,0,none⟩) m k) m (zs.map (Value.int .u8))/\Bw W W':=by
 obtain ⟨i0,x,f,i,l⟩:=info_parts info5;have a:∀ j u,(zs.map (Value.int .u8))[j]?=some u->W.cell? (ad.add j)=some u:=by
  intro j u n;have s:j<zs.length:=by
   rcases Nat.lt_or_ge j zs.length with h|h;·exact h
   ·rw [List.getElem?_eq_none eo] at n;cases n
  obtain ⟨b,C,e,_,z⟩:=w j s;cases e;rw [zB,z];rw [List.getElem?_map,List.getElem?_eq_getElem s] at n;rw [List.getD_eq_getElem?_getD,List.getElem?_eq_getElem s];exact n
 have B:(zs.map (Value.int .u8)).length=m*i0.size:=by rw [List.length_map,hz,i];omega
 obtain ⟨H,I,t,p,F,G⟩:=run_append_own (P:=prog) W 0 24 J 5 i0 (.int .u8 0) 1 1 underlying24 x f i l rfl bc _ 0 [] d ad m c (zs.map (Value.int .u8)) (by rw [List.length_map,hz];omega) a (ints_oneCell _ _) et ab (Nat.zero_le _);have q:=run_append_grow (P:=prog) W 24 J 5 i0 (.int .u8 0) underlying24 x f ⟨T,0,none⟩ 0 0 [] cp (λj v h=>by simp at h) ad m c (zs.map (Value.int .u8)) B a ab ab (growslice_fits ab (by rw [l];omega));rw [q] at t;simp only [Nat.zero_add,List.nil_append] at p t q;injection t with e1 e2
 subst e1;subst e2;refine ⟨_,_,q,?_,(Below.refl _ _).drew.alloc (by exact Nat.le_refl _) _⟩;refine ⟨p.1,?_⟩;rcases p.2 with ⟨e,D⟩|⟨y,cap,o,e,A,r⟩;·cases e
 ·refine .inr ⟨y,cap,o,e,?_,r⟩;simp only [Value.slice.injEq,Option.some.injEq,Addr.mk.injEq] at e;omega
theorem OV (n:Region.wanted z s=true) (ys x:Operand) (d:z.op=.call {callee:=.builtin .append,args:=#[ys,x],argTypes:=#[24,24]}) (g:Nat) (hs:E.eval ys=.slice (some ⟨g,0,none⟩) 0 0) (ad:Addr) (m c:Nat) (zs:List Int) (hx:E.eval x=.slice (some ad) m c) (b:W.ownsRow 0 5 1 (.slice (some ⟨g,0,none⟩) 0 0) 0 []) (hz:zs.length=m) (f:0<m) (hm:m<=1048576) (e:Sl .u8 W (some ad) zs) (h:∀ k W',W'.ownsRow W.heap.size 5 1 (.slice (some ⟨W.heap.size,0,none⟩) m k) m (zs.map (Value.int .u8))->Bw W W'->y (E.put z.dst (.slice (some ⟨W.heap.size,0,none⟩) m k)) W'): if Region.wanted z s=true then Oper.wp prog z E W y L else y (E.put z.dst undef) W:=by obtain ⟨k,W',l,i,j⟩:=OU z.type g b ad m c zs hz f hm e;rw [if_pos n];unfold Oper.wp execOp;simp only [d,resolve,invoke,builtin,Sem.run_bind,Sem.run_pure,Result.andThen_ok,List.map_toArray,List.map_cons,List.map_nil,hs,hx,l];exact h _ _ i j
theorem RE (h:O.length<=1048576):kV (nY O):=⟨by simp [nY],by simp [nY],h,by simp [nY,zeroD],by simp [nY,zeroD]⟩
theorem KJ (h:bf m=true):0<m:=by
 rcases Nat.eq_zero_or_pos m with a|a;·subst a;revert h;decide
 ·exact a
theorem Gq {L:List FRow} (h:bz B m w L) (g:Nat) (b:∀ q ∈ L,q.v.ownBlock≠some g) (cs:Array Value):bz B m (w.setRow g cs) L :=
 ⟨λr a=>eu (h.own r a) (λk e=>setRow_other w g k cs (λe2=>b r a (by rw [<- e2];exact e))),h.hi,h.ne⟩
theorem Gr (h:Below B n w) (b:B<=m) (cs:Array Value):Below B n (w.setRow m cs):=
 ⟨h.os,h.tape,h.output,by rw [setRow_size];exact h.size,λk a=>(setRow_other w m k cs ab).trans (h.block k a)⟩
theorem Bi (parts:Array (Nat × Operand)) (c:z.op=.build J parts) (vs:List (Nat × Value)) (hv:parts.toList.map (λp=>(p.1,E.eval p.2))=vs) (cells:Array Value) (h:f.built J vs=some cells):(execOp E.eval z).run f w=.ok (.value (.agg cells)) w:=by
 have b:(parts.map λ(i,x)=>(i,E.eval x)).toList=vs:=by rw [Array.toList_map];exact hv
 subst b;clear hv;unfold execOp;simp only [c,Sem.run_bind,run_build w J _ cells h,Result.andThen_ok];rfl
def yp (b a vr:Value):Array Value:=#[.u 2147483648,b,.i 3,a,vr,.u 0,.u 0,.bool false,.slice none 0 0,.slice none 0 0,.i 0,.u 0,.bool false,.bool false]
def Zs (B:Nat) (W:World) (m:Nat) (v:Value):Prop:=∃ a,v=.slice a m m/\W.ownsRow B 22 1 (.slice a m m) m ((List.replicate m (0:Int)).map (Value.int .u64))
structure KQ (B n:Nat) (ram:List Int) (W:World) (vx vc vr:Value):Prop where
 x:Zs B W 32 vx
 c:Zs B W 22 vc
 r:W.ownsRow B 5 1 vr n (ram.map (Value.int .u8))
def Sw (B n cap:Nat) (ad:Addr) (ram:List Int) (W:World):Nat->List Value->Prop
 | 0,[v]=>Zs B W 32 v
 | 1,[v]=>Zs B W 22 v
 | 2,[v]=>∃ g,v=.slice (some ⟨g,0,none⟩) 0 0/\W.ownsRow 0 5 1 (.slice (some ⟨g,0,none⟩) 0 0) 0 []
 | 3,[v]=>v=.slice (some ad) n cap
 | 4,[v]=>W.ownsRow B 5 1 v n (ram.map (Value.int .u8))
 | 5,[v]=>∃ c a b,v=.agg (yp c a b)/\KQ B n ram W c a b
 | 6,[v]=>∃ r d,v=.p r 0/\B<=r/\W.heap[r]?=some (.cells d 32 (0,0))/\d.size=14
 | 7,[p]=>∃ r c a b,p=.p r 0/\B<=r/\W.heap[r]?=some (.cells (yp c a b) 32 (0,0))/\KQ B n ram W c a b
 | _,_=>True
def Xe:Nat->List Nat
 | 7=>[6]
 | i=>[i]
theorem Gs (ac ar:Option Addr) (n cr:Nat):prog.built 32 [(0,.u 2147483648),(1,.slice I 32 32),(2,.i 3),(3,.slice ac 22 22),(4,.slice ar n cr)]=some (yp (.slice I 32 32) (.slice ac 22 22) (.slice ar n cr)):=by kernel_rfl
theorem rI (ys:Nat->Option Bool) (b:Region.wanted z ys=true) (h:if Region.wanted z ys=true then Oper.wp f z E W y L else y (E.put z.dst undef) W):z.wp f E W y L:=by rwa [if_pos b] at h
theorem rJ (h:W.ownsRow B Q 1 j m N) (hk:∀ (g:Nat) (b:Array Value),W.heap[g]?=some (.cells b Q (0,0))->n.heap[g]?=some (.cells b Q (0,0))):n.ownsRow B Q 1 j m N:=by
 refine ⟨h.1,?_⟩;rcases h.2 with d|⟨g,cap,a,c,e2,e3,e4⟩;·exact .inl d
 ·exact .inr ⟨g,cap,a,c,e2,hk g a e3,e4⟩
theorem Zs.kept (h:Zs B W m j) (hk:∀ (g:Nat) (b:Array Value),W.heap[g]?=some (.cells b 22 (0,0))->n.heap[g]?=some (.cells b 22 (0,0))):Zs B n m j:=by obtain ⟨a,e,h⟩:=h;exact ⟨a,e,rJ h hk⟩
theorem KQ.kept (h:KQ B m P W j k K) (hk:∀ (g:Nat) (a:Array Value) (t:TypeId),t≠32->W.heap[g]?=some (.cells a t (0,0))->n.heap[g]?=some (.cells a t (0,0))):KQ B m P n j k K :=
 ⟨h.x.kept (λg a=>hk g a _ bc),h.c.kept (λg a=>hk g a _ bc),rJ h.r (λg a=>hk g a _ bc)⟩
theorem DU (hk:∀ (g:Nat) (a:Array Value) (t:TypeId),t≠32->W.heap[g]?=some (.cells a t (0,0))->n.heap[g]?=some (.cells a t (0,0))) (hm:∀ (g:Nat) (a:Array Value),W.heap[g]?=some (.cells a 32 (0,0))->∃ b:Array Value,n.heap[g]?=some (.cells b 32 (0,0))/\b.size=a.size/\(b=a\/∃ f c d,b=yp f c d/\KQ B m P n f c d)): ∀ j l,Sw B m M V P W j l->Sw B m M V P n j l:=by
 intro j l h;unfold Sw at h ⊢;split;·exact h.kept (λg a=>hk g a _ bc)
 ·exact h.kept (λg a=>hk g a _ bc)
 ·obtain ⟨g,e,h⟩:=h;exact ⟨g,e,rJ h (λg a=>hk g a _ bc)⟩
 ·exact h
 ·exact rJ h (λg a=>hk g a _ bc)
 ·obtain ⟨f,c,d,e,h⟩:=h;exact ⟨f,c,d,e,h.kept hk⟩
 ·obtain ⟨r,a,e,k,cap,s⟩:=h;obtain ⟨b,i,u,_⟩:=hm r a cap;exact ⟨r,b,e,k,i,ab⟩
 ·obtain ⟨r,f,c,d,e,k,cap,s⟩:=h;obtain ⟨b,i,u,v⟩:=hm r _ cap;rcases v with rfl|⟨q,o,p,rfl,w⟩;·exact ⟨r,f,c,d,e,k,i,s.kept hk⟩
  ·exact ⟨r,q,o,p,e,k,i,w⟩
 ·trivial
theorem nj (hb:Bw W n):∀ j l,Sw B m M V P W j l->Sw B m M V P n j l:=by
 have h:∀ (g:Nat) (o:Obj),W.heap[g]?=some o->n.heap[g]?=some o:=λg o e=>by rw [hb.block g (Array.getElem?_eq_some_iff.1 e).1];exact e
 exact DU (λg a t _ e=>h g _ e) (λg a e=>⟨a,h g _ e,rfl,.inl rfl⟩)
theorem RG {cap:Nat} {ad:Addr} (hr:W.heap[r]?=some (.cells R 32 (0,0))) (hs:R.size=14) (i:KQ B m P W j k K): KQ B m P (W.setRow r (yp j k K)) j k K/\∀ b l,Sw B m cap ad P W b l->Sw B m cap ad P (W.setRow r (yp j k K)) b l:=by
 have h:∀ (g:Nat) (c:Array Value) (t:TypeId),t≠32->W.heap[g]?=some (.cells c t (0,0))->(W.setRow r (yp j k K)).heap[g]?=some (.cells c t (0,0)):=by
  intro g c t a e;rw [setRow_other W r g _ (λe2=>?_)];·exact e
  ·subst e2;rw [hr] at e;simp only [Option.some.injEq,Obj.cells.injEq] at e;exact a e.2.1.symm
 have d:=i.kept h;refine ⟨d,DU h (λg c e=>?_)⟩;by_cases f:g=r;·subst f;rw [hr] at e;simp only [Option.some.injEq,Obj.cells.injEq,and_true] at e;subst e;exact ⟨_,setRow_heap _ _ _ _ _ _ hr,by rw [hs];rfl,.inr ⟨j,k,K,rfl,d⟩⟩
 ·exact ⟨c,by rw [setRow_other W r g _ f];exact e,rfl,.inl rfl⟩
theorem qq (h:W.ownsRow B Q 1 j m N):∃ a c,j=.slice a m c:=by
 rcases h.2 with ⟨b,e⟩|⟨g,cap,d,b,_⟩;·exact ⟨none,0,by rw [b,e]⟩
 ·exact ⟨_,_,b⟩
theorem KQ.one (h:KQ B m P W j k K):(yp j k K).all (·.oneCell')=true:=by obtain ⟨e,rfl,_⟩:=h.x;obtain ⟨c,rfl,_⟩:=h.c;obtain ⟨d,f,rfl⟩:=qq h.r;kernel_rfl
theorem Gt {k:Nat} (h:W.ownsRow B Q 1 (.slice D m M) m N) (hk:(Value.slice D m M).ownBlock=some k):∃ e,W.heap[k]?=some (.cells e Q (0,0))/\e.size=M:=by
 rcases h.2 with ⟨d,_⟩|⟨g,cap,b,d,_,f,_,_,i,_⟩;·rw [d] at hk;cases hk
 ·cases d;cases hk;exact ⟨b,f,ab⟩
theorem KQ.fam (h:KQ B m P W j k K) (hr:W.heap[r]?=some (.cells R 32 (0,0))): ∃ C:MA,j=.slice C.ax 32 C.cx/\k=.slice C.ac 22 C.cc/\K=.slice C.ar m C.cr/\C.ai=none/\C.ci=0/\C.ao=none/\C.co=0/\bz B W.heap.size W [aK C.ax 32 C.cx (List.replicate 32 0),aK C.ac 22 C.cc (List.replicate 22 0),aF C.ar m C.cr P,aF none 0 0 [],aF none 0 0 []]/\(∀ q ∈ [aK C.ax 32 C.cx (List.replicate 32 0),aK C.ac 22 C.cc (List.replicate 22 0),aF C.ar m C.cr P,aF none 0 0 [],aF none 0 0 []],q.v.ownBlock≠some r):=by
 obtain ⟨H,rfl,A⟩:=h.x;obtain ⟨F,rfl,z⟩:=h.c;obtain ⟨G,I,e⟩:=qq h.r;have v:=h.r;rw [e] at v;have g:∀ (D:Nat) (R p:Array Value) (t u:TypeId),W.heap[D]?=some (.cells R t (0,0))->W.heap[D]?=some (.cells p u (0,0))->t=u/\R=p:=by intro D R p t u a d;rw [a] at d;simp only [Option.some.injEq,Obj.cells.injEq] at d;exact ⟨d.2.1,d.1⟩
 have w:=λD=>Gt (k:=D) A;have o:=λD=>Gt (k:=D) z;have n:=λD=>Gt (k:=D) v;have x:∀ (D:Nat) (R:Array Value) (t:TypeId),W.heap[D]?=some (.cells R t (0,0))->D<W.heap.size:=λD R t h=>(Array.getElem?_eq_some_iff.1 h).1;refine ⟨⟨H,32,F,22,G,I,none,0,none,0⟩,rfl,rfl,e,rfl,rfl,rfl,rfl,⟨λq b=>?_,λq b D i=>?_,?_⟩,λq b E=>?_⟩
 ·simp only [List.mem_cons,List.not_mem_nil,or_false] at b;rcases b with rfl|rfl|rfl|rfl|rfl;·exact A
  ·exact z
  ·exact v
  ·exact ⟨rfl,.inl ⟨rfl,rfl⟩⟩
  ·exact ⟨rfl,.inl ⟨rfl,rfl⟩⟩
 ·simp only [List.mem_cons,List.not_mem_nil,or_false] at b;rcases b with rfl|rfl|rfl|rfl|rfl;·obtain ⟨_,a,_⟩:=w D i;exact x _ _ _ a
  ·obtain ⟨_,a,_⟩:=o D i;exact x _ _ _ a
  ·obtain ⟨_,a,_⟩:=n D i;exact x _ _ _ a
  ·cases i
  ·cases i
 ·simp only [List.pairwise_cons,List.mem_cons,List.not_mem_nil,or_false];refine ⟨λs c D f e2=>?_,λs c D f e2=>?_,λs c D f e2=>?_,λs c D f=>(by cases f),λs c=>c.elim,List.Pairwise.nil⟩
  ·obtain ⟨_,a,d⟩:=w D f;rcases c with rfl|rfl|rfl|rfl;·obtain ⟨_,l,y⟩:=o D e2;rw [(g _ _ _ _ _ a l).2] at d;omega
   ·obtain ⟨_,l,y⟩:=n D e2;exact absurd (g _ _ _ _ _ a l).1 bc
   ·cases e2
   ·cases e2
  ·obtain ⟨_,a,d⟩:=o D f;rcases c with rfl|rfl|rfl;·obtain ⟨_,l,y⟩:=n D e2;exact absurd (g _ _ _ _ _ a l).1 bc
   ·cases e2
   ·cases e2
  ·rcases c with rfl|rfl;·cases e2
   ·cases e2
 ·simp only [List.mem_cons,List.not_mem_nil,or_false] at b;rcases b with rfl|rfl|rfl|rfl|rfl;·obtain ⟨_,a,_⟩:=w r E;exact absurd (g _ _ _ _ _ a hr).1 bc
  ·obtain ⟨_,a,_⟩:=o r E;exact absurd (g _ _ _ _ _ a hr).1 bc
  ·obtain ⟨_,a,_⟩:=n r E;exact absurd (g _ _ _ _ _ a hr).1 bc
  ·cases E
  ·cases E
theorem qr (ram:List Int) (w:World) (hz:ram.length=T) (hn:T<=1048576) (hs:Sl .u8 w I ram): Calls prog 168 #[.slice I T X] w λe d=>∃ C:MA,e=.returned (.tuple #[.agg (aj (Bh ram) C),.bool (bf T)])/\bz w.heap.size d.heap.size d (aH (Bh ram) C)/\Bw w d:=by
 have B0:Bw w (w.alloc (.cells #[.u 0,.slice none 0 0,.i 0,.slice none 0 0,.slice none 0 0,.u 0,.u 0,.bool false,.slice none 0 0,.slice none 0 0,.i 0,.u 0,.bool false,.bool false] 32)):=bal _ _;have rb:(w.alloc (.cells #[.u 0,.slice none 0 0,.i 0,.slice none 0 0,.slice none 0 0,.u 0,.u 0,.bool false,.slice none 0 0,.slice none 0 0,.i 0,.u 0,.bool false,.bool false] 32)).heap[w.heap.size]?=some (.cells #[.u 0,.slice none 0 0,.i 0,.slice none 0 0,.slice none 0 0,.u 0,.u 0,.bool false,.slice none 0 0,.slice none 0 0,.i 0,.u 0,.bool false,.bool false] 32):=heap_alloc_new _ _;obtain ⟨Q,G⟩:∃ Q:World->Prop,Q=λW=>Below (w.heap.size+1) (w.alloc (.cells #[.u 0,.slice none 0 0,.i 0,.slice none 0 0,.slice none 0 0,.u 0,.u 0,.bool false,.slice none 0 0,.slice none 0 0,.i 0,.u 0,.bool false,.bool false] 32)) W:=⟨_,rfl⟩;have n:Hid (∀ W W',Q W->Bw W W'->Q W'):=by rw [G];exact λW W' h p=>h.trans (p.mono (by have:=h.size;simp only [World.size_alloc] at this;omega))
 have PU:Hid (∀ W g,Q W->w.heap.size+1<=g->∀ cs,Q (W.setRow g cs)):=by rw [G];exact λW g h hg=>Gr h hg
 have PE:Hid (∀ W,Q W->Bw w W):=by rw [G];exact λW h=>B0.trans (h.mono ab)
 have PZ:Hid (∀ W,Q W->w.heap.size+1<=W.heap.size):=by rw [G];exact λW h=>by have:=h.size;simp only [World.size_alloc] at this;omega
 have PR:Hid (∀ W,Q W->W.heap[w.heap.size]?=some (.cells #[.u 0,.slice none 0 0,.i 0,.slice none 0 0,.slice none 0 0,.u 0,.u 0,.bool false,.slice none 0 0,.slice none 0 0,.i 0,.u 0,.bool false,.bool false] 32)):=by rw [G];exact λW h=>(h.block _ ab).trans rb
 have PK:Hid (∀ W W' L B E,Q W->jz L W W'->bz B E W L->w.heap.size+1<=B->Q W'):=by rw [G];exact λW W' L B E h k f U=>h.trans ((k.keep f).below U (by have:=h.size;simp only [World.size_alloc] at this;omega))
 have q0:Q (w.alloc (.cells #[.u 0,.slice none 0 0,.i 0,.slice none 0 0,.slice none 0 0,.u 0,.u 0,.bool false,.slice none 0 0,.slice none 0 0,.i 0,.u 0,.bool false,.bool false] 32)):=by rw [G];exact Below.refl _ _
 have KS:Hid (∀ d,Q d->Q d):=λd h=>h;have z:Hid (∀ w,CE 59 #[.slice I T X] w (.bool (bf T))):=λw=>pN _ _ _ w hn;have Z:Hid (∀ w,Calls prog 221 #[] w λe d=>e=.returned (.slice (some ⟨w.heap.size,0,none⟩) 22 22)/\d.ownsRow w.heap.size 22 1 (.slice (some ⟨w.heap.size,0,none⟩) 22 22) 22 ((List.replicate 22 (0:Int)).map (Value.int .u64))/\Bw w d):=nU;have cap:Hid (∀ (C:MA) (b B E:Nat) (d:World),d.heap[b]?=some (.cells #[.u 2147483648,.slice C.ax 32 C.cx,.i 3,.slice C.ac 22 C.cc,.slice C.ar T C.cr,.u 0,.u 0,.bool false,.slice C.ai 0 C.ci,.slice C.ao 0 C.co,.i 0,.u 0,.bool false,.bool false] 32 (0,0))->bz B E d (aH (nY ram) C)->(∀ q ∈ aH (nY ram) C,q.v.ownBlock≠some b)->Calls prog 121 #[.p b 0] d λe S=>e=.returned (.tuple #[])/\S.heap[b]?=some (.cells #[.u 2147483648,.slice C.ax 32 C.cx,.i 3,.slice C.ac 22 C.cc,.slice C.ar T C.cr,.u 0,.u 0,.bool false,.slice C.ai 0 C.ci,.slice C.ao 0 C.co,.i 0,.u 0,.bool false,.bool false] 32 (0,0))/\bz B E S (aH (cL (nY ram)) C)/\jz (aH (nY ram) C) d S):=λC b B E d D hf p=>by subst hz;have h2:=vC (nY ram) C b B E d rfl (RE ram hn) D hf p;rw [vB] at h2;exact h2
 have Y:Hid (∀ C:MA,aj (cL (nY ram)) C=#[.u 2147483648,.slice C.ax 32 C.cx,.i 3,.slice C.ac 22 C.cc,.slice C.ar T C.cr,.u 0,.u 0,.bool false,.slice C.ai 0 C.ci,.slice C.ao 0 C.co,.i 0,.u 0,.bool false,.bool false]):=λC=>by subst hz;exact (vB (nY ram) C).trans rfl
 obtain ⟨V,hV⟩:∃ V,V=Bh ram:=⟨_,rfl⟩;rw [<- hV];clear G rb;cases s:bf T with
 | false =>have F:Hid (V=aq):=(by show _=_;rw [hV];unfold Bh;rw [hz,s];rfl);rw [s] at z;clear Z cap hV Y hs hz hn s;go_enter func168,ntmps168;go_wp2_with fail;refine (z.out _).mono ?_;rintro e w1 ⟨rfl,P⟩;subst P;go_wp2_with fail;exact bodyPost_ret (cW results168 _ _ _ _ _ _ _ rfl (PR.out _ q0) underlying32 rfl od) rfl ⟨zeroA,bh,by rw [F.out];exact j7 _ _ _,PE.out _ q0⟩
 | true =>
   have F:Hid (V=cL (nY ram)):=(by show _=_;rw [hV];unfold Bh;rw [hz,s];rfl);have H:=KJ s;rw [s] at z;have HN:Hid (ram.length=T/\0<T/\T<=1048576):=⟨hz,H,hn⟩;obtain ⟨m,rfl⟩:∃ x,I=some x:=(by obtain ⟨b,off,e,_⟩:=hs 0 ab;exact ⟨_,e⟩);have HSL:Hid (∀ W,Bw w W->Sl .u8 W (some m) ram):=λW p=>hs.below p;clear hs hz hn s H hV;go_enter func168,ntmps168;go_wp2_with fail;refine (z.out _).mono ?_;rintro e w1 ⟨rfl,P⟩;subst P;go_wp2_with fail;go_cut [4] from 5 (λy wc=>∃ (r:Nat) (C:MA),y=.p r 0/\Hid (wc.heap[r]?=some (.cells #[.u 2147483648,.slice C.ax 32 C.cx,.i 3,.slice C.ac 22 C.cc,.slice C.ar T C.cr,.u 0,.u 0,.bool false,.slice none 0 0,.slice none 0 0,.i 0,.u 0,.bool false,.bool false] 32 (0,0))/\bz (w.heap.size+1) wc.heap.size wc ([aK C.ax 32 C.cx (List.replicate 32 0),aK C.ac 22 C.cc (List.replicate 22 0),aF C.ar T C.cr ram,aF none 0 0 [],aF none 0 0 []])/\(∀ q ∈ [aK C.ax 32 C.cx (List.replicate 32 0),aK C.ac 22 C.cc (List.replicate 22 0),aF C.ar T C.cr ram,aF none 0 0 [],aF none 0 0 []],q.v.ownBlock≠some r)/\w.heap.size+1<=r/\Q wc)/\C.ai=none/\C.ci=0/\C.ao=none/\C.co=0)
   case first =>
    have p0:=n.out _ _ q0 (Below.refl _ _).drew;refine xB ba Xe (λj l W=>Sw (w.heap.size+1) T X m ram W j l) Q ba p0 ?_ ?_
    ·intro i o A a W t u c O;rcases i with _ | _ | _ | _ | _ | _ | _ | _ | i;·obtain rfl:=Option.some.inj A;refine rI (λ_=>none) (by rfl) (OT (by rfl) 32 (.const (.i 32)) (.const (.i 32)) rfl rfl rfl ab ?_);intro W' ow p;exact ⟨_,rfl,⟨_,rfl,cF ow (PZ.out _ t)⟩,n.out _ _ t p,nj p⟩
     ·obtain rfl:=Option.some.inj A;go_simp;refine (Z.out _).mono ?_;rintro e W' ⟨rfl,ow,p⟩;exact ⟨_,rfl,⟨_,rfl,cF ow (PZ.out _ t)⟩,n.out _ _ t p,nj p⟩
     ·obtain rfl:=Option.some.inj A;have p:Bw W (W.alloc (.cells #[] 5 (0,0))):=bal _ _;go_simp;exact ⟨_,rfl,⟨_,rfl,cF (jh W _ (Nat.le_refl _) _ rfl) (Nat.zero_le _)⟩,n.out _ _ t p,nj p⟩
     ·obtain rfl:=Option.some.inj A;have e0:a.tmps[0]?=some (.slice (some m) T X):=u 0 ba;refine KX (v:=.slice (some m) T X) ?_ ⟨_,rfl,rfl,t,λ_ _ h=>h⟩;simp [execOp,Act.eval,Array.getD_eq_getD_getElem?,e0]
     ·obtain rfl:=Option.some.inj A;obtain ⟨g,e2,ol⟩:=O 2 bc ba;have e3:=O 3 bc ba;refine rI (λ_=>none) (by rfl) (OV (by rfl) (.tmp 11) (.tmp 12) rfl g e2 m T X ram e3 ol HN.out.1 HN.out.2.1 HN.out.2.2 (HSL.out _ (PE.out _ t)) ?_);intro k W' ow p;exact ⟨_,rfl,cF ow (PZ.out _ t),n.out _ _ t p,nj p⟩
     ·obtain rfl:=Option.some.inj A;have h0:=O 0 bc ba;have h1:=O 1 bc ba;have h4:=O 4 bc ba;obtain ⟨ax,ex,hx⟩:=h0;obtain ⟨ac,ec,hc⟩:=h1;obtain ⟨ar,cr,er⟩:=qq h4;refine KX (v:=.agg (yp (.slice ax 32 32) (.slice ac 22 22) (.slice ar T cr))) (Bi _ _ rfl [(0,.u 2147483648),(1,.slice ax 32 32),(2,.i 3),(3,.slice ac 22 22),(4,.slice ar T cr)] ?_ _ (Gs _ _ _ _ _)) ⟨_,rfl,⟨_,_,_,rfl,⟨?_,?_,?_⟩⟩,t,λ_ _ h=>h⟩;·rw [<- ex,<- ec,<- er];rfl
      ·exact ⟨_,rfl,hx⟩
      ·exact ⟨_,rfl,hc⟩
      ·rw [<- er];exact h4
     ·obtain rfl:=Option.some.inj A;go_simp;exact ⟨_,rfl,⟨W.heap.size,_,rfl,PZ.out _ t,heap_alloc_new _ _,rfl⟩,n.out _ _ t (bal _ _),nj (bal _ _)⟩
     ·obtain rfl:=Option.some.inj A;obtain ⟨vx,vc,vr,e5,h3⟩:=O 5 bc ba;obtain ⟨r,cs,e6,U,D,hs⟩:=O 6 bc ba;obtain ⟨h4,h5⟩:=RG (cap:=X) (ad:=m) D hs h3;refine wp_store_row 32 (.tmp 4) (.tmp 14) rfl r (yp vx vc vr) e6 e5 _ cs D od hs h3.one ?_;exact ⟨_,rfl,⟨r,vx,vc,vr,e6,U,setRow_heap _ _ _ _ _ _ D,h4⟩,PU.out _ r t U _,h5⟩
     ·cases A
    ·intro a W t u c hdf hv;obtain ⟨u4,g4⟩:=jU c 4 (by rfl);obtain ⟨u9,g9⟩:=jU c 9 (by rfl);obtain ⟨u10,g10⟩:=jU c 10 (by rfl);obtain ⟨u11,g11⟩:=jU c 11 (by rfl);obtain ⟨u12,g12⟩:=jU c 12 (by rfl);obtain ⟨u13,g13⟩:=jU c 13 (by rfl);obtain ⟨u14,g14⟩:=jU c 14 (by rfl);obtain ⟨r,vx,vc,vr,e6,U,D,h3⟩:=hv 7 bc;have e6':u4=.p r 0:=(by rw [<- e6];show u4=a.tmps.getD 4 undef;rw [Array.getD_eq_getD_getElem?,g4];rfl);subst e6';obtain ⟨C,rfl,rfl,rfl,ai,ci,ao,co,hf,hn⟩:=h3.fam D;have ha:=Pk (a:=a) (l:=[.slice (some m) T X,undef,.p w.heap.size 0,.bool false,.p r 0,.slice (some m) T X,.bool true,.bool false,undef,u9,u10,u11,u12,u13,u14,undef,undef]) c (λi hi=>?_) hdf;·subst ha;clear hv u c hdf g4 g9 g10 g11 g12 g13 g14 e6;go_wp2_with fail;go_meet;exact ⟨r,C,rfl,⟨D,hf,hn,U,t⟩,ai,ci,ao,co⟩
     ·rcases i with _ | _ | _ | _ | _ | _ | _ | _ | _ | _ | _ | _ | _ | _ | _ | _ | _ | i;all_goals first | assumption | exact u _ ba | (simp at hi;omega)
   case rest =>obtain ⟨r,C,rfl,LI,ad,K,J,M⟩:=hcut;have LJ:Hid (wc.heap[r]?=some (.cells #[.u 2147483648,.slice C.ax 32 C.cx,.i 3,.slice C.ac 22 C.cc,.slice C.ar T C.cr,.u 0,.u 0,.bool false,.slice C.ai 0 C.ci,.slice C.ao 0 C.co,.i 0,.u 0,.bool false,.bool false] 32 (0,0))/\bz (w.heap.size+1) wc.heap.size wc (aH (nY ram) C)/\(∀ q ∈ aH (nY ram) C,q.v.ownBlock≠some r)/\w.heap.size+1<=r/\Q wc):=(by have h:=LI.out;obtain ⟨ax,cx,ac,cc,ar,cr,ai,ci,ao,co⟩:=C;dsimp only at ad K J M h;subst ad;subst K;subst J;subst M;have hn2:=HN.out.1;subst hn2;exact h);obtain ⟨row,N,ne,D,qc⟩:=LJ.out;clear LI LJ ad K J M;go_wp2_with fail;refine (cap.out C r _ _ _ row N ne).mono ?_;rintro e w3 ⟨rfl,row3,fm3,R⟩;have q3:Q w3:=PK.out _ _ _ _ _ qc R N (Nat.le_refl _);have Z3:=aG R.size;have nd1:¬ r=w.heap.size:=ab;have nd2:¬ w.heap.size=r:=ab;clear R row N ne;obtain ⟨a0,a1,a2,a3,a4,a5,a6,a7,a8,a9,a10,a11,a12,a13⟩:=be row3;obtain ⟨s0,s1,s2,s3,s4,s5,s6,s7,s8,s9,s10,s11,s12,s13⟩:=be (PR.out _ q3);obtain ⟨y0,y1,y2,y3,y4,y5,y6,y7,y8,y9,y10,y11,y12,y13⟩:=fj (PR.out _ q3);go_wp2_with fail;exact bodyPost_ret (cW results168 _ _ _ _ _ _ _ rfl (rQ (PR.out _ q3) (.u 2147483648) (.slice C.ax 32 C.cx) (.i 3) (.slice C.ac 22 C.cc) (.slice C.ar T C.cr) (.u 0) (.u 0) (.bool false) (.slice C.ai 0 C.ci) (.slice C.ao 0 C.co) (.i 0) (.u 0) (.bool false) (.bool false)) underlying32 rfl od) rfl ⟨C,by rw [F.out,Y.out];rfl,by rw [F.out];exact (fm3.put14 w.heap.size (.inl ab) (.u 2147483648) (.slice C.ax 32 C.cx) (.i 3) (.slice C.ac 22 C.cc) (.slice C.ar T C.cr) (.u 0) (.u 0) (.bool false) (.slice C.ai 0 C.ci) (.slice C.ao 0 C.co) (.i 0) (.u 0) (.bool false) (.bool false)).low ab (by have:=Z3.out;simp only [aX];omega),oa (PE.out _ q3) (Nat.le_refl _) (.u 2147483648) (.slice C.ax 32 C.cx) (.i 3) (.slice C.ac 22 C.cc) (.slice C.ar T C.cr) (.u 0) (.u 0) (.bool false) (.slice C.ai 0 C.ci) (.slice C.ao 0 C.co) (.i 0) (.u 0) (.bool false) (.bool false)⟩
def Rg (w0:World) (g:Nat) (a:Option Addr) (n cap:Nat) (w wr:World):Prop :=
 ∃ zs:List Int,(∀ j,U (zs.getD j 0))/\wr.ownsRow w.heap.size 22 1 (.slice (some ⟨w.heap.size,0,none⟩) 22 22) 22 (zs.map (Value.int .u64))/\Cs w0 g a n cap w wr/\g<w.heap.size
theorem Rg.next {wr:World} (h:Rg n m D M r w wr) (k:Cs n m D M r wr a):Rg n m D M r w a:=by obtain ⟨zs,i,f,c,d⟩:=h;refine ⟨zs,i,zC f k.2 ?_,c.trans k,d⟩;intro j e b;simp [Value.ownBlock] at e b;omega
theorem Rg.cur {wr:World} (h:Rg n m D M r w wr):lu n wr m D M r:=by obtain ⟨zs,e,d,b,c⟩:=h;exact b.1
theorem OX (c:∀ X,U (O.getD X 0)) (hy:U Z):U ((O.set T Z).getD X 0):=by
 by_cases a:T=X
 ·subst a;by_cases b:T<O.length;·have e:(O.set T Z).getD T 0=Z:=(by simp [List.getD,b]);rw [e];exact hy
  ·have e:(O.set T Z).getD T 0=0:=(by simp [List.getD,b]);rw [e];constructor<;>decide
 ·have e:(O.set T Z).getD X 0=O.getD X 0:=(by simp [List.getD,a]);rw [e];exact c X
theorem Rg.put {wr:World} (h:Rg n m D M r w wr) (k:Nat) (y:Int) (hy:U y):Rg n m D M r w (wr.setCell ⟨w.heap.size,k,none⟩ (.u y)):=by
 obtain ⟨zs,p,o,b,f⟩:=h;have d:=o.stored k (.u y);rw [kv] at d;refine ⟨zs.set k y,λj=>OX zs k j y p hy,d.1,⟨?_,?_⟩,f⟩
 ·obtain ⟨i,x,l,c⟩:=b.1.row;refine ⟨b.1.new,b.1.below.setCell ?_ _,i,x,l,?_⟩;·show n.heap.size<=w.heap.size;have:=b.1.new;omega
  ·rw [heap_setCell_other _ _ _ _ (by show m≠w.heap.size;omega)];exact c
 ·refine ⟨b.2.os,b.2.tape,b.2.output,by simpa [World.setCell] using b.2.size,λj w0 e=>?_⟩;rw [heap_setCell_other _ _ _ _ (by show j≠w.heap.size;omega)];exact b.2.block j w0 e
theorem Rg.cell {wr:World} (h:Rg n g D m M w wr) (k:Nat) (hk:k<22):∃ v,U v/\wr.cell? ⟨w.heap.size,k,none⟩=some (.u v)/\wr.frozen? ⟨w.heap.size,k,none⟩=false:=by
 obtain ⟨zs,f,d,j,l⟩:=h;have a:zs.length=22:=by have:=d.1;simpa using this
 obtain ⟨b,i,e,_,c⟩:=kI d k ab;simp only [Option.some.injEq,Addr.mk.injEq,and_true] at e;obtain ⟨rfl,rfl⟩:=e;rw [Nat.zero_add] at c;exact ⟨_,f k,c,d.frozenAt k⟩
theorem RH (x:Int) (h:U x):U (bn Z x):=by
 unfold bn;split;·unfold mst;split<;>exact ah _ _ _
 ·split;·exact ah _ _ _
  ·split;·exact ah _ _ _
   ·split;·exact ah _ _ _
    ·split;·exact ah _ _ _
     ·split;·exact ah _ _ _
      ·split;·exact ah _ _ _
       ·split;·exact ah _ _ _
        ·split;·exact ah _ _ _
         ·exact h
theorem U0:U 0:=⟨bc,bc⟩
theorem OY:(List.replicate T (0:Int)).getD X 0=0:=by
 by_cases a:X<T;·simp [List.getD,a]
 ·simp [List.getD,a]
theorem RJ:U ((List.replicate 22 (0:Int)).getD T 0):=by rw [OY];exact U0
theorem g8 (x:Int) (h:U x) (w:World):Calls prog 172 #[.i Z,.u x] w λe b=>∃ v,e=.returned (.u v)/\Hid (U v)/\b=w :=
 (fy Z x w).mono λe b a=>⟨_,a.1,RH Z x h,a.2⟩
theorem Bj {zs:List Int} (V:Code n D M zs) (w:World) (hc:lu n w m D M r): Calls prog 170 #[.p m 0] w λe w'=>e=.returned (.slice (some ⟨w.heap.size,0,none⟩) 22 22)/\Hid (Rg n m D M r w w'):=by
 have u:Hid (Code n D M zs):=V;have HC:Hid (lu n w m D M r):=hc;clear V hc;go_enter func170,ntmps170;go_wp2_with fail;refine (nU _).mono ?_;rintro e w1 ⟨rfl,W,T⟩;have R1:Hid (Rg n m D M r w w1):=⟨List.replicate 22 0,RJ,W,Cs.of_below HC.out T,HC.out.lt⟩;clear W T;go_wp2_with fail;refine (aB u.out 16 ab _ R1.out.cur).mono ?_;rintro e w2 ⟨w0,rfl,⟨hm0,hm1⟩,X⟩;have R2:Hid (Rg n m D M r w w2):=R1.out.next X.out;obtain ⟨mm,rfl⟩:=Int.eq_ofNat_of_zero_le hm0;clear R1 X;go_wp2_with fail;go_loopw [4] (λi wr=>∃ k:Nat,k<=16/\i=.i k/\Hid (Rg n m D M r w wr)) (λi _=>(intOf i).toNat);case atStart=>exact ⟨mm,ab,rfl,R2⟩
 case round =>
  obtain ⟨k,hk,rfl,I⟩:=hrel;by_cases hlt:0<k
  ·go_wp2_with fail;refine (aB u.out 22 ab _ I.out.cur).mono ?_;rintro e w3 ⟨p,rfl,⟨hp0,hp1⟩,Y⟩;have R3:Hid (Rg n m D M r w w3):=I.out.next Y.out;obtain ⟨a,rfl⟩:=Int.eq_ofNat_of_zero_le hp0;clear Y I;go_wp2_with fail;refine (lj u.out _ R3.out.cur).mono ?_;rintro e w4 ⟨x,rfl,hx,Z⟩;have s:Hid (Rg n m D M r w w4):=R3.out.next Z.out;have N:Hid (U x):=hx;clear Z R3 hx;obtain ⟨j,rfl⟩:∃ j,k=j+1:=⟨k-1,ab⟩;by_cases h4:a=4\/a=10
   ·rcases h4 with rfl|rfl
    ·go_wp2_with fail;refine (aB u.out 512 ab _ s.out.cur).mono ?_;rintro e F ⟨y,rfl,⟨E,G⟩,d⟩;have cap:Hid (Rg n m D M r w F):=s.out.next d.out;clear d s;go_wp2_with fail;refine (aB u.out 2 ab _ cap.out.cur).mono ?_;rintro e H ⟨z,rfl,⟨hz0,hz1⟩,f⟩;have t:Hid (Rg n m D M r w H):=cap.out.next f.out;clear f cap N;obtain ⟨K,_,B,C⟩:=t.out.cell 4 ab;go_wp2_with fail;refine (g8 _ _ ?_ _).mono ?_;·first | exact aT _ | (constructor<;>omega)
     rintro e g ⟨L,rfl,l,o⟩;have b:=o.symm;subst b;go_wp2_with fail;go_roundw;case rel=>exact ⟨j,ab,by go_num,t.out.put 4 _ l.out⟩
     case measure=>simp [intOf]
    ·go_wp2_with fail;refine (aB u.out 512 ab _ s.out.cur).mono ?_;rintro e F ⟨y,rfl,⟨E,G⟩,d⟩;have cap:Hid (Rg n m D M r w F):=s.out.next d.out;clear d s;go_wp2_with fail;refine (aB u.out 2 ab _ cap.out.cur).mono ?_;rintro e H ⟨z,rfl,⟨hz0,hz1⟩,f⟩;have t:Hid (Rg n m D M r w H):=cap.out.next f.out;clear f cap N;obtain ⟨K,_,B,C⟩:=t.out.cell 10 ab;go_wp2_with fail;refine (g8 _ _ ?_ _).mono ?_;·first | exact aT _ | (constructor<;>omega)
     rintro e g ⟨L,rfl,l,o⟩;have b:=o.symm;subst b;go_wp2_with fail;go_roundw;case rel=>exact ⟨j,ab,by go_num,t.out.put 10 _ l.out⟩
     case measure=>simp [intOf]
   by_cases P:a=16
   ·subst P;go_wp2_with fail;go_loopw [6,7] (λy i wx=>∃ (q:Nat) (v:Int),q<=4/\y=.u v/\U v/\i=.i q/\Hid (Rg n m D M r w wx)) (λ_ i _=>4-(intOf i).toNat);case atStart=>exact ⟨0,0,ab,rfl,U0,rfl,s⟩
    case round =>
     obtain ⟨q,v,hq,rfl,hv,rfl,I⟩:=hrel;have S:Hid (U v):=hv;clear hv;by_cases hq4:q<4
     ·go_wp2_with fail;have HA:=Cs.alloc I.out.cur (.cells #[.u 0,.u 15,.u 31,.u 27,.u 25,.u 7,.u 24,.u 159,.u 143,.u 153] 22);refine (aB u.out 10 ab _ HA.1).mono ?_;rintro e F ⟨y,rfl,⟨E,G⟩,d⟩;obtain ⟨yy,rfl⟩:=Int.eq_ofNat_of_zero_le E;obtain ⟨v2,hv2,hcell⟩:=sZ [0,15,31,27,25,7,24,159,143,153] 22 (d.out.keep (heap_alloc_new _ _) (Nat.ne_of_gt I.out.cur.lt)) (by intro x hx;simp at hx;constructor<;>omega) (k:=yy) bv;have cap:Hid (Rg n m D M r w F):=(I.out.next HA).next d.out
      clear d I HA hv2;go_wp2_with fail;go_roundw;case rel=>exact ⟨q+1,_,ab,rfl,ah _ _ _,by go_num,cap⟩
      case measure=>simp [intOf];omega
     ·go_wp2_with fail;refine (bG u.out 3 ab _ I.out.cur).mono ?_;rintro e F ⟨c,rfl,d⟩;have cap:Hid (Rg n m D M r w F):=I.out.next d.out;clear d I;cases c with
      | true =>
       obtain ⟨K,_,B,C⟩:=cap.out.cell 16 ab;go_wp2_with fail;refine (g8 _ _ ?_ _).mono ?_;·first | exact S.out | exact ah _ _ _
       rintro e g ⟨L,rfl,l,o⟩;have b:=o.symm;subst b;go_wp2_with fail;go_roundw;case rel=>exact ⟨j,ab,by go_num,cap.out.put 16 _ l.out⟩
       case measure=>simp [intOf]
       | false =>
         obtain ⟨K,_,B,C⟩:=cap.out.cell 16 ab;go_wp2_with fail;refine (g8 _ _ ?_ _).mono ?_;·first | exact ah _ _ _ | exact S.out
         rintro e g ⟨L,rfl,l,o⟩;have b:=o.symm;subst b;go_wp2_with fail;go_roundw;case rel=>exact ⟨j,ab,by go_num,cap.out.put 16 _ l.out⟩
         case measure=>simp [intOf]
   by_cases Q:a=17\/a=18\/a=19\/a=20
   ·rcases Q with rfl|rfl|rfl|rfl
    ·go_wp2_with fail;refine (aB u.out 2048 ab _ s.out.cur).mono ?_;rintro e F ⟨y,rfl,⟨E,G⟩,d⟩;have cap:Hid (Rg n m D M r w F):=s.out.next d.out;clear d s;go_wp2_with fail;refine (bG u.out 2 ab _ cap.out.cur).mono ?_;rintro e H ⟨c,rfl,f⟩;have t:Hid (Rg n m D M r w H):=cap.out.next f.out;clear f cap N;cases c with
     | _ =>
       go_wp2_with fail;refine (bG u.out 3 ab _ t.out.cur).mono ?_;rintro e R ⟨c,rfl,A⟩;have J:Hid (Rg n m D M r w R):=t.out.next A.out;clear A t;cases c with
       | _ =>
         obtain ⟨K,_,B,C⟩:=J.out.cell 17 ab;go_wp2_with fail;refine (g8 _ _ ?_ _).mono ?_;·first | exact aT _ | (constructor<;>omega)
         rintro e g ⟨L,rfl,l,o⟩;have b:=o.symm;subst b;go_wp2_with fail;go_roundw;case rel=>exact ⟨j,ab,by go_num,J.out.put 17 _ l.out⟩
         case measure=>simp [intOf]
    ·go_wp2_with fail;refine (aB u.out 2048 ab _ s.out.cur).mono ?_;rintro e F ⟨y,rfl,⟨E,G⟩,d⟩;have cap:Hid (Rg n m D M r w F):=s.out.next d.out;clear d s;go_wp2_with fail;refine (bG u.out 2 ab _ cap.out.cur).mono ?_;rintro e H ⟨c,rfl,f⟩;have t:Hid (Rg n m D M r w H):=cap.out.next f.out;clear f cap N;cases c with
     | _ =>
       go_wp2_with fail;refine (bG u.out 3 ab _ t.out.cur).mono ?_;rintro e R ⟨c,rfl,A⟩;have J:Hid (Rg n m D M r w R):=t.out.next A.out;clear A t;cases c with
       | _ =>
         obtain ⟨K,_,B,C⟩:=J.out.cell 18 ab;go_wp2_with fail;refine (g8 _ _ ?_ _).mono ?_;·first | exact aT _ | (constructor<;>omega)
         rintro e g ⟨L,rfl,l,o⟩;have b:=o.symm;subst b;go_wp2_with fail;go_roundw;case rel=>exact ⟨j,ab,by go_num,J.out.put 18 _ l.out⟩
         case measure=>simp [intOf]
    ·go_wp2_with fail;refine (aB u.out 2048 ab _ s.out.cur).mono ?_;rintro e F ⟨y,rfl,⟨E,G⟩,d⟩;have cap:Hid (Rg n m D M r w F):=s.out.next d.out;clear d s;go_wp2_with fail;refine (bG u.out 2 ab _ cap.out.cur).mono ?_;rintro e H ⟨c,rfl,f⟩;have t:Hid (Rg n m D M r w H):=cap.out.next f.out;clear f cap N;cases c with
     | _ =>
       go_wp2_with fail;refine (bG u.out 3 ab _ t.out.cur).mono ?_;rintro e R ⟨c,rfl,A⟩;have J:Hid (Rg n m D M r w R):=t.out.next A.out;clear A t;cases c with
       | _ =>
         obtain ⟨K,_,B,C⟩:=J.out.cell 19 ab;go_wp2_with fail;refine (g8 _ _ ?_ _).mono ?_;·first | exact aT _ | (constructor<;>omega)
         rintro e g ⟨L,rfl,l,o⟩;have b:=o.symm;subst b;go_wp2_with fail;go_roundw;case rel=>exact ⟨j,ab,by go_num,J.out.put 19 _ l.out⟩
         case measure=>simp [intOf]
    ·go_wp2_with fail;refine (aB u.out 2048 ab _ s.out.cur).mono ?_;rintro e F ⟨y,rfl,⟨E,G⟩,d⟩;have cap:Hid (Rg n m D M r w F):=s.out.next d.out;clear d s;go_wp2_with fail;refine (bG u.out 2 ab _ cap.out.cur).mono ?_;rintro e H ⟨c,rfl,f⟩;have t:Hid (Rg n m D M r w H):=cap.out.next f.out;clear f cap N;cases c with
     | _ =>
       go_wp2_with fail;refine (bG u.out 3 ab _ t.out.cur).mono ?_;rintro e R ⟨c,rfl,A⟩;have J:Hid (Rg n m D M r w R):=t.out.next A.out;clear A t;cases c with
       | _ =>
         obtain ⟨K,_,B,C⟩:=J.out.cell 20 ab;go_wp2_with fail;refine (g8 _ _ ?_ _).mono ?_;·first | exact aT _ | (constructor<;>omega)
         rintro e g ⟨L,rfl,l,o⟩;have b:=o.symm;subst b;go_wp2_with fail;go_roundw;case rel=>exact ⟨j,ab,by go_num,J.out.put 20 _ l.out⟩
         case measure=>simp [intOf]
   by_cases O:a=15
   ·subst O;go_wp2_with fail;refine (aB u.out 2 ab _ s.out.cur).mono ?_;rintro e F ⟨y,rfl,⟨E,G⟩,d⟩;have cap:Hid (Rg n m D M r w F):=s.out.next d.out;clear d s;go_wp2_with fail;refine (aB u.out 2 ab _ cap.out.cur).mono ?_;rintro e H ⟨z,rfl,⟨hz0,hz1⟩,f⟩;have t:Hid (Rg n m D M r w H):=cap.out.next f.out;clear f cap N;obtain ⟨K,_,B,C⟩:=t.out.cell 15 ab;go_wp2_with fail;refine (g8 _ _ ?_ _).mono ?_;·first | exact aT _ | (constructor<;>omega)
    rintro e g ⟨L,rfl,l,o⟩;have b:=o.symm;subst b;go_wp2_with fail;go_roundw;case rel=>exact ⟨j,ab,by go_num,t.out.put 15 _ l.out⟩
    case measure=>simp [intOf]
   have d4:((a:Int)==4)=false:=bv;have VL:((a:Int)==10)=false:=bv;have Vx:((a:Int)==16)=false:=bv;have VJ:((a:Int)==17)=false:=bv;have d18:((a:Int)==18)=false:=bv;have d19:((a:Int)==19)=false:=bv;have d20:((a:Int)==20)=false:=bv;have Vy:((a:Int)==15)=false:=bv;by_cases h9:a=9
   ·subst h9;clear h4 P Q O;obtain ⟨K,_,B,C⟩:=s.out.cell 9 ab;go_wp2_with fail;go_roundw;case rel=>exact ⟨j,ab,by go_num,s.out.put 9 _ (ah _ _ _)⟩
    case measure=>simp [intOf]
   ·have d9:((a:Int)==9)=false:=bv;have hp22:a<22:=ab;clear h4 P Q O h9;obtain ⟨K,_,B,C⟩:=s.out.cell a ab;go_wp2_with fail;refine (g8 _ _ ?_ _).mono ?_;·exact N.out
    rintro e g ⟨L,rfl,l,o⟩;have b:=o.symm;subst b;go_wp2_with fail;go_roundw;case rel=>exact ⟨j,ab,by go_num,s.out.put a _ l.out⟩
    case measure=>simp [intOf]
  ·have hk0:k=0:=ab;subst hk0;go_wp2_with fail;go_ret;exact ⟨rfl,I⟩
theorem pK (b:Int):U (kN Z b):=by
 unfold kN;split;·exact U0
 ·split;·exact ah _ _ _
  ·exact U0
theorem IK (h:∀ y ∈ O,(Lit.int .u8 y).wf=true) (f:Nat) (x:Int) (k:Nat):∀ y ∈ jT O f x k,(Lit.int .u8 y).wf=true:=λy b=>by have a:=KU O (λz c=>by have:=h z c;simpa [Lit.wf,IntKind.min,IntKind.max,IntKind.signed,IntKind.bits] using this) f x k y b;exact VH a.1 a.2
theorem i9 (h:W.heap[m]?=some (.cells R Q (0,0))) (i:Nat):W.cell? ⟨m,i,none⟩=R[i]?:=by simp [World.cell?,h]
def Wz (M:MV) (v:Int):MV:={M with pr:=v}
def WJ (M:MV) (v:Int):MV:={M with pc:=v}
def WK (M:MV) (v:Int):MV:={M with hd:=v}
def WL (M:MV) (v:Bool):MV:={M with hl:=v}
def WM (M:MV) (v:Bool):MV:={M with wt:=v}
theorem Dm.setPr {wr:World} (h:Dm n M D A b w r m p o wr) (v:Int) (hv:v=0\/v=1\/v=3):Dm n M D A b w r m (Wz p v) o (wr.setCell ⟨m,2,none⟩ (.i v)):=
 h.setF 2 (.i v) (M':=Wz p v) rfl rfl ⟨h.fit.x,h.fit.ux,h.fit.cs,h.fit.ucs,h.fit.ram,h.fit.bram,h.fit.d,h.fit.pc,h.fit.hd,hv⟩
theorem Dm.setPc {wr:World} (h:Dm n M D A b w r m p o wr) (v:Int) (hv:U v):Dm n M D A b w r m (WJ p v) o (wr.setCell ⟨m,0,none⟩ (.u v)):=
 h.setF 0 (.u v) (M':=WJ p v) rfl rfl ⟨h.fit.x,h.fit.ux,h.fit.cs,h.fit.ucs,h.fit.ram,h.fit.bram,h.fit.d,hv,h.fit.hd,h.fit.pr⟩
theorem Dm.setHd {wr:World} (h:Dm n M D A b w r m p o wr) (v:Int) (hv:U v):Dm n M D A b w r m (WK p v) o (wr.setCell ⟨m,11,none⟩ (.u v)):=
 h.setF 11 (.u v) (M':=WK p v) rfl rfl ⟨h.fit.x,h.fit.ux,h.fit.cs,h.fit.ucs,h.fit.ram,h.fit.bram,h.fit.d,h.fit.pc,hv,h.fit.pr⟩
theorem Dm.setHl {wr:World} (h:Dm n M D A b w r m p o wr) (v:Bool):Dm n M D A b w r m (WL p v) o (wr.setCell ⟨m,12,none⟩ (.bool v)):=
 h.setF 12 (.bool v) (M':=WL p v) rfl rfl ⟨h.fit.x,h.fit.ux,h.fit.cs,h.fit.ucs,h.fit.ram,h.fit.bram,h.fit.d,h.fit.pc,h.fit.hd,h.fit.pr⟩
theorem Dm.setWt {wr:World} (h:Dm n M D A b w r m p o wr) (v:Bool):Dm n M D A b w r m (WM p v) o (wr.setCell ⟨m,13,none⟩ (.bool v)):=
 h.setF 13 (.bool v) (M':=WM p v) rfl rfl ⟨h.fit.x,h.fit.ux,h.fit.cs,h.fit.ucs,h.fit.ram,h.fit.bram,h.fit.d,h.fit.pc,h.fit.hd,h.fit.pr⟩
theorem OZ (h:Mf p):Mf (cL p):=⟨h.x,h.ux,by simp [cL,h.cs],GX h.ucs 9 (aT _),h.ram,h.bram,h.d,h.pc,h.hd,h.pr⟩
theorem rK (M:MV) (A:MA):(aj M A).all (·.oneCell')=true:=by simp [aj,Value.oneCell']
theorem Dm.outM {wr:World} (h:Dm n M D r A w w.heap.size m p o wr) (cs:Array Value):bz w.heap.size (wr.setRow w.heap.size cs).heap.size (wr.setRow w.heap.size cs) (aH p o)/\Cs n M D r A w (wr.setRow w.heap.size cs):=by
 have b:Below w.heap.size wr (wr.setRow w.heap.size cs):=aS (Below.refl _ _) (Nat.le_refl _) cs;have j:=h.gr;have w0:=h.w0w;obtain ⟨i,l,a,c⟩:=h.cu.1.row;refine ⟨?_,⟨⟨h.cu.1.new,?_,i,l,a,(b.block M j).trans c⟩,⟨b.os.trans h.cu.2.os,b.tape.trans h.cu.2.tape,b.output.trans h.cu.2.output,Nat.le_trans h.cu.2.size b.size,λk d f=>(b.block k d).trans (h.cu.2.block k d f)⟩⟩⟩;·exact (Gq h.mp.fam w.heap.size (λq cap e=>by have:=(h.mp.fam.own q cap).lt _ e;omega) cs).low ab b.size
 ·exact ⟨b.os.trans h.cu.1.below.os,b.tape.trans h.cu.1.below.tape,b.output.trans h.cu.1.below.output,Nat.le_trans h.cu.1.below.size b.size,λk d=>(b.block k ab).trans (h.cu.1.below.block k d)⟩
theorem nl {wr:World} (h:Dm n M D A b w r m p o wr) (L:Nat) (a:p.ram.length=L) (f:Nat) (x:Int) (hx:U x) (cap:f+8<=L): Calls prog 119 #[.slice o.ar L o.cr,.u (2147483648+(f:Int)),.i 8,.u x] wr λe k=>e=.returned (.tuple #[])/\∃ j:MV,Hid (Dm n M D A b w r m j o k)/\Hid (j.ram.length=L):=by
 subst a;have i:=h.fit.ram;have d:gi p.ram.length (2147483648+(f:Int)) 8=true:=by have w0:bf p.ram.length=true:=(by rcases i with e|e<;>rw [e]<;>decide);have c:jp 8=true:=bc;simp only [gi,w0,c,Bool.true_and,decide_eq_true_eq];omega
 refine (vV p o _ m _ 8 x wr (by rcases i with e | e<;>rw [e]<;>omega) d hx.1 (by have:=hx.2;omega) h.mp).mono λe k ⟨w0,c,l⟩=>⟨w0,_,aG (h.step (h.mp.under l) c ?_),aG (jc _ _ _ _)⟩;exact ⟨h.fit.x,h.fit.ux,h.fit.cs,h.fit.ucs,(by show (jT p.ram _ x _).length=4096\/(jT p.ram _ x _).length=8192;rw [jc];exact i),IK _ h.fit.bram _ _ _,h.fit.d,h.fit.pc,h.fit.hd,h.fit.pr⟩
theorem td {wr:World} (F:Code n D A P) (h:Dm n M D A b w r m p o wr) (T:p.ram.length=4096): Calls prog 171 #[.p M 0,.p m 0] wr λe d=>e=.returned (.tuple #[])/\∃ l:MV,Hid (Dm n M D A b w r m l o d):=by
 have R:Hid (Code n D A P):=F;have c:=aG T;obtain ⟨E,cc,S,ec,cm,cells⟩:=h.atC;obtain ⟨W,X⟩:=cells 15 ab;have a:wr.cell? ⟨m,4,none⟩=some (.slice o.ar 4096 o.cr):=by rw [i9 h.mp.row 4,<- T];rfl
 have c2:wr.cell? ⟨m,2,none⟩=some (.i p.pr):=i9 h.mp.row 2;have J:¬ m=E:=λe=>h.mp.ne (aK o.ac p.cs.length o.cc p.cs) dv (by simp only [aK];rw [S,e];rfl);have V:¬ E=m:=λe=>J e.symm;have g:=aG (λv (N:U v)=>h.setC E S 15 N);clear F T h cells ec;go_enter func171,ntmps171;go_upto_if 30 with fail
 generalize N:Uz.wrap (bits BinOp.or IntKind.u64 9223372036854775808 524289-1)=t;have O:Hid (∃ p:MV,Dm n M D A b w r m p o (wr.setCell ⟨E,15,none⟩ (.u t))/\p.ram.length=4096):=⟨_,g.out t (by rw [<- N];exact aT _),c.out⟩;generalize wr.setCell ⟨E,15,none⟩ (.u t)=w1 at O ⊢;generalize (p.pr==0)=p0;clear N g J V c2 a W X cm S;go_cut [6] from 7 (λv wc=>∃ w0:Int,v=.i w0/\∃ (p:MV),Hid (Dm n M D A b w r m p o wc)/\Hid (p.ram.length=4096))
 case first =>
  obtain ⟨M1,d1,l1⟩:=O.out;cases p0;·go_wp2_with fail;go_meet;exact ⟨207,rfl,M1,d1,l1⟩
  ·go_wp2_with fail;go_meet;exact ⟨223,rfl,M1,d1,l1⟩
 case rest =>
  clear O c;obtain ⟨b1,rfl,p,f,c⟩:=hcut;go_wp2_with fail;refine (bG R.out 2 ab _ f.out.cur).mono ?_;rintro e w2 ⟨c2,rfl,G⟩;have zs:=aG (f.out.next G.out);clear G f;go_upto_if 32 with fail
  go_cut [6] from 7 (λv wc=>∃ w0:Int,v=.i w0/\∃ (p:MV),Hid (Dm n M D A b w r m p o wc)/\Hid (p.ram.length=4096))
  case first =>
   cases c2;·go_wp2_with fail;go_meet;exact ⟨b1,rfl,p,zs,c⟩
   ·go_wp2_with fail;go_meet;exact ⟨_,rfl,p,zs,c⟩
  case rest =>
   clear zs c;obtain ⟨b2,rfl,p,f,c⟩:=hcut;obtain ⟨Y,cap⟩:∃ z,z=kN 524288 b2:=⟨_,rfl⟩;have u:Hid (∀ d,CE 222 #[.u 524288,.i b2] d (.u Y)):=λd=>by rw [cap];exact gX _ _ d
   have B:Hid (U Y):=(by rw [cap];exact pK _ _);have a:wc.cell? ⟨m,4,none⟩=some (.slice o.ar 4096 o.cr):=(by rw [i9 f.out.mp.row 4,<- c.out];rfl);have y:=aG (nl (f.out.below (Below.refl _ _).drew) 4096 c.out 16 Y B.out ab);clear cap;go_wp2_with fail;go_cut [] from 7 (λwc=>∃ (p:MV),Hid (Dm n M D A b w r m p o wc)/\Hid (p.ram.length=4096))
   case first =>
    go_region_with (first | (go_at_call 222;with_reducible refine (u.out _).mono ?_;rintro e wy ⟨rfl,rfl⟩) | (go_at_call 119;refine y.out.mono ?_;rintro e wz ⟨rfl,l,C,L⟩));all_goals go_wp2_with fail
    all_goals go_meet
    all_goals exact ⟨l,C,L⟩
   case rest =>
    clear c f u B a y;obtain ⟨p,f,c⟩:=hcut;go_wp2_with fail;refine (bG R.out 2 ab _ f.out.cur).mono ?_;rintro e w3 ⟨c3,rfl,H⟩;have K:=aG (f.out.next H.out);clear H f;go_upto_if 45 with fail
    go_cut [] from 7 (λwc=>∃ (p:MV),Hid (Dm n M D A b w r m p o wc)/\Hid (p.ram.length=4096))
    case first =>
     cases c3;·go_wp2_with fail;go_meet;exact ⟨p,K,c⟩
     ·obtain ⟨Z,q⟩:∃ z,z=kN 524288 223:=⟨_,rfl⟩;have u:Hid (∀ d,CE 222 #[.u 524288,.i 223] d (.u Z)):=λd=>by rw [q];exact gX _ _ d
      have B:Hid (U Z):=(by rw [q];exact pK _ _);have a:w3.cell? ⟨m,4,none⟩=some (.slice o.ar 4096 o.cr):=(by rw [i9 K.out.mp.row 4,<- c.out];rfl);have y:=aG (nl (K.out.below (Below.refl _ _).drew) 4096 c.out 8 Z B.out ab);clear q;go_wp2_with fail;go_region_with (first | (go_at_call 222;with_reducible refine (u.out _).mono ?_;rintro e wy ⟨rfl,rfl⟩) | (go_at_call 119;refine y.out.mono ?_;rintro e wz ⟨rfl,l,C,L⟩));all_goals go_wp2_with fail
      all_goals go_meet
      all_goals exact ⟨l,C,L⟩
    case rest =>
     clear K c;obtain ⟨p,f,c⟩:=hcut;go_wp2_with fail;refine (bG R.out 3 ab _ f.out.cur).mono ?_;rintro e w4 ⟨a,rfl,I⟩;have Q:=aG (f.out.next I.out);clear I f;cases a;·go_wp2_with fail;refine bodyPost_end (results_none rfl _ _ _) rfl ?_;exact ⟨rfl,p,Q⟩
     ·obtain ⟨z3,s⟩:∃ z,z=kN 0 207:=⟨_,rfl⟩;have u:Hid (∀ d,CE 222 #[.u 0,.i 207] d (.u z3)):=λd=>by rw [s];exact gX _ _ d
      have B:Hid (U z3):=(by rw [s];exact pK _ _);have a:w4.cell? ⟨m,4,none⟩=some (.slice o.ar 4096 o.cr):=(by rw [i9 Q.out.mp.row 4,<- c.out];rfl);have y:=aG (nl (Q.out.below (Below.refl _ _).drew) 4096 c.out 0 z3 B.out ab);clear s;go_wp2_with fail;go_region_with (first | (go_at_call 222;with_reducible refine (u.out _).mono ?_;rintro e wy ⟨rfl,rfl⟩) | (go_at_call 119;refine y.out.mono ?_;rintro e wz ⟨rfl,l,C,L⟩));all_goals go_wp2_with fail
      all_goals refine bodyPost_end (results_none rfl _ _ _) rfl ?_
      all_goals exact ⟨rfl,l,C⟩
theorem tf {wr:World} (F:Code n D A P) (h:Dm n M D A b w r m p o wr) (T:p.ram.length=8192): Calls prog 171 #[.p M 0,.p m 0] wr λe d=>e=.returned (.tuple #[])/\∃ l:MV,Hid (Dm n M D A b w r m l o d):=by
 have R:Hid (Code n D A P):=F;have c:=aG T;obtain ⟨E,cc,S,ec,cm,cells⟩:=h.atC;obtain ⟨W,X⟩:=cells 15 ab;have a:wr.cell? ⟨m,4,none⟩=some (.slice o.ar 8192 o.cr):=by rw [i9 h.mp.row 4,<- T];rfl
 have c2:wr.cell? ⟨m,2,none⟩=some (.i p.pr):=i9 h.mp.row 2;have J:¬ m=E:=λe=>h.mp.ne (aK o.ac p.cs.length o.cc p.cs) dv (by simp only [aK];rw [S,e];rfl);have V:¬ E=m:=λe=>J e.symm;have g:=aG (λv (N:U v)=>h.setC E S 15 N);clear F T h cells ec;go_enter func171,ntmps171;go_upto_if 30 with fail
 generalize N:Uz.wrap (bits BinOp.or IntKind.u64 9223372036854775808 524290-1)=t;have O:Hid (∃ p:MV,Dm n M D A b w r m p o (wr.setCell ⟨E,15,none⟩ (.u t))/\p.ram.length=8192):=⟨_,g.out t (by rw [<- N];exact aT _),c.out⟩;generalize wr.setCell ⟨E,15,none⟩ (.u t)=w1 at O ⊢;generalize (p.pr==0)=p0;clear N g J V c2 a W X cm S;go_cut [6] from 7 (λv wc=>∃ w0:Int,v=.i w0/\∃ (p:MV),Hid (Dm n M D A b w r m p o wc)/\Hid (p.ram.length=8192))
 case first =>
  obtain ⟨M1,d1,l1⟩:=O.out;cases p0;·go_wp2_with fail;go_meet;exact ⟨207,rfl,M1,d1,l1⟩
  ·go_wp2_with fail;go_meet;exact ⟨223,rfl,M1,d1,l1⟩
 case rest =>
  clear O c;obtain ⟨b1,rfl,p,f,c⟩:=hcut;go_wp2_with fail;refine (bG R.out 2 ab _ f.out.cur).mono ?_;rintro e w2 ⟨c2,rfl,G⟩;have zs:=aG (f.out.next G.out);clear G f;go_upto_if 32 with fail
  go_cut [6] from 7 (λv wc=>∃ w0:Int,v=.i w0/\∃ (p:MV),Hid (Dm n M D A b w r m p o wc)/\Hid (p.ram.length=8192))
  case first =>
   cases c2;·go_wp2_with fail;go_meet;exact ⟨b1,rfl,p,zs,c⟩
   ·go_wp2_with fail;go_meet;exact ⟨_,rfl,p,zs,c⟩
  case rest =>
   clear zs c;obtain ⟨b2,rfl,p,f,c⟩:=hcut;obtain ⟨Y,cap⟩:∃ z,z=kN 524288 b2:=⟨_,rfl⟩;have u:Hid (∀ d,CE 222 #[.u 524288,.i b2] d (.u Y)):=λd=>by rw [cap];exact gX _ _ d
   have B:Hid (U Y):=(by rw [cap];exact pK _ _);have a:wc.cell? ⟨m,4,none⟩=some (.slice o.ar 8192 o.cr):=(by rw [i9 f.out.mp.row 4,<- c.out];rfl);have y:=aG (nl (f.out.below (Below.refl _ _).drew) 8192 c.out 4112 Y B.out ab);clear cap;go_wp2_with fail;go_cut [] from 7 (λwc=>∃ (p:MV),Hid (Dm n M D A b w r m p o wc)/\Hid (p.ram.length=8192))
   case first =>
    go_region_with (first | (go_at_call 222;with_reducible refine (u.out _).mono ?_;rintro e wy ⟨rfl,rfl⟩) | (go_at_call 119;refine y.out.mono ?_;rintro e wz ⟨rfl,l,C,L⟩));all_goals go_wp2_with fail
    all_goals go_meet
    all_goals exact ⟨l,C,L⟩
   case rest =>
    clear c f u B a y;obtain ⟨p,f,c⟩:=hcut;go_wp2_with fail;refine (bG R.out 2 ab _ f.out.cur).mono ?_;rintro e w3 ⟨c3,rfl,H⟩;have K:=aG (f.out.next H.out);clear H f;go_upto_if 45 with fail
    go_cut [] from 7 (λwc=>∃ (p:MV),Hid (Dm n M D A b w r m p o wc)/\Hid (p.ram.length=8192))
    case first =>
     cases c3;·go_wp2_with fail;go_meet;exact ⟨p,K,c⟩
     ·obtain ⟨Z,q⟩:∃ z,z=kN 524288 223:=⟨_,rfl⟩;have u:Hid (∀ d,CE 222 #[.u 524288,.i 223] d (.u Z)):=λd=>by rw [q];exact gX _ _ d
      have B:Hid (U Z):=(by rw [q];exact pK _ _);have a:w3.cell? ⟨m,4,none⟩=some (.slice o.ar 8192 o.cr):=(by rw [i9 K.out.mp.row 4,<- c.out];rfl);have y:=aG (nl (K.out.below (Below.refl _ _).drew) 8192 c.out 4104 Z B.out ab);clear q;go_wp2_with fail;go_region_with (first | (go_at_call 222;with_reducible refine (u.out _).mono ?_;rintro e wy ⟨rfl,rfl⟩) | (go_at_call 119;refine y.out.mono ?_;rintro e wz ⟨rfl,l,C,L⟩));all_goals go_wp2_with fail
      all_goals go_meet
      all_goals exact ⟨l,C,L⟩
    case rest =>
     clear K c;obtain ⟨p,f,c⟩:=hcut;go_wp2_with fail;refine (bG R.out 3 ab _ f.out.cur).mono ?_;rintro e w4 ⟨a,rfl,I⟩;have Q:=aG (f.out.next I.out);clear I f;cases a;·go_wp2_with fail;refine bodyPost_end (results_none rfl _ _ _) rfl ?_;exact ⟨rfl,p,Q⟩
     ·obtain ⟨z3,s⟩:∃ z,z=kN 0 207:=⟨_,rfl⟩;have u:Hid (∀ d,CE 222 #[.u 0,.i 207] d (.u z3)):=λd=>by rw [s];exact gX _ _ d
      have B:Hid (U z3):=(by rw [s];exact pK _ _);have a:w4.cell? ⟨m,4,none⟩=some (.slice o.ar 8192 o.cr):=(by rw [i9 Q.out.mp.row 4,<- c.out];rfl);have y:=aG (nl (Q.out.below (Below.refl _ _).drew) 8192 c.out 4096 z3 B.out ab);clear s;go_wp2_with fail;go_region_with (first | (go_at_call 222;with_reducible refine (u.out _).mono ?_;rintro e wy ⟨rfl,rfl⟩) | (go_at_call 119;refine y.out.mono ?_;rintro e wz ⟨rfl,l,C,L⟩));all_goals go_wp2_with fail
      all_goals refine bodyPost_end (results_none rfl _ _ _) rfl ?_
      all_goals exact ⟨rfl,l,C⟩
theorem yq {wr:World} (w0:Code n D A P) (h:Dm n M D A b w r m p o wr): Calls prog 171 #[.p M 0,.p m 0] wr λe d=>e=.returned (.tuple #[])/\∃ c:MV,Hid (Dm n M D A b w r m c o d):=by
 rcases h.fit.ram with e|e;·exact td w0 h e
 ·exact tf w0 h e
theorem VI:(Lit.int .i64 (wrap64 Z)).wf=true:=by unfold wrap64;exact Uo ab ab
def Ins.wf (i:Ins):Prop:=(Lit.int .i64 i.op).wf=true/\(Lit.int .i64 i.rd).wf=true/\(Lit.int .i64 i.a).wf=true/\(Lit.int .i64 i.b).wf=true/\(Lit.int .i64 i.imm).wf=true
theorem Ins.wf_mk {v1 v2 b c:Int} (d:(Lit.int .i64 e).wf=true) (a:(Lit.int .i64 v1).wf=true) (f:(Lit.int .i64 v2).wf=true) (g:(Lit.int .i64 b).wf=true) (h4:(Lit.int .i64 c).wf=true):(Ins.mk e v1 v2 b c).wf:=⟨d,a,f,g,h4⟩
def Ins.cells (i:Ins):Array Value:=#[.i i.op,.i i.rd,.i i.a,.i i.b,.i i.imm]
def Sx (w:World) (b:Nat):Prop:=∃ i:Ins,i.wf/\w.heap[b]?=some (.cells i.cells 69 (0,0))
def It (w0:World) (g:Nat) (a:Option Addr) (n cap:Nat) (w:World) (rb ib:Nat) (wr:World):Prop :=
 Cs w0 g a n cap w wr/\Sx wr rb/\Sx wr ib/\w.heap.size<=rb/\w.heap.size<=ib/\rb≠ib/\g<w.heap.size
theorem th {a:Nat × Nat} (h:w.heap[m]?=some (.cells R Q a)) (i:Nat) (v:Value): (w.setCell ⟨m,i,none⟩ v).heap[m]?=some (.cells (R.setIfInBounds i v) Q a):=by simp [World.setCell,Array.getElem?_modify,h]
def Sy:Option Fm->ByteArray
 | none=>⟨#[]⟩
 | some f=>f.str
theorem RK:∃ a:Option Fm,fs Z=Sy a:=by
 unfold fs;split;·exact ⟨some _,rfl⟩
 ·exact ⟨none,rfl⟩
theorem Gu:(prog.info? 69).map (·.size)=some 5:=by kernel_rfl
theorem ma (b:Code n D M P) (d c:Int) (cap: -4611686018427387904<=d) (s:c<=2305843009213693952) (t:d<=c) (u:c-d<=2305843009213693952) (w:World) (f:lu n w m D M r): Calls prog 219 #[.p m 0,.i d,.i c] w λe o=>∃ x:Int,e=.returned (.i x)/\(d<=x/\x<=c)/\Hid (Cs n m D M r w o):=by
 have l:Hid (Code n D M P):=b;have j:Hid (lu n w m D M r):=f;clear b f;go_enter func219,ntmps219;go_wp2_with fail;refine (aB l.out _ ?_ _ j.out).mono ?_;·first | omega | (unfold wrap64;omega)
 rintro e y ⟨x,rfl,⟨p,q⟩,w0⟩;go_wp2_with fail;go_ret;refine ⟨_,rfl,?_,w0⟩;first | (constructor<;>omega) | (unfold wrap64 at *;constructor<;>omega)
structure Cw (w0:World) (g:Nat) (a:Option Addr) (n cap:Nat) (w:World) (bs:List Nat) (R:List Rw) (W:World):Prop where
 cs:Cs w0 g a n cap w W
 iv:Iv bs W R W
 bw:∀ b ∈ bs,w.heap.size<=b
 lt:g<w.heap.size
theorem Cw.cs2 {R1:List Rw} (h:Cw n m D M r w F d W) (k:Iv F W R1 a):Cs n m D M r w a:=by
 obtain ⟨b,l⟩:=h.cs;have o:m ∉ F:=λe=>by have:=h.bw _ e;have:=h.lt;omega
 obtain ⟨i,x,q,c⟩:=b.row;have p:=(Array.getElem?_eq_some_iff.1 c).1;have f:=l.size;refine ⟨⟨b.new,⟨k.ag.os.trans b.below.os,k.ag.tape.trans b.below.tape,k.ag.output.trans b.below.output,Nat.le_trans b.below.size k.ag.size,λj R=>(k.ag.block j (Nat.lt_of_lt_of_le R b.below.size) λe=>?_).trans (b.below.block j R)⟩,i,x,q,(k.ag.block m p o).trans c⟩,⟨k.ag.os.trans l.os,k.ag.tape.trans l.tape,k.ag.output.trans l.output,Nat.le_trans f k.ag.size,λj R w0=>(k.ag.block j (Nat.lt_of_lt_of_le R f) λe=>?_).trans (l.block j R w0)⟩⟩;·have:=h.bw _ e;have:=h.lt;have:=b.new;omega
 ·have:=h.bw _ e;omega
theorem Cw.next {R1:List Rw} (h:Cw n m D M r w F d W) {V2:World} (k:Iv F W R1 a) (hs:Cs n m D M r a V2):Cw n m D M r w F R1 V2:=by have R:=h.cs2 k;refine ⟨R.trans hs,⟨λg c=>?_,Ag.refl _ _,k.sub,k.nd⟩,h.bw,h.lt⟩;obtain ⟨t,b⟩:=k.rows g c;exact ⟨t,hs.keep b (by have:=h.bw _ (k.sub g c);have:=h.lt;omega)⟩
theorem dY {R1:List Rw} {fn:Func} (h:Cw n m D M r w F d W) (H:Hw f (Ag F W)) (w0:Nat) {α:Type} {v:α->Value} {T:α->Prop} (j:∀ V,lu n V m D M r->Calls f A R V (λe c=>∃ x:α,e=.returned (v x)/\T x/\Hid (Cs n m D M r V c))) (i:∀ x V,T x->Cw n m D M r w F R1 V->Wg f (λ_=>True) (bodyPost f fn q) b (pq (cy f H b w0 C G d).1.2.2.1 (cy f H b w0 C G d).1.2.1) (qA (cy f H b w0 C G d).1.2.2.1 (cy f H b w0 C G d).1.2.1 (v x) 0) V) (hx:((cy f H b w0 C G d).1.1,(cy f H b w0 C G d).1.2.2.2,Pa f b (cy f H b w0 C G d).1.2.2.1 (cy f H b w0 C G d).1.2.1)=(false,R1,some (A,R)):=by kernel_rfl) (he:(cy f H b w0 C G d).2.map Prod.fst=(cy f H b w0 C G d).2.map Prod.snd:=by kernel_rfl):Wg f (λ_=>True) (bodyPost f fn q) b C G W :=
 fN h.iv H w0 (Rc:=λV e c=>∃ x:α,e=.returned (v x)/\T x/\Hid (Cs n m D M r V c)) (λV P=>j V (h.cs2 P).1) (λV e c P ⟨x,hx,o,l⟩=>⟨v x,0,hx,i x c o (h.next P l.out)⟩) hx he
theorem DW:(Lit.int .i64 (IntKind.i64.wrap Z)).wf=true:=by rw [IntKind.wrap_i64];exact Uo ab ab
abbrev Ri (rb ib:Nat) (i:Ins):List Rw:=[⟨rb,#[.i 0,.i 0,.i 0,.i 0,.i 0],[]⟩,⟨ib,i.cells,[]⟩]
theorem hO {i0:Ins} (h:Cw n m D M r w F (Ri A b i0) W) (H:Hw prog (Ag F W)) (w0:Nat) (i:Ins) (d:i.wf:=by refine Ins.wf_mk ?_ ?_ ?_ ?_ ?_<;>first | exact Uo ab ab | exact DW _ | assumption) (hx:((cy prog H Tryz.f166.ntmps w0 C G (Ri A b i0)).1.1,(cy prog H Tryz.f166.ntmps w0 C G (Ri A b i0)).1.2.2.2,(lk (cy prog H Tryz.f166.ntmps w0 C G (Ri A b i0)).1.2.2.1 2).map Prod.fst)=(true,[⟨A,i.cells,[]⟩,⟨b,i.cells,[]⟩],some (.p A 0)):=by kernel_rfl) (he:(cy prog H Tryz.f166.ntmps w0 C G (Ri A b i0)).2.map Prod.fst=(cy prog H Tryz.f166.ntmps w0 C G (Ri A b i0)).2.map Prod.snd:=by kernel_rfl): Wg prog (λ_=>True) (bodyPost prog Tryz.f166 (λe j=>∃ i:Ins,e=.returned i.val/\i.wf/\Hid (Cs n m D M r w j))) Tryz.f166.ntmps C G W:=by simp only [Prod.mk.injEq] at hx;refine iO h.iv H w0 (hx:=vw) (he:=he) λV D c f=>?_;obtain ⟨t,ib⟩:=c.rows _ (List.mem_cons_self ..);exact ⟨_,results_cell_row results166 _ _ A _ _ _ _ (f.slot hx.2.2) ib underlying69 rfl Gu,i,rfl,d,h.cs2 c⟩
theorem O0 (k:Code n D M P) (w:World) (hc:lu n w m D M r): Calls prog 166 #[.p m 0] w λe w'=>∃ i:Ins,e=.returned i.val/\i.wf/\Hid (Cs n m D M r w w'):=by
 have F:=hc.lt
 have A:∀ w0:Int,0<w0->∀ V,lu n V m D M r->Calls prog 56 #[.p m 0,.i w0] V λe B=>∃ x:Bool,e=.returned (.bool x)/\True/\Hid (Cs n m D M r V B):=λw0 p V h=>(bG k w0 p V h).mono λe B ⟨x,h1,h3⟩=>⟨x,h1,trivial,h3⟩
 refine bD (S:=λ_=>True) (args:=[.p m 0]) [(#[.i 0,.i 0,.i 0,.i 0,.i 0],69)] func166 ?_
 have R:Cw n m D M r w [w.heap.size] [⟨w.heap.size,#[.i 0,.i 0,.i 0,.i 0,.i 0],[]⟩] (bT w [(#[.i 0,.i 0,.i 0,.i 0,.i 0],69)]):=⟨Cs.alloc hc _,⟨λcap v=>by
  obtain rfl:=List.mem_singleton.1 v
  exact ⟨_,heap_alloc_new _ _⟩,Ag.refl _ _,cp,cp⟩,cp,F⟩
 generalize bT w [(#[.i 0,.i 0,.i 0,.i 0,.i 0],69)]=W0 at *
 refine dY R {} 60 (R1:=[⟨w.heap.size,#[.i 0,.i 0,.i 0,.i 0,.i 0],[]⟩]) (aB k 98 ab) λop W1 K H=>?_
 obtain ⟨q,hq⟩:∃ q,IntKind.i64.wrap (1+op)=q:=⟨_,rfl⟩
 have L:(Lit.int .i64 q).wf=true:=by subst hq;exact DW _
 refine UO H.iv {eq:=[(10,dP .i64 hq)]} 60 2 (R1:=[⟨w.heap.size,#[.i 0,.i 0,.i 0,.i 0,.i 0],[]⟩]) (λV=>V.alloc (.cells #[.i 0,.i 0,.i 0,.i 0,.i 0] 69)) (λV l=>dQ (T:=69) (z:=.agg #[.i 0,.i 0,.i 0,.i 0,.i 0]) ba V) (λV l=>?_)
 have G:w.heap.size<V.heap.size:=by
  obtain ⟨t,h⟩:=l.rows _ (List.mem_singleton_self _)
  exact (Array.getElem?_eq_some_iff.1 h).1
 have U:Cw n m D M r w [w.heap.size,V.heap.size] (Ri w.heap.size V.heap.size ⟨0,0,0,0,0⟩) (V.alloc (.cells #[.i 0,.i 0,.i 0,.i 0,.i 0] 69)):=⟨(H.cs2 l).trans (Cs.alloc (H.cs2 l).1 _),⟨λcap v=>by
  simp only [List.mem_cons,List.not_mem_nil,or_false] at v
  rcases v with rfl|rfl
  ·obtain ⟨t,h⟩:=l.rows _ (List.mem_singleton_self _)
   exact ⟨t,(Below.heap_alloc _ _ _ G).trans h⟩
  ·exact ⟨_,heap_alloc_new _ _⟩,Ag.refl _ _,cp,bv⟩,bv,F⟩
 clear R H l G K
 generalize V.alloc (.cells #[.i 0,.i 0,.i 0,.i 0,.i 0] 69)=W2 at *
 generalize V.heap.size=ib at *
 obtain ⟨Q,a⟩:∃ t,(q==98)=t:=⟨_,rfl⟩
 obtain ⟨O,d1⟩:∃ t,(q==63)=t:=⟨_,rfl⟩
 obtain ⟨zs,d2⟩:∃ t,(q==74)=t:=⟨_,rfl⟩
 obtain ⟨fo,E⟩:=RK q
 have HF:=λV=>qC q L V
 rw [E] at HF
 clear E
 refine dY U {} 60 (R1:=Ri w.heap.size ib ⟨q,0,0,0,0⟩) (aB k 8 ab) λd W3 J X=>?_
 refine dY X {} 60 (R1:=Ri w.heap.size ib ⟨q,0,0,0,0⟩) (aB k 8 ab) λx W4 g Y=>?_
 refine dY Y {} 60 (R1:=Ri w.heap.size ib ⟨q,0,0,0,0⟩) (aB k 8 ab) λy W5 N Z=>?_
 refine dY Z {} 60 (R1:=Ri w.heap.size ib ⟨q,0,0,0,0⟩) (A 6 ab) λc W6 _ I=>?_
 have J:0<=d/\d<32:=ab
 have g:0<=x/\x<32:=ab
 have N:0<=y/\y<32:=ab
 clear U X Y Z
 cases c
 case' true =>
  clear J g N
  refine dY I {} 60 (R1:=Ri w.heap.size ib ⟨q,0,0,0,0⟩) (aB k 32 ab) λd W7 J C7=>?_
  refine dY C7 {} 60 (R1:=Ri w.heap.size ib ⟨q,0,0,0,0⟩) (aB k 32 ab) λx W8 g C8=>?_
  refine dY C8 {} 60 (R1:=Ri w.heap.size ib ⟨q,0,0,0,0⟩) (aB k 32 ab) λy W9 N I=>?_
 all_goals
  refine dY I {} 90 (R1:=Ri w.heap.size ib ⟨q,0,0,0,0⟩) (ma k (-40) 40 ab ab ab ab) λz W10 hz o=>?_
  refine fN o.iv {} 90 (R1:=Ri w.heap.size ib ⟨q,0,0,0,0⟩) (Rc:=λV e B=>e=.returned (.string (Sy fo))/\Bw V B) (λV _=>HF V) λV e B l v=>⟨_,0,v.1,?_⟩
  have C:=o.next l (Cs.of_below (o.cs2 l).1 v.2)
  clear l v I o
  cases fo
  case none=>exact hO C {} 160 ⟨q,0,0,0,0⟩
  rename_i f
  cases f
  case x =>
   exact hO C {} 160 ⟨q,0,0,0,0⟩
  case s =>
   exact hO C {} 160 ⟨q,0,x,y,z⟩
  case r =>
   cases Q
   case true=>exact hO C {eq:=[(41,ak a)]} 160 ⟨q,0,x,y,0⟩
   exact hO C {eq:=[(41,ak a)]} 160 ⟨q,d,x,y,0⟩
  case h =>
   exact dY C {} 160 (R1:=Ri w.heap.size ib ⟨q,d,x,0,0⟩) (aB k 64 ab) λw0 W p C=>hO C {} 160 ⟨q,d,x,0,w0⟩
  case w =>
   exact dY C {} 160 (R1:=Ri w.heap.size ib ⟨q,d,x,0,0⟩) (aB k 32 ab) λw0 W p C=>hO C {} 160 ⟨q,d,x,0,w0⟩
  case c =>
   exact dY C {} 160 (R1:=Ri w.heap.size ib ⟨q,d,x,0,0⟩) (xx k) λw0 W p C=>hO C {} 160 ⟨q,d,x,0,w0⟩
  case i =>
   refine dY C {} 160 (R1:=Ri w.heap.size ib ⟨q,d,x,0,z⟩) (A 6 ab) λc V _ C=>?_
   cases c
   case false=>exact hO C {} 160 ⟨q,d,x,0,z⟩
   exact dY C {} 160 (R1:=Ri w.heap.size ib ⟨q,d,x,0,z⟩) (ma k (-2048) 2047 ab ab ab ab) λi V hi C=>hO C {} 160 ⟨q,d,x,0,i⟩
  case b =>
   refine dY C {} 160 (R1:=Ri w.heap.size ib ⟨q,0,x,y,0⟩) (ma k (-3) 6 ab ab ab ab) λw0 V p C=>?_
   refine dY C {} 160 (R1:=Ri w.heap.size ib ⟨q,0,x,y,IntKind.i64.wrap (4*w0)⟩) (A 6 ab) λc V _ C=>?_
   cases c
   case false=>exact hO C {} 160 ⟨q,0,x,y,IntKind.i64.wrap (4*w0)⟩
   exact dY C {} 160 (R1:=Ri w.heap.size ib ⟨q,0,x,y,IntKind.i64.wrap (4*w0)⟩) (ma k (-2048) 2047 ab ab ab ab) λi V hi C=>hO C {} 160 ⟨q,0,x,y,IntKind.i64.wrap (2*i)⟩
  case u =>
   refine dY C {} 160 (R1:=Ri w.heap.size ib ⟨q,d,0,0,0⟩) (ma k (-524288) 524287 ab ab ab ab) λw0 V p C=>?_
   refine dY C {} 160 (R1:=Ri w.heap.size ib ⟨q,d,0,0,IntKind.i64.wrap (4096*w0)⟩) (A 2 ab) λc V _ C=>?_
   cases c
   case false=>exact hO C {} 160 ⟨q,d,0,0,IntKind.i64.wrap (4096*w0)⟩
   exact hO C {} 160 ⟨q,d,0,0,-2147483648⟩
  case j =>
   refine dY C {} 160 (R1:=Ri w.heap.size ib ⟨q,d,0,0,0⟩) (ma k (-4) 8 ab ab ab ab) λw0 V p C=>?_
   refine dY C {} 160 (R1:=Ri w.heap.size ib ⟨q,d,0,0,IntKind.i64.wrap (4*w0)⟩) (A 6 ab) λc V _ C=>?_
   cases c
   case false=>exact hO C {} 160 ⟨q,d,0,0,IntKind.i64.wrap (4*w0)⟩
   exact dY C {} 160 (R1:=Ri w.heap.size ib ⟨q,d,0,0,IntKind.i64.wrap (4*w0)⟩) (ma k (-524288) 524287 ab ab ab ab) λi V hi C=>hO C {} 160 ⟨q,d,0,0,IntKind.i64.wrap (2*i)⟩
  case a =>
   cases O<;>cases zs
   case false.false=>exact dY C {eq:=[(133,ak d1),(137,ak d2)]} 160 (R1:=Ri w.heap.size ib ⟨q,d,x,y,0⟩) (aB k 4 ab) λw0 W p C=>hO C {} 160 ⟨q,d,x,y,w0⟩
   all_goals exact dY C {eq:=[(133,ak d1),(137,ak d2)]} 160 (R1:=Ri w.heap.size ib ⟨q,d,x,0,0⟩) (aB k 4 ab) λw0 W p C=>hO C {} 160 ⟨q,d,x,0,w0⟩
end Go.Proofs.YtjifdmoehfbihaaGreatDoor
