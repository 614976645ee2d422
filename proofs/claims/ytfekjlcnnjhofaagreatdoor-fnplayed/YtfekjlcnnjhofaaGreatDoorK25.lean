/- Own lemmas. -/
import Derived.Test.YtfekjlcnnjhofaaGreatDoorAut
import Derived.Test.YtfekjlcnnjhofaaGreatDoorK17
import Derived.Test.YtfekjlcnnjhofaaGreatDoorK24
import Derived.Deep.WholeRow
import Derived.Deep.CutRange
set_option maxRecDepth 100000
set_option maxHeartbeats 40000000
namespace Go.Proofs.YtfekjlcnnjhofaaGreatDoor
open Go.RowKit Tryz
open IntKind renaming u64->Uz
open Below renaming refl->X6
open Go renaming World->I1,Value->I2,heap_alloc_new->I3,setRow_other->I4,Addr->I5,Calls->K0,results_none->K1,bodyPost_end->L0,bodyPost->L6,setRow_heap->N1,info_parts->O1,execOp->P2,TypeId->R4,toList_madeCells_one->R5,heap_setCell_other->R6,results_cell_row->R7,run_make_full->R8,bodyPost_ret->S2,Operand->S5,setRow_size->T3
open Int renaming eq_ofNat_of_zero_le->X9
open List renaming replicate->A5,getElem?_eq_getElem->A6,not_mem_nil->A8,mem_cons->A9,mem_singleton->C5,getD_eq_getElem?_getD->C6,getElem?_map->D1,getD->D2,mem_singleton_self->D3,map_replicate->D4,map_toArray->D8,mem_append->F0,length_map->F3,map_cons->G1,map_nil->H8
open Lit renaming int->Y0
open Nat renaming le_trans->V4,le_refl->V8,zero_le->X0,lt_of_lt_of_le->X3,zero_add->X5
open Region renaming wanted->Y1
open Result renaming andThen_ok->Y2
open Sem renaming run_bind->Y6,run_pure->Y7
open Value renaming int->T4,ownBlock->T5,cells->T6
open World renaming size_alloc->Y3,cell?->Y4,setCell->Y5
open _root_.Array renaming getElem?_eq_some_iff->X7,getD_eq_getD_getElem?->X8
set_option linter.unusedVariables false
variable {n a w:I1} {W m M r A b g:Nat} {B D t:Option I5} {p:MV} {x:MA} {o:List Int} {P:DV} {c j k:I2} {K:R4} {Q:Program} {R:Oper} {z:Act} {E:Array I2} {F:List Nat} {f:I5} {y:Act->I1->Prop} {L:Exit->Act->I1->Prop} {N:List I2} {d:List Rw} {e:Func} {l:Ending->I1->Prop} {q:Nat->Option Bool} {s:List KI} {C:Fr} (G:Option I5) (I:R4) (J:List Int) (O:I1) (S T:Int) (V X:Nat) (Y:I5)
theorem Vg (a:n.ownsRow w.heap.size 5 1 (.slice (some ⟨w.heap.size,0,none⟩) m m) m (madeCells (T4 .u8 0).cells (m*1)).toList):n.ownsRow w.heap.size 5 1 (.slice (some ⟨w.heap.size,0,none⟩) m m) m ((A5 m (0:Int)).map (T4 .u8)):=by rw [D4,<- R5];simpa [T6] using a
theorem ly.up (h:ly P W m) (a:W<=M) (b:m<=r):ly P M r:=⟨h.t,h.cm,h.ir,h.by_,V4 h.l1 a,V4 h.l2 b⟩
theorem ly.pushIn (h:ly P W m) (y:Int):ly ⟨P.t,P.cm,P.so,P.xs++[IntKind.u8.wrap y],P.ys,P.ir⟩ (W+1) m:=by
 refine ⟨h.t,h.cm,h.ir,⟨λz a=>?_,h.by_.2⟩,?_,h.l2⟩
 ·rcases F0.1 a with a|a;·exact h.by_.1 z a
  ·rw [C5.1 a];exact Vr lx lx
 ·have:=h.l1;simp;omega
theorem ly.pushOut (h:ly P W m) (y:Int):ly ⟨P.t,P.cm,P.so,P.xs,P.ys++[IntKind.u8.wrap y],P.ir⟩ W (m+1):=by
 refine ⟨h.t,h.cm,h.ir,⟨h.by_.1,λz a=>?_⟩,h.l1,?_⟩
 ·rcases F0.1 a with a|a;·exact h.by_.2 z a
  ·rw [C5.1 a];exact Vr lx lx
 ·have:=h.l2;simp;omega
theorem ly.newIn (h:ly P W m) (k2:Nat):ly ⟨P.t,P.cm,P.so,A5 k2 0,P.ys,P.ir⟩ k2 m:=⟨h.t,h.cm,h.ir,⟨DO k2,h.by_.2⟩,di,h.l2⟩
theorem ly.newOut (h:ly P W m) (k2:Nat):ly ⟨P.t,P.cm,P.so,P.xs,A5 k2 0,P.ir⟩ W k2:=⟨h.t,h.cm,h.ir,⟨h.by_.1,DO k2⟩,h.l1,di⟩
set_option maxRecDepth 100000
def RV (v u:I2):Sem Next:=P2 (λx=>match x with | .tmp 0=>v | _=>u) {dst:=none,op:=.call {callee:=.builtin .append,args:=#[.tmp 0,.tmp 1],argTypes:=#[22,22]},type:=22,pos:= "",after:=#[],guard:=none}
theorem DS (h:(Builtin.append_ #[22,22] 22 #[c,j]).run prog w=.ok k n):(RV c j).run prog w=.ok (.value k) n:=by unfold RV P2;simp only [resolve,invoke,builtin,Y6,Y7,Y2,D8,G1,H8,h]
theorem IG:(do pure (.value (<- Instr.buildSlice 22 1 #[(0,.int .u8 S)])):Sem Next).run prog O=.ok (.value (.slice (some ⟨O.heap.size,0,none⟩) 1 1)) (O.alloc (.cells #[.int .u8 S] 5)):=by obtain ⟨i0,b,a,e2,e3⟩:=O1 info5;have:=run_buildSlice (P:=prog) O 22 5 1 #[(0,.int .u8 S)] #[.int .u8 S] i0 (.int .u8 0) underlying22 b a ph ph v9;simp [this]
theorem IH (j:V<=1048576):∃ W',(do pure (.value (<- Instr.makeSlice 22 (.i V) (.i V))):Sem Next).run prog O=.ok (.value (.slice (some ⟨O.heap.size,0,none⟩) V V)) W'/\W'.ownsRow O.heap.size 5 1 (.slice (some ⟨O.heap.size,0,none⟩) V V) V ((A5 V (0:Int)).map (T4 .u8))/\Bw O W':=by obtain ⟨i0,f,c,d,e⟩:=O1 info5;obtain ⟨W',i,h,a⟩:=R8 (P:=prog) O O.heap.size 22 5 i0 (.int .u8 0) 1 underlying22 f c d .i64 .i64 V (by rw [e];omega) fb (V8 _);have b:(Instr.makeSlice 22 (.i V) (.i V)).run prog O=.ok (.slice (some ⟨O.heap.size,0,none⟩) V V) W':=i;exact ⟨W',by simp [b],Vg h,a.os,a.tape,a.output,a.size,λk g=>a.block k g di⟩
theorem Cs.behind {W':I1} (h:Cs n W B m M w a) (hb:Below w.heap.size a W') (e:W<w.heap.size) (l:n.heap.size<=w.heap.size):Cs n W B m M w W':=by obtain ⟨i,f,j,b⟩:=h.1.row;refine ⟨⟨h.1.new,?_,i,f,j,(hb.block W e).trans b⟩,⟨hb.os.trans h.2.os,hb.tape.trans h.2.tape,hb.output.trans h.2.output,V4 h.2.size hb.size,λk c d=>(hb.block k c).trans (h.2.block k c d)⟩⟩;exact ⟨hb.os.trans h.1.below.os,hb.tape.trans h.1.below.tape,hb.output.trans h.1.below.output,V4 h.1.below.size hb.size,λk c=>(hb.block k ab).trans (h.1.below.block k c)⟩
theorem Dx.below {W':I1} (h:Dx n g B W m w w.heap.size b P D M t r a) (k:Bw a W'):Dx n g B W m w w.heap.size b P D M t r W':=h.next (Cs.of_below h.c.cu.1 k)
theorem Dx.eng {a1:DV} {P:Program} {fn:Func} {Rs:Ending->I1->Prop}:n6 P (Dx n W B m M w w.heap.size b a1 D r t A) (Dx n W B m M w w.heap.size b a1 D r t A) [⟨b,fl a1 D r t A,[]⟩] true (L6 P fn Rs):=
 ⟨λ_ h=>h,λw0 h x c=>by rw [C5.1 c];exact ⟨_,_,h.c.row⟩,λ_ w0 h=>h.drew,cD⟩
theorem Dx.rows (h:Dx n W B m M w w.heap.size b P D r t A a):fN a [⟨b,fl P D r t A,[]⟩]:=⟨⟨_,_,h.c.row⟩,trivial⟩
theorem OJ:n6 Q (Dw n) (Dw n) [] true (L6 Q e l):=⟨λ_ h=>h,λ_ _ _ h=>absurd h (A8),λ_ _ h=>by obtain ⟨d,rfl⟩:=h;exact ⟨d+1,rfl⟩,cD⟩
theorem II:(O.drewN V).cell? Y=O.cell? Y:=rfl
theorem IJ:(O.drewN V).frozen? Y=O.frozen? Y:=rfl
theorem Dx.dN (h:Dx n W B m M w w.heap.size b P D r t A (a.setCell f c)) (z:Nat):Dx n W B m M w w.heap.size b P D r t A ((a.drewN z).setCell f c):=by
 have:(a.drewN z).setCell f c=(a.setCell f c).drewN z:=rfl;rw [this];induction z with
 | zero=>exact h
 | succ z v=>exact (v rfl).drew
def Ej (w0:I1) (g:Nat) (a:Option I5) (n cap:Nat) (w:I1) (b j k1 k2:Nat):Prop:=∀ D a1 c1 a2 c2 W,Dx w0 g a n cap w w.heap.size b D a1 c1 a2 c2 W->ly D k1 k2->Wg prog (λ_=>True) (L6 prog Tryz.f57 λe c=>∃ (D:DV) (a1:Option I5) (c1:Nat) (a2:Option I5) (c2:Nat),e=.returned (.agg (fl D a1 c1 a2 c2))/\Hid (ly D 16 4096)/\Hid (bj w.heap.size c.heap.size c (pP D a1 c1 a2 c2))/\Hid (Cs w0 g a n cap w c)) Tryz.f57.ntmps [.code (au j (aM Tryz.f57))] [(0,.p g 0,0),(2,.p w.heap.size 0,0),(3,.p b 0,1)] W
theorem e7:Ej n W B m M w b 7 16 4096:=by intro D a1 c1 a2 c2 w0 h d;have k:=h.c.rlt;have c:=h.c.glt;have f:=h.c.cu.1.new;refine bx h.rows {} 40 (av (g:=w.heap.size) (t:=27) (ty:=27) (cells:=fl D a1 c1 a2 c2) h.c.res aU rfl (fp _ _ _ _ _)) ?_;exact ix (R:=[]) trivial {} 40 λq e=>⟨_,R7 rfl q.tmps _ w.heap.size 27 (fl D a1 c1 a2 c2) (0,0) _ (e.slot ba) (N1 _ _ _ _ _ _ h.c.res) underlying27 rfl ba,D,a1,c1,a2,c2,rfl,d,(h.fam.mono λj i _ _=>I4 _ _ _ _ ab).low ab rz,h.c.cu.behind (aI (X6 _ _) (V8 _) _) c ab⟩
theorem e6 (d:Code n B m o):Ej n W B m M w b 6 16 4096:=by
 intro D a1 c1 a2 c2 w0 h j;refine aC (R:=[]) trivial {} 40 (bA d 60 bc w0 h.cur) ?_;rintro e V ⟨c,rfl,l⟩;refine ⟨_,0,rfl,?_⟩;replace h:=h.next l.out;cases c with
 | false =>refine aj (R:=[]) trivial {} 3 ?_;exact af _ _ (e7 _ _ _ _ _ _ h j)
 | true =>obtain ⟨zs,r,g,f⟩:=IH V 4096 bc;obtain ⟨_,_,k⟩:=h.newOut _ 4096 4096 _ di g f;refine aj (R:=[]) trivial {} 3 ?_;refine dt 0 r ?_;refine bx (R:=[]) trivial {} 10 (bG (i:=4) (T:=22) (v:=.slice (some ⟨V.heap.size,0,none⟩) 4096 4096) (h.below f).c.row (by simp [fl]) ba rfl) ?_;refine aj (R:=[]) trivial {} 1 ?_;exact af _ _ (e7 _ _ _ _ _ _ k (j.newOut 4096))
theorem e5 (d:Code n B m o):Ej n W B m M w b 5 16 4096:=by
 intro D a1 c1 a2 c2 w0 h j;refine aC (R:=[]) trivial {} 40 (bA d 30 bc w0 h.cur) ?_;rintro e V ⟨c,rfl,l⟩;refine ⟨_,0,rfl,?_⟩;replace h:=h.next l.out;cases c with
 | false =>refine aj (R:=[]) trivial {} 3 ?_;exact af _ _ (e6 d _ _ _ _ _ _ h j)
 | true =>obtain ⟨zs,r,g,f⟩:=IH V 16 bc;obtain ⟨_,_,k⟩:=h.newIn _ 16 16 _ di g f;refine aj (R:=[]) trivial {} 3 ?_;refine dt 0 r ?_;refine bx (R:=[]) trivial {} 10 (bG (i:=3) (T:=22) (v:=.slice (some ⟨V.heap.size,0,none⟩) 16 16) (h.below f).c.row (by simp [fl]) ba rfl) ?_;refine aj (R:=[]) trivial {} 1 ?_;exact af _ _ (e6 d _ _ _ _ _ _ k (j.newIn 16))
theorem e4 (c:Code n B m o):Ej n W B m M w b 4 16 4000:=by
 intro D a1 c1 a2 c2 w0 h i;refine aC (R:=[]) trivial {} 40 (az c 5 bc w0 h.cur) ?_;rintro e V ⟨x,rfl,⟨l,G⟩,j⟩;refine ⟨_,0,rfl,?_⟩;replace h:=h.next j.out;obtain ⟨x,rfl⟩:=X9 l;refine aj (R:=[]) trivial {} 20 ?_;refine gJ (λy:DV × Option I5 × Nat × Option I5 × Nat × Nat=>[(0,.p W 0,0),(2,.p w.heap.size 0,0),(3,.p b 0,1),(5,.i (y.2.2.2.2.2:Nat),0)]) (λk y w0=>y.2.2.2.2.2=k/\k<=4/\Dx n W B m M w w.heap.size b y.1 y.2.1 y.2.2.1 y.2.2.2.1 y.2.2.2.2.1 w0/\ly y.1 16 (4096-k)) x (D,a1,c1,a2,c2,x) ba ba ⟨rfl,ab,h,i.up ab ab⟩ ?_;clear h i j;rintro k ⟨D,a1,c1,a2,c2,I⟩ w0 ⟨g,a,h,i⟩ J t;dsimp only at g a h i;subst g;cases I with
 | zero =>have d:decide (0<((0:Nat):Int))=false:=bc;refine aj (R:=[]) trivial {eq:=[(37,an d)]} 8 ?_;exact af _ _ (e5 c _ _ _ _ _ _ h (i.up ab ab))
 | succ k =>have d:decide (0<((k+1:Nat):Int)):=ek;have F:IntKind.i64.wrap (((k+1:Nat):Int)-1)=((k:Nat):Int):=e8;refine aL (Dx n W B m M w w.heap.size b D a1 c1 a2 c2) ?_;refine aj (R:=[]) trivial {eq:=[(37,an d)]} 60 ?_;refine lN 6 ?_;refine aT Dx.eng {} 30 h.drew (λw0 k=>kF c w0 k.cur) ?_;rintro L e cap zs ⟨y,rfl,N,j⟩;refine ⟨_,0,rfl,λ_=>zs.next j.out,?_⟩;refine ae Dx.eng {} 30 (zs.next j.out) λV r=>?_;refine dt 0 (IG V (IntKind.u8.wrap y)) ?_ (hS:=λ_=>r.below (bal _ _));obtain ⟨f,q,X,E,A,H,s⟩:=r.pushOut (by have:=i.l2;omega) (IntKind.u8.wrap y) 22;refine dt 0 (DS E) ?_;refine aL (Dw X) ?_;refine ae OJ {} 10 (Dw.refl _) λK u=>?_;obtain ⟨z,rfl⟩:=u;refine bE (jh (T:=22) (v:=.slice f (D.ys.length+1) q) ⟨(II X z _).trans A,(IJ X z _).trans H⟩ ba rfl) ?_;exact dY (R:=[]) trivial {eq:=[(39,cR .i64 F)]} 60 λp C=>t p _ k (⟨D.t,D.cm,D.so,D.xs,D.ys++[IntKind.u8.wrap y],D.ir⟩,a1,c1,f,q,k) ab (C.less ba) ⟨rfl,ab,s.dN z,(i.pushOut y).up ab ab⟩
theorem e3 (c:Code n B m o):Ej n W B m M w b 3 12 4000:=by
 intro D a1 c1 a2 c2 w0 h i;refine aC (R:=[]) trivial {} 40 (az c 5 bc w0 h.cur) ?_;rintro e V ⟨x,rfl,⟨l,G⟩,j⟩;refine ⟨_,0,rfl,?_⟩;replace h:=h.next j.out;obtain ⟨x,rfl⟩:=X9 l;refine aj (R:=[]) trivial {} 20 ?_;refine gJ (λy:DV × Option I5 × Nat × Option I5 × Nat × Nat=>[(0,.p W 0,0),(2,.p w.heap.size 0,0),(3,.p b 0,1),(4,.i (y.2.2.2.2.2:Nat),0)]) (λk y w0=>y.2.2.2.2.2=k/\k<=4/\Dx n W B m M w w.heap.size b y.1 y.2.1 y.2.2.1 y.2.2.2.1 y.2.2.2.2.1 w0/\ly y.1 (16-k) 4000) x (D,a1,c1,a2,c2,x) ba ba ⟨rfl,ab,h,i.up ab ab⟩ ?_;clear h i j;rintro k ⟨D,a1,c1,a2,c2,I⟩ w0 ⟨g,a,h,i⟩ J t;dsimp only at g a h i;subst g;cases I with
 | zero =>have d:decide (0<((0:Nat):Int))=false:=bc;refine aj (R:=[]) trivial {eq:=[(23,an d)]} 8 ?_;exact af _ _ (e4 c _ _ _ _ _ _ h (i.up ab ab))
 | succ k =>have d:decide (0<((k+1:Nat):Int)):=ek;have F:IntKind.i64.wrap (((k+1:Nat):Int)-1)=((k:Nat):Int):=e8;refine aL (Dx n W B m M w w.heap.size b D a1 c1 a2 c2) ?_;refine aj (R:=[]) trivial {eq:=[(23,an d)]} 60 ?_;refine lN 6 ?_;refine aT Dx.eng {} 30 h.drew (λw0 k=>kF c w0 k.cur) ?_;rintro L e cap zs ⟨y,rfl,N,j⟩;refine ⟨_,0,rfl,λ_=>zs.next j.out,?_⟩;refine ae Dx.eng {} 30 (zs.next j.out) λV r=>?_;refine dt 0 (IG V (IntKind.u8.wrap y)) ?_ (hS:=λ_=>r.below (bal _ _));obtain ⟨f,q,X,E,A,H,s⟩:=r.pushIn (by have:=i.l1;omega) (IntKind.u8.wrap y) 22;refine dt 0 (DS E) ?_;refine aL (Dw X) ?_;refine ae OJ {} 10 (Dw.refl _) λK u=>?_;obtain ⟨z,rfl⟩:=u;refine bE (jh (T:=22) (v:=.slice f (D.xs.length+1) q) ⟨(II X z _).trans A,(IJ X z _).trans H⟩ ba rfl) ?_;exact dY (R:=[]) trivial {eq:=[(25,cR .i64 F)]} 60 λp C=>t p _ k (⟨D.t,D.cm,D.so,D.xs++[IntKind.u8.wrap y],D.ys,D.ir⟩,f,q,a2,c2,k) ab (C.less ba) ⟨rfl,ab,s.dN z,(i.pushIn y).up ab ab⟩
theorem e2 (d:Code n B m o):Ej n W B m M w b 2 12 4000:=by
 intro D a1 c1 a2 c2 w0 h f;refine aC (R:=[]) trivial {} 40 (bA d 6 bc w0 h.cur) ?_;rintro e V ⟨c,rfl,j⟩;refine ⟨_,0,rfl,?_⟩;replace h:=h.next j.out;cases c with
 | false =>refine aj (R:=[]) trivial {} 3 ?_;exact af _ _ (e3 d _ _ _ _ _ _ h f)
 | true =>refine bx h.rows {} 40 (bG (i:=1) (T:=24) (v:=.u 18446744073709551615) h.c.row (by simp [fl]) ba rfl) ?_;refine aj (R:=[]) trivial {} 1 ?_;exact af _ _ (e3 d _ _ _ _ _ _ (h.cmp _) ⟨f.t,(show U 18446744073709551615 from ⟨bc,bc⟩),f.ir,f.by_,f.l1,f.l2⟩)
theorem OK (b:Code n B m o) (w:I1) (q:ma n w W B m M):K0 prog 57 #[.p W 0] w λe j=>∃ (D:DV) (a1:Option I5) (c1:Nat) (a2:Option I5) (c2:Nat),e=.returned (.agg (fl D a1 c1 a2 c2))/\Hid (ly D 16 4096)/\Hid (bj w.heap.size j.heap.size j (pP D a1 c1 a2 c2))/\Hid (Cs n W B m M w j):=by
 refine br (S:=λ_=>True) (args:=[.p W 0]) [(fl zeroD none 0 none 0,27)] func57 ?_;have d:=q.lt;have zs:Cs n W B m M w (bP w [(fl zeroD none 0 none 0,27)]):=Cs.alloc q _;have u:=(Bs.start w [(fl zeroD none 0 none 0,27)]).1 0 _ rfl;have F:(bP w [(fl zeroD none 0 none 0,27)]).heap.size=w.heap.size+1:=by simp [bP]
 generalize bP w [(fl zeroD none 0 none 0,27)]=x at *;refine aC (R:=[]) trivial {} 40 (az b 50 bc x zs.1) ?_;rintro e A ⟨k,rfl,G,r⟩;refine ⟨_,0,rfl,?_⟩;refine aC (R:=[]) trivial {} 40 (az b 50 bc A r.out.1) ?_;rintro e a ⟨l,rfl,H,s⟩;refine ⟨_,0,rfl,?_⟩;refine aC (R:=[]) trivial {} 40 (bA b 4 bc a s.out.1) ?_;rintro e C ⟨i,rfl,t⟩;refine ⟨_,0,rfl,?_⟩;refine aC (R:=[]) trivial {} 40 (az b 2 bc C t.out.1) ?_;rintro e c ⟨g,rfl,I,E⟩;refine ⟨_,0,rfl,?_⟩;have K:=r.out.trans (s.out.trans (t.out.trans E.out));have p:=zs.trans K;have v:=K.keep u ab;have J:=K.2.size;refine gz (R:=[]) trivial {} 10 1 (ct (T:=27) (z:=.agg (fl zeroD none 0 none 0)) ba c) ?_;refine bx (R:=[]) trivial {} 10 (av (ty:=27) (cells:=fl ⟨Uz.wrap k,Uz.wrap l,i,[],[],g⟩ none 0 none 0) (I3 c _) ba ba (fp _ _ _ _ _)) ?_;rw [World.setRow_alloc_new];have h:Dx n W B m M w w.heap.size c.heap.size ⟨Uz.wrap k,Uz.wrap l,i,[],[],g⟩ none 0 none 0 (c.alloc (.cells (fl ⟨Uz.wrap k,Uz.wrap l,i,[],[],g⟩ none 0 none 0) 27)):=
  ⟨⟨I3 _ _,ap v _,p.trans (Cs.alloc p.1 _),d,ab,V8 _⟩,gy _ _ _⟩
 refine aj (R:=[]) trivial {} 1 ?_;exact af _ _ (e2 b _ _ _ _ _ _ h ⟨aW _,aW _,cb,⟨λy f=>(nomatch f),λy f=>(nomatch f)⟩,X0 _,X0 _⟩)
structure RW (D:DV):Prop where
 t:U D.t
 cm:U D.cm
 ir:(Y0 .i64 D.ir).wf
 by_:cS D
 l1:D.xs.length<=17
 l2:D.ys.length<=4097
theorem ly.any (h:ly P 16 4096):RW P:=⟨h.t,h.cm,by rcases h.ir with e|e<;>rw [e]<;>decide,h.by_,V4 h.l1 ab,V4 h.l2 ab⟩
structure Mf (M:MV):Prop where
 x:M.x.length=32
 ux:∀ j,U (M.x.getD j 0)
 cs:M.cs.length=22
 ucs:∀ j,U (M.cs.getD j 0)
 ram:M.ram.length=4096\/M.ram.length=8192
 bram:∀ y ∈ M.ram,(Y0 .u8 y).wf
 d:ly M.d 16 4096
 pc:U M.pc
 hd:U M.hd
 pr:M.pr=0\/M.pr=1\/M.pr=3
theorem Mf.len (h:Mf p):iR p:=⟨by rw [h.x];omega,by rw [h.cs];omega,by rcases h.ram with e|e<;>rw [e]<;>omega,by have:=h.d.l1;omega,by have:=h.d.l2;omega⟩
structure Dm (w0:I1) (g:Nat) (a:Option I5) (n cap:Nat) (w:I1) (r m:Nat) (M:MV) (A:MA) (wr:I1):Prop where
 cu:Cs w0 g a n cap w wr
 res:wr.heap[r]?=some (.cells (ak zeroM zeroA) 29 (0,0))
 mp:Mp (r+1) m M A wr
 fit:Mf M
 gr:g<r
 wr_:w.heap.size<=r
 w0w:w0.heap.size<=w.heap.size
theorem Dm.cur {wr:I1} (h:Dm n W B M A w r m p x wr):ma n wr W B M A:=h.cu.1
theorem Dm.next {wr:I1} (h:Dm n W B M A w r m p x wr) (k:Cs n W B M A wr a):Dm n W B M A w r m p x a:=by have e:=h.gr;have f:=h.mp.lo;exact ⟨h.cu.trans k,k.keep h.res ab,⟨k.keep h.mp.row ab,(h.mp.fam.mono λj c d b=>k.2.block j b bv).low (V8 _) k.2.size,h.mp.ne,h.mp.lo⟩,h.fit,h.gr,h.wr_,h.w0w⟩
theorem Dm.below {wr:I1} (h:Dm n g B W M w r m p x wr) (k:Bw wr a):Dm n g B W M w r m p x a:=h.next (Cs.of_below h.cu.1 k)
theorem Dm.step {wr:I1} (h:Dm n W B M A w r m p x wr) {M':MV} {e:MA} (hb:Below (r+1) wr a) (o:Mp (r+1) m M' e a) (f:Mf M'):Dm n W B M A w r m M' e a:=by have q:=h.gr;have t:=h.wr_;have g:=h.w0w;have s:=(X7.1 h.res).1;obtain ⟨i,j,l,b⟩:=h.cu.1.row;refine ⟨⟨⟨h.cu.1.new,?_,i,j,l,(hb.block W ab).trans b⟩,⟨hb.os.trans h.cu.2.os,hb.tape.trans h.cu.2.tape,hb.output.trans h.cu.2.output,V4 h.cu.2.size hb.size,λk c d=>(hb.block k ab).trans (h.cu.2.block k c d)⟩⟩,(hb.block r ab).trans h.res,o,f,h.gr,h.wr_,h.w0w⟩;exact ⟨hb.os.trans h.cu.1.below.os,hb.tape.trans h.cu.1.below.tape,hb.output.trans h.cu.1.below.output,V4 h.cu.1.below.size hb.size,λk c=>(hb.block k ab).trans (h.cu.1.below.block k c)⟩
theorem Dm.setX {wr:I1} (h:Dm n W B M A w r m p x wr) (b:Nat) (hb:x.ax=some ⟨b,0,none⟩) (i:Nat) {v:Int} (hv:U v):Dm n W B M A w r m (xM p (p.x.set i v)) x (wr.setCell ⟨b,i,none⟩ (.u v)):=
 h.step (h.mp.setX b hb i v).2 (h.mp.setX b hb i v).1 ⟨by simp [xM,h.fit.x],G5 h.fit.ux i hv,h.fit.cs,h.fit.ucs,h.fit.ram,h.fit.bram,h.fit.d,h.fit.pc,h.fit.hd,h.fit.pr⟩
theorem Dm.setC {wr:I1} (h:Dm n W B M A w r m p x wr) (b:Nat) (hb:x.ac=some ⟨b,0,none⟩) (i:Nat) {v:Int} (hv:U v):Dm n W B M A w r m (cM p (p.cs.set i v)) x (wr.setCell ⟨b,i,none⟩ (.u v)):=
 h.step (h.mp.setC b hb i v).2 (h.mp.setC b hb i v).1 ⟨h.fit.x,h.fit.ux,by simp [cM,h.fit.cs],G5 h.fit.ucs i hv,h.fit.ram,h.fit.bram,h.fit.d,h.fit.pc,h.fit.hd,h.fit.pr⟩
theorem Dm.atX {wr:I1} (h:Dm n W B M A w r m p x wr):∃ b c,x.ax=some ⟨b,0,none⟩/\x.cx=c/\wr.cell? ⟨m,1,none⟩=some (.slice (some ⟨b,0,none⟩) 32 c)/\(∀ j,j<32->wr.cell? ⟨b,j,none⟩=some (.u (p.x.getD j 0))/\wr.frozen? ⟨b,j,none⟩=false):=by
 have d:=h.mp.xrow;rw [h.fit.x] at d;obtain ⟨b,c,e,k⟩:=jV d ab;simp only [Value.slice.injEq,true_and] at e;obtain ⟨f,e2⟩:=e;have i:=h.mp.row;refine ⟨b,c,f,e2,?_,λj l=>?_⟩;·simp [Y4,i,ak,f,e2,h.fit.x]
 ·rw [f] at d;refine ⟨?_,d.frozenAt j⟩;rw [d.cellAt j ab];have o:=h.fit.x;rw [D1,A6 (show j<p.x.length by omega),C6,A6 (show j<p.x.length by omega)];rfl
theorem Dm.atC {wr:I1} (h:Dm n W B M A w r m p x wr):∃ b c,x.ac=some ⟨b,0,none⟩/\x.cc=c/\wr.cell? ⟨m,3,none⟩=some (.slice (some ⟨b,0,none⟩) 22 c)/\(∀ j,j<22->wr.cell? ⟨b,j,none⟩=some (.u (p.cs.getD j 0))/\wr.frozen? ⟨b,j,none⟩=false):=by
 have d:=h.mp.crow;rw [h.fit.cs] at d;obtain ⟨b,c,e,k⟩:=jV d ab;simp only [Value.slice.injEq,true_and] at e;obtain ⟨f,e2⟩:=e;have i:=h.mp.row;refine ⟨b,c,f,e2,?_,λj l=>?_⟩;·simp [Y4,i,ak,f,e2,h.fit.cs]
 ·rw [f] at d;refine ⟨?_,d.frozenAt j⟩;rw [d.cellAt j ab];have o:=h.fit.cs;rw [D1,A6 (show j<p.cs.length by omega),C6,A6 (show j<p.cs.length by omega)];rfl
theorem Dm.setF {M':MV} {wr:I1} (h:Dm n W B M A w r m p x wr) (i:Nat) (v:I2) (b:ak M' x=(ak p x).setIfInBounds i v) (c:aF M' x=aF p x) (fit:Mf M'):Dm n W B M A w r m M' x (wr.setCell ⟨m,i,none⟩ v):=
 h.step (h.mp.setF i v b c).2 (h.mp.setF i v b c).1 fit
theorem Dm.dev {wr:I1} (h:Dm n W B M A w b m p x wr) (k:Cs n W B M A wr a) (D:DV) (a1:Option I5) (c1:Nat) (a2:Option I5) (c2:Nat) (t:ly D 16 4096) (hd:bj wr.heap.size a.heap.size a (pP D a1 c1 a2 c2)): Dm n W B M A w b m (bW p D) (jG x a1 c1 a2 c2) (a.setRow m (ak (bW p D) (jG x a1 c1 a2 c2))):=by
 have cap:=h.next k;have u:=h.mp.lo;have v:=h.mp.lt;have l:∀ q ∈ aF (bW p D) (jG x a1 c1 a2 c2),q.v.ownBlock≠some m:=by
  intro q c e;simp only [aF,A9,A8,or_false] at c;have i:∀ q ∈ pP D a1 c1 a2 c2,q.v.ownBlock≠some m:=λq c e=>by have:=(hd.own q c).lt _ e;omega
  rcases c with rfl|rfl|rfl|rfl|rfl;·exact h.mp.ne (aG x.ax p.x.length x.cx p.x) ef e
  ·exact h.mp.ne (aG x.ac p.cs.length x.cc p.cs) ef e
  ·exact h.mp.ne (aE x.ar p.ram.length x.cr p.ram) ef e
  ·exact i (aE a1 D.xs.length c1 D.xs) (by simp [pP,eX]) e
  ·exact i (aE a2 D.ys.length c2 D.ys) (by simp [pP,eX]) e
 have o:bj (b+1) wr.heap.size a [aG x.ax p.x.length x.cx p.x,aG x.ac p.cs.length x.cc p.cs,aE x.ar p.ram.length x.cr p.ram]:=by have z:=h.gr;have:=(h.mp.fam.mono (w':=a) λj r y s=>k.2.block j s bv);exact this.sub (by simp [aF,List.Sublist.refl])
 have d:=o.app hd ab k.2.size;have wx:bj (b+1) a.heap.size a (aF (bW p D) (jG x a1 c1 a2 c2)):=d;have f:Below (b+1) a (a.setRow m (ak (bW p D) (jG x a1 c1 a2 c2))):=aI (X6 _ _) ab _;refine cap.step f ⟨N1 a m _ _ _ _ cap.mp.row,?_,l,h.mp.lo⟩ ⟨h.fit.x,h.fit.ux,h.fit.cs,h.fit.ucs,h.fit.ram,h.fit.bram,t,h.fit.pc,h.fit.hd,h.fit.pr⟩;rw [T3];exact ⟨λq c=>dQ (wx.own q c) (λj e=>I4 a m j _ (λe2=>l q c (by rw [e,e2]))),wx.hi,wx.ne⟩
def cA (A:MA) (b c:Nat):MA:={A with ac:=some ⟨b,0,none⟩,cc:=c}
theorem Dm.csrs {wr:I1} (h:Dm n W B M A w b m p x wr) (k:Cs n W B M A wr a) (zs:List Int) (v:∀ j,U (zs.getD j 0)) (l:a.ownsRow wr.heap.size 24 1 (.slice (some ⟨wr.heap.size,0,none⟩) 22 22) 22 (zs.map (T4 .u64))): Dm n W B M A w b m (cM p zs) (cA x wr.heap.size 22) (a.setCell ⟨m,3,none⟩ (.slice (some ⟨wr.heap.size,0,none⟩) 22 22)):=by
 have wx:zs.length=22:=by have:=l.1;simpa using this
 have cap:=h.next k;have t:=h.mp.lo;have u:=h.mp.lt;have z:=h.gr;have i:bj (b+1) wr.heap.size a ([aG x.ax p.x.length x.cx p.x]++[aE x.ar p.ram.length x.cr p.ram,aE x.ai p.d.xs.length x.ci p.d.xs,aE x.ao p.d.ys.length x.co p.d.ys]):=by have:=(h.mp.fam.mono (w':=a) λj r y s=>k.2.block j s bv);exact this.sub ef
 have d:=i.ins (q:=aG (some ⟨wr.heap.size,0,none⟩) zs.length 22 zs) (E':=a.heap.size) (by simp only [aG];rw [wx];exact l) ab (V8 _) k.2.size;have c:bj (b+1) a.heap.size a (aF (cM p zs) (cA x wr.heap.size 22)):=d;have f:∀ q ∈ aF (cM p zs) (cA x wr.heap.size 22),q.v.ownBlock≠some m:=by
  intro q o e;simp only [aF,A9,A8,or_false] at o;rcases o with rfl|rfl|rfl|rfl|rfl;·exact h.mp.ne (aG x.ax p.x.length x.cx p.x) ef e
  ·simp only [aG,cA,T5,Option.some.injEq] at e;omega
  ·exact h.mp.ne (aE x.ar p.ram.length x.cr p.ram) ef e
  ·exact h.mp.ne (aE x.ai p.d.xs.length x.ci p.d.xs) ef e
  ·exact h.mp.ne (aE x.ao p.d.ys.length x.co p.d.ys) ef e
 refine cap.step ⟨rfl,rfl,rfl,ep,λj g=>Below.heap_setCell _ _ _ j cb⟩ ⟨?_,Mp.fam_set c f 3 _,f,h.mp.lo⟩ ⟨h.fit.x,h.fit.ux,wx,v,h.fit.ram,h.fit.bram,h.fit.d,h.fit.pc,h.fit.hd,h.fit.pr⟩;have:=bH cap.mp.row 3 (.slice (some ⟨wr.heap.size,0,none⟩) 22 22);rw [this];simp [ak,cM,cA,wx]
def oc (ram:List Int):MV:=⟨2147483648,A5 32 0,3,A5 22 0,ram,zeroD,0,false,false⟩
def Bk (ram:List Int):MV:=if bf ram.length=true then bK (oc ram) else zeroM
theorem Q7 (a:n.ownsRow w.heap.size 24 1 (.slice (some ⟨w.heap.size,0,none⟩) m m) m (madeCells (T4 .u64 0).cells (m*1)).toList):n.ownsRow w.heap.size 24 1 (.slice (some ⟨w.heap.size,0,none⟩) m m) m ((A5 m (0:Int)).map (T4 .u64)):=by rw [D4,<- R5];simpa [T6] using a
theorem OL (W:Y1 R q) (m:Nat) (l c:S5) (d:R.op=Op.makeSlice 25 l c) (hl:z.eval l=.i m) (i:z.eval c=.i m) (hm:m<=1048576) (h:∀ W',W'.ownsRow n.heap.size 24 1 (.slice (some ⟨n.heap.size,0,none⟩) m m) m ((A5 m (0:Int)).map (T4 .u64))->Bw n W'->y (z.put R.dst (.slice (some ⟨n.heap.size,0,none⟩) m m)) W'): if Y1 R q=true then Oper.wp prog R z n y L else y (z.put R.dst undef) n:=by obtain ⟨i0,j,e,f,g⟩:=O1 Bv;obtain ⟨r,b,p,ys⟩:=R8 (P:=prog) n n.heap.size 25 24 i0 (.u 0) 1 underlying25 j e f .i64 .i64 m (by rw [g];omega) fb (V8 _);rw [JZ8 W];unfold Oper.wp;simp [P2,d,hl,i,b,Result.andThen];exact h _ (Q7 p) ((X6 _ _).grown ys (V8 _) wl)
theorem OM {W:I1} (d:W.ownsRow 0 5 1 (.slice (some ⟨V,0,none⟩) 0 0) 0 []) (ad:I5) (m c:Nat) (zs:List Int) (hz:zs.length=m) (E:0<m) (hm:m<=1048576) (w:Sl .u8 W (some ad) zs): ∃ (k:Nat) (W':I1),(Builtin.append_ #[22,22] I #[.slice (some ⟨V,0,none⟩) 0 0,.slice (some ad) m c]).run prog W=.ok (.slice (some ⟨W.heap.size,0,none⟩) m k) W'/\W'.ownsRow W.heap.size 5 1 (.slice (some ⟨W.heap.size,0,none⟩) m k) m (zs.map (T4 .u8))/\Bw W W':=by
 obtain ⟨i0,x,f,i,l⟩:=O1 info5;have a:∀ j u,(zs.map (T4 .u8))[j]?=some u->W.cell? (ad.add j)=some u:=by
  intro j u n;have s:j<zs.length:=by
   rcases Nat.lt_or_ge j zs.length with h|h;·exact h
   ·rw [List.getElem?_eq_none et] at n;cases n
  obtain ⟨b,C,e,_,z⟩:=w j s;cases e;rw [zt,z];rw [D1,A6 s] at n;rw [C6,A6 s];exact n
 have B:(zs.map (T4 .u8)).length=m*i0.size:=by rw [F3,hz,i];omega
 obtain ⟨H,ty,t,p,F,G⟩:=run_append_own (P:=prog) W 0 22 I 5 i0 (.int .u8 0) 1 1 underlying22 x f i l rfl bc _ 0 [] d ad m c (zs.map (T4 .u8)) (by rw [F3,hz];omega) a (ints_oneCell _ _) fb ab (X0 _);have q:=run_append_grow (P:=prog) W 22 I 5 i0 (.int .u8 0) underlying22 x f ⟨V,0,none⟩ 0 0 [] di (λj v h=>by simp at h) ad m c (zs.map (T4 .u8)) B a ab ab (growslice_fits ab (by rw [l];omega));rw [q] at t;simp only [X5,List.nil_append] at p t q;injection t with e1 e2
 subst e1;subst e2;refine ⟨_,_,q,?_,(X6 _ _).drew.alloc (by exact V8 _) _⟩;refine ⟨p.1,?_⟩;rcases p.2 with ⟨e,D⟩|⟨y,cap,o,e,A,r⟩;·cases e
 ·refine .inr ⟨y,cap,o,e,?_,r⟩;simp only [Value.slice.injEq,Option.some.injEq,Addr.mk.injEq] at e;omega
theorem OO (W:Y1 R q) (s x:S5) (d:R.op=.call {callee:=.builtin .append,args:=#[s,x],argTypes:=#[22,22]}) (g:Nat) (hs:z.eval s=.slice (some ⟨g,0,none⟩) 0 0) (ad:I5) (m c:Nat) (zs:List Int) (hx:z.eval x=.slice (some ad) m c) (b:n.ownsRow 0 5 1 (.slice (some ⟨g,0,none⟩) 0 0) 0 []) (hz:zs.length=m) (f:0<m) (hm:m<=1048576) (e:Sl .u8 n (some ad) zs) (h:∀ k W',W'.ownsRow n.heap.size 5 1 (.slice (some ⟨n.heap.size,0,none⟩) m k) m (zs.map (T4 .u8))->Bw n W'->y (z.put R.dst (.slice (some ⟨n.heap.size,0,none⟩) m k)) W'): if Y1 R q=true then Oper.wp prog R z n y L else y (z.put R.dst undef) n:=by obtain ⟨k,W',l,i,j⟩:=OM R.type g b ad m c zs hz f hm e;rw [JZ8 W];unfold Oper.wp P2;simp only [d,resolve,invoke,builtin,Y6,Y7,Y2,D8,G1,H8,hs,hx,l];exact h _ _ i j
theorem Q8 (h:J.length<=1048576):iR (oc J):=⟨by simp [oc],by simp [oc],h,by simp [oc,zeroD],by simp [oc,zeroD]⟩
theorem KJ (h:bf W):0<W:=by
 rcases Nat.eq_zero_or_pos W with a|a;·subst a;revert h;decide
 ·exact a
theorem Gs {L:List FRow} (h:bj W m w L) (g:Nat) (b:∀ q ∈ L,q.v.ownBlock≠some g) (cs:Array I2):bj W m (w.setRow g cs) L :=
 ⟨λr a=>dQ (h.own r a) (λk e=>I4 w g k cs (λe2=>b r a (by rw [<- e2];exact e))),h.hi,h.ne⟩
theorem Gt (h:Below W n w) {g:Nat} (b:W<=g) (cs:Array I2):Below W n (w.setRow g cs):=
 ⟨h.os,h.tape,h.output,by rw [T3];exact h.size,λk a=>(I4 w g k cs ab).trans (h.block k a)⟩
theorem Bl (parts:Array (Nat × S5)) (c:R.op=.build I parts) (vs:List (Nat × I2)) (hv:parts.toList.map (λp=>(p.1,z.eval p.2))=vs) (cells:Array I2) (h:Q.built I vs=some cells):(P2 z.eval R).run Q w=.ok (.value (.agg cells)) w:=by
 have b:(parts.map λ(i,x)=>(i,z.eval x)).toList=vs:=by rw [Array.toList_map];exact hv
 subst b;clear hv;unfold P2;simp only [c,Y6,run_build w I _ cells h,Y2];rfl
def yg (b a vr:I2):Array Value:=#[.u 2147483648,b,.i 3,a,vr,.u 0,.u 0,.bool false,.slice none 0 0,.slice none 0 0,.i 0,.u 0,.bool false,.bool false]
def Zs (B:Nat) (W:I1) (m:Nat) (v:I2):Prop:=∃ a,v=.slice a m m/\W.ownsRow B 24 1 (.slice a m m) m ((A5 m (0:Int)).map (T4 .u64))
structure KR (B n:Nat) (ram:List Int) (W:I1) (vx vc vr:I2):Prop where
 x:Zs B W 32 vx
 c:Zs B W 22 vc
 r:W.ownsRow B 5 1 vr n (ram.map (T4 .u8))
def RY (B n cap:Nat) (ad:I5) (ram:List Int) (W:I1):Nat->List I2->Prop
 | 0,[v]=>Zs B W 32 v
 | 1,[v]=>Zs B W 22 v
 | 2,[v]=>∃ g,v=.slice (some ⟨g,0,none⟩) 0 0/\W.ownsRow 0 5 1 (.slice (some ⟨g,0,none⟩) 0 0) 0 []
 | 3,[v]=>v=.slice (some ad) n cap
 | 4,[v]=>W.ownsRow B 5 1 v n (ram.map (T4 .u8))
 | 5,[v]=>∃ c a b,v=.agg (yg c a b)/\KR B n ram W c a b
 | 6,[v]=>∃ r d,v=.p r 0/\B<=r/\W.heap[r]?=some (.cells d 29 (0,0))/\d.size=14
 | 7,[p]=>∃ r c a b,p=.p r 0/\B<=r/\W.heap[r]?=some (.cells (yg c a b) 29 (0,0))/\KR B n ram W c a b
 | _,_=>True
def WY:Nat->List Nat
 | 7=>[6]
 | i=>[i]
theorem Gu (ac ar:Option I5) (n cr:Nat):prog.built 29 [(0,.u 2147483648),(1,.slice G 32 32),(2,.i 3),(3,.slice ac 22 22),(4,.slice ar n cr)]=some (yg (.slice G 32 32) (.slice ac 22 22) (.slice ar n cr)):=by kernel_rfl
theorem rJ (ys:Nat->Option Bool) (b:Y1 R ys) (h:if Y1 R ys=true then Oper.wp Q R z n y L else y (z.put R.dst undef) n):R.wp Q z n y L:=by rwa [JZ8 b] at h
theorem rK (h:n.ownsRow W K 1 c m N) (hk:∀ (g:Nat) (b:Array I2),n.heap[g]?=some (.cells b K (0,0))->a.heap[g]?=some (.cells b K (0,0))):a.ownsRow W K 1 c m N:=by
 refine ⟨h.1,?_⟩;rcases h.2 with d|⟨g,cap,W',v,e2,e3,e4⟩;·exact .inl d
 ·exact .inr ⟨g,cap,W',v,e2,hk g W' e3,e4⟩
theorem Zs.kept (h:Zs W n m c) (hk:∀ (g:Nat) (b:Array I2),n.heap[g]?=some (.cells b 24 (0,0))->a.heap[g]?=some (.cells b 24 (0,0))):Zs W a m c:=by obtain ⟨W',e,h⟩:=h;exact ⟨W',e,rK h hk⟩
theorem KR.kept (h:KR W m o n c j k) (hk:∀ (g:Nat) (W':Array I2) (t:R4),t≠29->n.heap[g]?=some (.cells W' t (0,0))->a.heap[g]?=some (.cells W' t (0,0))):KR W m o a c j k :=
 ⟨h.x.kept (λg W'=>hk g W' _ bc),h.c.kept (λg W'=>hk g W' _ bc),rK h.r (λg W'=>hk g W' _ bc)⟩
theorem DT (hk:∀ (g:Nat) (W':Array I2) (t:R4),t≠29->n.heap[g]?=some (.cells W' t (0,0))->a.heap[g]?=some (.cells W' t (0,0))) (hm:∀ (g:Nat) (W':Array I2),n.heap[g]?=some (.cells W' 29 (0,0))->∃ b:Array I2,a.heap[g]?=some (.cells b 29 (0,0))/\b.size=W'.size/\(b=W'\/∃ ad c d,b=yg ad c d/\KR W m o a ad c d)): ∀ j l,RY W m M f o n j l->RY W m M f o a j l:=by
 intro j l h;unfold RY at h ⊢;split;·exact h.kept (λg W'=>hk g W' _ bc)
 ·exact h.kept (λg W'=>hk g W' _ bc)
 ·obtain ⟨g,e,h⟩:=h;exact ⟨g,e,rK h (λg W'=>hk g W' _ bc)⟩
 ·exact h
 ·exact rK h (λg W'=>hk g W' _ bc)
 ·obtain ⟨ad,c,d,e,h⟩:=h;exact ⟨ad,c,d,e,h.kept hk⟩
 ·obtain ⟨r,W',e,k,B,s⟩:=h;obtain ⟨b,i,u,_⟩:=hm r W' B;exact ⟨r,b,e,k,i,ab⟩
 ·obtain ⟨r,ad,c,d,e,k,B,s⟩:=h;obtain ⟨b,i,u,v⟩:=hm r _ B;rcases v with rfl|⟨q,ram,p,rfl,w⟩;·exact ⟨r,ad,c,d,e,k,i,s.kept hk⟩
  ·exact ⟨r,q,ram,p,e,k,i,w⟩
 ·trivial
theorem nl (hb:Bw n a):∀ j l,RY W m M f o n j l->RY W m M f o a j l:=by
 have h:∀ (g:Nat) (ram:Obj),n.heap[g]?=some ram->a.heap[g]?=some ram:=λg ram e=>by rw [hb.block g (X7.1 e).1];exact e
 exact DT (λg W' t _ e=>h g _ e) (λg W' e=>⟨W',h g _ e,rfl,.inl rfl⟩)
theorem Q9 {cap:Nat} {ad:I5} (hr:n.heap[r]?=some (.cells E 29 (0,0))) (hs:E.size=14) (i:KR W m o n c j k): KR W m o (n.setRow r (yg c j k)) c j k/\∀ a l,RY W m cap ad o n a l->RY W m cap ad o (n.setRow r (yg c j k)) a l:=by
 have h:∀ (g:Nat) (b:Array I2) (t:R4),t≠29->n.heap[g]?=some (.cells b t (0,0))->(n.setRow r (yg c j k)).heap[g]?=some (.cells b t (0,0)):=by
  intro g b t vr e;rw [I4 n r g _ (λe2=>?_)];·exact e
  ·subst e2;rw [hr] at e;simp only [Option.some.injEq,Obj.cells.injEq] at e;exact vr e.2.1.symm
 have d:=i.kept h;refine ⟨d,DT h (λg b e=>?_)⟩;by_cases f:g=r;·subst f;rw [hr] at e;simp only [Option.some.injEq,Obj.cells.injEq,and_true] at e;subst e;exact ⟨_,N1 _ _ _ _ _ _ hr,by rw [hs];rfl,.inr ⟨c,j,k,rfl,d⟩⟩
 ·exact ⟨b,by rw [I4 n r g _ f];exact e,rfl,.inl rfl⟩
theorem qu (h:n.ownsRow W K 1 c m N):∃ a v,c=.slice a m v:=by
 rcases h.2 with ⟨b,e⟩|⟨g,cap,d,b,_⟩;·exact ⟨none,0,by rw [b,e]⟩
 ·exact ⟨_,_,b⟩
theorem KR.one (h:KR W m o n c j k):(yg c j k).all (·.oneCell'):=by obtain ⟨e,rfl,_⟩:=h.x;obtain ⟨b,rfl,_⟩:=h.c;obtain ⟨d,f,rfl⟩:=qu h.r;kernel_rfl
theorem Gv {k:Nat} (h:n.ownsRow W K 1 (.slice B m M) m N) (hk:(Value.slice B m M).ownBlock=some k):∃ e,n.heap[k]?=some (.cells e K (0,0))/\e.size=M:=by
 rcases h.2 with ⟨d,_⟩|⟨g,cap,b,d,_,f,_,_,i,_⟩;·rw [d] at hk;cases hk
 ·cases d;cases hk;exact ⟨b,f,ab⟩
theorem KR.fam (h:KR W m o n c j k) (hr:n.heap[M]?=some (.cells E 29 (0,0))): ∃ C:MA,c=.slice C.ax 32 C.cx/\j=.slice C.ac 22 C.cc/\k=.slice C.ar m C.cr/\C.ai=none/\C.ci=0/\C.ao=none/\C.co=0/\bj W n.heap.size n [aG C.ax 32 C.cx (A5 32 0),aG C.ac 22 C.cc (A5 22 0),aE C.ar m C.cr o,aE none 0 0 [],aE none 0 0 []]/\(∀ q ∈ [aG C.ax 32 C.cx (A5 32 0),aG C.ac 22 C.cc (A5 22 0),aE C.ar m C.cr o,aE none 0 0 [],aE none 0 0 []],q.v.ownBlock≠some M):=by
 obtain ⟨H,rfl,A⟩:=h.x;obtain ⟨F,rfl,z⟩:=h.c;obtain ⟨G,I,e⟩:=qu h.r;have v:=h.r;rw [e] at v;have g:∀ (cs:Nat) (E p:Array I2) (t u:R4),n.heap[cs]?=some (.cells E t (0,0))->n.heap[cs]?=some (.cells p u (0,0))->t=u/\E=p:=by intro cs E p t u a d;rw [a] at d;simp only [Option.some.injEq,Obj.cells.injEq] at d;exact ⟨d.2.1,d.1⟩
 have w:=λcs=>Gv (k:=cs) A;have ram:=λcs=>Gv (k:=cs) z;have B:=λcs=>Gv (k:=cs) v;have x:∀ (cs:Nat) (E:Array I2) (t:R4),n.heap[cs]?=some (.cells E t (0,0))->cs<n.heap.size:=λcs E t h=>(X7.1 h).1;refine ⟨⟨H,32,F,22,G,I,none,0,none,0⟩,rfl,rfl,e,rfl,rfl,rfl,rfl,⟨λq b=>?_,λq b cs i=>?_,?_⟩,λq b vr=>?_⟩
 ·simp only [A9,A8,or_false] at b;rcases b with rfl|rfl|rfl|rfl|rfl;·exact A
  ·exact z
  ·exact v
  ·exact ⟨rfl,.inl ⟨rfl,rfl⟩⟩
  ·exact ⟨rfl,.inl ⟨rfl,rfl⟩⟩
 ·simp only [A9,A8,or_false] at b;rcases b with rfl|rfl|rfl|rfl|rfl;·obtain ⟨_,a,_⟩:=w cs i;exact x _ _ _ a
  ·obtain ⟨_,a,_⟩:=ram cs i;exact x _ _ _ a
  ·obtain ⟨_,a,_⟩:=B cs i;exact x _ _ _ a
  ·cases i
  ·cases i
 ·simp only [List.pairwise_cons,A9,A8,or_false];refine ⟨λs D cs f e2=>?_,λs D cs f e2=>?_,λs D cs f e2=>?_,λs D cs f=>(by cases f),λs D=>D.elim,List.Pairwise.nil⟩
  ·obtain ⟨_,a,d⟩:=w cs f;rcases D with rfl|rfl|rfl|rfl;·obtain ⟨_,l,y⟩:=ram cs e2;rw [(g _ _ _ _ _ a l).2] at d;omega
   ·obtain ⟨_,l,y⟩:=B cs e2;exact absurd (g _ _ _ _ _ a l).1 bc
   ·cases e2
   ·cases e2
  ·obtain ⟨_,a,d⟩:=ram cs f;rcases D with rfl|rfl|rfl;·obtain ⟨_,l,y⟩:=B cs e2;exact absurd (g _ _ _ _ _ a l).1 bc
   ·cases e2
   ·cases e2
  ·rcases D with rfl|rfl;·cases e2
   ·cases e2
 ·simp only [A9,A8,or_false] at b;rcases b with rfl|rfl|rfl|rfl|rfl;·obtain ⟨_,a,_⟩:=w M vr;exact absurd (g _ _ _ _ _ a hr).1 bc
  ·obtain ⟨_,a,_⟩:=ram M vr;exact absurd (g _ _ _ _ _ a hr).1 bc
  ·obtain ⟨_,a,_⟩:=B M vr;exact absurd (g _ _ _ _ _ a hr).1 bc
  ·cases vr
  ·cases vr
theorem qw (ram:List Int) (w:I1) (hz:ram.length=V) (hn:V<=1048576) (hs:Sl .u8 w G ram): K0 prog 56 #[.slice G V X] w λe d=>∃ C:MA,e=.returned (.tuple #[.agg (ak (Bk ram) C),.bool (bf V)])/\bj w.heap.size d.heap.size d (aF (Bk ram) C)/\Bw w d:=by
 have B0:Bw w (w.alloc (.cells #[.u 0,.slice none 0 0,.i 0,.slice none 0 0,.slice none 0 0,.u 0,.u 0,.bool false,.slice none 0 0,.slice none 0 0,.i 0,.u 0,.bool false,.bool false] 29)):=bal _ _;have rb:(w.alloc (.cells #[.u 0,.slice none 0 0,.i 0,.slice none 0 0,.slice none 0 0,.u 0,.u 0,.bool false,.slice none 0 0,.slice none 0 0,.i 0,.u 0,.bool false,.bool false] 29)).heap[w.heap.size]?=some (.cells #[.u 0,.slice none 0 0,.i 0,.slice none 0 0,.slice none 0 0,.u 0,.u 0,.bool false,.slice none 0 0,.slice none 0 0,.i 0,.u 0,.bool false,.bool false] 29):=I3 _ _;obtain ⟨Q,ad⟩:∃ Q:I1->Prop,Q=λW=>Below (w.heap.size+1) (w.alloc (.cells #[.u 0,.slice none 0 0,.i 0,.slice none 0 0,.slice none 0 0,.u 0,.u 0,.bool false,.slice none 0 0,.slice none 0 0,.i 0,.u 0,.bool false,.bool false] 29)) W:=⟨_,rfl⟩;have T:Hid (∀ W W',Q W->Bw W W'->Q W'):=by rw [ad];exact λW W' h p=>h.trans (p.mono (by have:=h.size;simp only [Y3] at this;omega))
 have PU:Hid (∀ W g,Q W->w.heap.size+1<=g->∀ cs,Q (W.setRow g cs)):=by rw [ad];exact λW g h hg=>Gt h hg
 have PE:Hid (∀ W,Q W->Bw w W):=by rw [ad];exact λW h=>B0.trans (h.mono ab)
 have PZ:Hid (∀ W,Q W->w.heap.size+1<=W.heap.size):=by rw [ad];exact λW h=>by have:=h.size;simp only [Y3] at this;omega
 have PR:Hid (∀ W,Q W->W.heap[w.heap.size]?=some (.cells #[.u 0,.slice none 0 0,.i 0,.slice none 0 0,.slice none 0 0,.u 0,.u 0,.bool false,.slice none 0 0,.slice none 0 0,.i 0,.u 0,.bool false,.bool false] 29)):=by rw [ad];exact λW h=>(h.block _ ab).trans rb
 have PK:Hid (∀ W W' L B E,Q W->jD L W W'->bj B E W L->w.heap.size+1<=B->Q W'):=by rw [ad];exact λW W' L B E h k f U=>h.trans ((k.keep f).below U (by have:=h.size;simp only [Y3] at this;omega))
 have q0:Q (w.alloc (.cells #[.u 0,.slice none 0 0,.i 0,.slice none 0 0,.slice none 0 0,.u 0,.u 0,.bool false,.slice none 0 0,.slice none 0 0,.i 0,.u 0,.bool false,.bool false] 29)):=by rw [ad];exact X6 _ _
 have KS:Hid (∀ d,Q d->Q d):=λd h=>h;have z:Hid (∀ w,CE 28 #[.slice G V X] w (.bool (bf V))):=λw=>pS _ _ _ w hn;have Z:Hid (∀ w,K0 prog 83 #[] w λe d=>e=.returned (.slice (some ⟨w.heap.size,0,none⟩) 22 22)/\d.ownsRow w.heap.size 24 1 (.slice (some ⟨w.heap.size,0,none⟩) 22 22) 22 ((A5 22 (0:Int)).map (T4 .u64))/\Bw w d):=nY;have cap:Hid (∀ (C:MA) (b B E:Nat) (d:I1),d.heap[b]?=some (.cells #[.u 2147483648,.slice C.ax 32 C.cx,.i 3,.slice C.ac 22 C.cc,.slice C.ar V C.cr,.u 0,.u 0,.bool false,.slice C.ai 0 C.ci,.slice C.ao 0 C.co,.i 0,.u 0,.bool false,.bool false] 29 (0,0))->bj B E d (aF (oc ram) C)->(∀ q ∈ aF (oc ram) C,q.v.ownBlock≠some b)->K0 prog 23 #[.p b 0] d λe S=>e=.returned (.tuple #[])/\S.heap[b]?=some (.cells #[.u 2147483648,.slice C.ax 32 C.cx,.i 3,.slice C.ac 22 C.cc,.slice C.ar V C.cr,.u 0,.u 0,.bool false,.slice C.ai 0 C.ci,.slice C.ao 0 C.co,.i 0,.u 0,.bool false,.bool false] 29 (0,0))/\bj B E S (aF (bK (oc ram)) C)/\jD (aF (oc ram) C) d S):=λC b B E d D hf p=>by subst hz;have h2:=vq (oc ram) C b B E d rfl (Q8 ram hn) D hf p;rw [vm] at h2;exact h2
 have Y:Hid (∀ C:MA,ak (bK (oc ram)) C=#[.u 2147483648,.slice C.ax 32 C.cx,.i 3,.slice C.ac 22 C.cc,.slice C.ar V C.cr,.u 0,.u 0,.bool false,.slice C.ai 0 C.ci,.slice C.ao 0 C.co,.i 0,.u 0,.bool false,.bool false]):=λC=>by subst hz;exact (vm (oc ram) C).trans rfl
 obtain ⟨n,hV⟩:∃ n,n=Bk ram:=⟨_,rfl⟩;rw [<- hV];clear ad rb;cases s:bf V with
 | false =>have F:Hid (n=zeroM):=(by show _=_;rw [hV];unfold Bk;rw [hz,s];rfl);rw [s] at z;clear Z cap hV Y hs hz hn s;go_enter func56,ntmps56;go_wp2_with fail;refine (z.out _).mono ?_;rintro e w1 ⟨rfl,P⟩;subst P;go_wp2_with fail;exact S2 (cL results56 _ _ _ _ _ _ _ rfl (PR.out _ q0) underlying29 rfl oh) rfl ⟨zeroA,bh,by rw [F.out];exact gC _ _ _,PE.out _ q0⟩
 | true =>
   have F:Hid (n=bK (oc ram)):=(by show _=_;rw [hV];unfold Bk;rw [hz,s];rfl);have H:=KJ s;rw [s] at z;have HN:Hid (ram.length=V/\0<V/\V<=1048576):=⟨hz,H,hn⟩;obtain ⟨m,rfl⟩:∃ x,G=some x:=(by obtain ⟨b,off,e,_⟩:=hs 0 ab;exact ⟨_,e⟩);have HSL:Hid (∀ W,Bw w W->Sl .u8 W (some m) ram):=λW p=>hs.below p;clear hs hz hn s H hV;go_enter func56,ntmps56;go_wp2_with fail;refine (z.out _).mono ?_;rintro e w1 ⟨rfl,P⟩;subst P;go_wp2_with fail;go_cut [4] from 5 (λy wc=>∃ (r:Nat) (C:MA),y=.p r 0/\Hid (wc.heap[r]?=some (.cells #[.u 2147483648,.slice C.ax 32 C.cx,.i 3,.slice C.ac 22 C.cc,.slice C.ar V C.cr,.u 0,.u 0,.bool false,.slice none 0 0,.slice none 0 0,.i 0,.u 0,.bool false,.bool false] 29 (0,0))/\bj (w.heap.size+1) wc.heap.size wc ([aG C.ax 32 C.cx (A5 32 0),aG C.ac 22 C.cc (A5 22 0),aE C.ar V C.cr ram,aE none 0 0 [],aE none 0 0 []])/\(∀ q ∈ [aG C.ax 32 C.cx (A5 32 0),aG C.ac 22 C.cc (A5 22 0),aE C.ar V C.cr ram,aE none 0 0 [],aE none 0 0 []],q.v.ownBlock≠some r)/\w.heap.size+1<=r/\Q wc)/\C.ai=none/\C.ci=0/\C.ao=none/\C.co=0)
   case first =>
    have p0:=T.out _ _ q0 (X6 _ _).drew;refine xu ba WY (λj l W=>RY (w.heap.size+1) V X m ram W j l) Q ba p0 ?_ ?_
    ·intro i o A a W t u c O;rcases i with _ | _ | _ | _ | _ | _ | _ | _ | i;·obtain rfl:=Option.some.inj A;refine rJ (λ_=>none) (by rfl) (OL (by rfl) 32 (.const (.i 32)) (.const (.i 32)) rfl rfl rfl ab ?_);intro W' ow p;exact ⟨_,rfl,⟨_,rfl,cQ ow (PZ.out _ t)⟩,T.out _ _ t p,nl p⟩
     ·obtain rfl:=Option.some.inj A;go_simp;refine (Z.out _).mono ?_;rintro e W' ⟨rfl,ow,p⟩;exact ⟨_,rfl,⟨_,rfl,cQ ow (PZ.out _ t)⟩,T.out _ _ t p,nl p⟩
     ·obtain rfl:=Option.some.inj A;have p:Bw W (W.alloc (.cells #[] 5 (0,0))):=bal _ _;go_simp;exact ⟨_,rfl,⟨_,rfl,cQ (jl W _ (V8 _) _ rfl) (X0 _)⟩,T.out _ _ t p,nl p⟩
     ·obtain rfl:=Option.some.inj A;have e0:a.tmps[0]?=some (.slice (some m) V X):=u 0 ba;refine KX (v:=.slice (some m) V X) ?_ ⟨_,rfl,rfl,t,λ_ _ h=>h⟩;simp [P2,Act.eval,X8,e0]
     ·obtain rfl:=Option.some.inj A;obtain ⟨g,e2,ol⟩:=O 2 bc ba;have e3:=O 3 bc ba;refine rJ (λ_=>none) (by rfl) (OO (by rfl) (.tmp 11) (.tmp 12) rfl g e2 m V X ram e3 ol HN.out.1 HN.out.2.1 HN.out.2.2 (HSL.out _ (PE.out _ t)) ?_);intro k W' ow p;exact ⟨_,rfl,cQ ow (PZ.out _ t),T.out _ _ t p,nl p⟩
     ·obtain rfl:=Option.some.inj A;have h0:=O 0 bc ba;have h1:=O 1 bc ba;have h4:=O 4 bc ba;obtain ⟨ax,ex,hx⟩:=h0;obtain ⟨ac,ec,hc⟩:=h1;obtain ⟨ar,cr,er⟩:=qu h4;refine KX (v:=.agg (yg (.slice ax 32 32) (.slice ac 22 22) (.slice ar V cr))) (Bl _ _ rfl [(0,.u 2147483648),(1,.slice ax 32 32),(2,.i 3),(3,.slice ac 22 22),(4,.slice ar V cr)] ?_ _ (Gu _ _ _ _ _)) ⟨_,rfl,⟨_,_,_,rfl,⟨?_,?_,?_⟩⟩,t,λ_ _ h=>h⟩;·rw [<- ex,<- ec,<- er];rfl
      ·exact ⟨_,rfl,hx⟩
      ·exact ⟨_,rfl,hc⟩
      ·rw [<- er];exact h4
     ·obtain rfl:=Option.some.inj A;go_simp;exact ⟨_,rfl,⟨W.heap.size,_,rfl,PZ.out _ t,I3 _ _,rfl⟩,T.out _ _ t (bal _ _),nl (bal _ _)⟩
     ·obtain rfl:=Option.some.inj A;obtain ⟨vx,vc,vr,e5,h3⟩:=O 5 bc ba;obtain ⟨r,cs,e6,U,D,hs⟩:=O 6 bc ba;obtain ⟨h4,h5⟩:=Q9 (cap:=X) (ad:=m) D hs h3;refine wp_store_row 29 (.tmp 4) (.tmp 14) rfl r (yg vx vc vr) e6 e5 _ cs D oh hs h3.one ?_;exact ⟨_,rfl,⟨r,vx,vc,vr,e6,U,N1 _ _ _ _ _ _ D,h4⟩,PU.out _ r t U _,h5⟩
     ·cases A
    ·intro a W t u c hdf hv;obtain ⟨u4,g4⟩:=jU c 4 (by rfl);obtain ⟨u9,g9⟩:=jU c 9 (by rfl);obtain ⟨u10,g10⟩:=jU c 10 (by rfl);obtain ⟨u11,g11⟩:=jU c 11 (by rfl);obtain ⟨u12,g12⟩:=jU c 12 (by rfl);obtain ⟨u13,g13⟩:=jU c 13 (by rfl);obtain ⟨u14,g14⟩:=jU c 14 (by rfl);obtain ⟨r,vx,vc,vr,e6,U,D,h3⟩:=hv 7 bc;have e6':u4=.p r 0:=(by rw [<- e6];show u4=a.tmps.getD 4 undef;rw [X8,g4];rfl);subst e6';obtain ⟨C,rfl,rfl,rfl,ai,ci,ao,co,hf,hn⟩:=h3.fam D;have ha:=O7 (a:=a) (l:=[.slice (some m) V X,undef,.p w.heap.size 0,.bool false,.p r 0,.slice (some m) V X,.bool true,.bool false,undef,u9,u10,u11,u12,u13,u14,undef,undef]) c (λi hi=>?_) hdf;·subst ha;clear hv u c hdf g4 g9 g10 g11 g12 g13 g14 e6;go_wp2_with fail;go_meet;exact ⟨r,C,rfl,⟨D,hf,hn,U,t⟩,ai,ci,ao,co⟩
     ·rcases i with _ | _ | _ | _ | _ | _ | _ | _ | _ | _ | _ | _ | _ | _ | _ | _ | _ | i;all_goals first | assumption | exact u _ ba | (simp at hi;omega)
   case rest =>obtain ⟨r,C,rfl,LI,I,K,J,M⟩:=hcut;have LJ:Hid (wc.heap[r]?=some (.cells #[.u 2147483648,.slice C.ax 32 C.cx,.i 3,.slice C.ac 22 C.cc,.slice C.ar V C.cr,.u 0,.u 0,.bool false,.slice C.ai 0 C.ci,.slice C.ao 0 C.co,.i 0,.u 0,.bool false,.bool false] 29 (0,0))/\bj (w.heap.size+1) wc.heap.size wc (aF (oc ram) C)/\(∀ q ∈ aF (oc ram) C,q.v.ownBlock≠some r)/\w.heap.size+1<=r/\Q wc):=(by have h:=LI.out;obtain ⟨ax,cx,ac,cc,ar,cr,ai,ci,ao,co⟩:=C;dsimp only at I K J M h;subst I;subst K;subst J;subst M;have hn2:=HN.out.1;subst hn2;exact h);obtain ⟨row,N,ne,D,qc⟩:=LJ.out;clear LI LJ I K J M;go_wp2_with fail;refine (cap.out C r _ _ _ row N ne).mono ?_;rintro e w3 ⟨rfl,row3,fm3,R⟩;have q3:Q w3:=PK.out _ _ _ _ _ qc R N (V8 _);have Z3:=aq R.size;have nd1:¬ r=w.heap.size:=ab;have nd2:¬ w.heap.size=r:=ab;clear R row N ne;obtain ⟨a0,a1,a2,a3,a4,a5,a6,a7,a8,a9,a10,a11,a12,a13⟩:=aX row3;obtain ⟨s0,s1,s2,s3,s4,s5,s6,s7,s8,s9,s10,s11,s12,s13⟩:=aX (PR.out _ q3);obtain ⟨y0,y1,y2,y3,y4,y5,y6,y7,y8,y9,y10,y11,y12,y13⟩:=fg (PR.out _ q3);go_wp2_with fail;exact S2 (cL results56 _ _ _ _ _ _ _ rfl (rQ (PR.out _ q3) (.u 2147483648) (.slice C.ax 32 C.cx) (.i 3) (.slice C.ac 22 C.cc) (.slice C.ar V C.cr) (.u 0) (.u 0) (.bool false) (.slice C.ai 0 C.ci) (.slice C.ao 0 C.co) (.i 0) (.u 0) (.bool false) (.bool false)) underlying29 rfl oh) rfl ⟨C,by rw [F.out,Y.out];rfl,by rw [F.out];exact (fm3.put14 w.heap.size (.inl ab) (.u 2147483648) (.slice C.ax 32 C.cx) (.i 3) (.slice C.ac 22 C.cc) (.slice C.ar V C.cr) (.u 0) (.u 0) (.bool false) (.slice C.ai 0 C.ci) (.slice C.ao 0 C.co) (.i 0) (.u 0) (.bool false) (.bool false)).low ab (by have:=Z3.out;simp only [aO];omega),og (PE.out _ q3) (V8 _) (.u 2147483648) (.slice C.ax 32 C.cx) (.i 3) (.slice C.ac 22 C.cc) (.slice C.ar V C.cr) (.u 0) (.u 0) (.bool false) (.slice C.ai 0 C.ci) (.slice C.ao 0 C.co) (.i 0) (.u 0) (.bool false) (.bool false)⟩
def Rg (w0:I1) (g:Nat) (a:Option I5) (n cap:Nat) (w wr:I1):Prop :=
 ∃ zs:List Int,(∀ j,U (zs.getD j 0))/\wr.ownsRow w.heap.size 24 1 (.slice (some ⟨w.heap.size,0,none⟩) 22 22) 22 (zs.map (T4 .u64))/\Cs w0 g a n cap w wr/\g<w.heap.size
theorem Rg.next {wr:I1} (h:Rg n W B m M w wr) (k:Cs n W B m M wr a):Rg n W B m M w a:=by obtain ⟨zs,i,f,c,d⟩:=h;refine ⟨zs,i,zu f k.2 ?_,c.trans k,d⟩;intro j e b;simp [T5] at e b;omega
theorem Rg.cur {wr:I1} (h:Rg n W B m M w wr):ma n wr W B m M:=by obtain ⟨zs,e,d,b,c⟩:=h;exact b.1
theorem OP (y:Int) (c:∀ X,U (J.getD X 0)) (hy:U y):U ((J.set V y).getD X 0):=by
 by_cases a:V=X
 ·subst a;by_cases b:V<J.length;·have e:(J.set V y).getD V 0=y:=(by simp [D2,b]);rw [e];exact hy
  ·have e:(J.set V y).getD V 0=0:=(by simp [D2,b]);rw [e];constructor<;>decide
 ·have e:(J.set V y).getD X 0=J.getD X 0:=(by simp [D2,a]);rw [e];exact c X
theorem Rg.put {wr:I1} (h:Rg n W B m M w wr) (k:Nat) (y:Int) (hy:U y):Rg n W B m M w (wr.setCell ⟨w.heap.size,k,none⟩ (.u y)):=by
 obtain ⟨zs,p,o,b,f⟩:=h;have d:=o.stored k (.u y);rw [ky] at d;refine ⟨zs.set k y,λj=>OP zs k j y p hy,d.1,⟨?_,?_⟩,f⟩
 ·obtain ⟨i,x,l,c⟩:=b.1.row;refine ⟨b.1.new,b.1.below.setCell ?_ _,i,x,l,?_⟩;·show n.heap.size<=w.heap.size;have:=b.1.new;omega
  ·rw [R6 _ _ _ _ (by show W≠w.heap.size;omega)];exact c
 ·refine ⟨b.2.os,b.2.tape,b.2.output,by simpa [Y5] using b.2.size,λj g e=>?_⟩;rw [R6 _ _ _ _ (by show j≠w.heap.size;omega)];exact b.2.block j g e
theorem Rg.cell {wr:I1} (h:Rg n g B W m w wr) (k:Nat) (hk:k<22):∃ v,U v/\wr.cell? ⟨w.heap.size,k,none⟩=some (.u v)/\wr.frozen? ⟨w.heap.size,k,none⟩=false:=by
 obtain ⟨zs,f,d,j,l⟩:=h;have cap:zs.length=22:=by have:=d.1;simpa using this
 obtain ⟨b,i,e,_,c⟩:=kI d k ab;simp only [Option.some.injEq,Addr.mk.injEq,and_true] at e;obtain ⟨rfl,rfl⟩:=e;rw [X5] at c;exact ⟨_,f k,c,d.frozenAt k⟩
theorem Ra (h:U T):U (bq S T):=by
 unfold bq;split;·unfold mst;split<;>exact ah _ _ _
 ·split;·exact ah _ _ _
  ·split;·exact ah _ _ _
   ·split;·exact ah _ _ _
    ·split;·exact ah _ _ _
     ·split;·exact ah _ _ _
      ·split;·exact ah _ _ _
       ·split;·exact ah _ _ _
        ·split;·exact ah _ _ _
         ·exact h
theorem U0:U 0:=⟨bc,bc⟩
theorem OQ:(A5 V (0:Int)).getD X 0=0:=by
 by_cases a:X<V;·simp [D2,a]
 ·simp [D2,a]
theorem Rb:U ((A5 22 (0:Int)).getD V 0):=by rw [OQ];exact U0
theorem hH (h:U T) (w:I1):K0 prog 78 #[.i S,.u T] w λe b=>∃ v,e=.returned (.u v)/\Hid (U v)/\b=w :=
 (fz S T w).mono λe b a=>⟨_,a.1,Ra S T h,a.2⟩
theorem Bm (V:Code n B m o) (w:I1) (hc:ma n w W B m M): K0 prog 58 #[.p W 0] w λe w'=>e=.returned (.slice (some ⟨w.heap.size,0,none⟩) 22 22)/\Hid (Rg n W B m M w w'):=by
 have u:Hid (Code n B m o):=V;have HC:Hid (ma n w W B m M):=hc;clear V hc;go_enter func58,ntmps58;go_wp2_with fail;refine (nY _).mono ?_;rintro e w1 ⟨rfl,w0,T⟩;have R1:Hid (Rg n W B m M w w1):=⟨A5 22 0,Rb,w0,Cs.of_below HC.out T,HC.out.lt⟩;clear w0 T;go_wp2_with fail;refine (az u.out 16 ab _ R1.out.cur).mono ?_;rintro e w2 ⟨g,rfl,⟨hm0,hm1⟩,X⟩;have R2:Hid (Rg n W B m M w w2):=R1.out.next X.out;obtain ⟨mm,rfl⟩:=X9 hm0;clear R1 X;go_wp2_with fail;go_loopw [4] (λi wr=>∃ k:Nat,k<=16/\i=.i k/\Hid (Rg n W B m M w wr)) (λi _=>(intOf i).toNat);case atStart=>exact ⟨mm,ab,rfl,R2⟩
 case round =>
  obtain ⟨k,hk,rfl,I⟩:=hrel;by_cases hlt:0<k
  ·go_wp2_with fail;refine (az u.out 22 ab _ I.out.cur).mono ?_;rintro e w3 ⟨p,rfl,⟨hp0,hp1⟩,Y⟩;have R3:Hid (Rg n W B m M w w3):=I.out.next Y.out;obtain ⟨D,rfl⟩:=X9 hp0;clear Y I;go_wp2_with fail;refine (lu u.out _ R3.out.cur).mono ?_;rintro e w4 ⟨x,rfl,hx,Z⟩;have s:Hid (Rg n W B m M w w4):=R3.out.next Z.out;have N:Hid (U x):=hx;clear Z R3 hx;obtain ⟨j,rfl⟩:∃ j,k=j+1:=⟨k-1,ab⟩;by_cases h4:D=4\/D=10
   ·rcases h4 with rfl|rfl
    ·go_wp2_with fail;refine (az u.out 512 ab _ s.out.cur).mono ?_;rintro e F ⟨y,rfl,⟨E,G⟩,d⟩;have r:Hid (Rg n W B m M w F):=s.out.next d.out;clear d s;go_wp2_with fail;refine (az u.out 2 ab _ r.out.cur).mono ?_;rintro e H ⟨z,rfl,⟨hz0,hz1⟩,f⟩;have t:Hid (Rg n W B m M w H):=r.out.next f.out;clear f r N;obtain ⟨K,_,a,C⟩:=t.out.cell 4 ab;go_wp2_with fail;refine (hH _ _ ?_ _).mono ?_;·first | exact aW _ | (constructor<;>omega)
     rintro e cap ⟨L,rfl,l,zs⟩;have b:=zs.symm;subst b;go_wp2_with fail;go_roundw;case rel=>exact ⟨j,ab,by go_num,t.out.put 4 _ l.out⟩
     case measure=>simp [intOf]
    ·go_wp2_with fail;refine (az u.out 512 ab _ s.out.cur).mono ?_;rintro e F ⟨y,rfl,⟨E,G⟩,d⟩;have r:Hid (Rg n W B m M w F):=s.out.next d.out;clear d s;go_wp2_with fail;refine (az u.out 2 ab _ r.out.cur).mono ?_;rintro e H ⟨z,rfl,⟨hz0,hz1⟩,f⟩;have t:Hid (Rg n W B m M w H):=r.out.next f.out;clear f r N;obtain ⟨K,_,a,C⟩:=t.out.cell 10 ab;go_wp2_with fail;refine (hH _ _ ?_ _).mono ?_;·first | exact aW _ | (constructor<;>omega)
     rintro e cap ⟨L,rfl,l,zs⟩;have b:=zs.symm;subst b;go_wp2_with fail;go_roundw;case rel=>exact ⟨j,ab,by go_num,t.out.put 10 _ l.out⟩
     case measure=>simp [intOf]
   by_cases P:D=16
   ·subst P;go_wp2_with fail;go_loopw [6,7] (λy i wx=>∃ (q:Nat) (v:Int),q<=4/\y=.u v/\U v/\i=.i q/\Hid (Rg n W B m M w wx)) (λ_ i _=>4-(intOf i).toNat);case atStart=>exact ⟨0,0,ab,rfl,U0,rfl,s⟩
    case round =>
     obtain ⟨q,v,hq,rfl,hv,rfl,I⟩:=hrel;have S:Hid (U v):=hv;clear hv;by_cases hq4:q<4
     ·go_wp2_with fail;have HA:=Cs.alloc I.out.cur (.cells #[.u 0,.u 15,.u 31,.u 27,.u 25,.u 7,.u 24,.u 159,.u 143,.u 153] 24);refine (az u.out 10 ab _ HA.1).mono ?_;rintro e F ⟨y,rfl,⟨E,G⟩,d⟩;obtain ⟨yy,rfl⟩:=X9 E;obtain ⟨v2,hv2,hcell⟩:=sV [0,15,31,27,25,7,24,159,143,153] 24 (d.out.keep (I3 _ _) (Nat.ne_of_gt I.out.cur.lt)) (by intro x hx;simp at hx;constructor<;>omega) (k:=yy) bv;have r:Hid (Rg n W B m M w F):=(I.out.next HA).next d.out
      clear d I HA hv2;go_wp2_with fail;go_roundw;case rel=>exact ⟨q+1,_,ab,rfl,ah _ _ _,by go_num,r⟩
      case measure=>simp [intOf];omega
     ·go_wp2_with fail;refine (bA u.out 3 ab _ I.out.cur).mono ?_;rintro e F ⟨c,rfl,d⟩;have r:Hid (Rg n W B m M w F):=I.out.next d.out;clear d I;cases c with
      | true =>
       obtain ⟨K,_,a,C⟩:=r.out.cell 16 ab;go_wp2_with fail;refine (hH _ _ ?_ _).mono ?_;·first | exact S.out | exact ah _ _ _
       rintro e cap ⟨L,rfl,l,zs⟩;have b:=zs.symm;subst b;go_wp2_with fail;go_roundw;case rel=>exact ⟨j,ab,by go_num,r.out.put 16 _ l.out⟩
       case measure=>simp [intOf]
       | false =>
         obtain ⟨K,_,a,C⟩:=r.out.cell 16 ab;go_wp2_with fail;refine (hH _ _ ?_ _).mono ?_;·first | exact ah _ _ _ | exact S.out
         rintro e cap ⟨L,rfl,l,zs⟩;have b:=zs.symm;subst b;go_wp2_with fail;go_roundw;case rel=>exact ⟨j,ab,by go_num,r.out.put 16 _ l.out⟩
         case measure=>simp [intOf]
   by_cases Q:D=17\/D=18\/D=19\/D=20
   ·rcases Q with rfl|rfl|rfl|rfl
    ·go_wp2_with fail;refine (az u.out 2048 ab _ s.out.cur).mono ?_;rintro e F ⟨y,rfl,⟨E,G⟩,d⟩;have r:Hid (Rg n W B m M w F):=s.out.next d.out;clear d s;go_wp2_with fail;refine (bA u.out 2 ab _ r.out.cur).mono ?_;rintro e H ⟨c,rfl,f⟩;have t:Hid (Rg n W B m M w H):=r.out.next f.out;clear f r N;cases c with
     | _ =>
       go_wp2_with fail;refine (bA u.out 3 ab _ t.out.cur).mono ?_;rintro e R ⟨c,rfl,A⟩;have J:Hid (Rg n W B m M w R):=t.out.next A.out;clear A t;cases c with
       | _ =>
         obtain ⟨K,_,a,C⟩:=J.out.cell 17 ab;go_wp2_with fail;refine (hH _ _ ?_ _).mono ?_;·first | exact aW _ | (constructor<;>omega)
         rintro e cap ⟨L,rfl,l,zs⟩;have b:=zs.symm;subst b;go_wp2_with fail;go_roundw;case rel=>exact ⟨j,ab,by go_num,J.out.put 17 _ l.out⟩
         case measure=>simp [intOf]
    ·go_wp2_with fail;refine (az u.out 2048 ab _ s.out.cur).mono ?_;rintro e F ⟨y,rfl,⟨E,G⟩,d⟩;have r:Hid (Rg n W B m M w F):=s.out.next d.out;clear d s;go_wp2_with fail;refine (bA u.out 2 ab _ r.out.cur).mono ?_;rintro e H ⟨c,rfl,f⟩;have t:Hid (Rg n W B m M w H):=r.out.next f.out;clear f r N;cases c with
     | _ =>
       go_wp2_with fail;refine (bA u.out 3 ab _ t.out.cur).mono ?_;rintro e R ⟨c,rfl,A⟩;have J:Hid (Rg n W B m M w R):=t.out.next A.out;clear A t;cases c with
       | _ =>
         obtain ⟨K,_,a,C⟩:=J.out.cell 18 ab;go_wp2_with fail;refine (hH _ _ ?_ _).mono ?_;·first | exact aW _ | (constructor<;>omega)
         rintro e cap ⟨L,rfl,l,zs⟩;have b:=zs.symm;subst b;go_wp2_with fail;go_roundw;case rel=>exact ⟨j,ab,by go_num,J.out.put 18 _ l.out⟩
         case measure=>simp [intOf]
    ·go_wp2_with fail;refine (az u.out 2048 ab _ s.out.cur).mono ?_;rintro e F ⟨y,rfl,⟨E,G⟩,d⟩;have r:Hid (Rg n W B m M w F):=s.out.next d.out;clear d s;go_wp2_with fail;refine (bA u.out 2 ab _ r.out.cur).mono ?_;rintro e H ⟨c,rfl,f⟩;have t:Hid (Rg n W B m M w H):=r.out.next f.out;clear f r N;cases c with
     | _ =>
       go_wp2_with fail;refine (bA u.out 3 ab _ t.out.cur).mono ?_;rintro e R ⟨c,rfl,A⟩;have J:Hid (Rg n W B m M w R):=t.out.next A.out;clear A t;cases c with
       | _ =>
         obtain ⟨K,_,a,C⟩:=J.out.cell 19 ab;go_wp2_with fail;refine (hH _ _ ?_ _).mono ?_;·first | exact aW _ | (constructor<;>omega)
         rintro e cap ⟨L,rfl,l,zs⟩;have b:=zs.symm;subst b;go_wp2_with fail;go_roundw;case rel=>exact ⟨j,ab,by go_num,J.out.put 19 _ l.out⟩
         case measure=>simp [intOf]
    ·go_wp2_with fail;refine (az u.out 2048 ab _ s.out.cur).mono ?_;rintro e F ⟨y,rfl,⟨E,G⟩,d⟩;have r:Hid (Rg n W B m M w F):=s.out.next d.out;clear d s;go_wp2_with fail;refine (bA u.out 2 ab _ r.out.cur).mono ?_;rintro e H ⟨c,rfl,f⟩;have t:Hid (Rg n W B m M w H):=r.out.next f.out;clear f r N;cases c with
     | _ =>
       go_wp2_with fail;refine (bA u.out 3 ab _ t.out.cur).mono ?_;rintro e R ⟨c,rfl,A⟩;have J:Hid (Rg n W B m M w R):=t.out.next A.out;clear A t;cases c with
       | _ =>
         obtain ⟨K,_,a,C⟩:=J.out.cell 20 ab;go_wp2_with fail;refine (hH _ _ ?_ _).mono ?_;·first | exact aW _ | (constructor<;>omega)
         rintro e cap ⟨L,rfl,l,zs⟩;have b:=zs.symm;subst b;go_wp2_with fail;go_roundw;case rel=>exact ⟨j,ab,by go_num,J.out.put 20 _ l.out⟩
         case measure=>simp [intOf]
   by_cases O:D=15
   ·subst O;go_wp2_with fail;refine (az u.out 2 ab _ s.out.cur).mono ?_;rintro e F ⟨y,rfl,⟨E,G⟩,d⟩;have r:Hid (Rg n W B m M w F):=s.out.next d.out;clear d s;go_wp2_with fail;refine (az u.out 2 ab _ r.out.cur).mono ?_;rintro e H ⟨z,rfl,⟨hz0,hz1⟩,f⟩;have t:Hid (Rg n W B m M w H):=r.out.next f.out;clear f r N;obtain ⟨K,_,a,C⟩:=t.out.cell 15 ab;go_wp2_with fail;refine (hH _ _ ?_ _).mono ?_;·first | exact aW _ | (constructor<;>omega)
    rintro e cap ⟨L,rfl,l,zs⟩;have b:=zs.symm;subst b;go_wp2_with fail;go_roundw;case rel=>exact ⟨j,ab,by go_num,t.out.put 15 _ l.out⟩
    case measure=>simp [intOf]
   have d4:((D:Int)==4)=false:=bv;have Vv:((D:Int)==10)=false:=bv;have Vh:((D:Int)==16)=false:=bv;have Vt:((D:Int)==17)=false:=bv;have d18:((D:Int)==18)=false:=bv;have d19:((D:Int)==19)=false:=bv;have d20:((D:Int)==20)=false:=bv;have Vi:((D:Int)==15)=false:=bv;by_cases h9:D=9
   ·subst h9;clear h4 P Q O;obtain ⟨K,_,a,C⟩:=s.out.cell 9 ab;go_wp2_with fail;go_roundw;case rel=>exact ⟨j,ab,by go_num,s.out.put 9 _ (ah _ _ _)⟩
    case measure=>simp [intOf]
   ·have d9:((D:Int)==9)=false:=bv;have hp22:D<22:=ab;clear h4 P Q O h9;obtain ⟨K,_,a,C⟩:=s.out.cell D ab;go_wp2_with fail;refine (hH _ _ ?_ _).mono ?_;·exact N.out
    rintro e cap ⟨L,rfl,l,zs⟩;have b:=zs.symm;subst b;go_wp2_with fail;go_roundw;case rel=>exact ⟨j,ab,by go_num,s.out.put D _ l.out⟩
    case measure=>simp [intOf]
  ·have hk0:k=0:=ab;subst hk0;go_wp2_with fail;go_ret;exact ⟨rfl,I⟩
theorem pN:U (kM S T):=by
 unfold kM;split;·exact U0
 ·split;·exact ah _ _ _
  ·exact U0
theorem IK (h:∀ y ∈ J,(Y0 .u8 y).wf) (f:Nat) (x:Int) (k:Nat):∀ y ∈ kU J f x k,(Y0 .u8 y).wf:=λy b=>by have a:=KU J (λz c=>by have:=h z c;simpa [Lit.wf,IntKind.min,IntKind.max,IntKind.signed,IntKind.bits] using this) f x k y b;exact Vr a.1 a.2
theorem jf (h:n.heap[W]?=some (.cells E K (0,0))) (i:Nat):n.cell? ⟨W,i,none⟩=E[i]?:=by simp [Y4,h]
def Wj (M:MV) (v:Int):MV:={M with pr:=v}
def Wy (M:MV) (v:Int):MV:={M with pc:=v}
def Wz (M:MV) (v:Int):MV:={M with hd:=v}
def WA (M:MV) (v:Bool):MV:={M with hl:=v}
def WB (M:MV) (v:Bool):MV:={M with wt:=v}
theorem Dm.setPr {wr:I1} (h:Dm n W B M A w r m p x wr) (v:Int) (hv:v=0\/v=1\/v=3):Dm n W B M A w r m (Wj p v) x (wr.setCell ⟨m,2,none⟩ (.i v)):=
 h.setF 2 (.i v) (M':=Wj p v) rfl rfl ⟨h.fit.x,h.fit.ux,h.fit.cs,h.fit.ucs,h.fit.ram,h.fit.bram,h.fit.d,h.fit.pc,h.fit.hd,hv⟩
theorem Dm.setPc {wr:I1} (h:Dm n W B M A w r m p x wr) (v:Int) (hv:U v):Dm n W B M A w r m (Wy p v) x (wr.setCell ⟨m,0,none⟩ (.u v)):=
 h.setF 0 (.u v) (M':=Wy p v) rfl rfl ⟨h.fit.x,h.fit.ux,h.fit.cs,h.fit.ucs,h.fit.ram,h.fit.bram,h.fit.d,hv,h.fit.hd,h.fit.pr⟩
theorem Dm.setHd {wr:I1} (h:Dm n W B M A w r m p x wr) (v:Int) (hv:U v):Dm n W B M A w r m (Wz p v) x (wr.setCell ⟨m,11,none⟩ (.u v)):=
 h.setF 11 (.u v) (M':=Wz p v) rfl rfl ⟨h.fit.x,h.fit.ux,h.fit.cs,h.fit.ucs,h.fit.ram,h.fit.bram,h.fit.d,h.fit.pc,hv,h.fit.pr⟩
theorem Dm.setHl {wr:I1} (h:Dm n W B M A w r m p x wr) (v:Bool):Dm n W B M A w r m (WA p v) x (wr.setCell ⟨m,12,none⟩ (.bool v)):=
 h.setF 12 (.bool v) (M':=WA p v) rfl rfl ⟨h.fit.x,h.fit.ux,h.fit.cs,h.fit.ucs,h.fit.ram,h.fit.bram,h.fit.d,h.fit.pc,h.fit.hd,h.fit.pr⟩
theorem Dm.setWt {wr:I1} (h:Dm n W B M A w r m p x wr) (v:Bool):Dm n W B M A w r m (WB p v) x (wr.setCell ⟨m,13,none⟩ (.bool v)):=
 h.setF 13 (.bool v) (M':=WB p v) rfl rfl ⟨h.fit.x,h.fit.ux,h.fit.cs,h.fit.ucs,h.fit.ram,h.fit.bram,h.fit.d,h.fit.pc,h.fit.hd,h.fit.pr⟩
theorem OR (h:Mf p):Mf (bK p):=⟨h.x,h.ux,by simp [bK,h.cs],G5 h.ucs 9 (aW _),h.ram,h.bram,h.d,h.pc,h.hd,h.pr⟩
theorem rL (M:MV) (A:MA):(ak M A).all (·.oneCell'):=by simp [ak,Value.oneCell']
theorem Dm.outM {wr:I1} (h:Dm n W B M r w w.heap.size m p x wr) (cs:Array I2):bj w.heap.size (wr.setRow w.heap.size cs).heap.size (wr.setRow w.heap.size cs) (aF p x)/\Cs n W B M r w (wr.setRow w.heap.size cs):=by
 have b:Below w.heap.size wr (wr.setRow w.heap.size cs):=aI (X6 _ _) (V8 _) cs;have j:=h.gr;have g:=h.w0w;obtain ⟨i,l,o,c⟩:=h.cu.1.row;refine ⟨?_,⟨⟨h.cu.1.new,?_,i,l,o,(b.block W j).trans c⟩,⟨b.os.trans h.cu.2.os,b.tape.trans h.cu.2.tape,b.output.trans h.cu.2.output,V4 h.cu.2.size b.size,λk d f=>(b.block k d).trans (h.cu.2.block k d f)⟩⟩⟩;·exact (Gs h.mp.fam w.heap.size (λq a e=>by have:=(h.mp.fam.own q a).lt _ e;omega) cs).low ab b.size
 ·exact ⟨b.os.trans h.cu.1.below.os,b.tape.trans h.cu.1.below.tape,b.output.trans h.cu.1.below.output,V4 h.cu.1.below.size b.size,λk d=>(b.block k ab).trans (h.cu.1.below.block k d)⟩
theorem ns {wr:I1} (h:Dm n W B M A w r m p x wr) (L:Nat) (o:p.ram.length=L) (f:Nat) (a:Int) (hx:U a) (cap:f+8<=L): K0 prog 55 #[.slice x.ar L x.cr,.u (2147483648+(f:Int)),.i 8,.u a] wr λe k=>e=.returned (.tuple #[])/\∃ j:MV,Hid (Dm n W B M A w r m j x k)/\Hid (j.ram.length=L):=by
 subst o;have i:=h.fit.ram;have d:gQ p.ram.length (2147483648+(f:Int)) 8:=by have b:bf p.ram.length:=(by rcases i with e|e<;>rw [e]<;>decide);have c:jt 8:=bc;simp only [gQ,b,c,Bool.true_and,JZ6];omega
 refine (vJ p x _ m _ 8 a wr (by rcases i with e | e<;>rw [e]<;>omega) d hx.1 (by have:=hx.2;omega) h.mp).mono λe k ⟨b,c,l⟩=>⟨b,_,aq (h.step (h.mp.under l) c ?_),aq (jA _ _ _ _)⟩;exact ⟨h.fit.x,h.fit.ux,h.fit.cs,h.fit.ucs,(by show (kU p.ram _ a _).length=4096\/(kU p.ram _ a _).length=8192;rw [jA];exact i),IK _ h.fit.bram _ _ _,h.fit.d,h.fit.pc,h.fit.hd,h.fit.pr⟩
theorem sW {wr:I1} (F:Code n B M o) (h:Dm n W B M A w r m p x wr) (T:p.ram.length=4096): K0 prog 59 #[.p W 0,.p m 0] wr λe d=>e=.returned (.tuple #[])/\∃ l:MV,Hid (Dm n W B M A w r m l x d):=by
 have R:Hid (Code n B M o):=F;have c:=aq T;obtain ⟨E,cc,S,ec,cm,cells⟩:=h.atC;obtain ⟨w0,X⟩:=cells 15 ab;have zs:wr.cell? ⟨m,4,none⟩=some (.slice x.ar 4096 x.cr):=by rw [jf h.mp.row 4,<- T];rfl
 have c2:wr.cell? ⟨m,2,none⟩=some (.i p.pr):=jf h.mp.row 2;have J:¬ m=E:=λe=>h.mp.ne (aG x.ac p.cs.length x.cc p.cs) ef (by simp only [aG];rw [S,e];rfl);have V:¬ E=m:=λe=>J e.symm;have D:=aq (λv (N:U v)=>h.setC E S 15 N);clear F T h cells ec;go_enter func59,ntmps59;go_upto_if 30 with fail
 generalize N:Uz.wrap (bits BinOp.or IntKind.u64 9223372036854775808 524289-1)=t;have O:Hid (∃ p:MV,Dm n W B M A w r m p x (wr.setCell ⟨E,15,none⟩ (.u t))/\p.ram.length=4096):=⟨_,D.out t (by rw [<- N];exact aW _),c.out⟩;generalize wr.setCell ⟨E,15,none⟩ (.u t)=w1 at O ⊢;generalize (p.pr==0)=p0;clear N D J V c2 zs w0 X cm S;go_cut [6] from 7 (λv wc=>∃ b:Int,v=.i b/\∃ (p:MV),Hid (Dm n W B M A w r m p x wc)/\Hid (p.ram.length=4096))
 case first =>
  obtain ⟨M1,d1,l1⟩:=O.out;cases p0;·go_wp2_with fail;go_meet;exact ⟨207,rfl,M1,d1,l1⟩
  ·go_wp2_with fail;go_meet;exact ⟨223,rfl,M1,d1,l1⟩
 case rest =>
  clear O c;obtain ⟨b1,rfl,p,f,c⟩:=hcut;go_wp2_with fail;refine (bA R.out 2 ab _ f.out.cur).mono ?_;rintro e w2 ⟨c2,rfl,G⟩;have P:=aq (f.out.next G.out);clear G f;go_upto_if 32 with fail
  go_cut [6] from 7 (λv wc=>∃ b:Int,v=.i b/\∃ (p:MV),Hid (Dm n W B M A w r m p x wc)/\Hid (p.ram.length=4096))
  case first =>
   cases c2;·go_wp2_with fail;go_meet;exact ⟨b1,rfl,p,P,c⟩
   ·go_wp2_with fail;go_meet;exact ⟨_,rfl,p,P,c⟩
  case rest =>
   clear P c;obtain ⟨b2,rfl,p,f,c⟩:=hcut;obtain ⟨Y,cap⟩:∃ z,z=kM 524288 b2:=⟨_,rfl⟩;have u:Hid (∀ d,CE 84 #[.u 524288,.i b2] d (.u Y)):=λd=>by rw [cap];exact gZ _ _ d
   have g:Hid (U Y):=(by rw [cap];exact pN _ _);have zs:wc.cell? ⟨m,4,none⟩=some (.slice x.ar 4096 x.cr):=(by rw [jf f.out.mp.row 4,<- c.out];rfl);have y:=aq (ns (f.out.below (X6 _ _).drew) 4096 c.out 16 Y g.out ab);clear cap;go_wp2_with fail;go_cut [] from 7 (λwc=>∃ (p:MV),Hid (Dm n W B M A w r m p x wc)/\Hid (p.ram.length=4096))
   case first =>
    go_region_with (first | (go_at_call 84;with_reducible refine (u.out _).mono ?_;rintro e wy ⟨rfl,rfl⟩) | (go_at_call 55;refine y.out.mono ?_;rintro e wz ⟨rfl,l,C,L⟩));all_goals go_wp2_with fail
    all_goals go_meet
    all_goals exact ⟨l,C,L⟩
   case rest =>
    clear c f u g zs y;obtain ⟨p,f,c⟩:=hcut;go_wp2_with fail;refine (bA R.out 2 ab _ f.out.cur).mono ?_;rintro e w3 ⟨c3,rfl,H⟩;have K:=aq (f.out.next H.out);clear H f;go_upto_if 45 with fail
    go_cut [] from 7 (λwc=>∃ (p:MV),Hid (Dm n W B M A w r m p x wc)/\Hid (p.ram.length=4096))
    case first =>
     cases c3;·go_wp2_with fail;go_meet;exact ⟨p,K,c⟩
     ·obtain ⟨Z,q⟩:∃ z,z=kM 524288 223:=⟨_,rfl⟩;have u:Hid (∀ d,CE 84 #[.u 524288,.i 223] d (.u Z)):=λd=>by rw [q];exact gZ _ _ d
      have g:Hid (U Z):=(by rw [q];exact pN _ _);have zs:w3.cell? ⟨m,4,none⟩=some (.slice x.ar 4096 x.cr):=(by rw [jf K.out.mp.row 4,<- c.out];rfl);have y:=aq (ns (K.out.below (X6 _ _).drew) 4096 c.out 8 Z g.out ab);clear q;go_wp2_with fail;go_region_with (first | (go_at_call 84;with_reducible refine (u.out _).mono ?_;rintro e wy ⟨rfl,rfl⟩) | (go_at_call 55;refine y.out.mono ?_;rintro e wz ⟨rfl,l,C,L⟩));all_goals go_wp2_with fail
      all_goals go_meet
      all_goals exact ⟨l,C,L⟩
    case rest =>
     clear K c;obtain ⟨p,f,c⟩:=hcut;go_wp2_with fail;refine (bA R.out 3 ab _ f.out.cur).mono ?_;rintro e w4 ⟨zs,rfl,I⟩;have Q:=aq (f.out.next I.out);clear I f;cases zs;·go_wp2_with fail;refine L0 (K1 rfl _ _ _) rfl ?_;exact ⟨rfl,p,Q⟩
     ·obtain ⟨z3,s⟩:∃ z,z=kM 0 207:=⟨_,rfl⟩;have u:Hid (∀ d,CE 84 #[.u 0,.i 207] d (.u z3)):=λd=>by rw [s];exact gZ _ _ d
      have g:Hid (U z3):=(by rw [s];exact pN _ _);have zs:w4.cell? ⟨m,4,none⟩=some (.slice x.ar 4096 x.cr):=(by rw [jf Q.out.mp.row 4,<- c.out];rfl);have y:=aq (ns (Q.out.below (X6 _ _).drew) 4096 c.out 0 z3 g.out ab);clear s;go_wp2_with fail;go_region_with (first | (go_at_call 84;with_reducible refine (u.out _).mono ?_;rintro e wy ⟨rfl,rfl⟩) | (go_at_call 55;refine y.out.mono ?_;rintro e wz ⟨rfl,l,C,L⟩));all_goals go_wp2_with fail
      all_goals refine L0 (K1 rfl _ _ _) rfl ?_
      all_goals exact ⟨rfl,l,C⟩
theorem sY {wr:I1} (F:Code n B M o) (h:Dm n W B M A w r m p x wr) (T:p.ram.length=8192): K0 prog 59 #[.p W 0,.p m 0] wr λe d=>e=.returned (.tuple #[])/\∃ l:MV,Hid (Dm n W B M A w r m l x d):=by
 have R:Hid (Code n B M o):=F;have c:=aq T;obtain ⟨E,cc,S,ec,cm,cells⟩:=h.atC;obtain ⟨w0,X⟩:=cells 15 ab;have zs:wr.cell? ⟨m,4,none⟩=some (.slice x.ar 8192 x.cr):=by rw [jf h.mp.row 4,<- T];rfl
 have c2:wr.cell? ⟨m,2,none⟩=some (.i p.pr):=jf h.mp.row 2;have J:¬ m=E:=λe=>h.mp.ne (aG x.ac p.cs.length x.cc p.cs) ef (by simp only [aG];rw [S,e];rfl);have V:¬ E=m:=λe=>J e.symm;have D:=aq (λv (N:U v)=>h.setC E S 15 N);clear F T h cells ec;go_enter func59,ntmps59;go_upto_if 30 with fail
 generalize N:Uz.wrap (bits BinOp.or IntKind.u64 9223372036854775808 524290-1)=t;have O:Hid (∃ p:MV,Dm n W B M A w r m p x (wr.setCell ⟨E,15,none⟩ (.u t))/\p.ram.length=8192):=⟨_,D.out t (by rw [<- N];exact aW _),c.out⟩;generalize wr.setCell ⟨E,15,none⟩ (.u t)=w1 at O ⊢;generalize (p.pr==0)=p0;clear N D J V c2 zs w0 X cm S;go_cut [6] from 7 (λv wc=>∃ b:Int,v=.i b/\∃ (p:MV),Hid (Dm n W B M A w r m p x wc)/\Hid (p.ram.length=8192))
 case first =>
  obtain ⟨M1,d1,l1⟩:=O.out;cases p0;·go_wp2_with fail;go_meet;exact ⟨207,rfl,M1,d1,l1⟩
  ·go_wp2_with fail;go_meet;exact ⟨223,rfl,M1,d1,l1⟩
 case rest =>
  clear O c;obtain ⟨b1,rfl,p,f,c⟩:=hcut;go_wp2_with fail;refine (bA R.out 2 ab _ f.out.cur).mono ?_;rintro e w2 ⟨c2,rfl,G⟩;have P:=aq (f.out.next G.out);clear G f;go_upto_if 32 with fail
  go_cut [6] from 7 (λv wc=>∃ b:Int,v=.i b/\∃ (p:MV),Hid (Dm n W B M A w r m p x wc)/\Hid (p.ram.length=8192))
  case first =>
   cases c2;·go_wp2_with fail;go_meet;exact ⟨b1,rfl,p,P,c⟩
   ·go_wp2_with fail;go_meet;exact ⟨_,rfl,p,P,c⟩
  case rest =>
   clear P c;obtain ⟨b2,rfl,p,f,c⟩:=hcut;obtain ⟨Y,cap⟩:∃ z,z=kM 524288 b2:=⟨_,rfl⟩;have u:Hid (∀ d,CE 84 #[.u 524288,.i b2] d (.u Y)):=λd=>by rw [cap];exact gZ _ _ d
   have g:Hid (U Y):=(by rw [cap];exact pN _ _);have zs:wc.cell? ⟨m,4,none⟩=some (.slice x.ar 8192 x.cr):=(by rw [jf f.out.mp.row 4,<- c.out];rfl);have y:=aq (ns (f.out.below (X6 _ _).drew) 8192 c.out 4112 Y g.out ab);clear cap;go_wp2_with fail;go_cut [] from 7 (λwc=>∃ (p:MV),Hid (Dm n W B M A w r m p x wc)/\Hid (p.ram.length=8192))
   case first =>
    go_region_with (first | (go_at_call 84;with_reducible refine (u.out _).mono ?_;rintro e wy ⟨rfl,rfl⟩) | (go_at_call 55;refine y.out.mono ?_;rintro e wz ⟨rfl,l,C,L⟩));all_goals go_wp2_with fail
    all_goals go_meet
    all_goals exact ⟨l,C,L⟩
   case rest =>
    clear c f u g zs y;obtain ⟨p,f,c⟩:=hcut;go_wp2_with fail;refine (bA R.out 2 ab _ f.out.cur).mono ?_;rintro e w3 ⟨c3,rfl,H⟩;have K:=aq (f.out.next H.out);clear H f;go_upto_if 45 with fail
    go_cut [] from 7 (λwc=>∃ (p:MV),Hid (Dm n W B M A w r m p x wc)/\Hid (p.ram.length=8192))
    case first =>
     cases c3;·go_wp2_with fail;go_meet;exact ⟨p,K,c⟩
     ·obtain ⟨Z,q⟩:∃ z,z=kM 524288 223:=⟨_,rfl⟩;have u:Hid (∀ d,CE 84 #[.u 524288,.i 223] d (.u Z)):=λd=>by rw [q];exact gZ _ _ d
      have g:Hid (U Z):=(by rw [q];exact pN _ _);have zs:w3.cell? ⟨m,4,none⟩=some (.slice x.ar 8192 x.cr):=(by rw [jf K.out.mp.row 4,<- c.out];rfl);have y:=aq (ns (K.out.below (X6 _ _).drew) 8192 c.out 4104 Z g.out ab);clear q;go_wp2_with fail;go_region_with (first | (go_at_call 84;with_reducible refine (u.out _).mono ?_;rintro e wy ⟨rfl,rfl⟩) | (go_at_call 55;refine y.out.mono ?_;rintro e wz ⟨rfl,l,C,L⟩));all_goals go_wp2_with fail
      all_goals go_meet
      all_goals exact ⟨l,C,L⟩
    case rest =>
     clear K c;obtain ⟨p,f,c⟩:=hcut;go_wp2_with fail;refine (bA R.out 3 ab _ f.out.cur).mono ?_;rintro e w4 ⟨zs,rfl,I⟩;have Q:=aq (f.out.next I.out);clear I f;cases zs;·go_wp2_with fail;refine L0 (K1 rfl _ _ _) rfl ?_;exact ⟨rfl,p,Q⟩
     ·obtain ⟨z3,s⟩:∃ z,z=kM 0 207:=⟨_,rfl⟩;have u:Hid (∀ d,CE 84 #[.u 0,.i 207] d (.u z3)):=λd=>by rw [s];exact gZ _ _ d
      have g:Hid (U z3):=(by rw [s];exact pN _ _);have zs:w4.cell? ⟨m,4,none⟩=some (.slice x.ar 8192 x.cr):=(by rw [jf Q.out.mp.row 4,<- c.out];rfl);have y:=aq (ns (Q.out.below (X6 _ _).drew) 8192 c.out 4096 z3 g.out ab);clear s;go_wp2_with fail;go_region_with (first | (go_at_call 84;with_reducible refine (u.out _).mono ?_;rintro e wy ⟨rfl,rfl⟩) | (go_at_call 55;refine y.out.mono ?_;rintro e wz ⟨rfl,l,C,L⟩));all_goals go_wp2_with fail
      all_goals refine L0 (K1 rfl _ _ _) rfl ?_
      all_goals exact ⟨rfl,l,C⟩
theorem yh {wr:I1} (b:Code n B M o) (h:Dm n W B M A w r m p x wr): K0 prog 59 #[.p W 0,.p m 0] wr λe d=>e=.returned (.tuple #[])/\∃ c:MV,Hid (Dm n W B M A w r m c x d):=by
 rcases h.fit.ram with e|e;·exact sW b h e
 ·exact sY b h e
def Ins.wf (i:Ins):Prop:=(Y0 .i64 i.op).wf/\(Y0 .i64 i.rd).wf/\(Y0 .i64 i.a).wf/\(Y0 .i64 i.b).wf/\(Y0 .i64 i.imm).wf
theorem Ins.wf_mk {a v1 v2 b c:Int} (d:(Y0 .i64 a).wf) (e:(Y0 .i64 v1).wf) (f:(Y0 .i64 v2).wf) (g:(Y0 .i64 b).wf) (h4:(Y0 .i64 c).wf):(Ins.mk a v1 v2 b c).wf:=⟨d,e,f,g,h4⟩
def Ins.cells (i:Ins):Array Value:=#[.i i.op,.i i.rd,.i i.a,.i i.b,.i i.imm]
def RZ (w:I1) (b:Nat):Prop:=∃ i:Ins,i.wf/\w.heap[b]?=some (.cells i.cells 88 (0,0))
def It (w0:I1) (g:Nat) (a:Option I5) (n cap:Nat) (w:I1) (rb ib:Nat) (wr:I1):Prop :=
 Cs w0 g a n cap w wr/\RZ wr rb/\RZ wr ib/\w.heap.size<=rb/\w.heap.size<=ib/\rb≠ib/\g<w.heap.size
theorem sZ {a:Nat × Nat} (h:w.heap[W]?=some (.cells E K a)) (i:Nat) (v:I2): (w.setCell ⟨W,i,none⟩ v).heap[W]?=some (.cells (E.setIfInBounds i v) K a):=by simp [Y5,Array.getElem?_modify,h]
def R9:Option Fm->ByteArray
 | none=>⟨#[]⟩
 | some f=>f.str
theorem Rd:∃ a:Option Fm,fq S=R9 a:=by
 unfold fq;split;·exact ⟨some _,rfl⟩
 ·exact ⟨none,rfl⟩
theorem Gx:(prog.info? 88).map (·.size)=some 5:=by kernel_rfl
theorem mh {zs:List Int} (b:Code n B m zs) (d c:Int) (r: -4611686018427387904<=d) (s:c<=2305843009213693952) (t:d<=c) (u:c-d<=2305843009213693952) (w:I1) (f:ma n w W B m M): K0 prog 81 #[.p W 0,.i d,.i c] w λe o=>∃ x:Int,e=.returned (.i x)/\(d<=x/\x<=c)/\Hid (Cs n W B m M w o):=by
 have l:Hid (Code n B m zs):=b;have j:Hid (ma n w W B m M):=f;clear b f;go_enter func81,ntmps81;go_wp2_with fail;refine (az l.out _ ?_ _ j.out).mono ?_;·first | omega | (unfold wrap64;omega)
 rintro e y ⟨x,rfl,⟨p,q⟩,g⟩;go_wp2_with fail;go_ret;refine ⟨_,rfl,?_,g⟩;first | (constructor<;>omega) | (unfold wrap64 at *;constructor<;>omega)
structure Cw (w0:I1) (g:Nat) (a:Option I5) (n cap:Nat) (w:I1) (bs:List Nat) (R:List Rw) (W:I1):Prop where
 cs:Cs w0 g a n cap w W
 iv:Iv bs W R W
 bw:∀ b ∈ bs,w.heap.size<=b
 lt:g<w.heap.size
theorem Cw.cs2 {R1:List Rw} (h:Cw n W B m M w F d a) {V:I1} (k:Iv F a R1 V):Cs n W B m M w V:=by
 obtain ⟨b,l⟩:=h.cs;have o:W ∉ F:=λe=>by have:=h.bw _ e;have:=h.lt;omega
 obtain ⟨i,x,q,c⟩:=b.row;have p:=(X7.1 c).1;have f:=l.size;refine ⟨⟨b.new,⟨k.ag.os.trans b.below.os,k.ag.tape.trans b.below.tape,k.ag.output.trans b.below.output,V4 b.below.size k.ag.size,λj R=>(k.ag.block j (X3 R b.below.size) λe=>?_).trans (b.below.block j R)⟩,i,x,q,(k.ag.block W p o).trans c⟩,⟨k.ag.os.trans l.os,k.ag.tape.trans l.tape,k.ag.output.trans l.output,V4 f k.ag.size,λj R w0=>(k.ag.block j (X3 R f) λe=>?_).trans (l.block j R w0)⟩⟩;·have:=h.bw _ e;have:=h.lt;have:=b.new;omega
 ·have:=h.bw _ e;omega
theorem Cw.next {R1:List Rw} (h:Cw n W B m M w F d a) {V V2:I1} (k:Iv F a R1 V) (hs:Cs n W B m M V V2):Cw n W B m M w F R1 V2:=by have R:=h.cs2 k;refine ⟨R.trans hs,⟨λr c=>?_,Ag.refl _ _,k.sub,k.nd⟩,h.bw,h.lt⟩;obtain ⟨t,b⟩:=k.rows r c;exact ⟨t,hs.keep b (by have:=h.bw _ (k.sub r c);have:=h.lt;omega)⟩
theorem dS {R1:List Rw} {Rs:Ending->I1->Prop} (h:Cw n W B m M w F d a) (H:Hw Q (Ag F a)) (w0:Nat) {f:Nat} {args:Array I2} {α:Type} {v:α->I2} {T:α->Prop} (j:∀ V,ma n V W B m M->K0 Q f args V (λP c=>∃ x:α,P=.returned (v x)/\T x/\Hid (Cs n W B m M V c))) (i:∀ x V,T x->Cw n W B m M w F R1 V->Wg Q (λ_=>True) (L6 Q e Rs) b (n7 (cw Q H b w0 s C d).1.2.2.1 (cw Q H b w0 s C d).1.2.1) (pV (cw Q H b w0 s C d).1.2.2.1 (cw Q H b w0 s C d).1.2.1 (v x) 0) V) (hx:((cw Q H b w0 s C d).1.1,(cw Q H b w0 s C d).1.2.2.2,Jf Q b (cw Q H b w0 s C d).1.2.2.1 (cw Q H b w0 s C d).1.2.1)=(false,R1,some (f,args)):=by kernel_rfl) (he:(cw Q H b w0 s C d).2.map Prod.fst=(cw Q H b w0 s C d).2.map Prod.snd:=by kernel_rfl):Wg Q (λ_=>True) (L6 Q e Rs) b s C a :=
 fK h.iv H w0 (Rc:=λV P c=>∃ x:α,P=.returned (v x)/\T x/\Hid (Cs n W B m M V c)) (λV bs=>j V (h.cs2 bs).1) (λV P c bs ⟨x,hx,o,l⟩=>⟨v x,0,hx,i x c o (h.next bs l.out)⟩) hx he
theorem DU:(Y0 .i64 (IntKind.i64.wrap S)).wf:=by rw [IntKind.wrap_i64];exact Ve ab ab
abbrev Ri (rb ib:Nat) (i:Ins):List Rw:=[⟨rb,#[.i 0,.i 0,.i 0,.i 0,.i 0],[]⟩,⟨ib,i.cells,[]⟩]
theorem il {w0:I1} {i0:Ins} (h:Cw n W B m M w F (Ri r A i0) w0) (H:Hw prog (Ag F w0)) (g:Nat) (i:Ins) (d:i.wf:=by refine Ins.wf_mk ?_ ?_ ?_ ?_ ?_<;>first | exact Ve ab ab | exact DU _ | assumption) (hx:((cw prog H Tryz.f53.ntmps g s C (Ri r A i0)).1.1,(cw prog H Tryz.f53.ntmps g s C (Ri r A i0)).1.2.2.2,(lk (cw prog H Tryz.f53.ntmps g s C (Ri r A i0)).1.2.2.1 2).map Prod.fst)=(true,[⟨r,i.cells,[]⟩,⟨A,i.cells,[]⟩],some (.p r 0)):=by kernel_rfl) (he:(cw prog H Tryz.f53.ntmps g s C (Ri r A i0)).2.map Prod.fst=(cw prog H Tryz.f53.ntmps g s C (Ri r A i0)).2.map Prod.snd:=by kernel_rfl): Wg prog (λ_=>True) (L6 prog Tryz.f53 (λe j=>∃ i:Ins,e=.returned i.val/\i.wf/\Hid (Cs n W B m M w j))) Tryz.f53.ntmps s C w0:=by simp only [Prod.mk.injEq] at hx;refine iS h.iv H g (hx:=x8) (he:=he) λV B c f=>?_;obtain ⟨t,b⟩:=c.rows _ (List.mem_cons_self ..);exact ⟨_,R7 results53 _ _ r _ _ _ _ (f.slot hx.2.2) b underlying88 rfl Gx,i,rfl,d,h.cs2 c⟩
theorem OS (k:Code n B m o) (w:I1) (hc:ma n w W B m M): K0 prog 53 #[.p W 0] w λe w'=>∃ i:Ins,e=.returned i.val/\i.wf/\Hid (Cs n W B m M w w'):=by
 have F:=hc.lt
 have A:∀ g:Int,0<g->∀ V,ma n V W B m M->K0 prog 15 #[.p W 0,.i g] V λe a=>∃ x:Bool,e=.returned (.bool x)/\True/\Hid (Cs n W B m M V a):=λg p V h=>(bA k g p V h).mono λe a ⟨x,h1,h3⟩=>⟨x,h1,trivial,h3⟩
 refine br (S:=λ_=>True) (args:=[.p W 0]) [(#[.i 0,.i 0,.i 0,.i 0,.i 0],88)] func53 ?_
 have R:Cw n W B m M w [w.heap.size] [⟨w.heap.size,#[.i 0,.i 0,.i 0,.i 0,.i 0],[]⟩] (bP w [(#[.i 0,.i 0,.i 0,.i 0,.i 0],88)]):=⟨Cs.alloc hc _,⟨λr v=>by
  obtain rfl:=C5.1 v
  exact ⟨_,I3 _ _⟩,Ag.refl _ _,di,di⟩,di,F⟩
 generalize bP w [(#[.i 0,.i 0,.i 0,.i 0,.i 0],88)]=W0 at *
 refine dS R {} 60 (R1:=[⟨w.heap.size,#[.i 0,.i 0,.i 0,.i 0,.i 0],[]⟩]) (az k 98 ab) λop W1 K H=>?_
 obtain ⟨q,hq⟩:∃ q,IntKind.i64.wrap (1+op)=q:=⟨_,rfl⟩
 have L:(Y0 .i64 q).wf:=by subst hq;exact DU _
 refine Uv H.iv {eq:=[(10,cR .i64 hq)]} 60 2 (R1:=[⟨w.heap.size,#[.i 0,.i 0,.i 0,.i 0,.i 0],[]⟩]) (λV=>V.alloc (.cells #[.i 0,.i 0,.i 0,.i 0,.i 0] 88)) (λV l=>ct (T:=88) (z:=.agg #[.i 0,.i 0,.i 0,.i 0,.i 0]) ba V) (λV l=>?_)
 have G:w.heap.size<V.heap.size:=by
  obtain ⟨t,h⟩:=l.rows _ (D3 _)
  exact (X7.1 h).1
 have U:Cw n W B m M w [w.heap.size,V.heap.size] (Ri w.heap.size V.heap.size ⟨0,0,0,0,0⟩) (V.alloc (.cells #[.i 0,.i 0,.i 0,.i 0,.i 0] 88)):=⟨(H.cs2 l).trans (Cs.alloc (H.cs2 l).1 _),⟨λr v=>by
  simp only [A9,A8,or_false] at v
  rcases v with rfl|rfl
  ·obtain ⟨t,h⟩:=l.rows _ (D3 _)
   exact ⟨t,(Below.heap_alloc _ _ _ G).trans h⟩
  ·exact ⟨_,I3 _ _⟩,Ag.refl _ _,di,bv⟩,bv,F⟩
 clear R H l G K
 generalize V.alloc (.cells #[.i 0,.i 0,.i 0,.i 0,.i 0] 88)=W2 at *
 generalize V.heap.size=ib at *
 obtain ⟨Q,D⟩:∃ t,(q==98)=t:=⟨_,rfl⟩
 obtain ⟨O,d1⟩:∃ t,(q==63)=t:=⟨_,rfl⟩
 obtain ⟨P,d2⟩:∃ t,(q==74)=t:=⟨_,rfl⟩
 obtain ⟨fo,E⟩:=Rd q
 have HF:=λV=>qG q L V
 rw [E] at HF
 clear E
 refine dS U {} 60 (R1:=Ri w.heap.size ib ⟨q,0,0,0,0⟩) (az k 8 ab) λd W3 J X=>?_
 refine dS X {} 60 (R1:=Ri w.heap.size ib ⟨q,0,0,0,0⟩) (az k 8 ab) λx W4 cap Y=>?_
 refine dS Y {} 60 (R1:=Ri w.heap.size ib ⟨q,0,0,0,0⟩) (az k 8 ab) λy W5 N Z=>?_
 refine dS Z {} 60 (R1:=Ri w.heap.size ib ⟨q,0,0,0,0⟩) (A 6 ab) λc W6 _ I=>?_
 have J:0<=d/\d<32:=ab
 have cap:0<=x/\x<32:=ab
 have N:0<=y/\y<32:=ab
 clear U X Y Z
 cases c
 case' true =>
  clear J cap N
  refine dS I {} 60 (R1:=Ri w.heap.size ib ⟨q,0,0,0,0⟩) (az k 32 ab) λd W7 J C7=>?_
  refine dS C7 {} 60 (R1:=Ri w.heap.size ib ⟨q,0,0,0,0⟩) (az k 32 ab) λx W8 cap C8=>?_
  refine dS C8 {} 60 (R1:=Ri w.heap.size ib ⟨q,0,0,0,0⟩) (az k 32 ab) λy W9 N I=>?_
 all_goals
  refine dS I {} 90 (R1:=Ri w.heap.size ib ⟨q,0,0,0,0⟩) (mh k (-40) 40 ab ab ab ab) λz W10 hz zs=>?_
  refine fK zs.iv {} 90 (R1:=Ri w.heap.size ib ⟨q,0,0,0,0⟩) (Rc:=λV e a=>e=.returned (.string (R9 fo))/\Bw V a) (λV _=>HF V) λV e a l v=>⟨_,0,v.1,?_⟩
  have C:=zs.next l (Cs.of_below (zs.cs2 l).1 v.2)
  clear l v I zs
  cases fo
  case none=>exact il C {} 160 ⟨q,0,0,0,0⟩
  rename_i f
  cases f
  case x =>
   exact il C {} 160 ⟨q,0,0,0,0⟩
  case s =>
   exact il C {} 160 ⟨q,0,x,y,z⟩
  case r =>
   cases Q
   case true=>exact il C {eq:=[(41,an D)]} 160 ⟨q,0,x,y,0⟩
   exact il C {eq:=[(41,an D)]} 160 ⟨q,d,x,y,0⟩
  case h =>
   exact dS C {} 160 (R1:=Ri w.heap.size ib ⟨q,d,x,0,0⟩) (az k 64 ab) λg w0 p C=>il C {} 160 ⟨q,d,x,0,g⟩
  case w =>
   exact dS C {} 160 (R1:=Ri w.heap.size ib ⟨q,d,x,0,0⟩) (az k 32 ab) λg w0 p C=>il C {} 160 ⟨q,d,x,0,g⟩
  case c =>
   exact dS C {} 160 (R1:=Ri w.heap.size ib ⟨q,d,x,0,0⟩) (xk k) λg w0 p C=>il C {} 160 ⟨q,d,x,0,g⟩
  case i =>
   refine dS C {} 160 (R1:=Ri w.heap.size ib ⟨q,d,x,0,z⟩) (A 6 ab) λc V _ C=>?_
   cases c
   case false=>exact il C {} 160 ⟨q,d,x,0,z⟩
   exact dS C {} 160 (R1:=Ri w.heap.size ib ⟨q,d,x,0,z⟩) (mh k (-2048) 2047 ab ab ab ab) λi V hi C=>il C {} 160 ⟨q,d,x,0,i⟩
  case b =>
   refine dS C {} 160 (R1:=Ri w.heap.size ib ⟨q,0,x,y,0⟩) (mh k (-3) 6 ab ab ab ab) λg V p C=>?_
   refine dS C {} 160 (R1:=Ri w.heap.size ib ⟨q,0,x,y,IntKind.i64.wrap (4*g)⟩) (A 6 ab) λc V _ C=>?_
   cases c
   case false=>exact il C {} 160 ⟨q,0,x,y,IntKind.i64.wrap (4*g)⟩
   exact dS C {} 160 (R1:=Ri w.heap.size ib ⟨q,0,x,y,IntKind.i64.wrap (4*g)⟩) (mh k (-2048) 2047 ab ab ab ab) λi V hi C=>il C {} 160 ⟨q,0,x,y,IntKind.i64.wrap (2*i)⟩
  case u =>
   refine dS C {} 160 (R1:=Ri w.heap.size ib ⟨q,d,0,0,0⟩) (mh k (-524288) 524287 ab ab ab ab) λg V p C=>?_
   refine dS C {} 160 (R1:=Ri w.heap.size ib ⟨q,d,0,0,IntKind.i64.wrap (4096*g)⟩) (A 2 ab) λc V _ C=>?_
   cases c
   case false=>exact il C {} 160 ⟨q,d,0,0,IntKind.i64.wrap (4096*g)⟩
   exact il C {} 160 ⟨q,d,0,0,-2147483648⟩
  case j =>
   refine dS C {} 160 (R1:=Ri w.heap.size ib ⟨q,d,0,0,0⟩) (mh k (-4) 8 ab ab ab ab) λg V p C=>?_
   refine dS C {} 160 (R1:=Ri w.heap.size ib ⟨q,d,0,0,IntKind.i64.wrap (4*g)⟩) (A 6 ab) λc V _ C=>?_
   cases c
   case false=>exact il C {} 160 ⟨q,d,0,0,IntKind.i64.wrap (4*g)⟩
   exact dS C {} 160 (R1:=Ri w.heap.size ib ⟨q,d,0,0,IntKind.i64.wrap (4*g)⟩) (mh k (-524288) 524287 ab ab ab ab) λi V hi C=>il C {} 160 ⟨q,d,0,0,IntKind.i64.wrap (2*i)⟩
  case a =>
   cases O<;>cases P
   case false.false=>exact dS C {eq:=[(133,an d1),(137,an d2)]} 160 (R1:=Ri w.heap.size ib ⟨q,d,x,y,0⟩) (az k 4 ab) λg w0 p C=>il C {} 160 ⟨q,d,x,y,g⟩
   all_goals exact dS C {eq:=[(133,an d1),(137,an d2)]} 160 (R1:=Ri w.heap.size ib ⟨q,d,x,0,0⟩) (az k 4 ab) λg w0 p C=>il C {} 160 ⟨q,d,x,0,g⟩
