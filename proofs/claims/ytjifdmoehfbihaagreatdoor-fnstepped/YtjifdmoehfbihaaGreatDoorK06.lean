/- Own lemmas. -/
import Derived.Test.YtjifdmoehfbihaaGreatDoorAut
import Derived.Test.YtjifdmoehfbihaaGreatDoorK03
import Derived.Test.YtjifdmoehfbihaaGreatDoorK05
import Derived.Deep.LoopGhost
namespace Go.Proofs.YtjifdmoehfbihaaGreatDoor
open Go.RowKit
set_option linter.unusedVariables false
def Bs (w:World) (bs:List (Array Value × TypeId)) (W:World):Prop:=(∀ i x,bs[i]?=some x->W.heap[w.heap.size+i]?=some (.cells x.1 x.2 (0,0)))/\Bw w W
theorem Bs.below {w W W':World} {bs:List (Array Value × TypeId)} (h:Bs w bs W) (hb:Bw W W'):Bs w bs W':=⟨λi x a=>bA hb (h.1 i x a),aa h.2 hb⟩
theorem Bs.start (w:World) (bs:List (Array Value × TypeId)):Bs w bs (bM w bs):=by
 have key:∀ (l:List (Array Value × TypeId)) (v:World),Bw w v->(∀ i x,l[i]?=some x->(bM v l).heap[v.heap.size+i]?=some (.cells x.1 x.2 (0,0)))/\Bw v (bM v l):=by
  intro l;induction l with
  | nil=>intro v _;exact ⟨λi x h=>by simp at h,Below.refl _ _⟩
  | cons y l f =>
    intro v e;have c:=(Below.refl v.heap.size v).alloc (Nat.le_refl _) (.cells y.1 y.2);obtain ⟨d,b⟩:=f (v.alloc (.cells y.1 y.2)) (aa e c);refine ⟨λi x a=>?_,aa c b⟩;cases i with
    | zero =>simp only [List.getElem?_cons_zero,Option.some.injEq] at a;subst a;exact bA b (heap_alloc_new _ _)
    | succ i =>have:=d i x pp;rw [World.size_alloc] at this;rw [show v.heap.size+(i+1)=v.heap.size+1+i by omega];exact this
 exact ⟨(key bs w (Below.refl _ _)).1,(key bs w (Below.refl _ _)).2⟩
def kW (N:Nat):List (Array Value × TypeId)->List Rw
 | []=>[]
 | x::l=>⟨N,x.1,[]⟩::kW (N+1) l
theorem xw {r:Rw}:∀ {l:List (Array Value × TypeId)} {N:Nat},r ∈ kW N l->∃ i x,l[i]?=some x/\r.b=N+i/\r.cs=x.1
 | [],_,h=>l0
 | y::l,N,h=>by
   rcases List.mem_cons.1 h with rfl|h
   ·exact ⟨0,y,rfl,rfl,rfl⟩
   ·obtain ⟨i,x,a,c,b⟩:=xw h
    exact ⟨i+1,x,pp,ab,b⟩
theorem Bs.eng {P:Program} {fn:Func} {Rs:Ending->World->Prop} {w:World} {bs:List (Array Value × TypeId)}:nE P (Bs w bs) (Bs w bs) (kW w.heap.size bs) true (bodyPost P fn Rs):=
 ⟨λ_ h=>h,λW h r d=>by
  obtain ⟨i,x,a,b,c⟩:=xw d
  exact ⟨_,_,by rw [b,c];exact h.1 i x a⟩,λ_ W h=>h.below (Below.refl _ _).drew,ct⟩
def fW {P:Program} {w:World} {bs:List (Array Value × TypeId)} {f:Nat} {args:Array Value} {v:Value} (h:∀ W,Bw w W->Calls P f args W λe b=>e=.returned v/\Bw W b):Cv P (Bs w bs):=⟨f,args,v,0,λW a=>(h W a.2).mono λe b k=>⟨k.1,a.below k.2⟩⟩
def mM {P:Program} {w:World} {bs:List (Array Value × TypeId)} {f:Nat} {args:Array Value} {v:Value} (h:∀ W,Bw w W->Calls P f args W λe b=>e=.returned v/\b=W):Cv P (Bs w bs):=⟨f,args,v,0,λW a=>(h W a.2).mono λe b k=>⟨k.1,by rw [k.2];exact a⟩⟩
def iR {P:Program} {S:World->Prop} {T:TypeId} {d:TypeDesc} (p:Addr) (v:Value) (c:P.underlying T=some d) (hd:(match d with | .struct _ | .array _ _=>true | _=>false)=false) (h:∀ W,S W->W.cell? p=some v):Ov P S :=
 ⟨do pure (.value (<- Instr.loadAt T (.pointer (some p)))),v,0,λW a=>by
  have b:=h W a
  cases d<;>simp_all [Instr.loadAt,Instr.sureAddr,loadVar,isAgg,underlying,program,load,Sem.run,Bind.bind,Sem.bind,Pure.pure]⟩
def kN {P:Program} {S:World->Prop} {T E:TypeId} {a:Option Addr} {b o:Nat} (n c:Nat) (k:IntKind) (i:Int) (f:a=some ⟨b,o,none⟩) (g:0<=i/\i<n) (h:P.underlying T=some (.slice E)) (hz:(P.info? E).map (·.size)=some 1):Ov P S :=
 ⟨do pure (.value (<- Instr.indexAt T (.slice a n c) (.int k i))),.p b (o+i.toNat),0,λW j=>by
  subst f
  obtain ⟨info,d,e⟩:=Option.map_eq_some_iff.1 hz
  simp [Instr.indexAt,asIntOf,underlying,program,sizeOf,typeInfo,h,d,e,g,Addr.add,Sem.run,Bind.bind,Sem.bind,Pure.pure]⟩
def jy {P:Program} {S:World->Prop} (a:∀ {W W'},S W->Bw W W'->S W') {f:Nat} {args:Array Value} {v:Value} (h:∀ W,S W->Calls P f args W λe c=>e=.returned v/\Bw W c):Cv P S:=⟨f,args,v,0,λW b=>(h W b).mono λe c k=>⟨k.1,a b k.2⟩⟩
def jS {P:Program} {S:World->Prop} {f:Nat} {args:Array Value} {v:Value} (h:∀ W,S W->Calls P f args W λe b=>e=.returned v/\b=W):Cv P S:=⟨f,args,v,0,λW a=>(h W a).mono λe b k=>⟨k.1,by rw [k.2];exact a⟩⟩
def dI (k:IntKind) {x y:Int} (h:x=y):Vq:=⟨.int k x,.int k y,0,by rw [h]⟩
def NC {P:Program} {S:World->Prop} (k:IntKind) (x y:Int) (hy:y≠0):Ov P S:=⟨do pure (.value (<- Op.intDiv .rem k x y)),.int k (x.tmod y),0,λW _=>by
 simp [Op.intDiv,hy]⟩
structure j7 (M:MV):Prop where
 x:M.x.length<=1048576
 cs:M.cs.length<=1048576
 ram:M.ram.length<=1048576
 xs:M.d.xs.length<=1048576
 ys:M.d.ys.length<=1048576
structure jg (L:List FRow) (w w':World):Prop where
 os:w'.os=w.os
 tape:w'.tape=w.tape
 output:w'.output=w.output
 size:w.heap.size<=w'.heap.size
 block:∀ k,k<w.heap.size->(∀ q ∈ L,q.v.ownBlock≠some k)->w'.heap[k]?=w.heap[k]?
theorem jg.trans {L:List FRow} {a b c:World} (h:jg L a b) (k:jg L b c):jg L a c :=
 ⟨k.os.trans h.os,k.tape.trans h.tape,k.output.trans h.output,Nat.le_trans h.size k.size,λi d e=>(k.block i (Nat.lt_of_lt_of_le d h.size) e).trans (h.block i d e)⟩
theorem jg.of_below {L:List FRow} {w w':World} (h:Bw w w'):jg L w w':=⟨h.os,h.tape,h.output,h.size,λk a _=>h.block k a⟩
theorem jg.of_grown {L:List FRow} {w w':World} {q:FRow} (h:w.grownBy w' q.v.ownBlock) (c:q ∈ L):jg L w w' :=
 ⟨h.os,h.tape,h.output,h.size,λk a b=>h.block k a (λe=>b q c e.symm)⟩
theorem jg.keep {L:List FRow} {B E:Nat} {w w':World} (h:jg L w w') (a:bx B E w L):kS B E w w' :=
 ⟨h.os,h.tape,h.output,h.size,λk c g=>h.block k c (λq b e=>by have d:=((a.own q b).lt k e).1;have f:=a.hi q b k e;omega)⟩
def xx (A:MA) (nx a c b no:Nat) (x cs ram xs ys:List Int):List FRow:=[aJ A.ax nx A.cx x,aJ A.ac a A.cc cs,aF A.ar c A.cr ram,aF A.ai b A.ci xs,aF A.ao no A.co ys]
theorem bx.markL {B E:Nat} {w w':World} {L1 L2:List FRow} {r:FRow} (h:bx B E w (L1++r::L2)) (a:w.grownBy w' r.v.ownBlock) (xs:List Value) (b:w'.ownsRow B r.t 1 r.v r.n xs):bx B E w' (L1++⟨r.t,r.v,r.n,xs⟩::L2)/\jg (L1++r::L2) w w' :=
 ⟨(h.mark a xs b).1,jg.of_grown a cp⟩
theorem bx.rsl {B E:Nat} {w:World} {A:MA} {nx a c b no:Nat} {x cs ram xs ys:List Int} (h:bx B E w (xx A nx a c b no x cs ram xs ys)):Sl .u64 w A.ax x/\Sl .u64 w A.ac cs/\Sl .u8 w A.ar ram/\Sl .u8 w A.ai xs/\Sl .u8 w A.ao ys :=
 ⟨gv (h.own (aJ A.ax nx A.cx x) (by simp [xx])),gv (h.own (aJ A.ac a A.cc cs) (by simp [xx])),gv (h.own (aF A.ar c A.cr ram) (by simp [xx])),gv (h.own (aF A.ai b A.ci xs) (by simp [xx])),gv (h.own (aF A.ao no A.co ys) (by simp [xx]))⟩
def g6 (w:World):List Rw->Prop
 | []=>True
 | r::R=>o9 r w/\g6 w R
theorem po {w:World} {r:Rw}:∀ {R:List Rw},g6 w R->r ∈ R->o9 r w
 | [],_,h=>l0
 | _::R,h,a=>by
   rcases List.mem_cons.1 a with rfl|a
   ·exact h.1
   ·exact po h.2 a
section
variable {P : Program} {S : World -> Prop} {n : Nat} {fn : Func} {Rs : Ending -> World -> Prop} {k : List KI} {F : Fr} {w : World}
theorem xy {R:List Rw} (a:g6 w R):nE P (λx=>x=w) (λx=>x=w) R false (bodyPost P fn Rs):=⟨λ_ h=>h,λW h r b=>by subst h;exact po a b,(λh=>l0),ct⟩
theorem QS {F:Fr} {all:Array Oper} {m:Nat} {listed:Array Bool} {k:List KI} {x:Oper × List KI × Bool} (h:Ar F (.sw all m listed::k)=some x):x.2.2=false:=by
 cases m with
 | zero=>cases h
 | succ m =>
   simp only [Ar] at h;repeat (split at h<;>try cases h)
   all_goals rfl
theorem aS {R:List Rw} (u:g6 w R) (H:Hn P (λx=>x=w) (λx=>x=w)) (m:Nat) {f:Nat} {args:Array Value} {Rc:Ending->World->Prop} (y:Calls P f args w Rc) (h:∀ e a,Rc e a->∃ v t,e=.returned v/\Wg P S (bodyPost P fn Rs) n (oI (be P R H n false m k F).1.2.2 (be P R H n false m k F).1.2.1) (pP (be P R H n false m k F).1.2.2 (be P R H n false m k F).1.2.1 v t) a) (hx:(gZ k,(be P R H n false m k F).1.1,gZ (be P R H n false m k F).1.2.1,NB P n (be P R H n false m k F).1.2.2 (be P R H n false m k F).1.2.1)=(true,false,true,some (f,args)):=by kernel_rfl) (he:(be P R H n false m k F).2.map Prod.fst=(be P R H n false m k F).2.map Prod.snd:=by kernel_rfl):Wg P S (bodyPost P fn Rs) n k F w:=by
 simp only [Prod.mk.injEq] at hx
 obtain ⟨j,p,g,q⟩:=hx
 refine aH (λx=>x=w) (hn:=j) (ae (xy u) H m rfl (hret:=p) (he:=he) λa c=>?_)
 subst c
 refine aH S (hn:=g) (lQ y (hx:=q) λe a z=>?_)
 obtain ⟨v,t,r,s⟩:=h e a z
 refine ⟨v,t,r,λd=>?_,s⟩
 exact absurd d (by
  have:∀ (k:List KI) (F:Fr),gZ k=true->yJ F k=false:=by
   intro k F i
   unfold yJ Ar
   cases k with
   | nil=>rfl
   | cons x k=>cases x with
     | sq=>cases i
     | sk=>cases i
     | sw all m listed =>
       cases hx:Ar F (.sw all m listed::k) with
       | none=>unfold Ar at hx;simp only [hx]
       | some x =>
         have d:=QS hx
         unfold Ar at hx
         simp only [hx]
         exact d
     | ops all l=>cases l with
       | nil=>rfl
       | cons o l=>cases c:wn all F o with
         | none=>simp only [c]
         | some b=>cases b<;>simp only [c]
     | _=>rfl
  rw [this _ _ g];decide)
theorem nQ {R:List Rw} (g:g6 w R) (H:Hn P (λx=>x=w) (λx=>x=w)) (m:Nat) {s:Sem Next} {v:Value} {w':World} (t:Nat) (hr:s.run P w=.ok (.value v) w') (h:Wg P S (bodyPost P fn Rs) n (oI (be P R H n false m k F).1.2.2 (be P R H n false m k F).1.2.1) (pP (be P R H n false m k F).1.2.2 (be P R H n false m k F).1.2.1 v t) w') (hx:(gZ k,(be P R H n false m k F).1.1,gZ (be P R H n false m k F).1.2.1,yJ (be P R H n false m k F).1.2.2 (be P R H n false m k F).1.2.1,Da n (be P R H n false m k F).1.2.2 (be P R H n false m k F).1.2.1)=(true,false,true,false,some s):=by kernel_rfl) (he:(be P R H n false m k F).2.map Prod.fst=(be P R H n false m k F).2.map Prod.snd:=by kernel_rfl):Wg P S (bodyPost P fn Rs) n k F w:=by simp only [Prod.mk.injEq] at hx;obtain ⟨b,c,d,e,f⟩:=hx;refine aH (λx=>x=w) (hn:=b) (ae (xy g) H m rfl (hret:=c) (he:=he) λj i=>?_);subst i;exact aH S (hn:=d) (dU t (hx:=f) hr (hS:=λa=>by rw [e] at a;cases a) h)
theorem cw {R:List Rw} (g:g6 w R) (H:Hn P (λx=>x=w) (λx=>x=w)) (m:Nat) {s:Sem Next} {w':World} (hr:s.run P w=.ok .skip w') (h:Wg P S (bodyPost P fn Rs) n (oI (be P R H n false m k F).1.2.2 (be P R H n false m k F).1.2.1) (pP (be P R H n false m k F).1.2.2 (be P R H n false m k F).1.2.1 undef 0) w') (hx:(gZ k,(be P R H n false m k F).1.1,gZ (be P R H n false m k F).1.2.1,yJ (be P R H n false m k F).1.2.2 (be P R H n false m k F).1.2.1,Da n (be P R H n false m k F).1.2.2 (be P R H n false m k F).1.2.1)=(true,false,true,false,some s):=by kernel_rfl) (he:(be P R H n false m k F).2.map Prod.fst=(be P R H n false m k F).2.map Prod.snd:=by kernel_rfl):Wg P S (bodyPost P fn Rs) n k F w:=by simp only [Prod.mk.injEq] at hx;obtain ⟨b,c,d,e,f⟩:=hx;refine aH (λx=>x=w) (hn:=b) (ae (xy g) H m rfl (hret:=c) (he:=he) λj i=>?_);subst i;exact aH S (hn:=d) (bJ (hx:=f) hr (hS:=λa=>by rw [e] at a;cases a) h)
theorem fP {R:List Rw} (b:g6 w R) (H:Hn P (λx=>x=w) (λx=>x=w)) (m:Nat) (h:∀ a,bP (be P R H n false m k F).1.2.2 n a->∃ v,(results fn a.tmps).run P w=.ok v w/\Rs (.returned v) w) (hx:(gZ k,(be P R H n false m k F).1.1)=(true,true):=by kernel_rfl) (he:(be P R H n false m k F).2.map Prod.fst=(be P R H n false m k F).2.map Prod.snd:=by kernel_rfl):Wg P S (bodyPost P fn Rs) n k F w:=by simp only [Prod.mk.injEq] at hx;exact aH (λx=>x=w) (hn:=hx.1) (kV (xy b) H m rfl (hv:=hx.2) (he:=he) λe a d c=>by subst d;exact h a c)
theorem jE {R:List Rw} (b:g6 w R) (H:Hn P (λx=>x=w) (λx=>x=w)) (m:Nat) {t:Nat} {v:Value} (h:Rs (.returned v) w) (hx:(gZ k,(be P R H n false m k F).1.1,(lk (be P R H n false m k F).1.2.2 t).map Prod.fst)=(true,true,some v):=by kernel_rfl) (he:(be P R H n false m k F).2.map Prod.fst=(be P R H n false m k F).2.map Prod.snd:=by kernel_rfl) (hr:fn.results=#[.tmp t]:=by rfl):Wg P S (bodyPost P fn Rs) n k F w:=by simp only [Prod.mk.injEq] at hx;exact fP b H m (hx:=t5) (he:=he) λa c=>⟨v,by rw [results_tmp hr,c.slot hx.2.2],h⟩
end
theorem J3 {α:Type} {t:Nat} {x:α}:∀ {F:List (Nat × α)},lk F t=some x->(t,x) ∈ F
 | [],h=>l0
 | (s,y)::F,h=>by
   unfold lk at h
   cases a:Nat.beq s t with
   | true =>
     rw [a] at h
     cases h
     have:s=t:=Nat.eq_of_beq_eq_true a
     simp [this]
   | false=>rw [a] at h;exact List.mem_cons_of_mem _ (J3 h)
theorem bP.less {F G:Fr} {n:Nat} {a:Act} (h:bP F n a) (hs:G.map (λy=>some y.2.1)=G.map λy=>(lk F y.1).map Prod.fst):bP G n a :=
 ⟨h.size,h.nod,λt x e=>by
  have d:=J3 e
  have:=List.map_inj_left.1 hs (t,x) d
  obtain ⟨y,b,c⟩:=Option.map_eq_some_iff.1 this.symm
  have:=h.at_ t y b
  rw [this,c]⟩
def T9:List KI->Bool
 | .code (.loop _)::_=>true
 | _=>false
def U2:List KI->Go.Code
 | .code (.loop c)::_=>c
 | _=>.skip
def P7:List KI->Act->World->Prop
 | .fin R::_=>R
 | _=>λ_ _=>False
section
variable {P : Program} {S : World -> Prop} {n : Nat} {Q : Exit -> Act -> World -> Prop} {k : List KI} {F : Fr} {w : World}
theorem pQ {α:Type} (d:α->Fr) (I:Nat->α->World->Prop) (i:Nat) (g:α) (hl:T9 k=true) (hF:(d g).map (λy=>some y.2.1)=(d g).map λy=>(lk F y.1).map Prod.fst) (r:I i g w)
 (round:∀ j x w,I j x w->∀ R:Act->World->Prop,(∀ a e b f,b<j->bP (d f) n a->I b f e->R a e)->Wg P S Q n (.code (U2 k)::.fin R::k.tail) (d x) w):Wg P S Q n k F w:=λa t=>by
 match k,hl with
 | .code (.loop c)::k',_ =>
   show (Go.Code.loop c).wp P (iD P S Q k') a w
   refine wp_loop_ghost (λj a w=>∃ x,bP (d x) n a/\I j x w) i ⟨g,t.less hF,r⟩ λj a w s=>?_
   obtain ⟨x,p,q⟩:=s
   exact round j x w q (λh e=>∃ b,b<j/\∃ x,bP (d x) n h/\I b x e) (λh e b f l m o=>⟨b,l,f,m,o⟩) a p
theorem J4 {R:List Rw} {dr:Bool} {J:World->Prop} (E:nE P S J R dr Q) (H:Hn P S J) (m:Nat) (hS:J w) {T:Act->World->Prop} (h:∀ a c,J c->bP (be P R H n dr m k F).1.2.2 n a->T a c) (hx:((be P R H n dr m k F).1.1,P7 (be P R H n dr m k F).1.2.1)=(false,T):=by kernel_rfl) (he:(be P R H n dr m k F).2.map Prod.fst=(be P R H n dr m k F).2.map Prod.snd:=by kernel_rfl):Wg P S Q n k F w:=by
 simp only [Prod.mk.injEq] at hx;refine ae E H m hS (hret:=hx.1) (he:=he) λc f a e=>?_;have b:=h a c f e;rw [<- hx.2] at b;generalize (be P R H n dr m k F).1.2.1=d at b;cases d with
 | nil=>cases b
 | cons y d=>cases y with
   | fin g=>exact b
   | _=>cases b
end
section
variable {P : Program} {S : World -> Prop} {n : Nat} {fn : Func} {Rs : Ending -> World -> Prop} {k : List KI} {F : Fr} {w : World}
theorem rj {R:List Rw} (b:g6 w R) (H:Hn P (λx=>x=w) (λx=>x=w)) (m:Nat) {T:Act->World->Prop} (h:∀ a,bP (be P R H n false m k F).1.2.2 n a->T a w) (hx:(gZ k,(be P R H n false m k F).1.1,P7 (be P R H n false m k F).1.2.1)=(true,false,T):=by kernel_rfl) (he:(be P R H n false m k F).2.map Prod.fst=(be P R H n false m k F).2.map Prod.snd:=by kernel_rfl):Wg P S (bodyPost P fn Rs) n k F w:=by simp only [Prod.mk.injEq] at hx;exact aH (λx=>x=w) (hn:=hx.1) (J4 (T:=T) (xy b) H m rfl (hx:=by rw [hx.2.1,hx.2.2]) (he:=he) λa e d c=>by subst d;exact h a c)
theorem an {R:List Rw} (a:g6 w R) (H:Hn P (λx=>x=w) (λx=>x=w)) (m:Nat) (h:Wg P S (bodyPost P fn Rs) n (be P R H n false m k F).1.2.1 (be P R H n false m k F).1.2.2 w) (hx:(gZ k,(be P R H n false m k F).1.1,gZ (be P R H n false m k F).1.2.1)=(true,false,true):=by kernel_rfl) (he:(be P R H n false m k F).2.map Prod.fst=(be P R H n false m k F).2.map Prod.snd:=by kernel_rfl):Wg P S (bodyPost P fn Rs) n k F w:=by simp only [Prod.mk.injEq] at hx;exact aH (λx=>x=w) (hn:=hx.1) (ae (xy a) H m rfl (hret:=hx.2.1) (he:=he) λc b=>by subst b;exact aH S (hn:=hx.2.2) h)
end
def Dw (w W:World):Prop:=∃ d,W={w with drawn:=w.drawn+d}
theorem Dw.refl (w:World):Dw w w:=⟨0,rfl⟩
structure Ez (S:World->Prop) (R:List Rw):Prop where
 rows:∀ w,S w->∀ r ∈ R,o9 r w
 drew:∀ w,S w->S w.drew
section
variable {P : Program} {S : World -> Prop} {n : Nat} {fn : Func} {Rs : Ending -> World -> Prop} {k : List KI} {F : Fr} {w : World} {R : List Rw}
theorem sf (a:Ez S R) (hS:S w):nE P S (Dw w) R true (bodyPost P fn Rs):=
 ⟨λW h=>by
  obtain ⟨d,rfl⟩:=h
  induction d with
  | zero=>exact hS
  | succ d b=>exact a.drew _ b,a.rows,λ_ W h=>by obtain ⟨d,rfl⟩:=h;exact ⟨d+1,rfl⟩,ct⟩
theorem tH (j:Ez S R) (hS:S w) (H:Hn P S (Dw w)) (m:Nat) {f:Nat} {args:Array Value} {Rc:World->Ending->World->Prop} (l:∀ W,Dw w W->Calls P f args W (Rc W))
 (h:∀ W e a,Dw w W->Rc W e a->∃ v t,e=.returned v/\S a/\Wg P S (bodyPost P fn Rs) n (oI (be P R H n true m k F).1.2.2 (be P R H n true m k F).1.2.1) (pP (be P R H n true m k F).1.2.2 (be P R H n true m k F).1.2.1 v t) a) (hx:((be P R H n true m k F).1.1,NB P n (be P R H n true m k F).1.2.2 (be P R H n true m k F).1.2.1)=(false,some (f,args)):=by kernel_rfl) (he:(be P R H n true m k F).2.map Prod.fst=(be P R H n true m k F).2.map Prod.snd:=by kernel_rfl):Wg P S (bodyPost P fn Rs) n k F w :=
 aN (sf j hS) H m (Dw.refl w) l (hx:=hx) (he:=he) λW e a b c=>by
  obtain ⟨v,t,d,g,i⟩:=h W e a b c
  exact ⟨v,t,d,λ_=>g,i⟩
theorem Fk (b:Ez S R) (hS:S w) (H:Hn P S (Dw w)) (m:Nat) {s:Sem Next} (f:World->World) (hr:∀ W,Dw w W->s.run P W=.ok .skip (f W)) (h:∀ W,Dw w W->S (f W)/\Wg P S (bodyPost P fn Rs) n (oI (be P R H n true m k F).1.2.2 (be P R H n true m k F).1.2.1) (pP (be P R H n true m k F).1.2.2 (be P R H n true m k F).1.2.1 undef 0) (f W)) (hx:((be P R H n true m k F).1.1,Da n (be P R H n true m k F).1.2.2 (be P R H n true m k F).1.2.1)=(false,some s):=by kernel_rfl) (he:(be P R H n true m k F).2.map Prod.fst=(be P R H n true m k F).2.map Prod.snd:=by kernel_rfl):Wg P S (bodyPost P fn Rs) n k F w:=by simp only [Prod.mk.injEq] at hx;exact ae (sf b hS) H m (Dw.refl w) (hret:=hx.1) (he:=he) λW a=>bJ (hx:=hx.2) (hr W a) (hS:=λ_=>(h W a).1) (h W a).2
theorem P8 (b:Ez S R) (hS:S w) (H:Hn P S (Dw w)) (m:Nat) {s:Sem Next} {v:World->Value} (t:Nat) (f:World->World) (hr:∀ W,Dw w W->s.run P W=.ok (.value (v W)) (f W)) (h:∀ W,Dw w W->S (f W)/\Wg P S (bodyPost P fn Rs) n (oI (be P R H n true m k F).1.2.2 (be P R H n true m k F).1.2.1) (pP (be P R H n true m k F).1.2.2 (be P R H n true m k F).1.2.1 (v W) t) (f W)) (hx:((be P R H n true m k F).1.1,Da n (be P R H n true m k F).1.2.2 (be P R H n true m k F).1.2.1)=(false,some s):=by kernel_rfl) (he:(be P R H n true m k F).2.map Prod.fst=(be P R H n true m k F).2.map Prod.snd:=by kernel_rfl):Wg P S (bodyPost P fn Rs) n k F w:=by simp only [Prod.mk.injEq] at hx;exact ae (sf b hS) H m (Dw.refl w) (hret:=hx.1) (he:=he) λW a=>dU t (hx:=hx.2) (hr W a) (hS:=λ_=>(h W a).1) (h W a).2
end
theorem Dw.below {B:Nat} {v w W:World} (hb:Below B v w) (h:Dw w W):Below B v W:=by
 obtain ⟨d,rfl⟩:=h;induction d with
 | zero=>exact hb
 | succ d a=>exact a.drew
theorem aG {P:Program} {w:World} {g:Nat} {t ty:TypeId} {old cells:Array Value} (b:w.heap[g]?=some (.cells old t (0,0))) (c:(P.info? ty).map (·.size)=some cells.size) (d:old.size=cells.size) (a:cells.all (·.oneCell')=true):(do Instr.storeAt ty (.p g 0) (.agg cells);pure Next.skip:Sem Next).run P w=.ok .skip (w.setRow g cells):=by have:=run_storeVar_row (P:=P) w g t ty old cells b c d a;simp [Instr.storeAt,Instr.sureAddr,this,Result.andThen]
theorem lR {P:Program} {S:World->Prop} {n:Nat} {fn:Func} {Rs:Ending->World->Prop} {k:List KI} {F:Fr} {w:World} {R:List Rw} (hz:Ez S R) (hS:S w) (H:Hn P S (Dw w)) (m:Nat) {r:Nat} {T:TypeId} {d:TypeDesc} {cs:Array Value} {s p u:Nat} {v1 v2:Value} (v:∀ W,S W->S (W.setRow r cs)) (e:∀ W,S W->∃ old t,old.size=cs.size/\W.heap[r]?=some (.cells old t (0,0))) (C:(P.info? T).map (·.size)=some cs.size) (o:cs.all (·.oneCell')=true) (G:P.underlying T=some d) (hd:(match d with | .struct _ | .array _ _=>true | _=>false)=true) (q:fn.results=#[.tmp s,.cell p T,.tmp u]) (hx:((be P R H n true m k F).1.1,Da n (be P R H n true m k F).1.2.2 (be P R H n true m k F).1.2.1)=(false,some (do Instr.storeAt T (.p r 0) (.agg cs);pure Next.skip))) (he:(be P R H n true m k F).2.map Prod.fst=(be P R H n true m k F).2.map Prod.snd) (hy:(λ(y:(Bool × List KI × Fr) × List (Oe × Oe))=>(y.1.1,(lk y.1.2.2 s).map Prod.fst,(lk y.1.2.2 p).map Prod.fst,(lk y.1.2.2 u).map Prod.fst,y.2.map Prod.fst)) (be P R ({}:Hn P S λV=>∃ W,Dw w W/\Dw (W.setRow r cs) V) n true m (oI (be P R H n true m k F).1.2.2 (be P R H n true m k F).1.2.1) (pP (be P R H n true m k F).1.2.2 (be P R H n true m k F).1.2.1 undef 0))=(true,some v1,some (.p r 0),some v2,(be P R ({}:Hn P S λV=>∃ W,Dw w W/\Dw (W.setRow r cs) V) n true m (oI (be P R H n true m k F).1.2.2 (be P R H n true m k F).1.2.1) (pP (be P R H n true m k F).1.2.2 (be P R H n true m k F).1.2.1 undef 0)).2.map Prod.snd)) (h:∀ W V,Dw w W->Dw (W.setRow r cs) V->Rs (.returned (.tuple #[v1,.agg cs,v2])) V):Wg P S (bodyPost P fn Rs) n k F w:=by
 have c:∀ {a b:World},S a->Dw a b->S b:=λ{a b} x l=>(sf (P:=P) (fn:=fn) (Rs:=Rs) hz x).sub _ l;refine Fk hz hS H m (λW=>W.setRow r cs) (λW z=>?_) (hx:=hx) (he:=he) λW z=>?_;·obtain ⟨old,t,x,l⟩:=e W (c hS z);exact aG l C x o
 ·have A:=v W (c hS z);refine ⟨A,?_⟩;simp only [Prod.mk.injEq] at hy;obtain ⟨I,J,K,L,M⟩:=hy;have E:nE P S (λV=>∃ W,Dw w W/\Dw (W.setRow r cs) V) R true (bodyPost P fn Rs):=
   ⟨λV ⟨X,g,i⟩=>c (v X (c hS g)) i,hz.rows,λ_ V ⟨X,g,i⟩=>⟨X,g,by obtain ⟨j,rfl⟩:=i;exact ⟨j+1,rfl⟩⟩,ct⟩
  refine kV E _ m ⟨W,z,Dw.refl _⟩ (hv:=I) (he:=M) λV a D B=>?_;obtain ⟨X,g,i⟩:=D;obtain ⟨old,t,x,l⟩:=e X (c hS g);have f:V.heap[r]?=some (.cells cs t (0,0)):=(by obtain ⟨j,rfl⟩:=i;exact setRow_heap X r old cs t (0,0) l);refine ⟨_,?_,h X V g i⟩;rw [<- B.slot J,<- B.slot L];exact bN q a.tmps V r t cs (0,0) d (B.slot K) f G hd C
theorem jh {P:Program} {w:World} {b i:Nat} {T:TypeId} {v old:Value} (a:w.cell? ⟨b,i,none⟩=some old/\w.frozen? ⟨b,i,none⟩=false) (d:(P.info? T).map (·.size)=some 1) (hv:v.cells=#[v]) (e:v.oneCell'=true:=by rfl):(do Instr.storeAt T (.p b i) v;pure Next.skip:Sem Next).run P w=.ok .skip (w.setCell ⟨b,i,none⟩ v):=by
 obtain ⟨t,g,f⟩:=Option.map_eq_some_iff.1 d;have c:(store ⟨b,i,none⟩ v).run P w=.ok () (w.setCell ⟨b,i,none⟩ v):=by rw [run_store P w _ v _ e];simp [a.1,a.2]
 simp [Instr.storeAt,Instr.sureAddr,storeVar,sizeOf,typeInfo,g,f,hv,storeCells,Addr.add,Result.andThen,c]
theorem bm {B:Nat} {v w:World} (h:Below B v w) {g:Nat} (b:B<=g) (cs:Array Value):Below B v (w.setRow g cs):=
 ⟨h.os,h.tape,h.output,by rw [setRow_size];exact h.size,λk a=>(setRow_other w g k cs ab).trans (h.block k a)⟩
theorem uz {P:Program} {fn:Func} {F:Fr} {n:Nat} {a:Act} {p u g:Nat} {T t:TypeId} {d:TypeDesc} {cs:Array Value} {v:Value} {w:World} (hk:bP F n a) (h:fn.results=#[.cell p T,.tmp u]) (e:(lk F p).map Prod.fst=some (.p g 0)) (hv:(lk F u).map Prod.fst=some v) (b:w.heap[g]?=some (.cells cs t (0,0))) (f:P.underlying T=some d) (hd:(match d with | .struct _ | .array _ _=>true | _=>false)=true) (c:(P.info? T).map (·.size)=some cs.size):(results fn a.tmps).run P w=.ok (.tuple #[.agg cs,v]) w:=by rw [results_cell_tmp h,hk.slot e,hk.slot hv];simp [asAddr,run_loadVar_row w g t T cs (0,0) d b f hd c]
theorem nR {P:Program} {S:World->Prop} {n:Nat} {fn:Func} {Rs:Ending->World->Prop} {k:List KI} {F:Fr} {w:World} {R:List Rw} (f:g6 w R) (H:Hn P (λx=>x=w) (λx=>x=w)) (m:Nat) {r:Nat} {T t:TypeId} {d:TypeDesc} {old cs:Array Value} {p u:Nat} {v:Value} (hr:w.heap[r]?=some (.cells old t (0,0))) (i:old.size=cs.size) (b:cs.all (·.oneCell')=true) (j:P.underlying T=some d) (h:Rs (.returned (.tuple #[.agg cs,v])) (w.setRow r cs)) (e:(P.info? T).map (·.size)=some cs.size:=by kernel_rfl) (hd:(match d with | .struct _ | .array _ _=>true | _=>false)=true:=by rfl) (c:fn.results=#[.cell p T,.tmp u]:=by rfl) (hx:(λ(y:Bool × List KI × Fr)=>(gZ k,y.1,gZ y.2.1,yJ y.2.2 y.2.1,Da n y.2.2 y.2.1,gZ (oI y.2.2 y.2.1))) (be P R H n false m k F).1=(true,false,true,false,some (do Instr.storeAt T (.p r 0) (.agg cs);pure Next.skip),true):=by kernel_rfl) (he:(be P R H n false m k F).2.map Prod.fst=(be P R H n false m k F).2.map Prod.snd:=by kernel_rfl) (hy:∀ X,(λ(z:(Bool × List KI × Fr) × List (Oe × Oe))=>(z.1.1,(lk z.1.2.2 p).map Prod.fst,(lk z.1.2.2 u).map Prod.fst,z.2.map Prod.fst)) (be P [] ({}:Hn P (λx=>x=X) (λx=>x=X)) n false m (oI (be P R H n false m k F).1.2.2 (be P R H n false m k F).1.2.1) (pP (be P R H n false m k F).1.2.2 (be P R H n false m k F).1.2.1 undef 0))=(true,some (.p r 0),some v,(be P [] ({}:Hn P (λx=>x=X) (λx=>x=X)) n false m (oI (be P R H n false m k F).1.2.2 (be P R H n false m k F).1.2.1) (pP (be P R H n false m k F).1.2.2 (be P R H n false m k F).1.2.1 undef 0)).2.map Prod.snd):=by intro _;kernel_rfl):Wg P S (bodyPost P fn Rs) n k F w:=by simp only [Prod.mk.injEq] at hx hy;obtain ⟨l,o,q,s,A,B⟩:=hx;refine cw f H m (aG hr e i b) ?_ (hx:=by rw [l,o,q,s,A]) (he:=he);exact fP (R:=[]) trivial {} m (λa g=>⟨_,uz g c (hy _).2.1 (hy _).2.2.1 (setRow_heap _ _ _ _ _ _ hr) j hd e,h⟩) (hx:=by rw [B,(hy _).1]) (he:=(hy _).2.2.2)
theorem dW {P:Program} {T:TypeId} {z:Value} (h:(P.info? T).bind (·.zero)=some z) (w:World):(do pure (.value (<- Instr.alloc T true (.tuple #[]))):Sem Next).run P w=.ok (.value (.p w.heap.size 0)) (w.alloc (.cells z.cells T)):=by obtain ⟨i,a,b⟩:=Option.bind_eq_some_iff.1 h;simp [Instr.alloc,zeroValue,typeInfo,a,b,newVar,newRow]
theorem eC {P:Program} {S J:World->Prop} {R:List Rw} {dr:Bool} {n:Nat} {fn:Func} {Rs:Ending->World->Prop} (E:nE P S J R dr (bodyPost P fn Rs)) (H:Hn P S J) (m:Nat) {k:List KI} {F:Fr} {w:World} {t s:Nat} {v u:Value} (hS:J w) (h:∀ b,J b->Rs (.returned (.tuple #[v,u])) b) (hv:((be P R H n dr m k F).1.1,(lk (be P R H n dr m k F).1.2.2 t).map Prod.fst,(lk (be P R H n dr m k F).1.2.2 s).map Prod.fst)=(true,some v,some u):=by kernel_rfl) (he:(be P R H n dr m k F).2.map Prod.fst=(be P R H n dr m k F).2.map Prod.snd:=by kernel_rfl) (hr:fn.results=#[.tmp t,.tmp s]:=by rfl):Wg P S (bodyPost P fn Rs) n k F w:=by simp only [Prod.mk.injEq] at hv;exact kV E H m hS (hv:=hv.1) (he:=he) λb a d c=>⟨_,by rw [results_tmp2 hr,c.slot hv.2.1,c.slot hv.2.2],h b d⟩
def R1 (w:World) (g:Nat) (cs:Array Value) (t:TypeId) (W:World):Prop:=W.heap[g]?=some (.cells cs t (0,0))/\Bw w W
theorem R1.below {w W W':World} {g:Nat} {cs:Array Value} {t:TypeId} (h:R1 w g cs t W) (hb:Bw W W'):R1 w g cs t W':=⟨bA hb h.1,aa h.2 hb⟩
theorem R1.eng {P:Program} {fn:Func} {Rs:Ending->World->Prop} {w:World} {g:Nat} {cs:Array Value} {t:TypeId}:nE P (R1 w g cs t) (R1 w g cs t) [⟨g,cs,[]⟩] true (bodyPost P fn Rs):=
 ⟨λ_ h=>h,λW h r a=>by rw [List.mem_singleton.1 a];exact ⟨_,_,h.1⟩,λ_ W h=>h.below (Below.refl _ _).drew,ct⟩
theorem R1.new {w W:World} {cs old:Array Value} {t:TypeId} (hb:Bw w W):R1 w W.heap.size cs t ((W.alloc (.cells old t)).setRow W.heap.size cs):=by exact ⟨setRow_heap _ _ _ _ _ _ (heap_alloc_new _ _),bm (hb.alloc hb.size _) hb.size _⟩
def R2 (w:World) (g:Nat) (cs:Array Value) (t:TypeId) (b:Nat) (a:Array Value) (t':TypeId) (W:World):Prop:=R1 w g cs t W/\W.heap[b]?=some (.cells a t' (0,0))
theorem R2.below {w W W':World} {g b:Nat} {cs a:Array Value} {t t':TypeId} (h:R2 w g cs t b a t' W) (hb:Bw W W'):R2 w g cs t b a t' W':=⟨h.1.below hb,bA hb h.2⟩
theorem R2.eng {P:Program} {fn:Func} {Rs:Ending->World->Prop} {w:World} {g b:Nat} {cs a:Array Value} {t t':TypeId}:nE P (R2 w g cs t b a t') (R2 w g cs t b a t') [⟨g,cs,[]⟩,⟨b,a,[]⟩] true (bodyPost P fn Rs):=
 ⟨λ_ h=>h,λW h r c=>by rcases List.mem_cons.1 c with rfl | c;exact ⟨_,_,h.1.1⟩;rw [List.mem_singleton.1 c];exact ⟨_,_,h.2⟩,λ_ W h=>h.below (Below.refl _ _).drew,ct⟩
theorem jF {W:World} {g j:Nat} {cs:Array Value} {t:TypeId} (h:W.heap[g]?=some (.cells cs t (0,0))) (v:Value):(W.setCell ⟨g,j,none⟩ v).heap[g]?=some (.cells (cs.set! j v) t (0,0)):=by have a:=(Array.getElem?_eq_some_iff.1 h).1;simp only [World.setCell];rw [Array.getElem?_modify];simp [h]
theorem bE {P:Program} {w:World} {b i:Nat} {T:TypeId} {v:Value} {t:TypeId} {cs:Array Value} (hr:w.heap[b]?=some (.cells cs t (0,0))) (e:i<cs.size) (c:(P.info? T).map (·.size)=some 1) (hv:v.cells=#[v]) (f:v.oneCell'=true:=by rfl):(do Instr.storeAt T (.p b i) v;pure Next.skip:Sem Next).run P w=.ok .skip (w.setCell ⟨b,i,none⟩ v):=by
 obtain ⟨t,h,g⟩:=Option.map_eq_some_iff.1 c;have d:w.cell? ⟨b,i,none⟩=some cs[i]:=by simp [World.cell?,hr,e]
 have a:(store ⟨b,i,none⟩ v).run P w=.ok () (w.setCell ⟨b,i,none⟩ v):=by rw [run_store P w _ v _ f];simp [d,gU hr i]
 simp [Instr.storeAt,Instr.sureAddr,storeVar,sizeOf,typeInfo,h,g,hv,storeCells,Addr.add,Result.andThen,a]
end Go.Proofs.YtjifdmoehfbihaaGreatDoor
