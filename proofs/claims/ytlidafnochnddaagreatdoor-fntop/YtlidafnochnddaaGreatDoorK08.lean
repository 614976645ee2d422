/- Own lemmas. -/
import Derived.Test.YtlidafnochnddaaGreatDoorAut
import Derived.Test.YtlidafnochnddaaGreatDoorK02
import Derived.Deep.RegionHeld3
import Derived.Deep.LoopGhost
namespace Go.Proofs.YtlidafnochnddaaGreatDoor
open Go.RowKit
open Below renaming refl->Z5
open Bool renaming and_eq_true->U5,or_eq_true->U6
open Go renaming World->A0,Value->A5,bodyPost->A6,Program->F0,execOp->F3,TypeId->G3,Oper->H1,ready_mono->H2,Ending->H3,Code->H5,execOp_congr->H8,YieldsIf->I4,Calls->I5,wpOp_step->K0,wpOp_mono->K1,Next->K4,Exit->L4,wpList_plain->L5,setRow_heap->L6,getD_set_ne->L7,TypeDesc->M5,wpOp_putIf->M7,Operand->N1,Func->P2,wp_region_list->R4,heap_alloc_new->R5,Yields->S1,Addr->S2,bodyPost_ret->S5,IntKind->T0,wpList_step->T2,results_tmp->T3
open Instr renaming storeAt->X8,sureAddr->X9,alloc->Y0,indexAt->Y1,loadAt->Y2
open List renaming mem_singleton->V8,map_inj_left->V9,mem_cons->X0,cons_ne_nil->X3,getElem?_eq_some_iff->X5,mem_map->X6,range->X7
open Nat renaming eq_of_beq_eq_true->Y3,lt_or_ge->Y4,beq->Y5,blt->Y6,beq_refl->Y7,sub_zero->Y8,not_lt->Y9,ble->Z0
open Next renaming skip->Z7
open Option renaming map_eq_some_iff->U7
open Prod renaming fst->U2,snd->U3
open Region renaming ready->T4,binds->T5,noSelect->T6,Mode->T7,wanted->T8,noSelect_spec->T9,free->U0,free_spec->U1
open Result renaming andThen->Z8
open Yields renaming yieldsIf->Z6
open _root_.Array renaming getD_eq_getD_getElem?->U8,all_eq_true_iff_forall_mem->V0,getElem?_eq_none->V4,setIfInBounds_comm->V5,getElem?_setIfInBounds->V6,replicate->V7
set_option linter.unusedVariables false
variable {w n i g:Nat} {Q P:F0} {a J t:A0} {k W S:A0->Prop} {b:L4->Act->A0->Prop} {f:Array H1} {c:H3->A0->Prop} {B:P2} {L:Act} {d oi o:H1} {E:T7} {j dr:Bool} {l:Array Bool} {m:A5} {p q:Array A5} {s T:G3} {x:List FRow} {K:H5} {e:List (Array A5 × G3)} {args:List A5} (r:A0) (y:List (Array A5 × G3)) (z:Nat) (A:A0->Prop)
def eC (P:F0) (md:T7) (ops:Array H1) (Q:L4->Act->A0->Prop) (S:A0->Prop) (k:Nat):Nat->Array Bool->Act->A0->Prop
 | 0,listed,a,w=>T4 md ops listed=[]/\Q .normal a w
 | fuel+1,listed,a,w =>
   (T4 md ops listed=[]->Q .normal a w) /\
   ∀ i ∈ T4 md ops listed,wpOp P ops Q i (λc b=>(i≠k->S b/\eC P md ops Q S k fuel (listed.setIfInBounds i true) c b)/\(i=k->wpAny P md ops Q fuel (listed.setIfInBounds i true) c b)) a w
theorem pd {P:F0} {ops:Array H1} {Q:L4->Act->A0->Prop} {md:T7} {S:A0->Prop} {k:Nat}:∀ (fuel:Nat) (listed:Array Bool) (a:Act) (w:A0),eC P md ops Q S k fuel listed a w->wpAny P md ops Q fuel listed a w
 | 0,_,_,_,h=>h
 | fuel+1,_,_,_,h=>⟨h.1,λi d=>K1 (λc f b=>by
  by_cases e:i=k
  ·exact b.2 e
  ·exact pd fuel _ c f (b.1 e).2) (h.2 i d)⟩
theorem yk {oi:H1} (L:f[n]?=some oi) (r:∀ (j:Nat) (o:H1) x ops,f[j]?=some o->o.op≠.select x ops) (V:∀ c a S,b (.panic c) (a.put oi.dst m) S->b (.panic c) a S) (A:n≠w) (hk:∃ i e,f[w]?=some i/\e ∈ i.after/\T5 E e/\e.on=n): ∀ (fuel:Nat) (listed:Array Bool) (a:Act) (S:A0), (∀ j u,f[j]?=some u->j≠n->listed.getD j true=false->(∀ e ∈ u.after,T5 E e->e.on≠n)->oi.apart f u) -> n ∈ T4 E f listed->I4 Q f k oi m a->k S -> eC Q E f b k w fuel (listed.setIfInBounds n true) (a.put oi.dst m) S->eC Q E f b k w (fuel+1) listed a S:=by
 intro fuel;induction fuel with
 | zero =>
   intro listed a S _ t md y H;refine ⟨λh=>(by rw [h] at t;cases t),λj D=>?_⟩;by_cases d:j=n;·subst d;exact md.wpOp L y ⟨λ_=>⟨y,H⟩,λe=>absurd e A⟩
   ·have:=H2 D d;rw [H.1] at this;cases this
 | succ fuel W =>
   intro listed a S g t md y H;refine ⟨λh=>(by rw [h] at t;cases t),λj D=>?_⟩;by_cases d:j=n;·subst d;exact md.wpOp L y ⟨λ_=>⟨y,H⟩,λe=>absurd e A⟩
   ·have s:=H.2 j (H2 D d);obtain ⟨p,u,v,z⟩:=mem_ready.1 D;have q:∀ e ∈ u.after,T5 E e->e.on≠n:=λe I G K=>by
     have s:=z e I G;have O:=(mem_ready.1 t).1;rw [K] at s;rcases Y4 n listed.size with F|F;·simp [F] at O s;rw [O] at s;cases s
     ·simp [V4 F] at s
    have P:j≠w:=(by rintro rfl;obtain ⟨i,e,R,I,G,J⟩:=hk;rw [v] at R;cases R;exact q e I G J);have U:=M7 v (g j u v d p q) (λx ops=>r n oi x ops L) (λx ops=>r j u x ops v) V md s;have l:∀ w i,f[w]?=some i->w≠n->(listed.setIfInBounds j true).getD w true=false ->
     (∀ e ∈ i.after,T5 E e->e.on≠n)->oi.apart f i:=λw i hk M B N=>by
     refine g w i hk M ?_ N
     by_cases P:j=w
     ·subst P;exact p
     ·rw [L7 true P] at B;exact B
    refine K1 (λT X C=>⟨λ_=>⟨(C.2.1 P).1,W (listed.setIfInBounds j true) T X l (H2 t (Ne.symm d)) C.1 (C.2.1 P).1 ?_⟩,λe=>absurd e P⟩) U;rw [V5 _ _ d];exact (C.2.1 P).2
def lV (md:T7) (ops:Array H1) (k i:Nat):Bool:=(i != k)&&(match ops[k]? with | some a=>a.after.any (λe=>T5 md e&&(e.on==i)) | none=>false)
theorem pe {i:Nat} (h:lV E f w i):i≠w/\∃ b e,f[w]?=some b/\e ∈ b.after/\T5 E e/\e.on=i:=by
 unfold lV at h;simp only [U5,bne_iff_ne,ne_eq] at h;refine ⟨h.1,?_⟩;have a:=h.2;cases c:f[w]? with
 | none=>rw [c] at a;cases a
 | some b =>rw [c] at a;simp only [Array.any_eq_true,U5,beq_iff_eq] at a;obtain ⟨j,g,d,ops⟩:=a;exact ⟨b,_,rfl,Array.getElem_mem g,d,ops⟩
def pU (md:T7) (ops:Array H1) (listed:Array Bool):Prop:=∀ j o,ops[j]?=some o->listed.getD j false->∀ e ∈ o.after,T5 md e->listed.getD e.on false
def td (md:T7) (ops:Array H1) (listed:Array Bool):Bool:=(X7 listed.size).all λj=>!(listed.getD j false)||(match ops[j]? with | some o=>o.after.all λe=>!(T5 md e)||listed.getD e.on false | none=>true)
theorem Ak (h:td E f l):pU E f l:=by
 intro j o k d e g ops;unfold td at h;rw [List.all_eq_true] at h;have i:j<l.size:=by
  rcases Y4 j l.size with a|a;·exact a
  ·simp [Array.getD,Y9.2 a] at d
 have b:=h j (List.mem_range.2 i);rw [d,k] at b;simp only [Bool.not_true,Bool.false_or,Array.all_eq_true] at b;obtain ⟨x,listed,rfl⟩:=Array.getElem_of_mem g;have c:=b x listed;rw [ops] at c;simpa using c
def qO (md:T7) (ops:Array H1) (i:Nat):Nat->Nat->Bool
 | 0,_=>false
 | f+1,k=>lV md ops k i||(X7 ops.size).any λj=>lV md ops k j&&qO md ops i f j
theorem rQ {ops:Array H1} {md:T7} {i:Nat} {listed:Array Bool} (o:pU md ops listed):∀ f k,qO md ops i f k->(listed.getD k false\/k ∈ T4 md ops listed)->listed.getD i false
 | 0,_,h,_=>hh
 | f+1,k,h,g=>by
   have a:∀ j,lV md ops k j->listed.getD j false:=by
    intro j d
    obtain ⟨_,r,e,q,p,n,c⟩:=pe d
    rcases g with g|g
    ·have:=o k r q g e p n
     rw [c] at this;exact this
    ·obtain ⟨_,s,l,b⟩:=mem_ready.1 g
     rw [q] at l
     cases l
     have m:=b e p n
     rw [c] at m
     exact m
   unfold qO at h
   rw [U6] at h
   rcases h with h|h
   ·exact a i h
   ·rw [List.any_eq_true] at h
    obtain ⟨j,_,d⟩:=h
    rw [U5] at d
    exact rQ o f j d.2 (Or.inl (a j d.1))
theorem nD (h:l.getD w false):(l.setIfInBounds n true).getD w false:=by
 simp only [U8,V6] at h ⊢;split
 ·split;·rfl
  ·rename_i a b;subst a;simp [V4 (Y9.1 b)] at h
 ·exact h
theorem CM (i:pU E f l) {j:Nat} (k:j ∈ T4 E f l):pU E f (l.setIfInBounds j true):=by
 intro x o g c e ops d;by_cases h:x=j;·subst h;obtain ⟨_,listed,b,a⟩:=mem_ready.1 k;rw [g] at b;cases b;exact nD (a e ops d)
 ·refine nD (i x o g ?_ e ops d);simp only [U8,V6] at c ⊢;rw [JZ9 (Ne.symm h)] at c;exact c
theorem vQ {oi:H1} (L:f[n]?=some oi) (r:∀ (j:Nat) (o:H1) y ops,f[j]?=some o->o.op≠.select y ops) (T:∀ c a S,b (.panic c) (a.put oi.dst m) S->b (.panic c) a S) (D:n≠w) (P:Nat) (hk:qO E f n P w): ∀ (fuel:Nat) (listed:Array Bool) (a:Act) (S:A0),pU E f listed -> (∀ j u,f[j]?=some u->j≠n->listed.getD j true=false->(∀ e ∈ u.after,T5 E e->e.on≠n)->oi.apart f u) -> n ∈ T4 E f listed->I4 Q f k oi m a->k S -> eC Q E f b k w fuel (listed.setIfInBounds n true) (a.put oi.dst m) S->eC Q E f b k w (fuel+1) listed a S:=by
 intro fuel;induction fuel with
 | zero =>
   intro listed a S _ _ q J A H;refine ⟨λh=>(by rw [h] at q;cases q),λj x=>?_⟩;by_cases d:j=n;·subst d;exact J.wpOp L A ⟨λ_=>⟨A,H⟩,λe=>absurd e D⟩
   ·have:=H2 x d;rw [H.1] at this;cases this
 | succ fuel W =>
   intro listed a S C v q J A H;refine ⟨λh=>(by rw [h] at q;cases q),λj x=>?_⟩;by_cases d:j=n;·subst d;exact J.wpOp L A ⟨λ_=>⟨A,H⟩,λe=>absurd e D⟩
   ·have l:=H.2 j (H2 x d);obtain ⟨p,u,t,B⟩:=mem_ready.1 x;have md:∀ e ∈ u.after,T5 E e->e.on≠n:=λe V U K=>by
     have l:=B e V U;have z:=(mem_ready.1 q).1;rw [K] at l;rcases Y4 n listed.size with s|s;·simp [s] at z l;rw [z] at l;cases l
     ·simp [V4 s] at l
    have g:j≠w:=by
     rintro rfl;have l:=rQ C P j hk (Or.inr x);have z:=(mem_ready.1 q).1;rcases Y4 n listed.size with s|s;·simp [s] at z l;rw [z] at l;cases l
     ·simp [V4 s] at l
    have R:=M7 t (v j u t d p md) (λy ops=>r n oi y ops L) (λy ops=>r j u y ops t) T J l;have i:∀ w G,f[w]?=some G->w≠n->(listed.setIfInBounds j true).getD w true=false ->
     (∀ e ∈ G.after,T5 E e->e.on≠n)->oi.apart f G:=λw G hk M F N=>by
     refine v w G hk M ?_ N
     by_cases g:j=w
     ·subst g;exact p
     ·rw [L7 true g] at F;exact F
    refine K1 (λO X I=>⟨λ_=>⟨(I.2.1 g).1,W (listed.setIfInBounds j true) O X (CM C x) i (H2 q (Ne.symm d)) I.1 (I.2.1 g).1 ?_⟩,λe=>absurd e g⟩) R;rw [V5 _ _ d];exact (I.2.1 g).2
theorem ym {fuel:Nat} (e:f[n]?=some d) (v:T6 f) (g:U0 E f l n) (j:(T4 E f l).contains n) (i:n≠w) (hk:qO E f n 6 w) (ops:td E f l) (P:∀ c L a,b (.panic c) (L.put d.dst m) a->b (.panic c) L a) (oi:I4 Q f k d m L) (hS:k a) (h:eC Q E f b k w fuel (l.setIfInBounds n true) (L.put d.dst m) a):eC Q E f b k w (fuel+1) l L a :=
 vQ e (T9 v) P i 6 hk fuel l L a (Ak ops) (U1 e g) (by simpa using j) oi hS h
theorem nE {v:A5} (ops:f[i]?=some oi) (g:T6 f) (e:U0 E f l i) (P:(T4 E f l).contains i) (hk:lV E f w i) (d:∀ c L a,b (.panic c) (L.put oi.dst v) a->b (.panic c) L a) (j:I4 Q f k oi v L) (hS:k a) (h:eC Q E f b k w n (l.setIfInBounds i true) (L.put oi.dst v) a):eC Q E f b k w (n+1) l L a :=
 yk ops (T9 g) d (pe hk).1 (pe hk).2 n l L a (U1 ops e) (by simpa using P) j hS h
theorem nF (h:I4 Q f (λ_=>True) d m L):S1 Q f d m L :=
 h.imp (λ⟨c,b⟩=>⟨c,λw=>b w trivial⟩) id
theorem vS {ops:Array H1} {oi:H1} (C:ops[n]?=some oi) (v:∀ (j:Nat) (o:H1) u P,ops[j]?=some o->o.op≠.select u P) (R:∀ c a S,b (.panic c) (a.put oi.dst m) S->b (.panic c) a S) (y:n≠w): ∀ (fuel:Nat) (listed:Array Bool) (a:Act) (S:A0), (∀ j t,ops[j]?=some t->j≠n->listed.getD j true=false->(∀ e ∈ t.after,T5 E e->e.on≠n)->oi.apart ops t) -> n ∈ T4 E ops listed->S1 Q ops oi m a->k S -> eC Q E ops b k w fuel (listed.setIfInBounds n true) (a.put oi.dst m) S->eC Q E ops b k w (fuel+1) listed a S:=by
 intro fuel;induction fuel with
 | zero =>
   intro listed a S _ p md I H;refine ⟨λh=>(by rw [h] at p;cases p),λj D=>?_⟩;by_cases d:j=n;·subst d;exact (Z6 (S:=λ_=>True) md).wpOp C trivial ⟨λ_=>⟨I,H⟩,λe=>absurd e y⟩
   ·have:=H2 D d;rw [H.1] at this;cases this
 | succ fuel W =>
   intro listed a S l p md I H;refine ⟨λh=>(by rw [h] at p;cases p),λj D=>?_⟩;by_cases d:j=n;·subst d;exact (Z6 (S:=λ_=>True) md).wpOp C trivial ⟨λ_=>⟨I,H⟩,λe=>absurd e y⟩
   ·have q:=H.2 j (H2 D d);obtain ⟨i,t,s,x⟩:=mem_ready.1 D;have z:∀ e ∈ t.after,T5 E e->e.on≠n:=λe U T J=>by
     have q:=x e U T;have N:=(mem_ready.1 p).1;rw [J] at q;rcases Y4 n listed.size with G|G;·simp [G] at N q;rw [N] at q;cases q
     ·simp [V4 G] at q
    have O:=M7 (S:=λ_=>True) s (l j t s d i z) (λu P=>v n oi u P C) (λu P=>v j t u P s) R (Z6 md) q;have g:∀ w B,ops[w]?=some B->w≠n->(listed.setIfInBounds j true).getD w true=false ->
     (∀ e ∈ B.after,T5 E e->e.on≠n)->oi.apart ops B:=λw B V K A L=>by
     refine l w B V K ?_ L
     by_cases f:j=w
     ·subst f;exact i
     ·rw [L7 true f] at A;exact A
    by_cases f:j=w;·refine K1 (λF M r=>⟨λe=>absurd f e,λ_=>?_⟩) O;refine wpAny_first C v R fuel (listed.setIfInBounds j true) F M g (H2 p (Ne.symm d)) (nF r.1) ?_;rw [V5 _ _ d];exact r.2.2 f
    ·refine K1 (λF M r=>⟨λ_=>⟨(r.2.1 f).1,W (listed.setIfInBounds j true) F M g (H2 p (Ne.symm d)) (nF r.1) (r.2.1 f).1 ?_⟩,λe=>absurd e f⟩) O;rw [V5 _ _ d];exact (r.2.1 f).2
theorem ke {v:A5} (ops:f[i]?=some oi) (g:T6 f) (e:U0 E f l i) (P:(T4 E f l).contains i) (hk:i≠w) (d:∀ c L a,b (.panic c) (L.put oi.dst v) a->b (.panic c) L a) (j:S1 Q f oi v L) (hS:k a) (h:eC Q E f b k w n (l.setIfInBounds i true) (L.put oi.dst v) a):eC Q E f b k w (n+1) l L a :=
 vS ops (T9 g) d hk n l L a (U1 ops e) (by simpa using P) j hS h
theorem CN {fuel:Nat} (S:f[n]?=some d) (P:T4 E f l=[n]) (hk:n≠w) (h:∀ ops:Act->A0->Prop,Shut (∀ L a,k a->(k a->eC Q E f b k w fuel (l.setIfInBounds n true) L a)->ops L a)->if T8 d (yielded f L.tmps)=true then Oper.wp Q d L a ops b else ops (L.put d.dst undef) a): eC Q E f b k w (fuel+1) l L a:=by refine ⟨λg=>absurd (P.symm.trans g) (X3 _ _),λj i=>?_⟩;rw [P] at i;obtain rfl:=V8.1 i;exact K0 S (λops o=>h ops (λL a c m=>o L a ⟨λ_=>⟨c,m c⟩,λe=>absurd e hk⟩))
theorem uj (fuel:f[w]?=some o) (d:T4 E f l=[w]) (h:∀ ops:Act->A0->Prop,Shut (∀ L a,wpAny Q E f b n (l.setIfInBounds w true) L a->ops L a)->if T8 o (yielded f L.tmps)=true then Oper.wp Q o L a ops b else ops (L.put o.dst undef) a): eC Q E f b k w (n+1) l L a:=by refine ⟨λP=>absurd (d.symm.trans P) (X3 _ _),λj c=>?_⟩;rw [d] at c;obtain rfl:=V8.1 c;exact K0 fuel (λops g=>h ops (λL a i=>g L a ⟨λe=>absurd rfl e,λ_=>i⟩))
theorem wO (P:f[i]?=some o) (d:T4 E f l=[i]) (h:∀ ops:Act->A0->Prop,Shut (∀ L a,wpAny Q E f b w (l.setIfInBounds i true) L a->ops L a)->if T8 o (yielded f L.tmps)=true then Oper.wp Q o L a ops b else ops (L.put o.dst undef) a): wpAny Q E f b (w+1) l L a:=by refine ⟨λe=>absurd (d.symm.trans e) (X3 _ _),λj c=>?_⟩;rw [d] at c;obtain rfl:=V8.1 c;exact K0 P h
theorem Al {id:Nat} {a:Act} {w:A0} (hm:Q.follows .mixedOrders) (hS:A w.drew) (h:A w.drew->eC Q .any f b A z f.size (V7 f.size false) a w.drew):(Code.region id f true).wp Q b a w :=
 wp_region_any hm (pd _ _ _ _ (h hS))
theorem jw {p:Prop} (h:j=false) (hb:j):p:=by rw [h] at hb;cases hb
structure Rw where
 b:Nat
 cs:Array A5
 tg:List (Nat × Nat)
abbrev Fr:=List (Nat × A5 × Nat)
def lk {a:Type}:List (Nat × a)->Nat->Option a
 | [],_=>none
 | (t,x)::F,s=>match Y5 t s with
   | true=>some x
   | false=>lk F s
def ev (F:Fr):N1->A5
 | .tmp t=>match lk F t with
   | some x=>x.1
   | none=>undef
 | .const v=>v
 | .global g=>.p g 0
 | .func f=>.func (.func f) #[] #[]
def IJ (F:Fr):N1->Nat
 | .tmp t=>match lk F t with
   | some x=>x.2
   | none=>0
 | _=>0
def kn (F:Fr):N1->Bool
 | .tmp t=>(lk F t).isSome
 | _=>true
structure bn (F:Fr) (n:Nat) (a:Act):Prop where
 size:a.tmps.size=n
 nod:a.defers=[]
 at_:∀ t x,lk F t=some x->a.tmps[t]?=some x.1
theorem bn.eval {F:Fr} {n:Nat} {a:Act} (h:bn F n a) {x:N1} (hx:kn F x):a.eval x=ev F x:=by
 cases x with
 | tmp t =>simp only [kn,Option.isSome_iff_exists] at hx;obtain ⟨y,b⟩:=hx;have:=h.at_ t y b;simp [Act.eval,ev,b,U8,this]
 | const v=>rfl
 | global g=>rfl
 | func f=>rfl
theorem bn.put {F:Fr} {n:Nat} {a:Act} (h:bn F n a) {d:Nat} (hd:Y6 d n) (v:A5) (g:Nat):bn ((d,v,g)::F) n (a.put (some d) v):=by
 have bZ:d<n:=Nat.lt_of_succ_le (by simpa [Y6] using hd);refine ⟨by simp [Act.put,h.size],h.nod,λt x f=>?_⟩;unfold lk at f;have i:=h.size;cases c:Y5 d t with
 | true =>rw [c] at f;have b:d=t:=Y3 c;subst b;cases f;simp [Act.put,i,bZ]
 | false =>
   rw [c] at f;have b:d≠t:=λe=>by rw [e,Y7] at c;cases c
   have:=h.at_ t x f;simp only [Act.put];rw [Array.getElem?_setIfInBounds_ne b];exact this
def vT {b:Type} (P:F0) (r:Option Rw):Sem b->Option (b × List (S2 × S2))
 | .pure a=>some (a,[])
 | .load _ a k=>match r with
   | none=>none
   | some r=>match r.cs[a.off]? with
     | none=>none
     | some v=>match vT P (some r) (k v) with
       | none=>none
       | some x=>some (x.1,(a,⟨r.b,a.off,none⟩)::x.2)
 | .program k=>vT P r (k P)
 | .mark _ k=>vT P r k
 | _=>none
def oP (r:Rw) (w:A0):Prop:=∃ t a,w.heap[r.b]?=some (.cells r.cs t a)
theorem Ef {l:Type} {r:Option Rw} (u:∀ j,r=some j->oP j a):∀ (s:Sem l) (x:l) (b:List (S2 × S2)),vT Q r s=some (x,b)->(∀ e ∈ b,e.1=e.2)->s.run Q a=.ok x a:=by
 intro s;induction s with
 | pure w=>intro x b h _;simp only [vT,Option.some.injEq,Prod.mk.injEq] at h;rw [h.1];rfl
 | load m w k f =>
   intro x b h c;unfold vT at h;cases r with
   | none=>cases h
   | some r =>
     dsimp only at h;cases i:r.cs[w.off]? with
     | none=>rw [i] at h;cases h
     | some v =>
       rw [i] at h;dsimp only at h;cases g:vT Q (some r) (k v) with
       | none=>rw [g] at h;cases h
       | some y =>rw [g] at h;simp only [Option.some.injEq,Prod.mk.injEq] at h;obtain ⟨n,o⟩:=h;subst o;have p:w=⟨r.b,w.off,none⟩:=c (w,⟨r.b,w.off,none⟩) bh;obtain ⟨t,z,d⟩:=u r rfl;have q:a.cell? w=some v:=(by rw [p];simp only [World.cell?,d];simpa using i);have:=f v x y.2 (by rw [g,<- n]) (λe h=>c e (by simp [h]));simp only [Sem.run,q];exact this
 | program k f=>intro x b h c;exact f Q x b h c
 | mark m k f=>intro x b h c;exact f x b h c
 | store=>intro x b h;cases h
 | new=>intro x b h;cases h
 | shape=>intro x b h;cases h
 | freeze=>intro x b h;cases h
 | frozen=>intro x b h;cases h
 | getObj=>intro x b h;cases h
 | setObj=>intro x b h;cases h
 | choose=>intro x b h;cases h
 | sys=>intro x b h;cases h
 | halt=>intro x b h;cases h
structure Ov (P:F0) (S:A0->Prop) where
 s:Sem K4
 v:A5
 t:Nat
 h:∀ w,S w->s.run P w=.ok (.value v) w
structure Cv (P:F0) (S:A0->Prop) where
 f:Nat
 args:Array A5
 v:A5
 t:Nat
 h:∀ w,S w->I5 P f args w λe w'=>e=.returned v/\S w'
structure Vq where
 u:A5
 v:A5
 t:Nat
 h:u=v
inductive Oe where
 | a (x:S2)
 | v (x:A5)
 | s (x:Sem K4)
 | c (f:Nat) (args:Array A5)
def wn (ops:Array H1) (F:Fr) (o:H1):Option Bool :=
 match o.guard with
 | none=>some true
 | some (j,want)=>match ops[j]? with
   | none=>none
   | some a=>match a.dst with
     | none=>none
     | some d=>match lk F d with
       | none=>none
       | some x=>match x.1 with
         | .bool b=>some (b==want)
         | _=>some false
theorem jZ {ops:Array H1} {F:Fr} (h:bn F w L) (c:wn ops F d=some j):T8 d (yielded ops L.tmps)=j:=by
 unfold wn at c;unfold T8;cases i:d.guard with
 | none=>rw [i] at c;simpa using c
 | some g =>
   obtain ⟨b,l⟩:=g;rw [i] at c;dsimp only at c ⊢;unfold yielded;cases k:ops[b]? with
   | none=>rw [k] at c;cases c
   | some m =>
     rw [k] at c;dsimp only at c;cases e:m.dst with
     | none=>rw [e] at c;cases c
     | some o =>
       rw [e] at c;dsimp only at c;cases f:lk F o with
       | none=>rw [f] at c;cases c
       | some x =>rw [f] at c;dsimp only at c;have:=h.at_ o x f;simp only [Option.bind_some,e,this];obtain ⟨v,g⟩:=x;dsimp only at c ⊢;cases v<;>simp_all
def uk (R:List Rw) (F:Fr):Op->Option Rw
 | .load _ x=>match IJ F x with
   | 0=>none
   | k+1=>R[k]?
 | _=>none
def Q8 (R:List Rw) (F:Fr):Op->Nat
 | .move x=>IJ F x
 | .assign x=>IJ F x
 | .nilCheck x=>IJ F x
 | .fieldAddr _ x _=>IJ F x
 | .pick c x y=>match ev F c with
   | .bool true=>IJ F x
   | _=>IJ F y
 | .load _ x=>match IJ F x with
   | 0=>0
   | k+1=>match R[k]?,ev F x with
     | some r,.pointer (some p)=>(lk r.tg p.off).getD 0
     | _,_=>0
 | _=>0
def Sy:Op->Bool
 | .alloc _ | .box _ _ | .build _ _ | .buildSlice _ _ _ | .insert _ _ _ _ | .store _ _ _ | .ready _ | .waits _ | .makeFunc _ _ _ | .makeMap _ _ | .makeChan _ _ | .makeSlice _ _ _
 | .mapUpdate _ _ _ _ | .mapEntry _ _ _ | .entryStore _ _ _ _ | .range _ _ | .next _ _ | .entry _ | .go _ | .defer _ | .panic _ | .send _ _ | .recv _ _ _ | .select _ _=>true
 | .call c=>match c.callee with
   | .builtin .len=>false
   | _=>true
 | _=>false
def Am:Op->Bool
 | .select _ _=>false
 | _=>true
def pl (P:F0) (f:Nat):Bool:=match P.funcs[f]? with
 | some fn=>match fn.body with
   | some _=>!(fn.name == "runtime.NumGoroutine")
   | none=>false
 | none=>false
theorem Q9 (h:pl Q w) (args:Array A5) (f:A0):(callFunc w args).run Q f=.ok (.enter w args) f:=by
 unfold pl at h;cases b:Q.funcs[w]? with
 | none=>rw [b] at h;cases h
 | some fn =>
   rw [b] at h;dsimp only at h;cases a:fn.body with
   | none=>rw [a] at h;cases h
   | some c =>rw [a] at h;have d:fn.name≠ "runtime.NumGoroutine":=dd;simp [callFunc,b,d,a,mark]
def IK (P:F0) {S:A0->Prop} (R:List Rw) (ov:List (Nat × Ov P S)) (eq:List (Nat × Vq)) (F:Fr) (o:H1):Option (A5 × Nat × List (Oe × Oe)):=
 match o.op.operands.all (kn F)&&Am o.op with
 | false=>none
 | true=>match o.dst.bind (lk ov) with
   | some e=>some (e.v,e.t,[(.s (F3 (ev F) o),.s e.s)])
   | none=>match vT P (uk R F o.op) (F3 (ev F) o) with
     | some (.value v,es)=>match o.dst.bind (lk eq) with
       | some e=>some (e.v,e.t,(.v v,.v e.u)::es.map λe=>(.a e.1,.a e.2))
       | none=>some (v,Q8 R F o.op,es.map λe=>(.a e.1,.a e.2))
     | _=>none
theorem CO {R:List Rw} {ov:List (Nat × Ov Q S)} {eq:List (Nat × Vq)} {F:Fr} {t:Nat} {es:List (Oe × Oe)} (hk:bn F w L) (h:IK Q R ov eq F d=some (m,t,es)) (he:∀ e ∈ es,e.1=e.2) (E:∀ n,S n->∀ r ∈ R,oP r n): (∀ n,S n->(F3 L.eval d).run Q n=.ok (.value m) n)/\∀ v b,d.op≠.select v b:=by
 unfold IK at h;cases j:d.op.operands.all (kn F)&&Am d.op with
 | false=>rw [j] at h;cases h
 | true =>
   rw [j] at h;dsimp only at h;rw [U5] at j;have C:∀ v b,d.op≠.select v b:=λv b e=>by have:=j.2;rw [e] at this;cases this
   have p:F3 L.eval d=F3 (ev F) d:=H8 d C λx G=>hk.eval (V0.1 j.1 x G);refine ⟨λn B=>?_,C⟩;rw [p];cases l:d.dst.bind (lk ov) with
   | some e =>rw [l] at h;simp only [Option.some.injEq,Prod.mk.injEq] at h;obtain ⟨g,A,i⟩:=h;subst i;have:=he (.s (F3 (ev F) d),.s e.s) bh;simp only [Oe.s.injEq] at this;rw [this,<- g];exact e.h n B
   | none =>
     rw [l] at h;dsimp only at h;cases z:vT Q (uk R F d.op) (F3 (ev F) d) with
     | none=>rw [z] at h;cases h
     | some y =>
       obtain ⟨H,f⟩:=y;rw [z] at h;cases H with
       | value u =>
         dsimp only at h;have key:(∀ e ∈ f,e.1=e.2)->Sem.run Q (F3 (ev F) d) n=.ok (.value u) n:=λq=>by
          refine Ef (λI o=>?_) _ _ f z q;refine E n B I ?_;unfold uk at o;split at o
          ·split at o;·cases o
           ·exact List.mem_of_getElem? o
          ·cases o
         cases k:d.dst.bind (lk eq) with
         | some e =>rw [k] at h;simp only [Option.some.injEq,Prod.mk.injEq] at h;obtain ⟨g,A,i⟩:=h;subst i;have D:=he (.v u,.v e.u) bh;simp only [Oe.v.injEq] at D;rw [key λc s=>by have:=he (.a c.1,.a c.2) (by simp only [X0,X6];exact .inr ⟨c,s,rfl⟩);simpa using this,<- g,<- e.h,D]
         | none =>rw [k] at h;simp only [Option.some.injEq,Prod.mk.injEq] at h;obtain ⟨g,A,i⟩:=h;subst i;rw [key λc s=>by have:=he (.a c.1,.a c.2) (X6.2 ⟨c,s,rfl⟩);simpa using this,<- g]
       | _=>cases h
def qP (P:F0) (F:Fr) (o:H1):Option (Nat × Array A5):=
 match o.op.operands.all (kn F) with
 | false=>none
 | true=>match o.op with
   | .call c=>match c.callee with
     | .value x=>match ev F x with
       | .func (.func f) first cap=>match pl P f with
         | true=>some (f,first++c.args.map (ev F)++cap)
         | false=>none
       | _=>none
     | _=>none
   | _=>none
theorem oo {F:Fr} {o:H1} (hk:bn F n L) (h:qP Q F o=some (w,p)) (f:A0):(F3 L.eval o).run Q f=.ok (.enter w p) f:=by
 unfold qP at h;cases k:o.op.operands.all (kn F) with
 | false=>rw [k] at h;cases h
 | true =>
   rw [k] at h;dsimp only at h;cases d:o.op with
   | call c =>
     have r:∀ args b,o.op≠.select args b:=λargs b e=>by rw [d] at e;cases e
     have l:F3 L.eval o=F3 (ev F) o:=H8 o r λx j=>hk.eval (V0.1 k x j);rw [l];rw [d] at h;dsimp only at h;cases i:c.callee with
     | value x =>
       rw [i] at h;dsimp only at h;cases j:ev F x with
       | func fn g cap =>
         rw [j] at h;cases fn with
         | func q =>
           dsimp only at h;cases m:pl Q q with
           | false=>rw [m] at h;cases h
           | true =>
             rw [m] at h;simp only [Option.some.injEq,Prod.mk.injEq] at h;obtain ⟨rfl,rfl⟩:=h;have:F3 (ev F) o=callFunc q (g++c.args.map (ev F)++cap):=by unfold F3;rw [d];simp only [resolve,i,j,Deferred.ofValue];rfl
             rw [this];exact Q9 m _ _
         | _=>cases h
       | _=>rw [j] at h;cases h
     | _=>rw [i] at h;cases h
   | _=>rw [d] at h;cases h
inductive KI where
 | code (c:H5)
 | blk (id:Nat)
 | ops (all:Array H1) (rest:List H1)
 | sq (all:Array H1) (fuel:Nat) (listed:Array Bool)
 | fin (R:Act->A0->Prop)
 | sk (all:Array H1) (kk:Nat) (fuel:Nat) (listed:Array Bool)
 | sw (all:Array H1) (fuel:Nat) (listed:Array Bool)
def gK (P:F0) (S:A0->Prop) (Q:L4->Act->A0->Prop):List KI->L4->Act->A0->Prop
 | []=>Q
 | .code c::k=>Exit.then (λa w=>c.wp P (gK P S Q k) a w) (gK P S Q k)
 | .ops all rest::k=>Exit.then (wpList P all (gK P S Q k) rest) (gK P S Q k)
 | .blk id::k=>Exit.inBlock id (gK P S Q k)
 | .sq all fuel listed::k=>Exit.then (wpAnyH P .any all (gK P S Q k) S fuel listed) (gK P S Q k)
 | .fin R::k=>Exit.then R (gK P S Q k)
 | .sk all kk fuel listed::k=>Exit.then (eC P .any all (gK P S Q k) S kk fuel listed) (gK P S Q k)
 | .sw all fuel listed::k=>Exit.then (wpAny P .any all (gK P S Q k) fuel listed) (gK P S Q k)
theorem kq {P:F0} {S:A0->Prop} {Q:L4->Act->A0->Prop} {c:List PanicEntry} {a:Act} {w:A0}:∀ k:List KI,gK P S Q k (.panic c) a w=Q (.panic c) a w
 | []=>rfl
 | .code _::k | .ops _ _::k | .blk _::k | .sq _ _ _::k | .fin _::k | .sk _ _ _ _::k | .sw _ _ _::k=>kq k
theorem yo {P:F0} {S:A0->Prop} {Q:L4->Act->A0->Prop} {a:Act} {w:A0}:∀ k:List KI,gK P S Q k .ret a w=Q .ret a w
 | []=>rfl
 | .code _::k | .ops _ _::k | .blk _::k | .sq _ _ _::k | .fin _::k | .sk _ _ _ _::k | .sw _ _ _::k=>yo k
def oQ (id:Nat):List KI->Option (List KI)
 | []=>none
 | .blk i::k=>match Y5 id i with
   | true=>some k
   | false=>oQ id k
 | .code _::k=>oQ id k
 | .ops _ _::k=>oQ id k
 | .sq _ _ _::k=>oQ id k
 | .fin _::k=>oQ id k
 | .sk _ _ _ _::k=>oQ id k
 | .sw _ _ _::k=>oQ id k
theorem jx {P:F0} {S:A0->Prop} {Q:L4->Act->A0->Prop} {id:Nat} {a:Act} {w:A0}:∀ {k b:List KI},oQ id k=some b->gK P S Q b .normal a w->gK P S Q k (.exit id) a w
 | [],_,h,_=>hh
 | .blk i::k,b,h,hd=>by
   unfold oQ at h
   show Exit.inBlock i (gK P S Q k) (.exit id) a w
   unfold Exit.inBlock
   cases c:Y5 id i with
   | true =>
     rw [c] at h
     cases h
     have:id=i:=Y3 c
     simp only [this,if_true]
     exact hd
   | false =>
     rw [c] at h
     have:id≠i:=λe=>by rw [e,Y7] at c;cases c
     simp only [this,if_false]
     exact jx (k:=k) h hd
 | .code _::k,b,h,hd=>jx (k:=k) h hd
 | .ops _ _::k,b,h,hd=>jx (k:=k) h hd
 | .sq _ _ _::k,b,h,hd=>jx (k:=k) h hd
 | .fin _::k,b,h,hd=>jx (k:=k) h hd
 | .sk _ _ _ _::k,b,h,hd=>jx (k:=k) h hd
 | .sw _ _ _::k,b,h,hd=>jx (k:=k) h hd
structure Hn (P:F0) (S J:A0->Prop) where
 eq:List (Nat × Vq):=[]
 ov:List (Nat × Ov P S):=[]
 cv:List (Nat × Cv P J):=[]
def qQ (n:Nat) (F:Fr) (v:A5) (t:Nat):Option Nat->Option Fr
 | none=>some F
 | some d=>match Y6 d n with
   | true=>some ((d,v,t)::F)
   | false=>none
theorem jj {F c:Fr} {t:Nat} {d:Option Nat} (h:qQ w F m t d=some c) (hk:bn F w L):bn c w (L.put d m):=by
 cases d with
 | none=>cases h;exact hk
 | some d =>
   dsimp only [qQ] at h;cases b:Y6 d w with
   | false=>rw [b] at h;cases h
   | true=>rw [b] at h;cases h;exact hk.put b m t
def qv (P:F0) {S J:A0->Prop} (R:List Rw) (H:Hn P S J) (all:Array H1) (F:Fr) (o:H1):Option (A5 × Nat × List (Oe × Oe)):=
 match wn all F o with
 | none=>none
 | some false=>some (undef,0,[])
 | some true=>IK P R H.ov H.eq F o
theorem IL {R:List Rw} {H:Hn Q k W} {all:Array H1} {F:Fr} {t:Nat} {es:List (Oe × Oe)} (hk:bn F w L) (h:qv Q R H all F d=some (m,t,es)) (he:∀ e ∈ es,e.1=e.2) (o:∀ n,k n->∀ r ∈ R,oP r n):I4 Q all k d m L:=by
 unfold qv at h;cases c:wn all F d with
 | none=>rw [c] at h;cases h
 | some b =>
   rw [c] at h;cases b with
   | false=>simp only [Option.some.injEq,Prod.mk.injEq] at h;exact .inr ⟨jZ hk c,h.1.symm⟩
   | true=>exact .inl ⟨jZ hk c,(CO hk h he o).1⟩
def IN (P:F0) {S J:A0->Prop} (R:List Rw) (H:Hn P S J) (n:Nat) (all:Array H1) (F:Fr) (o:H1):Option (Fr × List (Oe × Oe)):=
 match qv P R H all F o with
 | some (v,t,es)=>match qQ n F v t o.dst with
   | some a=>some (a,es)
   | none=>none
 | none=>match wn all F o,qP P F o,o.dst.bind (lk H.cv) with
   | some true,some (f,args),some e=>match qQ n F e.v e.t o.dst with
     | some a=>some (a,[(.c f args,.c e.f e.args)])
     | none=>none
   | _,_,_=>none
theorem Eg {R:List Rw} {H:Hn Q k W} {all:Array H1} {F q:Fr} {es:List (Oe × Oe)} {K:Act->A0->Prop} (hk:bn F w L) (hS:W a) (B:∀ a,W a->k a) (h:IN Q R H w all F d=some (q,es)) (he:∀ e ∈ es,e.1=e.2) (C:∀ a,k a->∀ r ∈ R,oP r a) (j:∀ L a,bn q w L->W a->K L a): if T8 d (yielded all L.tmps)=true then d.wp Q L a K b else K (L.put d.dst undef) a:=by
 unfold IN at h;cases m:qv Q R H all F d with
 | some y =>
   obtain ⟨v,t,z⟩:=y;rw [m] at h;dsimp only at h;cases c:qQ w F v t d.dst with
   | none=>rw [c] at h;cases h
   | some u =>
     rw [c] at h;simp only [Option.some.injEq,Prod.mk.injEq] at h;obtain ⟨rfl,rfl⟩:=h;rcases IL hk m he C with ⟨g,i⟩|⟨g,i⟩;·rw [JZ8 g];show d.upon Q L K b _;rw [i a (B a hS)];exact j _ _ (jj c hk) hS
     ·subst i;rw [g,JZ9 ba];exact j _ _ (jj c hk) hS
 | none =>
   rw [m] at h;dsimp only at h;cases p:wn all F d with
   | none=>rw [p] at h;cases h
   | some o =>
     rw [p] at h;cases o with
     | false=>cases h
     | true =>
       cases l:qP Q F d with
       | none=>rw [l] at h;cases h
       | some A =>
         obtain ⟨f,args⟩:=A;rw [l] at h;cases s:d.dst.bind (lk H.cv) with
         | none=>rw [s] at h;cases h
         | some e =>
           rw [s] at h;dsimp only at h;cases c:qQ w F e.v e.t d.dst with
           | none=>rw [c] at h;cases h
           | some u =>rw [c] at h;simp only [Option.some.injEq,Prod.mk.injEq] at h;obtain ⟨rfl,rfl⟩:=h;have n:=he (.c f args,.c e.f e.args) bh;simp only [Oe.c.injEq] at n;rw [JZ8 (jZ hk p)];show d.upon Q L K b _;rw [oo hk l a,n.1,n.2];refine (e.h a hS).mono λx E D=>?_;obtain ⟨rfl,P⟩:=D;exact j _ _ (jj c hk) P
inductive Sr where
 | go (k:List KI) (F:Fr) (es:List (Oe × Oe))
 | ret
 | stop
def pV (all:Array H1) (listed:Array Bool):List Nat->Option Nat
 | []=>none
 | i::is=>match (match all[i]? with | some o=>!Sy o.op | none=>false)&&U0 .any all listed i with
   | true=>some i
   | false=>pV all listed is
theorem nG {all:Array H1} {listed:Array Bool} {i:Nat}:∀ {l:List Nat},pV all listed l=some i->i ∈ l/\U0 .any all listed i
 | [],h=>hh
 | j::is,h=>by
   unfold pV at h
   split at h
   ·rename_i a
    rw [U5] at a
    cases h
    exact ⟨bh,a.2⟩
   ·have:=nG (l:=is) h
    exact ⟨by simp [this.1],this.2⟩
def yp (P:F0) {S J:A0->Prop} (R:List Rw) (H:Hn P S J) (n:Nat) (all:Array H1) (fuel:Nat) (listed:Array Bool) (k:List KI) (F:Fr):Sr :=
 match T6 all with
 | false=>.stop
 | true=>match T4 .any all listed with
   | []=>.go k F []
   | i::is=>match fuel with
     | 0=>.stop
     | fuel+1=>match pV all listed (i::is) with
       | some j=>match all[j]? with
         | none=>.stop
         | some o=>match qv P R H all F o with
           | none=>.stop
           | some (v,t,es)=>match qQ n F v t o.dst with
             | none=>.stop
             | some a=>.go (.sq all fuel (listed.setIfInBounds j true)::k) a es
       | none=>match is with
         | []=>match all[i]? with
           | none=>.stop
           | some o=>match IN P R H n all F o with
             | none=>.stop
             | some (a,es)=>.go (.sq all fuel (listed.setIfInBounds i true)::k) a es
         | _::_=>.stop
def Eh {P:F0} {S J:A0->Prop} (H:Hn P S J) (all:Array H1) (F:Fr) (o:H1):Bool:=match wn all F o with
 | some false=>true
 | _=>(match o.dst.bind (lk H.ov) with | some _=>false | none=>true)&&(match o.op with | .load _ _=>false | _=>true)
theorem Ei {R:List Rw} {H:Hn Q k W} {all:Array H1} {F:Fr} {o:H1} {t:Nat} {es:List (Oe × Oe)} (hk:bn F w L) (h:qv Q R H all F o=some (m,t,es)) (he:∀ e ∈ es,e.1=e.2) (c:Eh H all F o):S1 Q all o m L:=by
 unfold qv at h;unfold Eh at c;cases d:wn all F o with
 | none=>rw [d] at h;cases h
 | some b =>
   rw [d] at h c;cases b with
   | false=>simp only [Option.some.injEq,Prod.mk.injEq] at h;exact .inr ⟨jZ hk d,h.1.symm⟩
   | true =>
     dsimp only at h c;rw [U5] at c;have l:o.dst.bind (lk H.ov)=none:=by
      cases s:o.dst.bind (lk H.ov) with
      | none=>rfl
      | some x=>rw [s] at c;cases c.1
     have v:uk R F o.op=none:=by have g:=c.2;unfold uk;cases f:o.op<;>first | rfl | (rw [f] at g;cases g)
     have key:IK Q [] ([]:List (Nat × Ov Q (λ_=>True))) H.eq F o=some (m,(IK Q [] ([]:List (Nat × Ov Q (λ_=>True))) H.eq F o).elim t (·.2.1),es):=by
      unfold IK at h ⊢;rw [l,v] at h;have p:uk [] F o.op=none:=by unfold uk;split<;>first | rfl | (split<;>rfl)
      have q:o.dst.bind (lk ([]:List (Nat × Ov Q (λ_=>True))))=none:=(by cases o.dst<;>rfl);rw [p,q];cases i:o.op.operands.all (kn F)&&Am o.op with
      | false=>rw [i] at h;cases h
      | true =>
        rw [i] at h;dsimp only at h ⊢;cases j:vT Q none (F3 (ev F) o) with
        | none=>rw [j] at h;cases h
        | some y =>
          rw [j] at h;obtain ⟨A,S⟩:=y;cases A with
          | value u =>
            dsimp only at h ⊢;cases he:o.dst.bind (lk H.eq) with
            | none=>rw [he] at h;simp only [Option.some.injEq,Prod.mk.injEq] at h;rw [h.1,h.2.2];rfl
            | some e=>rw [he] at h;simp only [Option.some.injEq,Prod.mk.injEq] at h;rw [<- h.1,<- h.2.2];rfl
          | _=>cases h
     exact .inl ⟨jZ hk d,λn=>(CO (S:=λ_=>True) hk key he (λ_ _ r z=>by cases z)).1 n trivial⟩
def yq (P:F0) {S J:A0->Prop} (R:List Rw) (H:Hn P S J) (n:Nat) (all:Array H1) (kk fuel:Nat) (listed:Array Bool) (k:List KI) (F:Fr):Sr :=
 match T6 all with
 | false=>.stop
 | true=>match fuel with
   | 0=>.stop
   | fuel+1=>match pV all listed (T4 .any all listed) with
     | none=>.stop
     | some j=>match Y5 j kk,all[j]? with
       | false,some o=>match qv P R H all F o with
         | none=>.stop
         | some (v,t,es)=>match Eh H all F o||(qO .any all j 6 kk&&td .any all listed),qQ n F v t o.dst with
           | true,some F'=>.go (.sk all kk fuel (listed.setIfInBounds j true)::k) F' es
           | _,_=>.stop
       | _,_=>.stop
def yr (P:F0) {S J:A0->Prop} (R:List Rw) (H:Hn P S J) (n:Nat) (all:Array H1) (fuel:Nat) (listed:Array Bool) (k:List KI) (F:Fr):Sr :=
 match T6 all with
 | false=>.stop
 | true=>match T4 .any all listed with
   | []=>.go k F []
   | i::is=>match fuel with
     | 0=>.stop
     | fuel+1=>match pV all listed (i::is) with
       | none=>.stop
       | some j=>match all[j]? with
         | none=>.stop
         | some o=>match qv P R H all F o with
           | none=>.stop
           | some (v,t,es)=>match Eh H all F o,qQ n F v t o.dst with
             | true,some F'=>.go (.sw all fuel (listed.setIfInBounds j true)::k) F' es
             | _,_=>.stop
def gL (P:F0) (dr:Bool) (k:List KI) (F:Fr):H5->Sr
 | .skip=>.go k F []
 | .seq x y=>.go (.code x::.code y::k) F []
 | .cond c x y=>match kn F c with
   | false=>.stop
   | true=>match ev F c with
     | .bool true=>.go (.code x::k) F []
     | .bool false=>.go (.code y::k) F []
     | _=>.stop
 | .block id c=>.go (.code c::.blk id::k) F []
 | .exit id=>match oQ id k with
   | some a=>.go a F []
   | none=>.stop
 | .ret=>.ret
 | .region _ ops false=>.go (.ops ops ops.toList::k) F []
 | .region _ ops true=>match dr&&P.follows .mixedOrders with
   | true=>.go (.sq ops ops.size (V7 ops.size false)::k) F []
   | false=>.stop
 | _=>.stop
def Ra (P:F0) {S J:A0->Prop} (R:List Rw) (H:Hn P S J) (n:Nat) (dr:Bool) (k:List KI) (F:Fr):Sr :=
 match k with
 | []=>.stop
 | .blk _::k=>.go k F []
 | .fin _::_=>.stop
 | .ops _ []::k=>.go k F []
 | .ops all (o::rest)::k=>match IN P R H n all F o with
   | some (F',es)=>.go (.ops all rest::k) F' es
   | none=>.stop
 | .sq all fuel listed::k=>yp P R H n all fuel listed k F
 | .sk all kk fuel listed::k=>yq P R H n all kk fuel listed k F
 | .sw all fuel listed::k=>yr P R H n all fuel listed k F
 | .code c::k=>gL P dr k F c
structure oR (P:F0) (S J:A0->Prop) (R:List Rw) (dr:Bool) (Q:L4->Act->A0->Prop):Prop where
 sub:∀ w,J w->S w
 rows:∀ w,S w->∀ r ∈ R,oP r w
 drew:dr->∀ w,J w->J w.drew
 pan:∀ c a d v w,Q (.panic c) (Act.put a d v) w->Q (.panic c) a w
theorem Gc {R:List Rw} {H:Hn Q k W} (E:oR Q k W R j b) {all:Array H1} {fuel:Nat} {listed:Array Bool} {P C:List KI} {F x:Fr} {es:List (Oe × Oe)} (h:yp Q R H w all fuel listed P F=.go C x es) (he:∀ e ∈ es,e.1=e.2) (dr:∀ a J,bn x w a->W J->gK Q k b C .normal a J) (a:Act) (J:A0) (hk:bn F w a) (hS:W J):wpAnyH Q .any all (gK Q k b P) k fuel listed a J:=by
 unfold yp at h;cases d:T6 all with
 | false=>rw [d] at h;cases h
 | true =>
   rw [d] at h;dsimp only at h;cases l:T4 .any all listed with
   | nil =>rw [l] at h;cases h;exact wpAnyH_done l (dr a J hk hS) fuel
   | cons i is =>
     rw [l] at h;dsimp only at h;cases fuel with
     | zero=>cases h
     | succ fuel =>
       dsimp only at h;cases s:pV all listed (i::is) with
       | some n =>
         rw [s] at h;dsimp only at h;cases f:all[n]? with
         | none=>rw [f] at h;cases h
         | some o =>
           rw [f] at h;dsimp only at h;cases u:qv Q R H all F o with
           | none=>rw [u] at h;cases h
           | some y =>
             obtain ⟨v,t,m⟩:=y;rw [u] at h;dsimp only at h;cases q:qQ w F v t o.dst with
             | none=>rw [q] at h;cases h
             | some G =>rw [q] at h;simp only [Sr.go.injEq] at h;obtain ⟨rfl,rfl,rfl⟩:=h;have g:=nG s;refine wpAnyH_take f d g.2 (by rw [l];simpa using g.1) (λc a J B=>?_) (IL hk u he E.rows) (E.sub _ hS) (dr _ _ (jj q hk) hS);rw [kq] at B ⊢;exact E.pan c a _ _ J B
       | none =>
         rw [s] at h;cases is with
         | cons _ _=>cases h
         | nil =>
           dsimp only at h;cases r:all[i]? with
           | none=>rw [r] at h;cases h
           | some o =>
             rw [r] at h;dsimp only at h;cases p:IN Q R H w all F o with
             | none=>rw [p] at h;cases h
             | some y =>obtain ⟨G,m⟩:=y;rw [p] at h;simp only [Sr.go.injEq] at h;obtain ⟨rfl,rfl,rfl⟩:=h;refine wpAnyH_all l bh λn f=>?_;rw [V8] at f;subst f;refine K0 r λL K=>?_;exact Eg hk hS E.sub p he E.rows λz D I A=>K z D ⟨E.sub _ A,dr z D I A⟩
theorem Ge {R:List Rw} {H:Hn Q k W} (E:oR Q k W R j b) {all:Array H1} {kk fuel:Nat} {listed:Array Bool} {P z:List KI} {F m:Fr} {es:List (Oe × Oe)} (h:yq Q R H n all kk fuel listed P F=.go z m es) (he:∀ e ∈ es,e.1=e.2) (dr:∀ a w,bn m n a->W w->gK Q k b z .normal a w) (a:Act) (w:A0) (hk:bn F n a) (hS:W w):eC Q .any all (gK Q k b P) k kk fuel listed a w:=by
 unfold yq at h;split at h;·cases h
 ·rename_i i;split at h;·cases h
  ·rename_i fuel;split at h;·cases h
   ·rename_i J B;split at h
    ·rename_i o q u;split at h;·cases h
     ·rename_i v t A x;split at h
      ·rename_i C d r;simp only [Sr.go.injEq] at h;obtain ⟨rfl,rfl,rfl⟩:=h;have f:=nG B;have g:J≠kk:=λe=>by rw [e,Y7] at q;cases q
       have p:∀ c a w,gK Q k b P (.panic c) (a.put o.dst v) w->gK Q k b P (.panic c) a w:=λc a w s=>by rw [kq] at s ⊢;exact E.pan c a _ _ w s
       have y:(T4 .any all listed).contains J:=(by simpa using f.1);rcases U6 _ _ ▸ d with l|l;·exact ke u i f.2 y g p (Ei hk x he l) (E.sub _ hS) (dr _ _ (jj r hk) hS)
       ·rw [U5] at l;exact ym u i f.2 y g l.1 l.2 p (IL hk x he E.rows) (E.sub _ hS) (dr _ _ (jj r hk) hS)
      ·cases h
    ·cases h
theorem Gf {R:List Rw} {H:Hn Q k W} (E:oR Q k W R j b) {all:Array H1} {fuel:Nat} {listed:Array Bool} {P p:List KI} {F l:Fr} {es:List (Oe × Oe)} (h:yr Q R H n all fuel listed P F=.go p l es) (he:∀ e ∈ es,e.1=e.2) (dr:∀ a w,bn l n a->W w->gK Q k b p .normal a w) (a:Act) (w:A0) (hk:bn F n a) (hS:W w):wpAny Q .any all (gK Q k b P) fuel listed a w:=by
 unfold yr at h;split at h;·cases h
 ·rename_i f;split at h;·rename_i g;cases h;exact wpAny_done g (dr a w hk hS) fuel
  ·rename_i i is g;split at h;·cases h
   ·rename_i fuel;split at h;·cases h
    ·rename_i J u;split at h;·cases h
     ·rename_i o s;split at h;·cases h
      ·rename_i v t q x;split at h;·rename_i z y r;simp only [Sr.go.injEq] at h;obtain ⟨rfl,rfl,rfl⟩:=h;have d:=nG u;refine wpAny_take s f d.2 (by rw [g];simpa using d.1) (λc a w m=>?_) (Ei hk x he y) (dr _ _ (jj r hk) hS);rw [kq] at m ⊢;exact E.pan c a _ _ w m
       ·cases h
theorem rR {J:A0->Prop} {R:List Rw} (E:oR Q k J R j b) {c:H5} {P i:List KI} {F g:Fr} {es:List (Oe × Oe)} (h:gL Q j P F c=.go i g es) (dr:∀ a w,bn g n a->J w->gK Q k b i .normal a w) (a:Act) (w:A0) (hk:bn F n a) (hS:J w):c.wp Q (gK Q k b P) a w:=by
 unfold gL at h;split at h;·cases h;exact wp_skip (dr a w hk hS)
 ·cases h;exact wp_seq (dr a w hk hS)
 ·split at h;·cases h
  ·rename_i e;split at h;·rename_i d;cases h;exact wp_cond_true ((hk.eval e).trans d) (dr a w hk hS)
   ·rename_i d;cases h;exact wp_cond_false ((hk.eval e).trans d) (dr a w hk hS)
   ·cases h
 ·cases h;exact wp_block (dr a w hk hS)
 ·split at h;·rename_i S;cases h;exact wp_exit (jx S (dr a w hk hS))
  ·cases h
 ·cases h
 ·cases h;exact R4 (dr a w hk hS)
 ·split at h;·rename_i f;rw [U5] at f;cases h;exact wp_region_held f.2 (dr a w.drew hk (E.drew f.1 w hS))
  ·cases h
 ·cases h
theorem PN {R:List Rw} {H:Hn Q k W} (E:oR Q k W R j b) {P f:List KI} {F c:Fr} {es:List (Oe × Oe)} (h:Ra Q R H n j P F=.go f c es) (he:∀ e ∈ es,e.1=e.2) (dr:∀ a w,bn c n a->W w->gK Q k b f .normal a w) (a:Act) (w:A0) (hk:bn F n a) (hS:W w):gK Q k b P .normal a w:=by
 unfold Ra at h;split at h;·cases h
 ·cases h;exact dr a w hk hS
 ·cases h
 ·cases h;exact dr a w hk hS
 ·split at h;·rename_i m;cases h;show wpList Q _ _ (_::_) a w;exact T2 λK l=>Eg hk hS E.sub m he E.rows λd g i J=>l d g (dr d g i J)
  ·cases h
 ·exact Gc E h he dr a w hk hS
 ·exact Ge E h he dr a w hk hS
 ·exact Gf E h he dr a w hk hS
 ·exact rR E h dr a w hk hS
def aP (P:F0) {S J:A0->Prop} (R:List Rw) (H:Hn P S J) (n:Nat) (dr:Bool):Nat->List KI->Fr->(Bool × List KI × Fr) × List (Oe × Oe)
 | 0,k,F=>((false,k,F),[])
 | m+1,k,F=>match Ra P R H n dr k F with
   | .stop=>((false,k,F),[])
   | .ret=>((true,k,F),[])
   | .go c a b=>match aP P R H n dr m c a with
     | (r,es')=>(r,b++es')
theorem yt {P:F0} {S J:A0->Prop} {R:List Rw} {H:Hn P S J} {n:Nat} {dr:Bool} {Q:L4->Act->A0->Prop} (E:oR P S J R dr Q):∀ (m:Nat) (k:List KI) (F:Fr),(∀ e ∈ (aP P R H n dr m k F).2,e.1=e.2) ->
 (∀ a w,bn (aP P R H n dr m k F).1.2.2 n a->J w->if (aP P R H n dr m k F).1.1=true then Q .ret a w else gK P S Q (aP P R H n dr m k F).1.2.1 .normal a w)->∀ a w,bn F n a->J w->gK P S Q k .normal a w
 | 0,k,F,_,hf,a,w,hk,hS=>by simpa [aP] using hf a w hk hS
 | m+1,k,F,he,hf,a,w,hk,hS=>by
   cases d:Ra P R H n dr k F with
   | stop =>
     have e:aP P R H n dr (m+1) k F=((false,k,F),[]):=by simp only [aP,d]
     rw [e] at hf
     simpa using hf a w hk hS
   | ret =>
     have e:aP P R H n dr (m+1) k F=((true,k,F),[]):=by simp only [aP,d]
     rw [e] at hf
     have l:Q .ret a w:=by simpa using hf a w hk hS
     unfold Ra at d
     split at d
     ·cases d
     ·cases d
     ·cases d
     ·cases d
     ·split at d<;>cases d
     ·unfold yp at d
      repeat (split at d<;>try cases d)
     ·unfold yq at d
      repeat (split at d<;>try cases d)
     ·unfold yr at d
      repeat (split at d<;>try cases d)
     ·rename_i c f
      cases c with
      | ret=>exact wp_ret (by rw [yo];exact l)
      | region i ops b=>cases b<;>simp only [gL] at d<;>(try split at d)<;>cases d
      | cond=>simp only [gL] at d;repeat (split at d<;>try cases d)
      | exit=>simp only [gL] at d;split at d<;>cases d
      | _=>cases d
   | go f g j =>
     have e:aP P R H n dr (m+1) k F=((aP P R H n dr m f g).1,j++(aP P R H n dr m f g).2):=by simp only [aP,d]
     rw [e] at he hf
     exact PN E d (λx h=>he x (by simp [h])) (yt E m f g (λx h=>he x (by simp [h])) hf) a w hk hS
def Wg (P:F0) (S:A0->Prop) (Q:L4->Act->A0->Prop) (n:Nat) (k:List KI) (F:Fr) (w:A0):Prop:=∀ a,bn F n a->gK P S Q k .normal a w
theorem ak {R:List Rw} (E:oR Q k W R dr b) (H:Hn Q k W) (m:Nat) {P:List KI} {F:Fr} {w:A0} (hS:W w) (h:∀ J,W J->Wg Q k b n (aP Q R H n dr m P F).1.2.1 (aP Q R H n dr m P F).1.2.2 J) (hret:(aP Q R H n dr m P F).1.1=false:=by kernel_rfl) (he:(aP Q R H n dr m P F).2.map U2=(aP Q R H n dr m P F).2.map U3:=by kernel_rfl):Wg Q k b n P F w:=λa d =>
 yt E m P F (λe f=>V9.1 he e f) (λa w c g=>by rw [hret,JZ9 ba];exact h w g a c) a w d hS
theorem bg {R:List Rw} (E:oR Q k W R j (A6 Q B c)) (H:Hn Q k W) (m:Nat) {S:List KI} {F:Fr} {w:A0} {t:Nat} {v:A5} (hS:W w) (h:∀ f,W f->c (.returned v) f) (hv:((aP Q R H n j m S F).1.1,(lk (aP Q R H n j m S F).1.2.2 t).map U2)=(true,some v):=by kernel_rfl) (he:(aP Q R H n j m S F).2.map U2=(aP Q R H n j m S F).2.map U3:=by kernel_rfl) (dr:B.results=#[.tmp t]:=by rfl):Wg Q k (A6 Q B c) n S F w:=λa g =>
 yt E m S F (λe i=>V9.1 he e i) (λa w d l=>by
  simp only [Prod.mk.injEq] at hv
  rw [hv.1,JZ8 rfl]
  obtain ⟨x,b,Rs⟩:=U7.1 hv.2
  have o:=d.at_ t x b
  exact S5 (T3 dr _ _ _) d.nod (by rw [U8,o,Rs];exact h w l)) a w g hS
def IP:Nat->List A5->Fr
 | _,[]=>[]
 | i,v::l=>(i,v,0)::IP (i+1) l
theorem Ej:∀ (l:List A5) (i t:Nat) (x:A5 × Nat),lk (IP i l) t=some x->i<=t/\l[t-i]?=some x.1
 | [],_,_,_,h=>hh
 | v::l,i,t,x,h=>by
   unfold IP lk at h
   cases a:Y5 i t with
   | true =>
     rw [a] at h
     cases h
     have:i=t:=Y3 a
     subst this
     simp
   | false =>
     rw [a] at h
     obtain ⟨c,b⟩:=Ej l (i+1) t x h
     refine ⟨aa,?_⟩
     rw [show t-i=(t-(i+1))+1 by omega]
     simpa using b
theorem bE (b:Q.funcs[w]?=some B) (h:Wg Q A (A6 Q B c) B.ntmps [.code K] (IP 0 args) a) (hb:B.body=some K:=by rfl) (hn:Z0 args.length B.ntmps:=by kernel_rfl):I5 Q w args.toArray a c :=
 calls_of_wp b hb (h _ ⟨by
  have:args.length<=B.ntmps:=Nat.le_of_ble_eq_true hn
  simp;omega,rfl,λt x e=>by
  obtain ⟨_,Rs⟩:=Ej args 0 t x e
  have bZ:t<args.length:=by
   rw [Y8] at Rs
   exact (X5.1 Rs).1
  rw [Y8] at Rs
  have d:=(X5.1 Rs).2
  simp [Array.getElem?_append,bZ]
  simpa using d⟩)
def gM:List KI->Bool
 | []=>true
 | .sq _ _ _::_=>false
 | .code _::k=>gM k
 | .blk _::k=>gM k
 | .ops _ _::k=>gM k
 | .fin _::k=>gM k
 | .sk _ _ _ _::_=>false
 | .sw _ _ _::k=>gM k
theorem wP {P:F0} {S:A0->Prop} {Q:L4->Act->A0->Prop} {S':A0->Prop}:∀ {k:List KI},gM k->gK P S' Q k=gK P S Q k
 | [],_=>rfl
 | .sq _ _ _::_,h=>hh
 | .code _::k,h=>by unfold gK;rw [wP (k:=k) h]
 | .blk _::k,h=>by unfold gK;rw [wP (k:=k) h]
 | .ops _ _::k,h=>by unfold gK;rw [wP (k:=k) h]
 | .fin _::k,h=>by unfold gK;rw [wP (k:=k) h]
 | .sk _ _ _ _::_,h=>hh
 | .sw _ _ _::k,h=>by unfold gK;rw [wP (k:=k) h]
theorem bO {P:List KI} {F:Fr} (h:Wg Q A b n P F a) (hn:gM P:=by kernel_rfl):Wg Q k b n P F a:=λw S=>by rw [<- wP (S':=A) hn];exact h w S
def ul (P:F0) (n N:Nat):List H1->Fr->List (Array A5 × G3)->Option (Fr × List (Array A5 × G3))
 | [],F,bs=>some (F,bs)
 | o::os,F,bs=>match o.guard,o.dst with
   | none,some d=>match Y6 d n with
     | false=>none
     | true=>match o.op with
       | .box t x=>match kn F x with
         | true=>ul P n N os ((d,.p (N+bs.length) 0,bs.length+1)::F) (bs++[((ev F x).cells,t)])
         | false=>none
       | .assign x=>match kn F x with
         | true=>ul P n N os ((d,ev F x,IJ F x)::F) bs
         | false=>none
       | .alloc t=>match P.info? t with
         | some i=>match i.zero with
           | some z=>ul P n N os ((d,.p (N+bs.length) 0,bs.length+1)::F) (bs++[(z.cells,t)])
           | none=>none
         | none=>none
       | _=>none
   | _,_=>none
def dC (w:A0):List (Array A5 × G3)->A0
 | []=>w
 | x::l=>dC (w.alloc (.cells x.1 x.2)) l
theorem nH (x:Array A5 × G3):∀ (l:List (Array A5 × G3)) (w:A0),dC w (l++[x])=(dC w l).alloc (.cells x.1 x.2)
 | [],_=>rfl
 | _::l,w=>nH x l _
theorem nI:∀ (l:List (Array A5 × G3)) (w:A0),(dC w l).heap.size=w.heap.size+l.length
 | [],_=>rfl
 | _::l,w=>by
   show (dC _ l).heap.size=_
   rw [nI l,World.size_alloc,List.length_cons]
   omega
theorem pW {P:F0} {n:Nat} {Q:L4->Act->A0->Prop} {all:Array H1} {w:A0}:∀ {l:List H1} {F j:Fr} {b e:List (Array A5 × G3)},ul P n w.heap.size l F b=some (j,e)->(∀ a,bn j n a->Q .normal a (dC w e))->∀ a,bn F n a->wpList P all Q l a (dC w b)
 | [],F,j,b,e,h,hQ,a,hk=>by
   simp only [ul,Option.some.injEq,Prod.mk.injEq] at h
   obtain ⟨rfl,rfl⟩:=h
   exact hQ a hk
 | o::os,F,j,b,e,h,hQ,a,hk=>by
   unfold ul at h
   split at h
   ·rename_i d m k
    split at h
    ·cases h
    ·rename_i p
     split at h
     ·rename_i t x c
      split at h
      ·rename_i f
       refine L5 m λK g=>?_
       show o.upon P a K _ ((F3 a.eval o).run P (dC w b))
       have:(F3 a.eval o).run P (dC w b)=.ok (.value (.pointer (some ⟨(dC w b).heap.size,0,none⟩))) ((dC w b).alloc (.cells (ev F x).cells t)):=by
        unfold F3
        rw [c]
        simp only [hk.eval f]
        rfl
       rw [this,nI]
       show K (a.put o.dst _) _
       rw [k,<- nH ((ev F x).cells,t)]
       exact g _ _ (pW h hQ _ (hk.put p _ _))
      ·cases h
     ·rename_i x c
      split at h
      ·rename_i f
       refine L5 m λK g=>?_
       show o.upon P a K _ ((F3 a.eval o).run P (dC w b))
       have:(F3 a.eval o).run P (dC w b)=.ok (.value (ev F x)) (dC w b):=by
        unfold F3
        rw [c]
        simp only [hk.eval f]
        rfl
       rw [this]
       show K (a.put o.dst _) _
       rw [k]
       exact g _ _ (pW h hQ _ (hk.put p _ _))
      ·cases h
     ·rename_i t c
      split at h
      ·rename_i i q
       split at h
       ·rename_i z r
        refine L5 m λK g=>?_
        show o.upon P a K _ ((F3 a.eval o).run P (dC w b))
        have:(F3 a.eval o).run P (dC w b)=.ok (.value (.pointer (some ⟨(dC w b).heap.size,0,none⟩))) ((dC w b).alloc (.cells z.cells t)):=by
         unfold F3
         rw [c]
         simp [Y0,zeroValue,typeInfo,q,r,newVar,newRow]
        rw [this,nI]
        show K (a.put o.dst _) _
        rw [k,<- nH (z.cells,t)]
        exact g _ _ (pW h hQ _ (hk.put p _ _))
       ·cases h
      ·cases h
     ·cases h
   ·cases h
def pX (P:F0) (n N:Nat) (c:H5) (args:List A5):Option (List (Array A5 × G3) × List KI × Fr):=match c with
 | .seq (.region _ ops false) rest=>match ul P n N ops.toList (IP 0 args) [] with
   | some (F,bs)=>some (bs,[.code rest],F)
   | none=>none
 | _=>none
def IQ (P:F0) (n N:Nat) (c:H5) (args:List A5):List KI:=match pX P n N c args with
 | some x=>x.2.1
 | none=>[]
def IS (P:F0) (n N:Nat) (c:H5) (args:List A5):Fr:=match pX P n N c args with
 | some x=>x.2.2
 | none=>[]
theorem cF {P:F0} (k:P.funcs[w]?=some B) (h:Wg P S (A6 P B c) B.ntmps (IQ P B.ntmps a.heap.size K args) (IS P B.ntmps a.heap.size K args) (dC a y)) (hb:B.body=some K:=by rfl) (hn:Z0 args.length B.ntmps:=by kernel_rfl) (d:(pX P B.ntmps a.heap.size K args).map U2=some y:=by kernel_rfl):I5 P w args.toArray a c:=by
 refine bE S k (hb:=hb) (hn:=hn) λRs l=>?_;unfold IQ IS at h;cases b:pX P B.ntmps a.heap.size K args with
 | none=>rw [b] at d;cases d
 | some bs =>
   obtain ⟨g,o,m⟩:=bs;rw [b] at d h;simp only [Option.map_some,Option.some.injEq] at d;subst d;unfold pX at b;split at b
   ·rename_i id ops rest;split at b;·rename_i n i e;simp only [Option.some.injEq,Prod.mk.injEq] at b;obtain ⟨rfl,rfl,rfl⟩:=b;refine wp_seq (R4 ?_);exact pW (Q:=Exit.then (λRs a=>rest.wp P (A6 P B c) Rs a) (A6 P B c)) e (λRs j=>h Rs j) Rs l
    ·cases b
   ·cases b
def zG (F:Fr):List KI->Option (H1 × List KI × Bool)
 | .ops all (o::rest)::k=>match wn all F o with
   | some true=>some (o,.ops all rest::k,false)
   | _=>none
 | .sq all (m+1) listed::k=>match T4 .any all listed with
   | [i]=>match all[i]? with
     | some o=>match wn all F o with
       | some true=>some (o,.sq all m (listed.setIfInBounds i true)::k,true)
       | _=>none
     | none=>none
   | _=>none
 | .sk all kk (m+1) listed::k=>match T4 .any all listed with
   | [i]=>match all[i]? with
     | some o=>match wn all F o with
       | some true=>match Y5 i kk with
         | true=>some (o,.sw all m (listed.setIfInBounds i true)::k,false)
         | false=>some (o,.sk all kk m (listed.setIfInBounds i true)::k,true)
       | _=>none
     | none=>none
   | _=>none
 | .sw all (m+1) listed::k=>match T4 .any all listed with
   | [i]=>match all[i]? with
     | some o=>match wn all F o with
       | some true=>some (o,.sw all m (listed.setIfInBounds i true)::k,false)
       | _=>none
     | none=>none
   | _=>none
 | _=>none
def oS (F:Fr) (k:List KI):List KI:=match zG F k with
 | some x=>x.2.1
 | none=>[]
def wQ (F:Fr) (k:List KI):Bool:=match zG F k with
 | some x=>x.2.2
 | none=>false
def Gg (n:Nat) (F:Fr) (k:List KI):Option (Sem K4):=match zG F k with
 | some (o,_,_)=>match o.op.operands.all (kn F)&&Am o.op&&(match o.dst with | some d=>Y6 d n | none=>true) with
   | true=>some (F3 (ev F) o)
   | false=>none
 | none=>none
def qG (F:Fr) (k:List KI) (v:A5) (t:Nat):Fr:=match zG F k with
 | some (o,_,_)=>match o.dst with
   | some d=>(d,v,t)::F
   | none=>F
 | none=>F
def IT (P:F0) (n:Nat) (F:Fr) (k:List KI):Option (Nat × Array A5):=match zG F k with
 | some (o,_,_)=>match (match o.dst with | some d=>Y6 d n | none=>true) with
   | true=>qP P F o
   | false=>none
 | none=>none
theorem um {P z:List KI} {F:Fr} (h:zG F P=some (d,z,j)) {a:Act} {w:A0} (hk:bn F n a) (t:∀ K:Act->A0->Prop,(∀ f S,(j->k S)->gK Q k b z .normal f S->K f S)->d.wp Q a w K (gK Q k b z)):gK Q k b P .normal a w:=by
 unfold zG at h;split at h
 ·rename_i all v rest p;split at h;·rename_i c;simp only [Option.some.injEq,Prod.mk.injEq] at h;obtain ⟨rfl,rfl,rfl⟩:=h;show wpList Q all (gK Q k b p) (v::rest) a w;refine T2 λK g=>?_;rw [JZ8 (jZ hk c)];exact t K λf S _ l=>g f S l
  ·cases h
 ·rename_i all m listed p;split at h
  ·rename_i i s;split at h
   ·rename_i v r;split at h;·rename_i c;simp only [Option.some.injEq,Prod.mk.injEq] at h;obtain ⟨rfl,rfl,rfl⟩:=h;show wpAnyH Q .any all (gK Q k b p) k (m+1) listed a w;refine wpAnyH_all s bh λo B=>?_;rw [V8] at B;subst B;refine K0 r λq g=>?_;rw [JZ8 (jZ hk c)];exact t q λf S y l=>g f S ⟨y rfl,l⟩
    ·cases h
   ·cases h
  ·cases h
 ·rename_i all A m listed p;split at h
  ·rename_i i s;split at h
   ·rename_i v r;split at h
    ·rename_i c;split at h;·rename_i u;simp only [Option.some.injEq,Prod.mk.injEq] at h;obtain ⟨rfl,rfl,rfl⟩:=h;have e:i=A:=Y3 u;subst e;show eC Q .any all (gK Q k b p) k i (m+1) listed a w;refine uj r s λq g=>?_;rw [JZ8 (jZ hk c)];exact t q λf S _ l=>g f S l
     ·rename_i u;simp only [Option.some.injEq,Prod.mk.injEq] at h;obtain ⟨rfl,rfl,rfl⟩:=h;have x:i≠A:=λe=>by rw [e,Y7] at u;cases u
      show eC Q .any all (gK Q k b p) k A (m+1) listed a w;refine CN r s x λq g=>?_;rw [JZ8 (jZ hk c)];exact t q λf S y l=>g f S (y rfl) (λ_=>l)
    ·cases h
   ·cases h
  ·cases h
 ·rename_i all m listed p;split at h
  ·rename_i i s;split at h
   ·rename_i v r;split at h;·rename_i c;simp only [Option.some.injEq,Prod.mk.injEq] at h;obtain ⟨rfl,rfl,rfl⟩:=h;show wpAny Q .any all (gK Q k b p) (m+1) listed a w;refine wO r s λq g=>?_;rw [JZ8 (jZ hk c)];exact t q λf S _ l=>g f S l
    ·cases h
   ·cases h
  ·cases h
 ·cases h
theorem eH {P:List KI} {F:Fr} {w':A0} {s:Sem K4} {v:A5} (m:s.run Q a=.ok (.value v) w') (h:Wg Q k b w (oS F P) (qG F P v z) w') (hx:Gg w F P=some s:=by kernel_rfl) (hS:wQ F P->k w':=by exact jw ab):Wg Q k b w P F a:=λn f=>by
 unfold Gg at hx;unfold wQ at hS;unfold oS qG at h;cases i:zG F P with
 | none=>rw [i] at hx;cases hx
 | some y =>
   obtain ⟨o,q,S⟩:=y;rw [i] at hx hS h;dsimp only at hx hS h;split at hx
   ·rename_i c;cases hx;rw [U5,U5] at c;have g:F3 n.eval o=F3 (ev F) o:=H8 o (λp S e=>by have:=c.1.2;rw [e] at this;cases this) λx hx=>f.eval (V0.1 c.1.1 x hx);refine um i f λK j=>?_;show o.upon Q n K _ _;rw [g,m];refine j _ _ hS (h _ ?_);cases l:o.dst with
    | none=>exact f
    | some d=>rw [l] at c;exact f.put c.2 v z
   ·cases hx
theorem cP {P:List KI} {F:Fr} {s:Sem K4} (m:s.run Q a=.ok .skip J) (h:Wg Q k b w (oS F P) (qG F P undef 0) J) (hx:Gg w F P=some s:=by kernel_rfl) (hS:wQ F P->k J:=by exact jw ab):Wg Q k b w P F a:=λn f=>by
 unfold Gg at hx;unfold wQ at hS;unfold oS qG at h;cases i:zG F P with
 | none=>rw [i] at hx;cases hx
 | some y =>
   obtain ⟨o,q,S⟩:=y;rw [i] at hx hS h;dsimp only at hx hS h;split at hx
   ·rename_i c;cases hx;rw [U5,U5] at c;have g:F3 n.eval o=F3 (ev F) o:=H8 o (λp S e=>by have:=c.1.2;rw [e] at this;cases this) λx hx=>f.eval (V0.1 c.1.1 x hx);refine um i f λK j=>?_;show o.upon Q n K _ _;rw [g,m];refine j _ _ hS (h _ ?_);cases l:o.dst with
    | none=>exact f
    | some d=>rw [l] at c;exact f.put c.2 undef 0
   ·cases hx
theorem eI {P:List KI} {F:Fr} {f:Nat} (args:I5 Q f p a c) (h:∀ e Rc,c e Rc->∃ v t,e=.returned v/\(wQ F P->k Rc)/\Wg Q k b w (oS F P) (qG F P v t) Rc) (hx:IT Q w F P=some (f,p):=by kernel_rfl):Wg Q k b w P F a:=λn g=>by
 unfold IT at hx;unfold oS qG wQ at h;cases j:zG F P with
 | none=>rw [j] at hx;cases hx
 | some y =>
   obtain ⟨o,u,S⟩:=y;rw [j] at hx h;dsimp only at hx h;split at hx
   ·rename_i l;refine um j g λK m=>?_;show o.upon Q n K _ _;rw [oo g hx a];refine args.mono λe Rc q=>?_;obtain ⟨v,t,rfl,r,s⟩:=h e Rc q;refine m _ _ r (s _ ?_);cases i:o.dst with
    | none=>exact g
    | some d=>rw [i] at l;exact g.put l v t
   ·cases hx
theorem bF {R:List Rw} (E:oR Q k W R dr b) (H:Hn Q k W) (m:Nat) {P:List KI} {F:Fr} {w:A0} {f:Nat} {args:Array A5} {Rc:A0->H3->A0->Prop} (hS:W w) (g:∀ J,W J->I5 Q f args J (Rc J)) (h:∀ J e a,W J->Rc J e a->∃ v t,e=.returned v/\(wQ (aP Q R H n dr m P F).1.2.2 (aP Q R H n dr m P F).1.2.1->k a)/\Wg Q k b n (oS (aP Q R H n dr m P F).1.2.2 (aP Q R H n dr m P F).1.2.1) (qG (aP Q R H n dr m P F).1.2.2 (aP Q R H n dr m P F).1.2.1 v t) a) (hx:((aP Q R H n dr m P F).1.1,IT Q n (aP Q R H n dr m P F).1.2.2 (aP Q R H n dr m P F).1.2.1)=(false,some (f,args)):=by kernel_rfl) (he:(aP Q R H n dr m P F).2.map U2=(aP Q R H n dr m P F).2.map U3:=by kernel_rfl):Wg Q k b n P F w:=by simp only [Prod.mk.injEq] at hx;exact ak E H m hS (hret:=hx.1) (he:=he) λJ c=>eI (g J c) (hx:=hx.2) λe a d=>h J e a c d
theorem lu {R:List Rw} (E:oR Q k W R dr (A6 Q B c)) (H:Hn Q k W) (m:Nat) {S:List KI} {F:Fr} {w:A0} (hS:W w) (h:∀ b a,W b->bn (aP Q R H n dr m S F).1.2.2 n a->∃ v,(results B a.tmps).run Q b=.ok v b/\c (.returned v) b) (hv:(aP Q R H n dr m S F).1.1:=by kernel_rfl) (he:(aP Q R H n dr m S F).2.map U2=(aP Q R H n dr m S F).2.map U3:=by kernel_rfl):Wg Q k (A6 Q B c) n S F w:=λa g =>
 yt E m S F (λe i=>V9.1 he e i) (λa w Rs j=>by
  rw [hv,JZ8 rfl]
  obtain ⟨v,d,f⟩:=h w a j Rs
  exact S5 d Rs.nod f) a w g hS
theorem bn.slot {F:Fr} (h:bn F n L) {t:Nat} {v:A5} (hl:(lk F t).map U2=some v):L.tmps.getD t undef=v:=by obtain ⟨x,b,c⟩:=U7.1 hl;rw [U8,h.at_ t x b,<- c];rfl
def aD {c b:Bool} (h:c=b):Vq:=⟨.bool c,.bool b,0,by rw [h]⟩
theorem cG (Rs:List PanicEntry) (a:Act) (d:Option Nat) (v:A5) (w:A0) (h:A6 Q B c (.panic Rs) (Act.put a d v) w):A6 Q B c (.panic Rs) a w:=by cases d<;>exact h
def fN (w:A0):List Rw->Prop
 | []=>True
 | r::R=>oP r w/\fN w R
theorem pf {w:A0} {r:Rw}:∀ {R:List Rw},fN w R->r ∈ R->oP r w
 | [],_,h=>hh
 | _::R,h,a=>by
   rcases X0.1 a with rfl|a
   ·exact h.1
   ·exact pf h.2 a
theorem wR {R:List Rw} (w:fN a R):oR Q (λx=>x=a) (λx=>x=a) R false (A6 Q B c):=⟨λ_ h=>h,λW h r b=>by subst h;exact pf w b,(λh=>hh),cG⟩
theorem PO {F:Fr} {k:List KI} {x:H1 × List KI × Bool} (h:zG F (.sw f w l::k)=some x):x.2.2=false:=by
 cases w with
 | zero=>cases h
 | succ w =>
   simp only [zG] at h;repeat (split at h<;>try cases h)
   all_goals rfl
theorem aE {Rs:H3->A0->Prop} {S:List KI} {F:Fr} {R:List Rw} (u:fN a R) (H:Hn Q (λx=>x=a) (λx=>x=a)) (m:Nat) {f:Nat} {args:Array A5} {Rc:H3->A0->Prop} (y:I5 Q f args a Rc) (h:∀ e fn,Rc e fn->∃ v t,e=.returned v/\Wg Q k (A6 Q B Rs) w (oS (aP Q R H w false m S F).1.2.2 (aP Q R H w false m S F).1.2.1) (qG (aP Q R H w false m S F).1.2.2 (aP Q R H w false m S F).1.2.1 v t) fn) (hx:(gM S,(aP Q R H w false m S F).1.1,gM (aP Q R H w false m S F).1.2.1,IT Q w (aP Q R H w false m S F).1.2.2 (aP Q R H w false m S F).1.2.1)=(true,false,true,some (f,args)):=by kernel_rfl) (he:(aP Q R H w false m S F).2.map U2=(aP Q R H w false m S F).2.map U3:=by kernel_rfl):Wg Q k (A6 Q B Rs) w S F a:=by
 simp only [Prod.mk.injEq] at hx
 obtain ⟨j,p,g,q⟩:=hx
 refine bO (λx=>x=a) (hn:=j) (ak (wR u) H m rfl (hret:=p) (he:=he) λfn c=>?_)
 subst c
 refine bO k (hn:=g) (eI y (hx:=q) λe fn z=>?_)
 obtain ⟨v,t,r,s⟩:=h e fn z
 refine ⟨v,t,r,λd=>?_,s⟩
 exact absurd d (by
  have:∀ (S:List KI) (F:Fr),gM S->wQ F S=false:=by
   intro S F i
   unfold wQ zG
   cases S with
   | nil=>rfl
   | cons x S=>cases x with
     | sq=>cases i
     | sk=>cases i
     | sw all m listed =>
       cases hx:zG F (.sw all m listed::S) with
       | none=>unfold zG at hx;simp only [hx]
       | some x =>
         have d:=PO hx
         unfold zG at hx
         simp only [hx]
         exact d
     | ops all l=>cases l with
       | nil=>rfl
       | cons o l=>cases c:wn all F o with
         | none=>simp only [c]
         | some b=>cases b<;>simp only [c]
     | _=>rfl
  rw [this _ _ g];decide)
theorem eU {S:List KI} {F:Fr} {R:List Rw} (g:fN a R) (H:Hn Q (λx=>x=a) (λx=>x=a)) (m:Nat) {s:Sem K4} {v:A5} {w':A0} (t:Nat) (i:s.run Q a=.ok (.value v) w') (h:Wg Q k (A6 Q B c) n (oS (aP Q R H n false m S F).1.2.2 (aP Q R H n false m S F).1.2.1) (qG (aP Q R H n false m S F).1.2.2 (aP Q R H n false m S F).1.2.1 v t) w') (hx:(gM S,(aP Q R H n false m S F).1.1,gM (aP Q R H n false m S F).1.2.1,wQ (aP Q R H n false m S F).1.2.2 (aP Q R H n false m S F).1.2.1,Gg n (aP Q R H n false m S F).1.2.2 (aP Q R H n false m S F).1.2.1)=(true,false,true,false,some s):=by kernel_rfl) (he:(aP Q R H n false m S F).2.map U2=(aP Q R H n false m S F).2.map U3:=by kernel_rfl):Wg Q k (A6 Q B c) n S F a:=by simp only [Prod.mk.injEq] at hx;obtain ⟨b,Rs,d,e,f⟩:=hx;refine bO (λx=>x=a) (hn:=b) (ak (wR g) H m rfl (hret:=Rs) (he:=he) λl j=>?_);subst j;exact bO k (hn:=d) (eH t (hx:=f) i (hS:=λw=>by rw [e] at w;cases w) h)
theorem du {S:List KI} {F:Fr} {R:List Rw} (g:fN a R) (H:Hn Q (λx=>x=a) (λx=>x=a)) (m:Nat) {s:Sem K4} {w':A0} (i:s.run Q a=.ok .skip w') (h:Wg Q k (A6 Q B c) n (oS (aP Q R H n false m S F).1.2.2 (aP Q R H n false m S F).1.2.1) (qG (aP Q R H n false m S F).1.2.2 (aP Q R H n false m S F).1.2.1 undef 0) w') (hx:(gM S,(aP Q R H n false m S F).1.1,gM (aP Q R H n false m S F).1.2.1,wQ (aP Q R H n false m S F).1.2.2 (aP Q R H n false m S F).1.2.1,Gg n (aP Q R H n false m S F).1.2.2 (aP Q R H n false m S F).1.2.1)=(true,false,true,false,some s):=by kernel_rfl) (he:(aP Q R H n false m S F).2.map U2=(aP Q R H n false m S F).2.map U3:=by kernel_rfl):Wg Q k (A6 Q B c) n S F a:=by simp only [Prod.mk.injEq] at hx;obtain ⟨b,Rs,d,e,f⟩:=hx;refine bO (λx=>x=a) (hn:=b) (ak (wR g) H m rfl (hret:=Rs) (he:=he) λl j=>?_);subst j;exact bO k (hn:=d) (cP (hx:=f) i (hS:=λw=>by rw [e] at w;cases w) h)
theorem jM {S:List KI} {F:Fr} {R:List Rw} (b:fN a R) (H:Hn Q (λx=>x=a) (λx=>x=a)) (m:Nat) (h:∀ w,bn (aP Q R H n false m S F).1.2.2 n w->∃ v,(results B w.tmps).run Q a=.ok v a/\c (.returned v) a) (hx:(gM S,(aP Q R H n false m S F).1.1)=(true,true):=by kernel_rfl) (he:(aP Q R H n false m S F).2.map U2=(aP Q R H n false m S F).2.map U3:=by kernel_rfl):Wg Q k (A6 Q B c) n S F a:=by simp only [Prod.mk.injEq] at hx;exact bO (λx=>x=a) (hn:=hx.1) (lu (wR b) H m rfl (hv:=hx.2) (he:=he) λe w d Rs=>by subst d;exact h w Rs)
theorem dD {S:List KI} {F:Fr} {R:List Rw} (b:fN a R) (H:Hn Q (λx=>x=a) (λx=>x=a)) (m:Nat) {t:Nat} {v:A5} (h:c (.returned v) a) (hx:(gM S,(aP Q R H n false m S F).1.1,(lk (aP Q R H n false m S F).1.2.2 t).map U2)=(true,true,some v):=by kernel_rfl) (he:(aP Q R H n false m S F).2.map U2=(aP Q R H n false m S F).2.map U3:=by kernel_rfl) (d:B.results=#[.tmp t]:=by rfl):Wg Q k (A6 Q B c) n S F a:=by simp only [Prod.mk.injEq] at hx;exact jM b H m (hx:=by rw [hx.1,hx.2.1]) (he:=he) λw Rs=>⟨v,by rw [T3 d,Rs.slot hx.2.2],h⟩
theorem IU {b:Type} {t:Nat} {x:b}:∀ {F:List (Nat × b)},lk F t=some x->(t,x) ∈ F
 | [],h=>hh
 | (s,y)::F,h=>by
   unfold lk at h
   cases a:Y5 s t with
   | true =>
     rw [a] at h
     cases h
     have:s=t:=Y3 a
     simp [this]
   | false=>rw [a] at h;exact List.mem_cons_of_mem _ (IU h)
theorem bn.less {F G:Fr} (h:bn F n L) (e:G.map (λy=>some y.2.1)=G.map λy=>(lk F y.1).map U2):bn G n L :=
 ⟨h.size,h.nod,λt x f=>by
  have d:=IU f
  have:=V9.1 e (t,x) d
  obtain ⟨y,b,c⟩:=U7.1 this.symm
  have:=h.at_ t y b
  rw [this,c]⟩
def Sz:List KI->Bool
 | .code (.loop _)::_=>true
 | _=>false
def To:List KI->H5
 | .code (.loop c)::_=>c
 | _=>.skip
def OG:List KI->Act->A0->Prop
 | .fin R::_=>R
 | _=>λ_ _=>False
theorem kf {P:List KI} {F:Fr} {h:Type} (d:h->Fr) (I:Nat->h->A0->Prop) (l:Nat) (g:h) (hl:Sz P) (hF:(d g).map (λy=>some y.2.1)=(d g).map λy=>(lk F y.1).map U2) (s:I l g a) (round:∀ j x a,I j x a->∀ R:Act->A0->Prop,(∀ w e S f,S<j->bn (d f) n w->I S f e->R w e)->Wg Q k b n (.code (To P)::.fin R::P.tail) (d x) a):Wg Q k b n P F a:=λw u=>by
 match P,hl with
 | .code (.loop c)::k',_ =>
   show (Go.Code.loop c).wp Q (gK Q k b k') w a
   refine wp_loop_ghost (λj w a=>∃ x,bn (d x) n w/\I j x a) l ⟨g,u.less hF,s⟩ λj w a t=>?_
   obtain ⟨x,q,r⟩:=t
   exact round j x a r (λi e=>∃ S,S<j/\∃ x,bn (d x) n i/\I S x e) (λi e S f m o p=>⟨S,m,f,o,p⟩) w q
theorem PP {P:List KI} {F:Fr} {R:List Rw} (E:oR Q k W R j b) (H:Hn Q k W) (m:Nat) (hS:W a) {T:Act->A0->Prop} (h:∀ n c,W c->bn (aP Q R H w j m P F).1.2.2 w n->T n c) (hx:((aP Q R H w j m P F).1.1,OG (aP Q R H w j m P F).1.2.1)=(false,T):=by kernel_rfl) (he:(aP Q R H w j m P F).2.map U2=(aP Q R H w j m P F).2.map U3:=by kernel_rfl):Wg Q k b w P F a:=by
 simp only [Prod.mk.injEq] at hx;refine ak E H m hS (hret:=hx.1) (he:=he) λc f n e=>?_;have J:=h n c f e;rw [<- hx.2] at J;generalize (aP Q R H w j m P F).1.2.1=d at J;cases d with
 | nil=>cases J
 | cons y d=>cases y with
   | fin g=>exact J
   | _=>cases J
theorem eE {S:List KI} {F:Fr} {R:List Rw} (b:fN a R) (H:Hn Q (λx=>x=a) (λx=>x=a)) (m:Nat) {T:Act->A0->Prop} (h:∀ w,bn (aP Q R H n false m S F).1.2.2 n w->T w a) (hx:(gM S,(aP Q R H n false m S F).1.1,OG (aP Q R H n false m S F).1.2.1)=(true,false,T):=by kernel_rfl) (he:(aP Q R H n false m S F).2.map U2=(aP Q R H n false m S F).2.map U3:=by kernel_rfl):Wg Q k (A6 Q B c) n S F a:=by simp only [Prod.mk.injEq] at hx;exact bO (λx=>x=a) (hn:=hx.1) (PP (T:=T) (wR b) H m rfl (hx:=by rw [hx.2.1,hx.2.2]) (he:=he) λw e d Rs=>by subst d;exact h w Rs)
theorem aO {S:List KI} {F:Fr} {R:List Rw} (w:fN a R) (H:Hn Q (λx=>x=a) (λx=>x=a)) (m:Nat) (h:Wg Q k (A6 Q B c) n (aP Q R H n false m S F).1.2.1 (aP Q R H n false m S F).1.2.2 a) (hx:(gM S,(aP Q R H n false m S F).1.1,gM (aP Q R H n false m S F).1.2.1)=(true,false,true):=by kernel_rfl) (he:(aP Q R H n false m S F).2.map U2=(aP Q R H n false m S F).2.map U3:=by kernel_rfl):Wg Q k (A6 Q B c) n S F a:=by simp only [Prod.mk.injEq] at hx;exact bO (λx=>x=a) (hn:=hx.1) (ak (wR w) H m rfl (hret:=hx.2.1) (he:=he) λRs b=>by subst b;exact bO k (hn:=hx.2.2) h)
def Dw (w W:A0):Prop:=∃ d,W={w with drawn:=w.drawn+d}
theorem Dw.refl:Dw r r:=⟨0,rfl⟩
structure Ez (S:A0->Prop) (R:List Rw):Prop where
 rows:∀ w,S w->∀ r ∈ R,oP r w
 drew:∀ w,S w->S w.drew
theorem pY {fn:P2} {Rs:H3->A0->Prop} {R:List Rw} (w:Ez k R) (hS:k a):oR P k (Dw a) R true (A6 P fn Rs):=
 ⟨λW h=>by
  obtain ⟨d,rfl⟩:=h
  induction d with
  | zero=>exact hS
  | succ d b=>exact w.drew _ b,w.rows,λ_ W h=>by obtain ⟨d,rfl⟩:=h;exact ⟨d+1,rfl⟩,cG⟩
theorem te {S:List KI} {F:Fr} {R:List Rw} (j:Ez k R) (hS:k a) (H:Hn Q k (Dw a)) (m:Nat) {f:Nat} {args:Array A5} {Rc:A0->H3->A0->Prop} (l:∀ W,Dw a W->I5 Q f args W (Rc W)) (h:∀ W e w,Dw a W->Rc W e w->∃ v t,e=.returned v/\k w/\Wg Q k (A6 Q B c) n (oS (aP Q R H n true m S F).1.2.2 (aP Q R H n true m S F).1.2.1) (qG (aP Q R H n true m S F).1.2.2 (aP Q R H n true m S F).1.2.1 v t) w) (hx:((aP Q R H n true m S F).1.1,IT Q n (aP Q R H n true m S F).1.2.2 (aP Q R H n true m S F).1.2.1)=(false,some (f,args)):=by kernel_rfl) (he:(aP Q R H n true m S F).2.map U2=(aP Q R H n true m S F).2.map U3:=by kernel_rfl):Wg Q k (A6 Q B c) n S F a :=
 bF (pY j hS) H m (Dw.refl a) l (hx:=hx) (he:=he) λW e w b Rs=>by
  obtain ⟨v,t,d,g,i⟩:=h W e w b Rs
  exact ⟨v,t,d,λ_=>g,i⟩
theorem An {S:List KI} {F:Fr} {R:List Rw} (b:Ez k R) (hS:k a) (H:Hn Q k (Dw a)) (m:Nat) {s:Sem K4} (f:A0->A0) (Rs:∀ W,Dw a W->s.run Q W=.ok .skip (f W)) (h:∀ W,Dw a W->k (f W)/\Wg Q k (A6 Q B c) n (oS (aP Q R H n true m S F).1.2.2 (aP Q R H n true m S F).1.2.1) (qG (aP Q R H n true m S F).1.2.2 (aP Q R H n true m S F).1.2.1 undef 0) (f W)) (hx:((aP Q R H n true m S F).1.1,Gg n (aP Q R H n true m S F).1.2.2 (aP Q R H n true m S F).1.2.1)=(false,some s):=by kernel_rfl) (he:(aP Q R H n true m S F).2.map U2=(aP Q R H n true m S F).2.map U3:=by kernel_rfl):Wg Q k (A6 Q B c) n S F a:=by simp only [Prod.mk.injEq] at hx;exact ak (pY b hS) H m (Dw.refl a) (hret:=hx.1) (he:=he) λW w=>cP (hx:=hx.2) (Rs W w) (hS:=λ_=>(h W w).1) (h W w).2
theorem OH {S:List KI} {F:Fr} {R:List Rw} (b:Ez k R) (hS:k a) (H:Hn Q k (Dw a)) (m:Nat) {s:Sem K4} {v:A0->A5} (t:Nat) (f:A0->A0) (Rs:∀ W,Dw a W->s.run Q W=.ok (.value (v W)) (f W)) (h:∀ W,Dw a W->k (f W)/\Wg Q k (A6 Q B c) n (oS (aP Q R H n true m S F).1.2.2 (aP Q R H n true m S F).1.2.1) (qG (aP Q R H n true m S F).1.2.2 (aP Q R H n true m S F).1.2.1 (v W) t) (f W)) (hx:((aP Q R H n true m S F).1.1,Gg n (aP Q R H n true m S F).1.2.2 (aP Q R H n true m S F).1.2.1)=(false,some s):=by kernel_rfl) (he:(aP Q R H n true m S F).2.map U2=(aP Q R H n true m S F).2.map U3:=by kernel_rfl):Wg Q k (A6 Q B c) n S F a:=by simp only [Prod.mk.injEq] at hx;exact ak (pY b hS) H m (Dw.refl a) (hret:=hx.1) (he:=he) λW w=>eH t (hx:=hx.2) (Rs W w) (hS:=λ_=>(h W w).1) (h W w).2
theorem yu {S:List KI} {F:Fr} {R:List Rw} (b:Ez k R) (hS:k a) (H:Hn Q k (Dw a)) (m:Nat) (h:∀ W w,Dw a W->bn (aP Q R H n true m S F).1.2.2 n w->∃ v,(results B w.tmps).run Q W=.ok v W/\c (.returned v) W) (hx:(aP Q R H n true m S F).1.1:=by kernel_rfl) (he:(aP Q R H n true m S F).2.map U2=(aP Q R H n true m S F).2.map U3:=by kernel_rfl):Wg Q k (A6 Q B c) n S F a :=
 lu (pY b hS) H m (Dw.refl a) (hv:=hx) (he:=he) h
theorem Dw.below (hb:Below w a J) (h:Dw J t):Below w a t:=by
 obtain ⟨d,rfl⟩:=h;induction d with
 | zero=>exact hb
 | succ d B=>exact B.drew
theorem aF {t ty:G3} {old cells:Array A5} (b:a.heap[g]?=some (.cells old t (0,0))) (c:(P.info? ty).map (·.size)=some cells.size) (d:old.size=cells.size) (w:cells.all (·.oneCell')): (do X8 ty (.p g 0) (.agg cells);pure Z7:Sem K4).run P a=.ok .skip (a.setRow g cells):=by have:=run_storeVar_row (P:=P) a g t ty old cells b c d w;simp [X8,X9,this,Z8]
theorem kY {P:F0} {S:A0->Prop} {n:Nat} {fn:P2} {Rs:H3->A0->Prop} {k:List KI} {F:Fr} {w:A0} {R:List Rw} (hz:Ez S R) (hS:S w) (H:Hn P S (Dw w)) (m:Nat) {r:Nat} {T:G3} {d:M5} {cs:Array A5} {s p u:Nat} {v1 v2:A5} (v:∀ W,S W->S (W.setRow r cs)) (e:∀ W,S W->∃ old t,old.size=cs.size/\W.heap[r]?=some (.cells old t (0,0))) (C:(P.info? T).map (·.size)=some cs.size) (o:cs.all (·.oneCell')) (I:P.underlying T=some d) (hd:(match d with | .struct _ | .array _ _=>true | _=>false)=true) (q:fn.results=#[.tmp s,.cell p T,.tmp u]) (hx:((aP P R H n true m k F).1.1,Gg n (aP P R H n true m k F).1.2.2 (aP P R H n true m k F).1.2.1)=(false,some (do X8 T (.p r 0) (.agg cs);pure Z7))) (he:(aP P R H n true m k F).2.map U2=(aP P R H n true m k F).2.map U3) (D:(λ(y:(Bool × List KI × Fr) × List (Oe × Oe))=>(y.1.1,(lk y.1.2.2 s).map U2,(lk y.1.2.2 p).map U2,(lk y.1.2.2 u).map U2,y.2.map U2)) (aP P R ({}:Hn P S λV=>∃ W,Dw w W/\Dw (W.setRow r cs) V) n true m (oS (aP P R H n true m k F).1.2.2 (aP P R H n true m k F).1.2.1) (qG (aP P R H n true m k F).1.2.2 (aP P R H n true m k F).1.2.1 undef 0))=(true,some v1,some (.p r 0),some v2,(aP P R ({}:Hn P S λV=>∃ W,Dw w W/\Dw (W.setRow r cs) V) n true m (oS (aP P R H n true m k F).1.2.2 (aP P R H n true m k F).1.2.1) (qG (aP P R H n true m k F).1.2.2 (aP P R H n true m k F).1.2.1 undef 0)).2.map U3)) (h:∀ W V,Dw w W->Dw (W.setRow r cs) V->Rs (.returned (.tuple #[v1,.agg cs,v2])) V):Wg P S (A6 P fn Rs) n k F w:=by
 have c:∀ {a b:A0},S a->Dw a b->S b:=λ{a b} x l=>(pY (P:=P) (fn:=fn) (Rs:=Rs) hz x).sub _ l;refine An hz hS H m (λW=>W.setRow r cs) (λW z=>?_) (hx:=hx) (he:=he) λW z=>?_;·obtain ⟨old,t,x,l⟩:=e W (c hS z);exact aF l C x o
 ·have A:=v W (c hS z);refine ⟨A,?_⟩;simp only [Prod.mk.injEq] at D;obtain ⟨J,K,L,M,N⟩:=D;have E:oR P S (λV=>∃ W,Dw w W/\Dw (W.setRow r cs) V) R true (A6 P fn Rs):=
   ⟨λV ⟨X,g,i⟩=>c (v X (c hS g)) i,hz.rows,λ_ V ⟨X,g,i⟩=>⟨X,g,by obtain ⟨j,rfl⟩:=i;exact ⟨j+1,rfl⟩⟩,cG⟩
  refine lu E _ m ⟨W,z,Dw.refl _⟩ (hv:=J) (he:=N) λV a G B=>?_;obtain ⟨X,g,i⟩:=G;obtain ⟨old,t,x,l⟩:=e X (c hS g);have f:V.heap[r]?=some (.cells cs t (0,0)):=(by obtain ⟨j,rfl⟩:=i;exact L6 X r old cs t (0,0) l);refine ⟨_,?_,h X V g i⟩;rw [<- B.slot K,<- B.slot M];exact mu q a.tmps V r t cs (0,0) d (B.slot L) f I hd C
theorem oq {v old:A5} (b:a.cell? ⟨w,n,none⟩=some old/\a.frozen? ⟨w,n,none⟩=false) (d:(Q.info? T).map (·.size)=some 1) (hv:v.cells=#[v]) (e:v.oneCell':=by rfl): (do X8 T (.p w n) v;pure Z7:Sem K4).run Q a=.ok .skip (a.setCell ⟨w,n,none⟩ v):=by
 obtain ⟨t,g,f⟩:=U7.1 d;have c:(store ⟨w,n,none⟩ v).run Q a=.ok () (a.setCell ⟨w,n,none⟩ v):=by rw [run_store Q a _ v _ e];simp [b.1,b.2]
 simp [X8,X9,storeVar,sizeOf,typeInfo,g,f,hv,storeCells,Addr.add,Z8,c]
theorem aN (h:Below w a J) {g:Nat} (b:w<=g) (cs:Array A5):Below w a (J.setRow g cs):=
 ⟨h.os,h.tape,h.output,by rw [setRow_size];exact h.size,λk B=>(setRow_other J g k cs aa).trans (h.block k B)⟩
theorem yv {P:F0} {fn:P2} {F:Fr} {n:Nat} {a:Act} {p u g:Nat} {T t:G3} {d:M5} {cs:Array A5} {v:A5} {w:A0} (hk:bn F n a) (h:fn.results=#[.cell p T,.tmp u]) (e:(lk F p).map U2=some (.p g 0)) (hv:(lk F u).map U2=some v) (b:w.heap[g]?=some (.cells cs t (0,0))) (f:P.underlying T=some d) (hd:(match d with | .struct _ | .array _ _=>true | _=>false)=true) (c:(P.info? T).map (·.size)=some cs.size):(results fn a.tmps).run P w=.ok (.tuple #[.agg cs,v]) w:=by rw [results_cell_tmp h,hk.slot e,hk.slot hv];simp [asAddr,run_loadVar_row w g t T cs (0,0) d b f hd c]
theorem g6 {P:F0} {S:A0->Prop} {n:Nat} {fn:P2} {Rs:H3->A0->Prop} {k:List KI} {F:Fr} {w:A0} {R:List Rw} (i:fN w R) (H:Hn P (λx=>x=w) (λx=>x=w)) (m:Nat) {r:Nat} {T t:G3} {d:M5} {old cs:Array A5} {p u:Nat} {v:A5} (g:w.heap[r]?=some (.cells old t (0,0))) (l:old.size=cs.size) (b:cs.all (·.oneCell')) (o:P.underlying T=some d) (h:Rs (.returned (.tuple #[.agg cs,v])) (w.setRow r cs)) (f:(P.info? T).map (·.size)=some cs.size:=by kernel_rfl) (hd:(match d with | .struct _ | .array _ _=>true | _=>false)=true:=by rfl) (c:fn.results=#[.cell p T,.tmp u]:=by rfl) (hx:(λ(y:Bool × List KI × Fr)=>(gM k,y.1,gM y.2.1,wQ y.2.2 y.2.1,Gg n y.2.2 y.2.1,gM (oS y.2.2 y.2.1))) (aP P R H n false m k F).1=(true,false,true,false,some (do X8 T (.p r 0) (.agg cs);pure Z7),true):=by kernel_rfl) (he:(aP P R H n false m k F).2.map U2=(aP P R H n false m k F).2.map U3:=by kernel_rfl) (e:∀ X,(λ(z:(Bool × List KI × Fr) × List (Oe × Oe))=>(z.1.1,(lk z.1.2.2 p).map U2,(lk z.1.2.2 u).map U2,z.2.map U2)) (aP P [] ({}:Hn P (λx=>x=X) (λx=>x=X)) n false m (oS (aP P R H n false m k F).1.2.2 (aP P R H n false m k F).1.2.1) (qG (aP P R H n false m k F).1.2.2 (aP P R H n false m k F).1.2.1 undef 0))=(true,some (.p r 0),some v,(aP P [] ({}:Hn P (λx=>x=X) (λx=>x=X)) n false m (oS (aP P R H n false m k F).1.2.2 (aP P R H n false m k F).1.2.1) (qG (aP P R H n false m k F).1.2.2 (aP P R H n false m k F).1.2.1 undef 0)).2.map U3):=by intro _;kernel_rfl):Wg P S (A6 P fn Rs) n k F w:=by simp only [Prod.mk.injEq] at hx e;obtain ⟨q,s,A,B,C,D⟩:=hx;refine du i H m (aF g f l b) ?_ (hx:=by rw [q,s,A,B,C]) (he:=he);exact jM (R:=[]) trivial {} m (λa j=>⟨_,yv j c (e _).2.1 (e _).2.2.1 (L6 _ _ _ _ _ _ g) o hd f,h⟩) (hx:=by rw [D,(e _).1]) (he:=(e _).2.2.2)
theorem dV {z:A5} (h:(P.info? T).bind (·.zero)=some z) (w:A0):(do pure (.value (<- Y0 T true (.tuple #[]))):Sem K4).run P w=.ok (.value (.p w.heap.size 0)) (w.alloc (.cells z.cells T)):=by obtain ⟨i,a,b⟩:=Option.bind_eq_some_iff.1 h;simp [Y0,zeroValue,typeInfo,a,b,newVar,newRow]
theorem kZ {R:List Rw} (E:oR Q k W R j (A6 Q B c)) (H:Hn Q k W) (m:Nat) {S:List KI} {F:Fr} {w:A0} {t s:Nat} {v u:A5} (hS:W w) (h:∀ b,W b->c (.returned (.tuple #[v,u])) b) (hv:((aP Q R H n j m S F).1.1,(lk (aP Q R H n j m S F).1.2.2 t).map U2,(lk (aP Q R H n j m S F).1.2.2 s).map U2)=(true,some v,some u):=by kernel_rfl) (he:(aP Q R H n j m S F).2.map U2=(aP Q R H n j m S F).2.map U3:=by kernel_rfl) (e:B.results=#[.tmp t,.tmp s]:=by rfl):Wg Q k (A6 Q B c) n S F w:=by simp only [Prod.mk.injEq] at hv;exact lu E H m hS (hv:=hv.1) (he:=he) λb a d Rs=>⟨_,by rw [results_tmp2 e,Rs.slot hv.2.1,Rs.slot hv.2.2],h b d⟩
def R1 (w:A0) (g:Nat) (cs:Array A5) (t:G3) (W:A0):Prop:=W.heap[g]?=some (.cells cs t (0,0))/\Bw w W
theorem R1.below (h:R1 a g p s J) (hb:Bw J t):R1 a g p s t:=⟨aA hb h.1,ae h.2 hb⟩
theorem R1.eng {fn:P2} {Rs:H3->A0->Prop}:oR P (R1 a w p s) (R1 a w p s) [⟨w,p,[]⟩] true (A6 P fn Rs):=
 ⟨λ_ h=>h,λW h r g=>by rw [V8.1 g];exact ⟨_,_,h.1⟩,λ_ W h=>h.below (Z5 _ _).drew,cG⟩
theorem R1.new (hb:Bw a J):R1 a J.heap.size p s ((J.alloc (.cells q s)).setRow J.heap.size p):=by exact ⟨L6 _ _ _ _ _ _ (R5 _ _),aN (hb.alloc hb.size _) hb.size _⟩
def R2 (w:A0) (g:Nat) (cs:Array A5) (t:G3) (a:Nat) (cs':Array A5) (t':G3) (W:A0):Prop:=R1 w g cs t W/\W.heap[a]?=some (.cells cs' t' (0,0))
theorem R2.below {t':G3} (h:R2 a g p s w q t' J) (hb:Bw J t):R2 a g p s w q t' t:=⟨h.1.below hb,aA hb h.2⟩
theorem R2.eng {fn:P2} {Rs:H3->A0->Prop} {t':G3}:oR P (R2 a w p s n q t') (R2 a w p s n q t') [⟨w,p,[]⟩,⟨n,q,[]⟩] true (A6 P fn Rs):=
 ⟨λ_ h=>h,λW h r b=>by rcases X0.1 b with rfl | b;exact ⟨_,_,h.1.1⟩;rw [V8.1 b];exact ⟨_,_,h.2⟩,λ_ W h=>h.below (Z5 _ _).drew,cG⟩
theorem gn {j:Nat} (h:a.heap[w]?=some (.cells p s (0,0))) (v:A5):(a.setCell ⟨w,j,none⟩ v).heap[w]?=some (.cells (p.set! j v) s (0,0)):=by have bZ:=(Array.getElem?_eq_some_iff.1 h).1;simp only [World.setCell];rw [Array.getElem?_modify];simp [h]
theorem jk {v:A5} (b:a.heap[w]?=some (.cells p s (0,0))) (f:i<p.size) (d:(Q.info? T).map (·.size)=some 1) (hv:v.cells=#[v]) (g:v.oneCell':=by rfl): (do X8 T (.p w i) v;pure Z7:Sem K4).run Q a=.ok .skip (a.setCell ⟨w,i,none⟩ v):=by
 obtain ⟨s,j,h⟩:=U7.1 d;have e:a.cell? ⟨w,i,none⟩=some p[i]:=by simp [World.cell?,b,f]
 have c:(store ⟨w,i,none⟩ v).run Q a=.ok () (a.setCell ⟨w,i,none⟩ v):=by rw [run_store Q a _ v _ g];simp [e,fK b i]
 simp [X8,X9,storeVar,sizeOf,typeInfo,j,h,hv,storeCells,Addr.add,Z8,c]
def Bs (w:A0) (bs:List (Array A5 × G3)) (W:A0):Prop:=(∀ i x,bs[i]?=some x->W.heap[w.heap.size+i]?=some (.cells x.1 x.2 (0,0)))/\Bw w W
theorem Bs.below (h:Bs a e J) (hb:Bw J t):Bs a e t:=⟨λi x w=>aA hb (h.1 i x w),ae h.2 hb⟩
theorem Bs.start:Bs r y (dC r y):=by
 have key:∀ (l:List (Array A5 × G3)) (v:A0),Bw r v->(∀ i x,l[i]?=some x->(dC v l).heap[v.heap.size+i]?=some (.cells x.1 x.2 (0,0)))/\Bw v (dC v l):=by
  intro l;induction l with
  | nil=>intro v _;exact ⟨λi x h=>by simp at h,Z5 _ _⟩
  | cons bs l f =>
    intro v e;have c:=(Z5 v.heap.size v).alloc (Nat.le_refl _) (.cells bs.1 bs.2);obtain ⟨d,b⟩:=f (v.alloc (.cells bs.1 bs.2)) (ae e c);refine ⟨λi x a=>?_,ae c b⟩;cases i with
    | zero =>simp only [List.getElem?_cons_zero,Option.some.injEq] at a;subst a;exact aA b (R5 _ _)
    | succ i =>have:=d i x eo;rw [World.size_alloc] at this;rw [show v.heap.size+(i+1)=v.heap.size+1+i by omega];exact this
 exact ⟨(key y r (Z5 _ _)).1,(key y r (Z5 _ _)).2⟩
def kD (N:Nat):List (Array A5 × G3)->List Rw
 | []=>[]
 | x::l=>⟨N,x.1,[]⟩::kD (N+1) l
theorem wT {r:Rw}:∀ {l:List (Array A5 × G3)} {N:Nat},r ∈ kD N l->∃ i x,l[i]?=some x/\r.b=N+i/\r.cs=x.1
 | [],_,h=>hh
 | y::l,N,h=>by
   rcases X0.1 h with rfl|h
   ·exact ⟨0,y,rfl,rfl,rfl⟩
   ·obtain ⟨i,x,a,c,b⟩:=wT h
    exact ⟨i+1,x,eo,aa,b⟩
theorem Bs.eng {fn:P2} {Rs:H3->A0->Prop}:oR P (Bs a e) (Bs a e) (kD a.heap.size e) true (A6 P fn Rs):=
 ⟨λ_ h=>h,λW h r d=>by
  obtain ⟨i,x,w,b,c⟩:=wT d
  exact ⟨_,_,by rw [b,c];exact h.1 i x w⟩,λ_ W h=>h.below (Z5 _ _).drew,cG⟩
def fu {P:F0} {w:A0} {bs:List (Array A5 × G3)} {f:Nat} {args:Array A5} {v:A5} (h:∀ W,Bw w W->I5 P f args W λe b=>e=.returned v/\Bw W b):Cv P (Bs w bs):=⟨f,args,v,0,λW a=>(h W a.2).mono λe b k=>⟨k.1,a.below k.2⟩⟩
def wU {P:F0} {w:A0} {bs:List (Array A5 × G3)} {f:Nat} {args:Array A5} {v:A5} (h:∀ W,Bw w W->I5 P f args W λe b=>e=.returned v/\b=W):Cv P (Bs w bs):=⟨f,args,v,0,λW a=>(h W a.2).mono λe b k=>⟨k.1,by rw [k.2];exact a⟩⟩
def lw {P:F0} {S:A0->Prop} {T:G3} {d:M5} (p:S2) (v:A5) (c:P.underlying T=some d) (hd:(match d with | .struct _ | .array _ _=>true | _=>false)=false) (h:∀ W,S W->W.cell? p=some v):Ov P S :=
 ⟨do pure (.value (<- Y2 T (.pointer (some p)))),v,0,λW a=>by
  have b:=h W a
  cases d<;>simp_all [Y2,X9,loadVar,isAgg,underlying,program,load,Sem.run,Bind.bind,Sem.bind,Pure.pure]⟩
def pA {P:F0} {S:A0->Prop} {T E:G3} {a:Option S2} {b o:Nat} (n c:Nat) (k:T0) (i:Int) (f:a=some ⟨b,o,none⟩) (g:0<=i/\i<n) (h:P.underlying T=some (.slice E)) (hz:(P.info? E).map (·.size)=some 1):Ov P S :=
 ⟨do pure (.value (<- Y1 T (.slice a n c) (.int k i))),.p b (o+i.toNat),0,λW j=>by
  subst f
  obtain ⟨info,d,e⟩:=U7.1 hz
  simp [Y1,asIntOf,underlying,program,sizeOf,typeInfo,h,d,e,g,Addr.add,Sem.run,Bind.bind,Sem.bind,Pure.pure]⟩
def jF {P:F0} {S:A0->Prop} (a:∀ {W W'},S W->Bw W W'->S W') {f:Nat} {args:Array A5} {v:A5} (h:∀ W,S W->I5 P f args W λe c=>e=.returned v/\Bw W c):Cv P S:=⟨f,args,v,0,λW b=>(h W b).mono λe c k=>⟨k.1,a b k.2⟩⟩
def Ek {P:F0} {S:A0->Prop} {f:Nat} {args:Array A5} {v:A5} (h:∀ W,S W->I5 P f args W λe b=>e=.returned v/\b=W):Cv P S:=⟨f,args,v,0,λW a=>(h W a).mono λe b k=>⟨k.1,by rw [k.2];exact a⟩⟩
def ed (k:T0) {x y:Int} (h:x=y):Vq:=⟨.int k x,.int k y,0,by rw [h]⟩
def Sj {P:F0} {S:A0->Prop} (k:T0) (x y:Int) (a:y≠0):Ov P S:=⟨do pure (.value (<- Op.intDiv .rem k x y)),.int k (x.tmod y),0,λW _=>by
 simp [Op.intDiv,a]⟩
structure iW (M:MV):Prop where
 x:M.x.length<=1048576
 cs:M.cs.length<=1048576
 ram:M.ram.length<=1048576
 xs:M.d.xs.length<=1048576
 ys:M.d.ys.length<=1048576
structure jy (L:List FRow) (w w':A0):Prop where
 os:w'.os=w.os
 tape:w'.tape=w.tape
 output:w'.output=w.output
 size:w.heap.size<=w'.heap.size
 block:∀ k,k<w.heap.size->(∀ q ∈ L,q.v.ownBlock≠some k)->w'.heap[k]?=w.heap[k]?
theorem jy.trans (h:jy x a J) (k:jy x J t):jy x a t :=
 ⟨k.os.trans h.os,k.tape.trans h.tape,k.output.trans h.output,Nat.le_trans h.size k.size,λi d e=>(k.block i (Nat.lt_of_lt_of_le d h.size) e).trans (h.block i d e)⟩
theorem jy.of_below {L:List FRow} (h:Bw a J):jy L a J:=⟨h.os,h.tape,h.output,h.size,λk w _=>h.block k w⟩
theorem jy.of_grown {q:FRow} (h:a.grownBy J q.v.ownBlock) (c:q ∈ x):jy x a J :=
 ⟨h.os,h.tape,h.output,h.size,λk w b=>h.block k w (λe=>b q c e.symm)⟩
theorem jy.keep (h:jy x a J) (E:bi w n a x):oJ w n a J :=
 ⟨h.os,h.tape,h.output,h.size,λk c g=>h.block k c (λq b e=>by have d:=((E.own q b).lt k e).1;have f:=E.hi q b k e;omega)⟩
def wV (A:MA) (nx a c b no:Nat) (x cs ram xs ys:List Int):List FRow:=[aK A.ax nx A.cx x,aK A.ac a A.cc cs,aI A.ar c A.cr ram,aI A.ai b A.ci xs,aI A.ao no A.co ys]
theorem bi.markL {L1 L2:List FRow} {r:FRow} (h:bi w n a (L1++r::L2)) (E:a.grownBy J r.v.ownBlock) (xs:List A5) (b:J.ownsRow w r.t 1 r.v r.n xs):bi w n J (L1++⟨r.t,r.v,r.n,xs⟩::L2)/\jy (L1++r::L2) a J :=
 ⟨(h.mark E xs b).1,jy.of_grown E bh⟩
