/- Own lemmas. -/
import Derived.Test.YtfekjlcnnjhofaaGreatDoorAut
import Derived.Test.YtfekjlcnnjhofaaGreatDoorK02
import Derived.Deep.RegionHeld3
import Derived.Deep.LoopGhost
namespace Go.Proofs.YtfekjlcnnjhofaaGreatDoor
open Go.RowKit
open Below renaming refl->QA6
open Bool renaming and_eq_true->X3,or_eq_true->X5
open Go renaming World->A5,Value->A6,bodyPost->A8,Program->A9,execOp->C5,TypeId->C6,Oper->D1,ready_mono->D2,Code->D3,Exit->D4,execOp_congr->D8,Calls->F0,wpOp_step->F3,Next->G1,wpOp_mono->H8,wpList_plain->I1,Ending->I2,setRow_heap->I3,YieldsIf->I4,TypeDesc->I5,Operand->K0,Func->K1,wp_region_list->L0,heap_alloc_new->L6,Yields->N1,Addr->O1,bodyPost_ret->P2,IntKind->R4,wpList_step->R5,results_tmp->R6,getD_set_ne->R7
open Instr renaming storeAt->Y9,sureAddr->Z0,alloc->Z5,indexAt->Z6,loadAt->Z7
open List renaming mem_singleton->Y2,map_inj_left->Y3,mem_cons->Y4,cons_ne_nil->Y5,getElem?_eq_some_iff->Y6,mem_map->Y7,range->Y8
open Nat renaming eq_of_beq_eq_true->Z8,beq->Z9,lt_or_ge->QA0,blt->QA1,beq_refl->QA2,sub_zero->QA3,not_lt->QA4,ble->QA5
open Next renaming skip->QA8
open Option renaming map_eq_some_iff->X6
open Prod renaming fst->R8,snd->S2
open Region renaming ready->S5,binds->T3,noSelect->T4,Mode->T5,wanted->T6,free->V4,noSelect_spec->V8,free_spec->X0
open Result renaming andThen->QA9
open Yields renaming yieldsIf->QA7
open _root_.Array renaming getD_eq_getD_getElem?->X7,all_eq_true_iff_forall_mem->X8,getElem?_eq_none->X9,setIfInBounds_comm->Y0,getElem?_setIfInBounds->Y1
set_option linter.unusedVariables false
variable {w n Q g:Nat} {a P:A9} {t o b:A5} {k W S J:A5->Prop} {c:D4->Act->A5->Prop} {f Rs:I2->A5->Prop} {B:K1} {E:Array D1} {L:D1} {d:Act} {j dr:Bool} {m:T5} {p:Array Bool} {q:A6} {s:Array A6} {x T:C6} {K:List FRow} {e:D3} {l:List (Array A6 × C6)} {args:List A6} (r:A5) (y:List (Array A6 × C6)) (z:A5->Prop)
def iu (P:A9) (md:T5) (ops:Array D1) (Q:D4->Act->A5->Prop) (S:A5->Prop) (k:Nat):Nat->Array Bool->Act->A5->Prop
 | 0,listed,a,w=>S5 md ops listed=[]/\Q .normal a w
 | fuel+1,listed,a,w =>
   (S5 md ops listed=[]->Q .normal a w) /\
   ∀ i ∈ S5 md ops listed,wpOp P ops Q i (λc b=>(i≠k->S b/\iu P md ops Q S k fuel (listed.setIfInBounds i true) c b)/\(i=k->wpAny P md ops Q fuel (listed.setIfInBounds i true) c b)) a w
theorem vg {P:A9} {ops:Array D1} {Q:D4->Act->A5->Prop} {md:T5} {S:A5->Prop} {k:Nat}:∀ (fuel:Nat) (listed:Array Bool) (a:Act) (w:A5),iu P md ops Q S k fuel listed a w->wpAny P md ops Q fuel listed a w
 | 0,_,_,_,h=>h
 | fuel+1,_,_,_,h=>⟨h.1,λi d=>H8 (λc f b=>by
  by_cases e:i=k
  ·exact b.2 e
  ·exact vg fuel _ c f (b.1 e).2) (h.2 i d)⟩
def om (md:T5) (ops:Array D1) (k i:Nat):Bool:=(i != k)&&(match ops[k]? with | some a=>a.after.any (λe=>T3 md e&&(e.on==i)) | none=>false)
theorem Eg (h:om m E w Q):Q≠w/\∃ b e,E[w]?=some b/\e ∈ b.after/\T3 m e/\e.on=Q:=by
 unfold om at h;simp only [X3,bne_iff_ne,ne_eq] at h;refine ⟨h.1,?_⟩;have a:=h.2;cases c:E[w]? with
 | none=>rw [c] at a;cases a
 | some b =>rw [c] at a;simp only [Array.any_eq_true,X3,beq_iff_eq] at a;obtain ⟨j,g,d,f⟩:=a;exact ⟨b,_,rfl,Array.getElem_mem g,d,f⟩
def qA (md:T5) (ops:Array D1) (listed:Array Bool):Prop:=∀ j o,ops[j]?=some o->listed.getD j false->∀ e ∈ o.after,T3 md e->listed.getD e.on false
def uz (md:T5) (ops:Array D1) (listed:Array Bool):Bool:=(Y8 listed.size).all λj=>!(listed.getD j false)||(match ops[j]? with | some o=>o.after.all λe=>!(T3 md e)||listed.getD e.on false | none=>true)
theorem BA (h:uz m E p):qA m E p:=by
 intro j o k d e g f;unfold uz at h;rw [List.all_eq_true] at h;have i:j<p.size:=by
  rcases QA0 j p.size with a|a;·exact a
  ·simp [Array.getD,QA4.2 a] at d
 have b:=h j (List.mem_range.2 i);rw [d,k] at b;simp only [Bool.not_true,Bool.false_or,Array.all_eq_true] at b;obtain ⟨x,l,rfl⟩:=Array.getElem_of_mem g;have c:=b x l;rw [f] at c;simpa using c
def rR (md:T5) (ops:Array D1) (i:Nat):Nat->Nat->Bool
 | 0,_=>false
 | f+1,k=>om md ops k i||(Y8 ops.size).any λj=>om md ops k j&&rR md ops i f j
theorem tf {ops:Array D1} {md:T5} {i:Nat} {listed:Array Bool} (o:qA md ops listed):∀ f k,rR md ops i f k->(listed.getD k false\/k ∈ S5 md ops listed)->listed.getD i false
 | 0,_,h,_=>ni
 | f+1,k,h,g=>by
   have a:∀ j,om md ops k j->listed.getD j false:=by
    intro j d
    obtain ⟨_,r,e,q,p,n,c⟩:=Eg d
    rcases g with g|g
    ·have:=o k r q g e p n
     rw [c] at this;exact this
    ·obtain ⟨_,s,l,b⟩:=mem_ready.1 g
     rw [q] at l
     cases l
     have m:=b e p n
     rw [c] at m
     exact m
   unfold rR at h
   rw [X5] at h
   rcases h with h|h
   ·exact a i h
   ·rw [List.any_eq_true] at h
    obtain ⟨j,_,d⟩:=h
    rw [X3] at d
    exact tf o f j d.2 (Or.inl (a j d.1))
theorem oq (h:p.getD w false):(p.setIfInBounds n true).getD w false:=by
 simp only [X7,Y1] at h ⊢;split
 ·split;·rfl
  ·rename_i a b;subst a;simp [X9 (QA4.1 b)] at h
 ·exact h
theorem Eh (i:qA m E p) {j:Nat} (k:j ∈ S5 m E p):qA m E (p.setIfInBounds j true):=by
 intro x o g c e f d;by_cases h:x=j;·subst h;obtain ⟨_,l,b,a⟩:=mem_ready.1 k;rw [g] at b;cases b;exact oq (a e f d)
 ·refine oq (i x o g ?_ e f d);simp only [X7,Y1] at c ⊢;rw [JZ9 (Ne.symm h)] at c;exact c
theorem xx (M:E[n]?=some L) (r:∀ (j:Nat) (o:D1) z b,E[j]?=some o->o.op≠.select z b) (U:∀ Q P S,c (.panic Q) (P.put L.dst q) S->c (.panic Q) P S) (ops:n≠w) (f:Nat) (hk:rR m E n f w): ∀ (fuel:Nat) (listed:Array Bool) (P:Act) (S:A5),qA m E listed -> (∀ j x,E[j]?=some x->j≠n->listed.getD j true=false->(∀ e ∈ x.after,T3 m e->e.on≠n)->L.apart E x) -> n ∈ S5 m E listed->I4 a E k L q P->k S -> iu a m E c k w fuel (listed.setIfInBounds n true) (P.put L.dst q) S->iu a m E c k w (fuel+1) listed P S:=by
 intro fuel;induction fuel with
 | zero =>
   intro listed P S _ _ v K B H;refine ⟨λh=>(by rw [h] at v;cases v),λj y=>?_⟩;by_cases d:j=n;·subst d;exact K.wpOp M B ⟨λ_=>⟨B,H⟩,λe=>absurd e ops⟩
   ·have:=D2 y d;rw [H.1] at this;cases this
 | succ fuel X =>
   intro listed P S D md v K B H;refine ⟨λh=>(by rw [h] at v;cases v),λj y=>?_⟩;by_cases d:j=n;·subst d;exact K.wpOp M B ⟨λ_=>⟨B,H⟩,λe=>absurd e ops⟩
   ·have l:=H.2 j (D2 y d);obtain ⟨p,x,t,C⟩:=mem_ready.1 y;have F:∀ e ∈ x.after,T3 m e->e.on≠n:=λe W V u=>by
     have l:=C e W V;have A:=(mem_ready.1 v).1;rw [u] at l;rcases QA0 n listed.size with s|s;·simp [s] at A l;rw [A] at l;cases l
     ·simp [X9 s] at l
    have g:j≠w:=by
     rintro rfl;have l:=tf D f j hk (Or.inr y);have A:=(mem_ready.1 v).1;rcases QA0 n listed.size with s|s;·simp [s] at A l;rw [A] at l;cases l
     ·simp [X9 s] at l
    have T:=wpOp_putIf t (md j x t d p F) (λz b=>r n L z b M) (λz b=>r j x z b t) U K l;have i:∀ w I,E[w]?=some I->w≠n->(listed.setIfInBounds j true).getD w true=false ->
     (∀ e ∈ I.after,T3 m e->e.on≠n)->L.apart E I:=λw I hk N G O=>by
     refine md w I hk N ?_ O
     by_cases g:j=w
     ·subst g;exact p
     ·rw [R7 true g] at G;exact G
    refine H8 (λR Y J=>⟨λ_=>⟨(J.2.1 g).1,X (listed.setIfInBounds j true) R Y (Eh D y) i (D2 v (Ne.symm d)) J.1 (J.2.1 g).1 ?_⟩,λe=>absurd e g⟩) T;rw [Y0 _ _ d];exact (J.2.1 g).2
theorem zv (f:E[n]?=some L) (hs:T4 E) (j:V4 m E p n) (hr:(S5 m E p).contains n) (e:n≠w) (hk:rR m E n 6 w) (v:uz m E p) (g:∀ ops d t,c (.panic ops) (d.put L.dst q) t->c (.panic ops) d t) (hy:I4 a E k L q d) (hS:k t) (h:iu a m E c k w Q (p.setIfInBounds n true) (d.put L.dst q) t):iu a m E c k w (Q+1) p d t :=
 xx f (V8 hs) g e 6 hk Q p d t (BA v) (X0 f j) (by simpa using hr) hy hS h
theorem ot (h:I4 a E (λ_=>True) L q d):N1 a E L q d :=
 h.imp (λ⟨c,b⟩=>⟨c,λw=>b w trivial⟩) id
theorem xy (D:E[n]?=some L) (md:∀ (j:Nat) (o:D1) x b,E[j]?=some o->o.op≠.select x b) (T:∀ Q P S,c (.panic Q) (P.put L.dst q) S->c (.panic Q) P S) (z:n≠w): ∀ (fuel:Nat) (listed:Array Bool) (P:Act) (S:A5), (∀ j u,E[j]?=some u->j≠n->listed.getD j true=false->(∀ e ∈ u.after,T3 m e->e.on≠n)->L.apart E u) -> n ∈ S5 m E listed->N1 a E L q P->k S -> iu a m E c k w fuel (listed.setIfInBounds n true) (P.put L.dst q) S->iu a m E c k w (fuel+1) listed P S:=by
 intro fuel;induction fuel with
 | zero =>
   intro listed P S _ p F J H;refine ⟨λh=>(by rw [h] at p;cases p),λj ops=>?_⟩;by_cases d:j=n;·subst d;exact (QA7 (S:=λ_=>True) F).wpOp D trivial ⟨λ_=>⟨J,H⟩,λe=>absurd e z⟩
   ·have:=D2 ops d;rw [H.1] at this;cases this
 | succ fuel X =>
   intro listed P S l p F J H;refine ⟨λh=>(by rw [h] at p;cases p),λj ops=>?_⟩;by_cases d:j=n;·subst d;exact (QA7 (S:=λ_=>True) F).wpOp D trivial ⟨λ_=>⟨J,H⟩,λe=>absurd e z⟩
   ·have v:=H.2 j (D2 ops d);obtain ⟨i,u,s,y⟩:=mem_ready.1 ops;have A:∀ e ∈ u.after,T3 m e->e.on≠n:=λe V U K=>by
     have v:=y e V U;have O:=(mem_ready.1 p).1;rw [K] at v;rcases QA0 n listed.size with I|I;·simp [I] at O v;rw [O] at v;cases v
     ·simp [X9 I] at v
    have R:=wpOp_putIf (S:=λ_=>True) s (l j u s d i A) (λx b=>md n L x b D) (λx b=>md j u x b s) T (QA7 F) v;have g:∀ w C,E[w]?=some C->w≠n->(listed.setIfInBounds j true).getD w true=false ->
     (∀ e ∈ C.after,T3 m e->e.on≠n)->L.apart E C:=λw C W t B M=>by
     refine l w C W t ?_ M
     by_cases f:j=w
     ·subst f;exact i
     ·rw [R7 true f] at B;exact B
    by_cases f:j=w;·refine H8 (λG N r=>⟨λe=>absurd f e,λ_=>?_⟩) R;refine wpAny_first D md T fuel (listed.setIfInBounds j true) G N g (D2 p (Ne.symm d)) (ot r.1) ?_;rw [Y0 _ _ d];exact r.2.2 f
    ·refine H8 (λG N r=>⟨λ_=>⟨(r.2.1 f).1,X (listed.setIfInBounds j true) G N g (D2 p (Ne.symm d)) (ot r.1) (r.2.1 f).1 ?_⟩,λe=>absurd e f⟩) R;rw [Y0 _ _ d];exact (r.2.1 f).2
theorem zw (v:E[n]?=some L) (hs:T4 E) (f:V4 m E p n) (hr:(S5 m E p).contains n) (hk:n≠w) (e:∀ ops d t,c (.panic ops) (d.put L.dst q) t->c (.panic ops) d t) (hy:N1 a E L q d) (hS:k t) (h:iu a m E c k w Q (p.setIfInBounds n true) (d.put L.dst q) t):iu a m E c k w (Q+1) p d t :=
 xy v (V8 hs) e hk Q p d t (X0 v f) (by simpa using hr) hy hS h
theorem Ei (md:E[n]?=some L) (hr:S5 m E p=[n]) (hk:n≠w) (h:∀ b:Act->A5->Prop,Shut (∀ d t,k t->(k t->iu a m E c k w Q (p.setIfInBounds n true) d t)->b d t)->if T6 L (yielded E d.tmps)=true then Oper.wp a L d t b c else b (d.put L.dst undef) t): iu a m E c k w (Q+1) p d t:=by refine ⟨λf=>absurd (hr.symm.trans f) (Y5 _ _),λj o=>?_⟩;rw [hr] at o;obtain rfl:=Y2.1 o;exact F3 md (λb g=>h b (λd t ops l=>g d t ⟨λ_=>⟨ops,l ops⟩,λe=>absurd e hk⟩))
theorem Ek (i:E[w]?=some L) (hr:S5 m E p=[w]) (h:∀ b:Act->A5->Prop,Shut (∀ d t,wpAny a m E c n (p.setIfInBounds w true) d t->b d t)->if T6 L (yielded E d.tmps)=true then Oper.wp a L d t b c else b (d.put L.dst undef) t): iu a m E c k w (n+1) p d t:=by refine ⟨λo=>absurd (hr.symm.trans o) (Y5 _ _),λj ops=>?_⟩;rw [hr] at ops;obtain rfl:=Y2.1 ops;exact F3 i (λb f=>h b (λd t g=>f d t ⟨λe=>absurd rfl e,λ_=>g⟩))
theorem Jb (e:E[w]?=some L) (hr:S5 m E p=[w]) (h:∀ b:Act->A5->Prop,Shut (∀ d t,wpAny a m E c n (p.setIfInBounds w true) d t->b d t)->if T6 L (yielded E d.tmps)=true then Oper.wp a L d t b c else b (d.put L.dst undef) t): wpAny a m E c (n+1) p d t:=by refine ⟨λo=>absurd (hr.symm.trans o) (Y5 _ _),λj ops=>?_⟩;rw [hr] at ops;obtain rfl:=Y2.1 ops;exact F3 e h
theorem gi {p:Prop} (h:j=false) (hb:j):p:=by rw [h] at hb;cases hb
structure Rw where
 b:Nat
 cs:Array A6
 tg:List (Nat × Nat)
abbrev Fr:=List (Nat × A6 × Nat)
def lk {α:Type}:List (Nat × α)->Nat->Option α
 | [],_=>none
 | (t,x)::F,s=>match Z9 t s with
   | true=>some x
   | false=>lk F s
def ev (F:Fr):K0->A6
 | .tmp t=>match lk F t with
   | some x=>x.1
   | none=>undef
 | .const v=>v
 | .global g=>.p g 0
 | .func f=>.func (.func f) #[] #[]
def La (F:Fr):K0->Nat
 | .tmp t=>match lk F t with
   | some x=>x.2
   | none=>0
 | _=>0
def kn (F:Fr):K0->Bool
 | .tmp t=>(lk F t).isSome
 | _=>true
structure bU (F:Fr) (n:Nat) (a:Act):Prop where
 size:a.tmps.size=n
 nod:a.defers=[]
 at_:∀ t x,lk F t=some x->a.tmps[t]?=some x.1
theorem bU.eval {F:Fr} {n:Nat} {a:Act} (h:bU F n a) {x:K0} (hx:kn F x):a.eval x=ev F x:=by
 cases x with
 | tmp t =>simp only [kn,Option.isSome_iff_exists] at hx;obtain ⟨y,b⟩:=hx;have:=h.at_ t y b;simp [Act.eval,ev,b,X7,this]
 | const v=>rfl
 | global g=>rfl
 | func f=>rfl
theorem bU.put {F:Fr} {n:Nat} {a:Act} (h:bU F n a) {d:Nat} (hd:QA1 d n) (v:A6) (g:Nat):bU ((d,v,g)::F) n (a.put (some d) v):=by
 have i:d<n:=Nat.lt_of_succ_le (by simpa [QA1] using hd);refine ⟨by simp [Act.put,h.size],h.nod,λt x f=>?_⟩;unfold lk at f;have j:=h.size;cases c:Z9 d t with
 | true =>rw [c] at f;have b:d=t:=Z8 c;subst b;cases f;simp [Act.put,j,i]
 | false =>
   rw [c] at f;have b:d≠t:=λe=>by rw [e,QA2] at c;cases c
   have:=h.at_ t x f;simp only [Act.put];rw [Array.getElem?_setIfInBounds_ne b];exact this
def xz {α:Type} (P:A9) (r:Option Rw):Sem α->Option (α × List (O1 × O1))
 | .pure a=>some (a,[])
 | .load _ a k=>match r with
   | none=>none
   | some r=>match r.cs[a.off]? with
     | none=>none
     | some v=>match xz P (some r) (k v) with
       | none=>none
       | some x=>some (x.1,(a,⟨r.b,a.off,none⟩)::x.2)
 | .program k=>xz P r (k P)
 | .mark _ k=>xz P r k
 | _=>none
def pT (r:Rw) (w:A5):Prop:=∃ t a,w.heap[r.b]?=some (.cells r.cs t a)
theorem GC {α:Type} {r:Option Rw} (hr:∀ j,r=some j->pT j t):∀ (s:Sem α) (x:α) (b:List (O1 × O1)),xz a r s=some (x,b)->(∀ e ∈ b,e.1=e.2)->s.run a t=.ok x t:=by
 intro s;induction s with
 | pure P=>intro x b h _;simp only [xz,Option.some.injEq,Prod.mk.injEq] at h;rw [h.1];rfl
 | load m P k f =>
   intro x b h c;unfold xz at h;cases r with
   | none=>cases h
   | some r =>
     dsimp only at h;cases i:r.cs[P.off]? with
     | none=>rw [i] at h;cases h
     | some v =>
       rw [i] at h;dsimp only at h;cases g:xz a (some r) (k v) with
       | none=>rw [g] at h;cases h
       | some y =>rw [g] at h;simp only [Option.some.injEq,Prod.mk.injEq] at h;obtain ⟨l,n⟩:=h;subst n;have o:P=⟨r.b,P.off,none⟩:=c (P,⟨r.b,P.off,none⟩) di;obtain ⟨w,q,d⟩:=hr r rfl;have p:t.cell? P=some v:=(by rw [o];simp only [World.cell?,d];simpa using i);have:=f v x y.2 (by rw [g,<- l]) (λe h=>c e (by simp [h]));simp only [Sem.run,p];exact this
 | program k f=>intro x b h c;exact f a x b h c
 | mark m k f=>intro x b h c;exact f x b h c
 | store=>intro x b h;cases h
 | new=>intro x b h;cases h
 | shape=>intro x b h;cases h
 | freeze=>intro x b h;cases h
 | frozen=>intro x b h;cases h
 | getObj=>intro x b h;cases h
 | setObj=>intro x b h;cases h
 | choose=>intro x b h;cases h
 | sys=>intro x b h;cases h
 | halt=>intro x b h;cases h
structure Ov (P:A9) (S:A5->Prop) where
 s:Sem G1
 v:A6
 t:Nat
 h:∀ w,S w->s.run P w=.ok (.value v) w
structure Cv (P:A9) (S:A5->Prop) where
 f:Nat
 args:Array A6
 v:A6
 t:Nat
 h:∀ w,S w->F0 P f args w λe w'=>e=.returned v/\S w'
structure Vq where
 u:A6
 v:A6
 t:Nat
 h:u=v
inductive Oe where
 | a (x:O1)
 | v (x:A6)
 | s (x:Sem G1)
 | c (f:Nat) (args:Array A6)
def wn (ops:Array D1) (F:Fr) (o:D1):Option Bool :=
 match o.guard with
 | none=>some true
 | some (j,want)=>match ops[j]? with
   | none=>none
   | some a=>match a.dst with
     | none=>none
     | some d=>match lk F d with
       | none=>none
       | some x=>match x.1 with
         | .bool b=>some (b==want)
         | _=>some false
theorem kV {F:Fr} (h:bU F w d) (c:wn E F L=some j):T6 L (yielded E d.tmps)=j:=by
 unfold wn at c;unfold T6;cases i:L.guard with
 | none=>rw [i] at c;simpa using c
 | some g =>
   obtain ⟨b,l⟩:=g;rw [i] at c;dsimp only at c ⊢;unfold yielded;cases k:E[b]? with
   | none=>rw [k] at c;cases c
   | some m =>
     rw [k] at c;dsimp only at c;cases e:m.dst with
     | none=>rw [e] at c;cases c
     | some a =>
       rw [e] at c;dsimp only at c;cases f:lk F a with
       | none=>rw [f] at c;cases c
       | some x =>rw [f] at c;dsimp only at c;have:=h.at_ a x f;simp only [Option.bind_some,e,this];obtain ⟨v,g⟩:=x;dsimp only at c ⊢;cases v<;>simp_all
def vh (R:List Rw) (F:Fr):Op->Option Rw
 | .load _ x=>match La F x with
   | 0=>none
   | k+1=>R[k]?
 | _=>none
def Uh (R:List Rw) (F:Fr):Op->Nat
 | .move x=>La F x
 | .assign x=>La F x
 | .nilCheck x=>La F x
 | .fieldAddr _ x _=>La F x
 | .pick c x y=>match ev F c with
   | .bool true=>La F x
   | _=>La F y
 | .load _ x=>match La F x with
   | 0=>0
   | k+1=>match R[k]?,ev F x with
     | some r,.pointer (some p)=>(lk r.tg p.off).getD 0
     | _,_=>0
 | _=>0
def Vz:Op->Bool
 | .alloc _ | .box _ _ | .build _ _ | .buildSlice _ _ _ | .insert _ _ _ _ | .store _ _ _ | .ready _ | .waits _ | .makeFunc _ _ _ | .makeMap _ _ | .makeChan _ _ | .makeSlice _ _ _
 | .mapUpdate _ _ _ _ | .mapEntry _ _ _ | .entryStore _ _ _ _ | .range _ _ | .next _ _ | .entry _ | .go _ | .defer _ | .panic _ | .send _ _ | .recv _ _ _ | .select _ _=>true
 | .call c=>match c.callee with
   | .builtin .len=>false
   | _=>true
 | _=>false
def BC:Op->Bool
 | .select _ _=>false
 | _=>true
def pl (P:A9) (f:Nat):Bool:=match P.funcs[f]? with
 | some fn=>match fn.body with
   | some _=>!(fn.name == "runtime.NumGoroutine")
   | none=>false
 | none=>false
theorem Ui {P:A9} (h:pl P w) (args:Array A6) (f:A5):(callFunc w args).run P f=.ok (.enter w args) f:=by
 unfold pl at h;cases b:P.funcs[w]? with
 | none=>rw [b] at h;cases h
 | some fn =>
   rw [b] at h;dsimp only at h;cases a:fn.body with
   | none=>rw [a] at h;cases h
   | some c =>rw [a] at h;have d:fn.name≠ "runtime.NumGoroutine":=et;simp [callFunc,b,d,a,mark]
def Lb (P:A9) {S:A5->Prop} (R:List Rw) (ov:List (Nat × Ov P S)) (eq:List (Nat × Vq)) (F:Fr) (o:D1):Option (A6 × Nat × List (Oe × Oe)):=
 match o.op.operands.all (kn F)&&BC o.op with
 | false=>none
 | true=>match o.dst.bind (lk ov) with
   | some e=>some (e.v,e.t,[(.s (C5 (ev F) o),.s e.s)])
   | none=>match xz P (vh R F o.op) (C5 (ev F) o) with
     | some (.value v,es)=>match o.dst.bind (lk eq) with
       | some e=>some (e.v,e.t,(.v v,.v e.u)::es.map λe=>(.a e.1,.a e.2))
       | none=>some (v,Uh R F o.op,es.map λe=>(.a e.1,.a e.2))
     | _=>none
theorem El {R:List Rw} {ov:List (Nat × Ov a S)} {eq:List (Nat × Vq)} {F:Fr} {es:List (Oe × Oe)} (hk:bU F w d) (h:Lb a R ov eq F L=some (q,Q,es)) (he:∀ e ∈ es,e.1=e.2) (E:∀ P,S P->∀ r ∈ R,pT r P): (∀ P,S P->(C5 d.eval L).run a P=.ok (.value q) P)/\∀ m b,L.op≠.select m b:=by
 unfold Lb at h;cases j:L.op.operands.all (kn F)&&BC L.op with
 | false=>rw [j] at h;cases h
 | true =>
   rw [j] at h;dsimp only at h;rw [X3] at j;have C:∀ m b,L.op≠.select m b:=λm b e=>by have:=j.2;rw [e] at this;cases this
   have p:C5 d.eval L=C5 (ev F) L:=D8 L C λx G=>hk.eval (X8.1 j.1 x G);refine ⟨λP B=>?_,C⟩;rw [p];cases l:L.dst.bind (lk ov) with
   | some e =>rw [l] at h;simp only [Option.some.injEq,Prod.mk.injEq] at h;obtain ⟨g,A,i⟩:=h;subst i;have:=he (.s (C5 (ev F) L),.s e.s) di;simp only [Oe.s.injEq] at this;rw [this,<- g];exact e.h P B
   | none =>
     rw [l] at h;dsimp only at h;cases z:xz a (vh R F L.op) (C5 (ev F) L) with
     | none=>rw [z] at h;cases h
     | some y =>
       obtain ⟨H,f⟩:=y;rw [z] at h;cases H with
       | value u =>
         dsimp only at h;have key:(∀ e ∈ f,e.1=e.2)->Sem.run a (C5 (ev F) L) P=.ok (.value u) P:=λv=>by
          refine GC (λI t=>?_) _ _ f z v;refine E P B I ?_;unfold vh at t;split at t
          ·split at t;·cases t
           ·exact List.mem_of_getElem? t
          ·cases t
         cases k:L.dst.bind (lk eq) with
         | some e =>rw [k] at h;simp only [Option.some.injEq,Prod.mk.injEq] at h;obtain ⟨g,A,i⟩:=h;subst i;have D:=he (.v u,.v e.u) di;simp only [Oe.v.injEq] at D;rw [key λc s=>by have:=he (.a c.1,.a c.2) (by simp only [Y4,Y7];exact .inr ⟨c,s,rfl⟩);simpa using this,<- g,<- e.h,D]
         | none =>rw [k] at h;simp only [Option.some.injEq,Prod.mk.injEq] at h;obtain ⟨g,A,i⟩:=h;subst i;rw [key λc s=>by have:=he (.a c.1,.a c.2) (Y7.2 ⟨c,s,rfl⟩);simpa using this,<- g]
       | _=>cases h
def rS (P:A9) (F:Fr) (o:D1):Option (Nat × Array A6):=
 match o.op.operands.all (kn F) with
 | false=>none
 | true=>match o.op with
   | .call c=>match c.callee with
     | .value x=>match ev F x with
       | .func (.func f) first cap=>match pl P f with
         | true=>some (f,first++c.args.map (ev F)++cap)
         | false=>none
       | _=>none
     | _=>none
   | _=>none
theorem po {F:Fr} {P:Act} (hk:bU F n P) (h:rS a F L=some (w,s)) (f:A5):(C5 P.eval L).run a f=.ok (.enter w s) f:=by
 unfold rS at h;cases k:L.op.operands.all (kn F) with
 | false=>rw [k] at h;cases h
 | true =>
   rw [k] at h;dsimp only at h;cases d:L.op with
   | call c =>
     have r:∀ p b,L.op≠.select p b:=λp b e=>by rw [d] at e;cases e
     have l:C5 P.eval L=C5 (ev F) L:=D8 L r λx j=>hk.eval (X8.1 k x j);rw [l];rw [d] at h;dsimp only at h;cases i:c.callee with
     | value x =>
       rw [i] at h;dsimp only at h;cases j:ev F x with
       | func fn g cap =>
         rw [j] at h;cases fn with
         | func q =>
           dsimp only at h;cases m:pl a q with
           | false=>rw [m] at h;cases h
           | true =>
             rw [m] at h;simp only [Option.some.injEq,Prod.mk.injEq] at h;obtain ⟨rfl,rfl⟩:=h;have:C5 (ev F) L=callFunc q (g++c.args.map (ev F)++cap):=by unfold C5;rw [d];simp only [resolve,i,j,Deferred.ofValue];rfl
             rw [this];exact Ui m _ _
         | _=>cases h
       | _=>rw [j] at h;cases h
     | _=>rw [i] at h;cases h
   | _=>rw [d] at h;cases h
inductive KI where
 | code (c:D3)
 | blk (id:Nat)
 | ops (all:Array D1) (rest:List D1)
 | sq (all:Array D1) (fuel:Nat) (listed:Array Bool)
 | fin (R:Act->A5->Prop)
 | sk (all:Array D1) (kk:Nat) (fuel:Nat) (listed:Array Bool)
 | sw (all:Array D1) (fuel:Nat) (listed:Array Bool)
def iY (P:A9) (S:A5->Prop) (Q:D4->Act->A5->Prop):List KI->D4->Act->A5->Prop
 | []=>Q
 | .code c::k=>Exit.then (λa w=>c.wp P (iY P S Q k) a w) (iY P S Q k)
 | .ops all rest::k=>Exit.then (wpList P all (iY P S Q k) rest) (iY P S Q k)
 | .blk id::k=>Exit.inBlock id (iY P S Q k)
 | .sq all fuel listed::k=>Exit.then (wpAnyH P .any all (iY P S Q k) S fuel listed) (iY P S Q k)
 | .fin R::k=>Exit.then R (iY P S Q k)
 | .sk all kk fuel listed::k=>Exit.then (iu P .any all (iY P S Q k) S kk fuel listed) (iY P S Q k)
 | .sw all fuel listed::k=>Exit.then (wpAny P .any all (iY P S Q k) fuel listed) (iY P S Q k)
theorem lB {P:A9} {S:A5->Prop} {Q:D4->Act->A5->Prop} {c:List PanicEntry} {a:Act} {w:A5}:∀ k:List KI,iY P S Q k (.panic c) a w=Q (.panic c) a w
 | []=>rfl
 | .code _::k | .ops _ _::k | .blk _::k | .sq _ _ _::k | .fin _::k | .sk _ _ _ _::k | .sw _ _ _::k=>lB k
theorem zx {P:A9} {S:A5->Prop} {Q:D4->Act->A5->Prop} {a:Act} {w:A5}:∀ k:List KI,iY P S Q k .ret a w=Q .ret a w
 | []=>rfl
 | .code _::k | .ops _ _::k | .blk _::k | .sq _ _ _::k | .fin _::k | .sk _ _ _ _::k | .sw _ _ _::k=>zx k
def pU (id:Nat):List KI->Option (List KI)
 | []=>none
 | .blk i::k=>match Z9 id i with
   | true=>some k
   | false=>pU id k
 | .code _::k=>pU id k
 | .ops _ _::k=>pU id k
 | .sq _ _ _::k=>pU id k
 | .fin _::k=>pU id k
 | .sk _ _ _ _::k=>pU id k
 | .sw _ _ _::k=>pU id k
theorem kz {P:A9} {S:A5->Prop} {Q:D4->Act->A5->Prop} {id:Nat} {a:Act} {w:A5}:∀ {k b:List KI},pU id k=some b->iY P S Q b .normal a w->iY P S Q k (.exit id) a w
 | [],_,h,_=>ni
 | .blk i::k,b,h,hd=>by
   unfold pU at h
   show Exit.inBlock i (iY P S Q k) (.exit id) a w
   unfold Exit.inBlock
   cases c:Z9 id i with
   | true =>
     rw [c] at h
     cases h
     have:id=i:=Z8 c
     simp only [this,if_true]
     exact hd
   | false =>
     rw [c] at h
     have:id≠i:=λe=>by rw [e,QA2] at c;cases c
     simp only [this,if_false]
     exact kz (k:=k) h hd
 | .code _::k,b,h,hd=>kz (k:=k) h hd
 | .ops _ _::k,b,h,hd=>kz (k:=k) h hd
 | .sq _ _ _::k,b,h,hd=>kz (k:=k) h hd
 | .fin _::k,b,h,hd=>kz (k:=k) h hd
 | .sk _ _ _ _::k,b,h,hd=>kz (k:=k) h hd
 | .sw _ _ _::k,b,h,hd=>kz (k:=k) h hd
structure Hn (P:A9) (S J:A5->Prop) where
 eq:List (Nat × Vq):=[]
 ov:List (Nat × Ov P S):=[]
 cv:List (Nat × Cv P J):=[]
def rT (n:Nat) (F:Fr) (v:A6) (t:Nat):Option Nat->Option Fr
 | none=>some F
 | some d=>match QA1 d n with
   | true=>some ((d,v,t)::F)
   | false=>none
theorem kh {F c:Fr} {a:Option Nat} (h:rT w F q Q a=some c) (hk:bU F w d):bU c w (d.put a q):=by
 cases a with
 | none=>cases h;exact hk
 | some a =>
   dsimp only [rT] at h;cases b:QA1 a w with
   | false=>rw [b] at h;cases h
   | true=>rw [b] at h;cases h;exact hk.put b q Q
def qv (P:A9) {S J:A5->Prop} (R:List Rw) (H:Hn P S J) (all:Array D1) (F:Fr) (o:D1):Option (A6 × Nat × List (Oe × Oe)):=
 match wn all F o with
 | none=>none
 | some false=>some (undef,0,[])
 | some true=>Lb P R H.ov H.eq F o
theorem Lc {R:List Rw} {H:Hn a k W} {F:Fr} {es:List (Oe × Oe)} (hk:bU F w d) (h:qv a R H E F L=some (q,Q,es)) (he:∀ e ∈ es,e.1=e.2) (t:∀ all,k all->∀ r ∈ R,pT r all):I4 a E k L q d:=by
 unfold qv at h;cases c:wn E F L with
 | none=>rw [c] at h;cases h
 | some b =>
   rw [c] at h;cases b with
   | false=>simp only [Option.some.injEq,Prod.mk.injEq] at h;exact .inr ⟨kV hk c,h.1.symm⟩
   | true=>exact .inl ⟨kV hk c,(El hk h he t).1⟩
def Ld (P:A9) {S J:A5->Prop} (R:List Rw) (H:Hn P S J) (n:Nat) (all:Array D1) (F:Fr) (o:D1):Option (Fr × List (Oe × Oe)):=
 match qv P R H all F o with
 | some (v,t,es)=>match rT n F v t o.dst with
   | some a=>some (a,es)
   | none=>none
 | none=>match wn all F o,rS P F o,o.dst.bind (lk H.cv) with
   | some true,some (f,args),some e=>match rT n F e.v e.t o.dst with
     | some a=>some (a,[(.c f args,.c e.f e.args)])
     | none=>none
   | _,_,_=>none
theorem GD {R:List Rw} {H:Hn a k W} {F q:Fr} {es:List (Oe × Oe)} {K:Act->A5->Prop} {Q:D4->Act->A5->Prop} (hk:bU F w d) (hS:W o) (B:∀ o,W o->k o) (h:Ld a R H w E F L=some (q,es)) (he:∀ e ∈ es,e.1=e.2) (C:∀ o,k o->∀ r ∈ R,pT r o) (j:∀ d o,bU q w d->W o->K d o): if T6 L (yielded E d.tmps)=true then L.wp a d o K Q else K (d.put L.dst undef) o:=by
 unfold Ld at h;cases m:qv a R H E F L with
 | some y =>
   obtain ⟨v,t,z⟩:=y;rw [m] at h;dsimp only at h;cases c:rT w F v t L.dst with
   | none=>rw [c] at h;cases h
   | some u =>
     rw [c] at h;simp only [Option.some.injEq,Prod.mk.injEq] at h;obtain ⟨rfl,rfl⟩:=h;rcases Lc hk m he C with ⟨g,i⟩|⟨g,i⟩;·rw [JZ8 g];show L.upon a d K Q _;rw [i o (B o hS)];exact j _ _ (kh c hk) hS
     ·subst i;rw [g,JZ9 bc];exact j _ _ (kh c hk) hS
 | none =>
   rw [m] at h;dsimp only at h;cases p:wn E F L with
   | none=>rw [p] at h;cases h
   | some b =>
     rw [p] at h;cases b with
     | false=>cases h
     | true =>
       cases l:rS a F L with
       | none=>rw [l] at h;cases h
       | some A =>
         obtain ⟨f,args⟩:=A;rw [l] at h;cases s:L.dst.bind (lk H.cv) with
         | none=>rw [s] at h;cases h
         | some e =>
           rw [s] at h;dsimp only at h;cases c:rT w F e.v e.t L.dst with
           | none=>rw [c] at h;cases h
           | some u =>rw [c] at h;simp only [Option.some.injEq,Prod.mk.injEq] at h;obtain ⟨rfl,rfl⟩:=h;have n:=he (.c f args,.c e.f e.args) di;simp only [Oe.c.injEq] at n;rw [JZ8 (kV hk p)];show L.upon a d K Q _;rw [po hk l o,n.1,n.2];refine (e.h o hS).mono λx J D=>?_;obtain ⟨rfl,P⟩:=D;exact j _ _ (kh c hk) P
inductive Sr where
 | go (k:List KI) (F:Fr) (es:List (Oe × Oe))
 | ret
 | stop
def qB (all:Array D1) (listed:Array Bool):List Nat->Option Nat
 | []=>none
 | i::is=>match (match all[i]? with | some o=>!Vz o.op | none=>false)&&V4 .any all listed i with
   | true=>some i
   | false=>qB all listed is
theorem ou {all:Array D1} {listed:Array Bool} {i:Nat}:∀ {l:List Nat},qB all listed l=some i->i ∈ l/\V4 .any all listed i
 | [],h=>ni
 | j::is,h=>by
   unfold qB at h
   split at h
   ·rename_i a
    rw [X3] at a
    cases h
    exact ⟨di,a.2⟩
   ·have:=ou (l:=is) h
    exact ⟨by simp [this.1],this.2⟩
def zy (P:A9) {S J:A5->Prop} (R:List Rw) (H:Hn P S J) (n:Nat) (all:Array D1) (fuel:Nat) (listed:Array Bool) (k:List KI) (F:Fr):Sr :=
 match T4 all with
 | false=>.stop
 | true=>match S5 .any all listed with
   | []=>.go k F []
   | i::is=>match fuel with
     | 0=>.stop
     | fuel+1=>match qB all listed (i::is) with
       | some j=>match all[j]? with
         | none=>.stop
         | some o=>match qv P R H all F o with
           | none=>.stop
           | some (v,t,es)=>match rT n F v t o.dst with
             | none=>.stop
             | some a=>.go (.sq all fuel (listed.setIfInBounds j true)::k) a es
       | none=>match is with
         | []=>match all[i]? with
           | none=>.stop
           | some o=>match Ld P R H n all F o with
             | none=>.stop
             | some (a,es)=>.go (.sq all fuel (listed.setIfInBounds i true)::k) a es
         | _::_=>.stop
def GE {P:A9} {S J:A5->Prop} (H:Hn P S J) (all:Array D1) (F:Fr) (o:D1):Bool:=match wn all F o with
 | some false=>true
 | _=>(match o.dst.bind (lk H.ov) with | some _=>false | none=>true)&&(match o.op with | .load _ _=>false | _=>true)
theorem GF {R:List Rw} {H:Hn a k W} {F:Fr} {P:Act} {es:List (Oe × Oe)} (hk:bU F w P) (h:qv a R H E F L=some (q,Q,es)) (he:∀ e ∈ es,e.1=e.2) (c:GE H E F L):N1 a E L q P:=by
 unfold qv at h;unfold GE at c;cases d:wn E F L with
 | none=>rw [d] at h;cases h
 | some b =>
   rw [d] at h c;cases b with
   | false=>simp only [Option.some.injEq,Prod.mk.injEq] at h;exact .inr ⟨kV hk d,h.1.symm⟩
   | true =>
     dsimp only at h c;rw [X3] at c;have l:L.dst.bind (lk H.ov)=none:=by
      cases s:L.dst.bind (lk H.ov) with
      | none=>rfl
      | some x=>rw [s] at c;cases c.1
     have m:vh R F L.op=none:=by have g:=c.2;unfold vh;cases f:L.op<;>first | rfl | (rw [f] at g;cases g)
     have key:Lb a [] ([]:List (Nat × Ov a (λ_=>True))) H.eq F L=some (q,(Lb a [] ([]:List (Nat × Ov a (λ_=>True))) H.eq F L).elim Q (·.2.1),es):=by
      unfold Lb at h ⊢;rw [l,m] at h;have p:vh [] F L.op=none:=by unfold vh;split<;>first | rfl | (split<;>rfl)
      have v:L.dst.bind (lk ([]:List (Nat × Ov a (λ_=>True))))=none:=(by cases L.dst<;>rfl);rw [p,v];cases i:L.op.operands.all (kn F)&&BC L.op with
      | false=>rw [i] at h;cases h
      | true =>
        rw [i] at h;dsimp only at h ⊢;cases j:xz a none (C5 (ev F) L) with
        | none=>rw [j] at h;cases h
        | some y =>
          rw [j] at h;obtain ⟨A,S⟩:=y;cases A with
          | value u =>
            dsimp only at h ⊢;cases he:L.dst.bind (lk H.eq) with
            | none=>rw [he] at h;simp only [Option.some.injEq,Prod.mk.injEq] at h;rw [h.1,h.2.2];rfl
            | some e=>rw [he] at h;simp only [Option.some.injEq,Prod.mk.injEq] at h;rw [<- h.1,<- h.2.2];rfl
          | _=>cases h
     exact .inl ⟨kV hk d,λn=>(El (S:=λ_=>True) hk key he (λ_ _ r z=>by cases z)).1 n trivial⟩
def zA (P:A9) {S J:A5->Prop} (R:List Rw) (H:Hn P S J) (n:Nat) (all:Array D1) (kk fuel:Nat) (listed:Array Bool) (k:List KI) (F:Fr):Sr :=
 match T4 all with
 | false=>.stop
 | true=>match fuel with
   | 0=>.stop
   | fuel+1=>match qB all listed (S5 .any all listed) with
     | none=>.stop
     | some j=>match Z9 j kk,all[j]? with
       | false,some o=>match qv P R H all F o with
         | none=>.stop
         | some (v,t,es)=>match GE H all F o||(rR .any all j 6 kk&&uz .any all listed),rT n F v t o.dst with
           | true,some F'=>.go (.sk all kk fuel (listed.setIfInBounds j true)::k) F' es
           | _,_=>.stop
       | _,_=>.stop
def zB (P:A9) {S J:A5->Prop} (R:List Rw) (H:Hn P S J) (n:Nat) (all:Array D1) (fuel:Nat) (listed:Array Bool) (k:List KI) (F:Fr):Sr :=
 match T4 all with
 | false=>.stop
 | true=>match S5 .any all listed with
   | []=>.go k F []
   | i::is=>match fuel with
     | 0=>.stop
     | fuel+1=>match qB all listed (i::is) with
       | none=>.stop
       | some j=>match all[j]? with
         | none=>.stop
         | some o=>match qv P R H all F o with
           | none=>.stop
           | some (v,t,es)=>match GE H all F o,rT n F v t o.dst with
             | true,some F'=>.go (.sw all fuel (listed.setIfInBounds j true)::k) F' es
             | _,_=>.stop
def iZ (P:A9) (dr:Bool) (k:List KI) (F:Fr):D3->Sr
 | .skip=>.go k F []
 | .seq x y=>.go (.code x::.code y::k) F []
 | .cond c x y=>match kn F c with
   | false=>.stop
   | true=>match ev F c with
     | .bool true=>.go (.code x::k) F []
     | .bool false=>.go (.code y::k) F []
     | _=>.stop
 | .block id c=>.go (.code c::.blk id::k) F []
 | .exit id=>match pU id k with
   | some a=>.go a F []
   | none=>.stop
 | .ret=>.ret
 | .region _ ops false=>.go (.ops ops ops.toList::k) F []
 | .region _ ops true=>match dr&&P.follows .mixedOrders with
   | true=>.go (.sq ops ops.size (Array.replicate ops.size false)::k) F []
   | false=>.stop
 | _=>.stop
def Uj (P:A9) {S J:A5->Prop} (R:List Rw) (H:Hn P S J) (n:Nat) (dr:Bool) (k:List KI) (F:Fr):Sr :=
 match k with
 | []=>.stop
 | .blk _::k=>.go k F []
 | .fin _::_=>.stop
 | .ops _ []::k=>.go k F []
 | .ops all (o::rest)::k=>match Ld P R H n all F o with
   | some (F',es)=>.go (.ops all rest::k) F' es
   | none=>.stop
 | .sq all fuel listed::k=>zy P R H n all fuel listed k F
 | .sk all kk fuel listed::k=>zA P R H n all kk fuel listed k F
 | .sw all fuel listed::k=>zB P R H n all fuel listed k F
 | .code c::k=>iZ P dr k F c
structure n6 (P:A9) (S J:A5->Prop) (R:List Rw) (dr:Bool) (Q:D4->Act->A5->Prop):Prop where
 sub:∀ w,J w->S w
 rows:∀ w,S w->∀ r ∈ R,pT r w
 drew:dr->∀ w,J w->J w.drew
 pan:∀ c a d v w,Q (.panic c) (Act.put a d v) w->Q (.panic c) a w
theorem Jc {R:List Rw} {H:Hn a k W} {Q:D4->Act->A5->Prop} (E:n6 a k W R j Q) {all:Array D1} {fuel:Nat} {listed:Array Bool} {S C:List KI} {F x:Fr} {es:List (Oe × Oe)} (h:zy a R H w all fuel listed S F=.go C x es) (he:∀ e ∈ es,e.1=e.2) (b:∀ P n,bU x w P->W n->iY a k Q C .normal P n) (P:Act) (n:A5) (hk:bU F w P) (hS:W n):wpAnyH a .any all (iY a k Q S) k fuel listed P n:=by
 unfold zy at h;cases d:T4 all with
 | false=>rw [d] at h;cases h
 | true =>
   rw [d] at h;dsimp only at h;cases l:S5 .any all listed with
   | nil =>rw [l] at h;cases h;exact wpAnyH_done l (b P n hk hS) fuel
   | cons i is =>
     rw [l] at h;dsimp only at h;cases fuel with
     | zero=>cases h
     | succ fuel =>
       dsimp only at h;cases s:qB all listed (i::is) with
       | some dr =>
         rw [s] at h;dsimp only at h;cases f:all[dr]? with
         | none=>rw [f] at h;cases h
         | some o =>
           rw [f] at h;dsimp only at h;cases u:qv a R H all F o with
           | none=>rw [u] at h;cases h
           | some y =>
             obtain ⟨v,t,m⟩:=y;rw [u] at h;dsimp only at h;cases q:rT w F v t o.dst with
             | none=>rw [q] at h;cases h
             | some G =>rw [q] at h;simp only [Sr.go.injEq] at h;obtain ⟨rfl,rfl,rfl⟩:=h;have g:=ou s;refine wpAnyH_take f d g.2 (by rw [l];simpa using g.1) (λc P n B=>?_) (Lc hk u he E.rows) (E.sub _ hS) (b _ _ (kh q hk) hS);rw [lB] at B ⊢;exact E.pan c P _ _ n B
       | none =>
         rw [s] at h;cases is with
         | cons _ _=>cases h
         | nil =>
           dsimp only at h;cases r:all[i]? with
           | none=>rw [r] at h;cases h
           | some o =>
             rw [r] at h;dsimp only at h;cases p:Ld a R H w all F o with
             | none=>rw [p] at h;cases h
             | some y =>obtain ⟨G,m⟩:=y;rw [p] at h;simp only [Sr.go.injEq] at h;obtain ⟨rfl,rfl,rfl⟩:=h;refine wpAnyH_all l di λdr f=>?_;rw [Y2] at f;subst f;refine F3 r λL K=>?_;exact GD hk hS E.sub p he E.rows λz D I A=>K z D ⟨E.sub _ A,b z D I A⟩
theorem Jd {R:List Rw} {H:Hn a k W} (E:n6 a k W R j c) {all:Array D1} {kk fuel:Nat} {listed:Array Bool} {S z:List KI} {F m:Fr} {es:List (Oe × Oe)} (h:zA a R H n all kk fuel listed S F=.go z m es) (he:∀ e ∈ es,e.1=e.2) (b:∀ P w,bU m n P->W w->iY a k c z .normal P w) (P:Act) (w:A5) (hk:bU F n P) (hS:W w):iu a .any all (iY a k c S) k kk fuel listed P w:=by
 unfold zA at h;split at h;·cases h
 ·rename_i i;split at h;·cases h
  ·rename_i fuel;split at h;·cases h
   ·rename_i dr B;split at h
    ·rename_i o q u;split at h;·cases h
     ·rename_i v t A x;split at h
      ·rename_i C d r;simp only [Sr.go.injEq] at h;obtain ⟨rfl,rfl,rfl⟩:=h;have f:=ou B;have g:dr≠kk:=λe=>by rw [e,QA2] at q;cases q
       have p:∀ Q P w,iY a k c S (.panic Q) (P.put o.dst v) w->iY a k c S (.panic Q) P w:=λQ P w s=>by rw [lB] at s ⊢;exact E.pan Q P _ _ w s
       have y:(S5 .any all listed).contains dr:=(by simpa using f.1);rcases X5 _ _ ▸ d with l|l;·exact zw u i f.2 y g p (GF hk x he l) (E.sub _ hS) (b _ _ (kh r hk) hS)
       ·rw [X3] at l;exact zv u i f.2 y g l.1 l.2 p (Lc hk x he E.rows) (E.sub _ hS) (b _ _ (kh r hk) hS)
      ·cases h
    ·cases h
theorem Je {R:List Rw} {H:Hn a k W} (E:n6 a k W R j c) {all:Array D1} {fuel:Nat} {listed:Array Bool} {S p:List KI} {F l:Fr} {es:List (Oe × Oe)} (h:zB a R H n all fuel listed S F=.go p l es) (he:∀ e ∈ es,e.1=e.2) (b:∀ P w,bU l n P->W w->iY a k c p .normal P w) (P:Act) (w:A5) (hk:bU F n P) (hS:W w):wpAny a .any all (iY a k c S) fuel listed P w:=by
 unfold zB at h;split at h;·cases h
 ·rename_i f;split at h;·rename_i g;cases h;exact wpAny_done g (b P w hk hS) fuel
  ·rename_i i is g;split at h;·cases h
   ·rename_i fuel;split at h;·cases h
    ·rename_i dr u;split at h;·cases h
     ·rename_i o s;split at h;·cases h
      ·rename_i v t q x;split at h;·rename_i z y r;simp only [Sr.go.injEq] at h;obtain ⟨rfl,rfl,rfl⟩:=h;have d:=ou u;refine wpAny_take s f d.2 (by rw [g];simpa using d.1) (λQ P w m=>?_) (GF hk x he y) (b _ _ (kh r hk) hS);rw [lB] at m ⊢;exact E.pan Q P _ _ w m
       ·cases h
theorem th {R:List Rw} (E:n6 a k J R j c) {Q:D3} {S i:List KI} {F g:Fr} {es:List (Oe × Oe)} (h:iZ a j S F Q=.go i g es) (b:∀ P w,bU g n P->J w->iY a k c i .normal P w) (P:Act) (w:A5) (hk:bU F n P) (hS:J w):Q.wp a (iY a k c S) P w:=by
 unfold iZ at h;split at h;·cases h;exact wp_skip (b P w hk hS)
 ·cases h;exact wp_seq (b P w hk hS)
 ·split at h;·cases h
  ·rename_i e;split at h;·rename_i d;cases h;exact wp_cond_true ((hk.eval e).trans d) (b P w hk hS)
   ·rename_i d;cases h;exact wp_cond_false ((hk.eval e).trans d) (b P w hk hS)
   ·cases h
 ·cases h;exact wp_block (b P w hk hS)
 ·split at h;·rename_i dr;cases h;exact wp_exit (kz dr (b P w hk hS))
  ·cases h
 ·cases h
 ·cases h;exact L0 (b P w hk hS)
 ·split at h;·rename_i f;rw [X3] at f;cases h;exact wp_region_held f.2 (b P w.drew hk (E.drew f.1 w hS))
  ·cases h
 ·cases h
theorem Sy {R:List Rw} {H:Hn a k W} (E:n6 a k W R j c) {S f:List KI} {F Q:Fr} {es:List (Oe × Oe)} (h:Uj a R H n j S F=.go f Q es) (he:∀ e ∈ es,e.1=e.2) (b:∀ P w,bU Q n P->W w->iY a k c f .normal P w) (P:Act) (w:A5) (hk:bU F n P) (hS:W w):iY a k c S .normal P w:=by
 unfold Uj at h;split at h;·cases h
 ·cases h;exact b P w hk hS
 ·cases h
 ·cases h;exact b P w hk hS
 ·split at h;·rename_i m;cases h;show wpList a _ _ (_::_) P w;exact R5 λK l=>GD hk hS E.sub m he E.rows λd g i dr=>l d g (b d g i dr)
  ·cases h
 ·exact Jc E h he b P w hk hS
 ·exact Jd E h he b P w hk hS
 ·exact Je E h he b P w hk hS
 ·exact th E h b P w hk hS
def be (P:A9) {S J:A5->Prop} (R:List Rw) (H:Hn P S J) (n:Nat) (dr:Bool):Nat->List KI->Fr->(Bool × List KI × Fr) × List (Oe × Oe)
 | 0,k,F=>((false,k,F),[])
 | m+1,k,F=>match Uj P R H n dr k F with
   | .stop=>((false,k,F),[])
   | .ret=>((true,k,F),[])
   | .go c a b=>match be P R H n dr m c a with
     | (r,es')=>(r,b++es')
theorem zC {P:A9} {S J:A5->Prop} {R:List Rw} {H:Hn P S J} {n:Nat} {dr:Bool} {Q:D4->Act->A5->Prop} (E:n6 P S J R dr Q):∀ (m:Nat) (k:List KI) (F:Fr),(∀ e ∈ (be P R H n dr m k F).2,e.1=e.2) ->
 (∀ a w,bU (be P R H n dr m k F).1.2.2 n a->J w->if (be P R H n dr m k F).1.1=true then Q .ret a w else iY P S Q (be P R H n dr m k F).1.2.1 .normal a w)->∀ a w,bU F n a->J w->iY P S Q k .normal a w
 | 0,k,F,_,hf,a,w,hk,hS=>by simpa [be] using hf a w hk hS
 | m+1,k,F,he,hf,a,w,hk,hS=>by
   cases d:Uj P R H n dr k F with
   | stop =>
     have e:be P R H n dr (m+1) k F=((false,k,F),[]):=by simp only [be,d]
     rw [e] at hf
     simpa using hf a w hk hS
   | ret =>
     have e:be P R H n dr (m+1) k F=((true,k,F),[]):=by simp only [be,d]
     rw [e] at hf
     have l:Q .ret a w:=by simpa using hf a w hk hS
     unfold Uj at d
     split at d
     ·cases d
     ·cases d
     ·cases d
     ·cases d
     ·split at d<;>cases d
     ·unfold zy at d
      repeat (split at d<;>try cases d)
     ·unfold zA at d
      repeat (split at d<;>try cases d)
     ·unfold zB at d
      repeat (split at d<;>try cases d)
     ·rename_i c f
      cases c with
      | ret=>exact wp_ret (by rw [zx];exact l)
      | region i ops b=>cases b<;>simp only [iZ] at d<;>(try split at d)<;>cases d
      | cond=>simp only [iZ] at d;repeat (split at d<;>try cases d)
      | exit=>simp only [iZ] at d;split at d<;>cases d
      | _=>cases d
   | go f g j =>
     have e:be P R H n dr (m+1) k F=((be P R H n dr m f g).1,j++(be P R H n dr m f g).2):=by simp only [be,d]
     rw [e] at he hf
     exact Sy E d (λx h=>he x (by simp [h])) (zC E m f g (λx h=>he x (by simp [h])) hf) a w hk hS
def Wg (P:A9) (S:A5->Prop) (Q:D4->Act->A5->Prop) (n:Nat) (k:List KI) (F:Fr) (w:A5):Prop:=∀ a,bU F n a->iY P S Q k .normal a w
theorem ae {R:List Rw} (E:n6 a k W R dr c) (H:Hn a k W) (m:Nat) {S:List KI} {F:Fr} {w:A5} (hS:W w) (h:∀ b,W b->Wg a k c n (be a R H n dr m S F).1.2.1 (be a R H n dr m S F).1.2.2 b) (hret:(be a R H n dr m S F).1.1=false:=by kernel_rfl) (he:(be a R H n dr m S F).2.map R8=(be a R H n dr m S F).2.map S2:=by kernel_rfl):Wg a k c n S F w:=λP d =>
 zC E m S F (λe f=>Y3.1 he e f) (λP w Q g=>by rw [hret,JZ9 bc];exact h w g P Q) P w d hS
theorem bn {R:List Rw} (E:n6 a k J R j (A8 a B f)) (H:Hn a k J) (m:Nat) {S:List KI} {F:Fr} {w:A5} {t:Nat} {v:A6} (hS:J w) (h:∀ Rs,J Rs->f (.returned v) Rs) (hv:((be a R H n j m S F).1.1,(lk (be a R H n j m S F).1.2.2 t).map R8)=(true,some v):=by kernel_rfl) (he:(be a R H n j m S F).2.map R8=(be a R H n j m S F).2.map S2:=by kernel_rfl) (hr:B.results=#[.tmp t]:=by rfl):Wg a k (A8 a B f) n S F w:=λP g =>
 zC E m S F (λe i=>Y3.1 he e i) (λP w d dr=>by
  simp only [Prod.mk.injEq] at hv
  rw [hv.1,JZ8 rfl]
  obtain ⟨x,b,c⟩:=X6.1 hv.2
  have l:=d.at_ t x b
  exact P2 (R6 hr _ _ _) d.nod (by rw [X7,l,c];exact h w dr)) P w g hS
def Le:Nat->List A6->Fr
 | _,[]=>[]
 | i,v::l=>(i,v,0)::Le (i+1) l
theorem GG:∀ (l:List A6) (i t:Nat) (x:A6 × Nat),lk (Le i l) t=some x->i<=t/\l[t-i]?=some x.1
 | [],_,_,_,h=>ni
 | v::l,i,t,x,h=>by
   unfold Le lk at h
   cases a:Z9 i t with
   | true =>
     rw [a] at h
     cases h
     have:i=t:=Z8 a
     subst this
     simp
   | false =>
     rw [a] at h
     obtain ⟨c,b⟩:=GG l (i+1) t x h
     refine ⟨ab,?_⟩
     rw [show t-i=(t-(i+1))+1 by omega]
     simpa using b
theorem fy (d:a.funcs[w]?=some B) (h:Wg a z (A8 a B f) B.ntmps [.code e] (Le 0 args) t) (hb:B.body=some e:=by rfl) (hn:QA5 args.length B.ntmps:=by kernel_rfl):F0 a w args.toArray t f :=
 calls_of_wp d hb (h _ ⟨by
  have:args.length<=B.ntmps:=Nat.le_of_ble_eq_true hn
  simp;omega,rfl,λRs x g=>by
  obtain ⟨_,P⟩:=GG args 0 Rs x g
  have b:Rs<args.length:=by
   rw [QA3] at P
   exact (Y6.1 P).1
  rw [QA3] at P
  have c:=(Y6.1 P).2
  simp [Array.getElem?_append,b]
  simpa using c⟩)
def iw:List KI->Bool
 | []=>true
 | .sq _ _ _::_=>false
 | .code _::k=>iw k
 | .blk _::k=>iw k
 | .ops _ _::k=>iw k
 | .fin _::k=>iw k
 | .sk _ _ _ _::_=>false
 | .sw _ _ _::k=>iw k
theorem yq {P:A9} {S:A5->Prop} {Q:D4->Act->A5->Prop} {S':A5->Prop}:∀ {k:List KI},iw k->iY P S' Q k=iY P S Q k
 | [],_=>rfl
 | .sq _ _ _::_,h=>ni
 | .code _::k,h=>by unfold iY;rw [yq (k:=k) h]
 | .blk _::k,h=>by unfold iY;rw [yq (k:=k) h]
 | .ops _ _::k,h=>by unfold iY;rw [yq (k:=k) h]
 | .fin _::k,h=>by unfold iY;rw [yq (k:=k) h]
 | .sk _ _ _ _::_,h=>ni
 | .sw _ _ _::k,h=>by unfold iY;rw [yq (k:=k) h]
theorem aL {S:List KI} {F:Fr} (h:Wg a z c n S F t) (hn:iw S:=by kernel_rfl):Wg a k c n S F t:=λP b=>by rw [<- yq (S':=z) hn];exact h P b
def vi (P:A9) (n N:Nat):List D1->Fr->List (Array A6 × C6)->Option (Fr × List (Array A6 × C6))
 | [],F,bs=>some (F,bs)
 | o::os,F,bs=>match o.guard,o.dst with
   | none,some d=>match QA1 d n with
     | false=>none
     | true=>match o.op with
       | .box t x=>match kn F x with
         | true=>vi P n N os ((d,.p (N+bs.length) 0,bs.length+1)::F) (bs++[((ev F x).cells,t)])
         | false=>none
       | .assign x=>match kn F x with
         | true=>vi P n N os ((d,ev F x,La F x)::F) bs
         | false=>none
       | .alloc t=>match P.info? t with
         | some i=>match i.zero with
           | some z=>vi P n N os ((d,.p (N+bs.length) 0,bs.length+1)::F) (bs++[(z.cells,t)])
           | none=>none
         | none=>none
       | _=>none
   | _,_=>none
def bP (w:A5):List (Array A6 × C6)->A5
 | []=>w
 | x::l=>bP (w.alloc (.cells x.1 x.2)) l
theorem ox (x:Array A6 × C6):∀ (l:List (Array A6 × C6)) (w:A5),bP w (l++[x])=(bP w l).alloc (.cells x.1 x.2)
 | [],_=>rfl
 | _::l,w=>ox x l _
theorem oy:∀ (l:List (Array A6 × C6)) (w:A5),(bP w l).heap.size=w.heap.size+l.length
 | [],_=>rfl
 | _::l,w=>by
   show (bP _ l).heap.size=_
   rw [oy l,World.size_alloc,List.length_cons]
   omega
theorem qC {P:A9} {n:Nat} {Q:D4->Act->A5->Prop} {all:Array D1} {w:A5}:∀ {l:List D1} {F j:Fr} {b e:List (Array A6 × C6)},vi P n w.heap.size l F b=some (j,e)->(∀ a,bU j n a->Q .normal a (bP w e))->∀ a,bU F n a->wpList P all Q l a (bP w b)
 | [],F,j,b,e,h,hQ,a,hk=>by
   simp only [vi,Option.some.injEq,Prod.mk.injEq] at h
   obtain ⟨rfl,rfl⟩:=h
   exact hQ a hk
 | o::os,F,j,b,e,h,hQ,a,hk=>by
   unfold vi at h
   split at h
   ·rename_i d m k
    split at h
    ·cases h
    ·rename_i p
     split at h
     ·rename_i t x c
      split at h
      ·rename_i f
       refine I1 m λK g=>?_
       show o.upon P a K _ ((C5 a.eval o).run P (bP w b))
       have:(C5 a.eval o).run P (bP w b)=.ok (.value (.pointer (some ⟨(bP w b).heap.size,0,none⟩))) ((bP w b).alloc (.cells (ev F x).cells t)):=by
        unfold C5
        rw [c]
        simp only [hk.eval f]
        rfl
       rw [this,oy]
       show K (a.put o.dst _) _
       rw [k,<- ox ((ev F x).cells,t)]
       exact g _ _ (qC h hQ _ (hk.put p _ _))
      ·cases h
     ·rename_i x c
      split at h
      ·rename_i f
       refine I1 m λK g=>?_
       show o.upon P a K _ ((C5 a.eval o).run P (bP w b))
       have:(C5 a.eval o).run P (bP w b)=.ok (.value (ev F x)) (bP w b):=by
        unfold C5
        rw [c]
        simp only [hk.eval f]
        rfl
       rw [this]
       show K (a.put o.dst _) _
       rw [k]
       exact g _ _ (qC h hQ _ (hk.put p _ _))
      ·cases h
     ·rename_i t c
      split at h
      ·rename_i i q
       split at h
       ·rename_i z r
        refine I1 m λK g=>?_
        show o.upon P a K _ ((C5 a.eval o).run P (bP w b))
        have:(C5 a.eval o).run P (bP w b)=.ok (.value (.pointer (some ⟨(bP w b).heap.size,0,none⟩))) ((bP w b).alloc (.cells z.cells t)):=by
         unfold C5
         rw [c]
         simp [Z5,zeroValue,typeInfo,q,r,newVar,newRow]
        rw [this,oy]
        show K (a.put o.dst _) _
        rw [k,<- ox (z.cells,t)]
        exact g _ _ (qC h hQ _ (hk.put p _ _))
       ·cases h
      ·cases h
     ·cases h
   ·cases h
def qD (P:A9) (n N:Nat) (c:D3) (args:List A6):Option (List (Array A6 × C6) × List KI × Fr):=match c with
 | .seq (.region _ ops false) rest=>match vi P n N ops.toList (Le 0 args) [] with
   | some (F,bs)=>some (bs,[.code rest],F)
   | none=>none
 | _=>none
def Lf (P:A9) (n N:Nat) (c:D3) (args:List A6):List KI:=match qD P n N c args with
 | some x=>x.2.1
 | none=>[]
def Lg (P:A9) (n N:Nat) (c:D3) (args:List A6):Fr:=match qD P n N c args with
 | some x=>x.2.2
 | none=>[]
theorem br (j:a.funcs[w]?=some B) (h:Wg a S (A8 a B f) B.ntmps (Lf a B.ntmps t.heap.size e args) (Lg a B.ntmps t.heap.size e args) (bP t y)) (hb:B.body=some e:=by rfl) (hn:QA5 args.length B.ntmps:=by kernel_rfl) (hs:(qD a B.ntmps t.heap.size e args).map R8=some y:=by kernel_rfl):F0 a w args.toArray t f:=by
 refine fy S j (hb:=hb) (hn:=hn) λP k=>?_;unfold Lf Lg at h;cases b:qD a B.ntmps t.heap.size e args with
 | none=>rw [b] at hs;cases hs
 | some bs =>
   obtain ⟨c,n,l⟩:=bs;rw [b] at hs h;simp only [Option.map_some,Option.some.injEq] at hs;subst hs;unfold qD at b;split at b
   ·rename_i id ops rest;split at b;·rename_i m g d;simp only [Option.some.injEq,Prod.mk.injEq] at b;obtain ⟨rfl,rfl,rfl⟩:=b;refine wp_seq (L0 ?_);exact qC (Q:=Exit.then (λP t=>rest.wp a (A8 a B f) P t) (A8 a B f)) d (λP i=>h P i) P k
    ·cases b
   ·cases b
def Bn (F:Fr):List KI->Option (D1 × List KI × Bool)
 | .ops all (o::rest)::k=>match wn all F o with
   | some true=>some (o,.ops all rest::k,false)
   | _=>none
 | .sq all (m+1) listed::k=>match S5 .any all listed with
   | [i]=>match all[i]? with
     | some o=>match wn all F o with
       | some true=>some (o,.sq all m (listed.setIfInBounds i true)::k,true)
       | _=>none
     | none=>none
   | _=>none
 | .sk all kk (m+1) listed::k=>match S5 .any all listed with
   | [i]=>match all[i]? with
     | some o=>match wn all F o with
       | some true=>match Z9 i kk with
         | true=>some (o,.sw all m (listed.setIfInBounds i true)::k,false)
         | false=>some (o,.sk all kk m (listed.setIfInBounds i true)::k,true)
       | _=>none
     | none=>none
   | _=>none
 | .sw all (m+1) listed::k=>match S5 .any all listed with
   | [i]=>match all[i]? with
     | some o=>match wn all F o with
       | some true=>some (o,.sw all m (listed.setIfInBounds i true)::k,false)
       | _=>none
     | none=>none
   | _=>none
 | _=>none
def n7 (F:Fr) (k:List KI):List KI:=match Bn F k with
 | some x=>x.2.1
 | none=>[]
def xr (F:Fr) (k:List KI):Bool:=match Bn F k with
 | some x=>x.2.2
 | none=>false
def Em (n:Nat) (F:Fr) (k:List KI):Option (Sem G1):=match Bn F k with
 | some (o,_,_)=>match o.op.operands.all (kn F)&&BC o.op&&(match o.dst with | some d=>QA1 d n | none=>true) with
   | true=>some (C5 (ev F) o)
   | false=>none
 | none=>none
def pV (F:Fr) (k:List KI) (v:A6) (t:Nat):Fr:=match Bn F k with
 | some (o,_,_)=>match o.dst with
   | some d=>(d,v,t)::F
   | none=>F
 | none=>F
def Jf (P:A9) (n:Nat) (F:Fr) (k:List KI):Option (Nat × Array A6):=match Bn F k with
 | some (o,_,_)=>match (match o.dst with | some d=>QA1 d n | none=>true) with
   | true=>rS P F o
   | false=>none
 | none=>none
theorem vj {S z:List KI} {F:Fr} (h:Bn F S=some (L,z,j)) {P:Act} {w:A5} (hk:bU F n P) (t:∀ K:Act->A5->Prop,(∀ f d,(j->k d)->iY a k c z .normal f d->K f d)->L.wp a P w K (iY a k c z)):iY a k c S .normal P w:=by
 unfold Bn at h;split at h
 ·rename_i all v rest p;split at h;·rename_i Q;simp only [Option.some.injEq,Prod.mk.injEq] at h;obtain ⟨rfl,rfl,rfl⟩:=h;show wpList a all (iY a k c p) (v::rest) P w;refine R5 λK g=>?_;rw [JZ8 (kV hk Q)];exact t K λf d _ l=>g f d l
  ·cases h
 ·rename_i all m listed p;split at h
  ·rename_i i s;split at h
   ·rename_i v r;split at h;·rename_i Q;simp only [Option.some.injEq,Prod.mk.injEq] at h;obtain ⟨rfl,rfl,rfl⟩:=h;show wpAnyH a .any all (iY a k c p) k (m+1) listed P w;refine wpAnyH_all s di λb B=>?_;rw [Y2] at B;subst B;refine F3 r λq g=>?_;rw [JZ8 (kV hk Q)];exact t q λf d y l=>g f d ⟨y rfl,l⟩
    ·cases h
   ·cases h
  ·cases h
 ·rename_i all A m listed p;split at h
  ·rename_i i s;split at h
   ·rename_i v r;split at h
    ·rename_i Q;split at h;·rename_i u;simp only [Option.some.injEq,Prod.mk.injEq] at h;obtain ⟨rfl,rfl,rfl⟩:=h;have e:i=A:=Z8 u;subst e;show iu a .any all (iY a k c p) k i (m+1) listed P w;refine Ek r s λq g=>?_;rw [JZ8 (kV hk Q)];exact t q λf d _ l=>g f d l
     ·rename_i u;simp only [Option.some.injEq,Prod.mk.injEq] at h;obtain ⟨rfl,rfl,rfl⟩:=h;have x:i≠A:=λe=>by rw [e,QA2] at u;cases u
      show iu a .any all (iY a k c p) k A (m+1) listed P w;refine Ei r s x λq g=>?_;rw [JZ8 (kV hk Q)];exact t q λf d y l=>g f d (y rfl) (λ_=>l)
    ·cases h
   ·cases h
  ·cases h
 ·rename_i all m listed p;split at h
  ·rename_i i s;split at h
   ·rename_i v r;split at h;·rename_i Q;simp only [Option.some.injEq,Prod.mk.injEq] at h;obtain ⟨rfl,rfl,rfl⟩:=h;show wpAny a .any all (iY a k c p) (m+1) listed P w;refine Jb r s λq g=>?_;rw [JZ8 (kV hk Q)];exact t q λf d _ l=>g f d l
    ·cases h
   ·cases h
  ·cases h
 ·cases h
theorem dt {S:List KI} {F:Fr} {w':A5} {s:Sem G1} {v:A6} (Q:Nat) (hr:s.run a t=.ok (.value v) w') (h:Wg a k c w (n7 F S) (pV F S v Q) w') (hx:Em w F S=some s:=by kernel_rfl) (hS:xr F S->k w':=by exact gi ba):Wg a k c w S F t:=λP f=>by
 unfold Em at hx;unfold xr at hS;unfold n7 pV at h;cases i:Bn F S with
 | none=>rw [i] at hx;cases hx
 | some y =>
   obtain ⟨o,p,b⟩:=y;rw [i] at hx hS h;dsimp only at hx hS h;split at hx
   ·rename_i n;cases hx;rw [X3,X3] at n;have g:C5 P.eval o=C5 (ev F) o:=D8 o (λm b e=>by have:=n.1.2;rw [e] at this;cases this) λx hx=>f.eval (X8.1 n.1.1 x hx);refine vj i f λK j=>?_;show o.upon a P K _ _;rw [g,hr];refine j _ _ hS (h _ ?_);cases l:o.dst with
    | none=>exact f
    | some d=>rw [l] at n;exact f.put n.2 v Q
   ·cases hx
theorem bE {S:List KI} {F:Fr} {s:Sem G1} (hr:s.run a t=.ok .skip o) (h:Wg a k c w (n7 F S) (pV F S undef 0) o) (hx:Em w F S=some s:=by kernel_rfl) (hS:xr F S->k o:=by exact gi ba):Wg a k c w S F t:=λP f=>by
 unfold Em at hx;unfold xr at hS;unfold n7 pV at h;cases i:Bn F S with
 | none=>rw [i] at hx;cases hx
 | some y =>
   obtain ⟨w',p,b⟩:=y;rw [i] at hx hS h;dsimp only at hx hS h;split at hx
   ·rename_i n;cases hx;rw [X3,X3] at n;have g:C5 P.eval w'=C5 (ev F) w':=D8 w' (λm b e=>by have:=n.1.2;rw [e] at this;cases this) λx hx=>f.eval (X8.1 n.1.1 x hx);refine vj i f λK j=>?_;show w'.upon a P K _ _;rw [g,hr];refine j _ _ hS (h _ ?_);cases l:w'.dst with
    | none=>exact f
    | some d=>rw [l] at n;exact f.put n.2 undef 0
   ·cases hx
theorem io {S:List KI} {F:Fr} {args:Array A6} (p:F0 a Q args t f) (h:∀ e n,f e n->∃ v Rc,e=.returned v/\(xr F S->k n)/\Wg a k c w (n7 F S) (pV F S v Rc) n) (hx:Jf a w F S=some (Q,args):=by kernel_rfl):Wg a k c w S F t:=λP g=>by
 unfold Jf at hx;unfold n7 pV xr at h;cases j:Bn F S with
 | none=>rw [j] at hx;cases hx
 | some y =>
   obtain ⟨o,u,b⟩:=y;rw [j] at hx h;dsimp only at hx h;split at hx
   ·rename_i l;refine vj j g λK m=>?_;show o.upon a P K _ _;rw [po g hx t];refine p.mono λe n q=>?_;obtain ⟨v,Rc,rfl,r,s⟩:=h e n q;refine m _ _ r (s _ ?_);cases i:o.dst with
    | none=>exact g
    | some d=>rw [i] at l;exact g.put l v Rc
   ·cases hx
theorem aT {R:List Rw} (E:n6 a k W R dr c) (H:Hn a k W) (m:Nat) {S:List KI} {F:Fr} {w:A5} {f:Nat} {args:Array A6} {Rc:A5->I2->A5->Prop} (hS:W w) (g:∀ b,W b->F0 a f args b (Rc b)) (h:∀ b e P,W b->Rc b e P->∃ v t,e=.returned v/\(xr (be a R H n dr m S F).1.2.2 (be a R H n dr m S F).1.2.1->k P)/\Wg a k c n (n7 (be a R H n dr m S F).1.2.2 (be a R H n dr m S F).1.2.1) (pV (be a R H n dr m S F).1.2.2 (be a R H n dr m S F).1.2.1 v t) P) (hx:((be a R H n dr m S F).1.1,Jf a n (be a R H n dr m S F).1.2.2 (be a R H n dr m S F).1.2.1)=(false,some (f,args)):=by kernel_rfl) (he:(be a R H n dr m S F).2.map R8=(be a R H n dr m S F).2.map S2:=by kernel_rfl):Wg a k c n S F w:=by simp only [Prod.mk.injEq] at hx;exact ae E H m hS (hret:=hx.1) (he:=he) λb Q=>io (g b Q) (hx:=hx.2) λe P d=>h b e P Q d
theorem kJ {R:List Rw} (E:n6 a k W R dr (A8 a B f)) (H:Hn a k W) (m:Nat) {S:List KI} {F:Fr} {w:A5} (hS:W w) (h:∀ b P,W b->bU (be a R H n dr m S F).1.2.2 n P->∃ v,(results B P.tmps).run a b=.ok v b/\f (.returned v) b) (hv:(be a R H n dr m S F).1.1:=by kernel_rfl) (he:(be a R H n dr m S F).2.map R8=(be a R H n dr m S F).2.map S2:=by kernel_rfl):Wg a k (A8 a B f) n S F w:=λP g =>
 zC E m S F (λe i=>Y3.1 he e i) (λP w c j=>by
  rw [hv,JZ8 rfl]
  obtain ⟨v,d,Rs⟩:=h w P j c
  exact P2 d c.nod Rs) P w g hS
theorem bU.slot {F:Fr} (h:bU F n d) {t:Nat} {v:A6} (hl:(lk F t).map R8=some v):d.tmps.getD t undef=v:=by obtain ⟨x,b,c⟩:=X6.1 hl;rw [X7,h.at_ t x b,<- c];rfl
def an {c b:Bool} (h:c=b):Vq:=⟨.bool c,.bool b,0,by rw [h]⟩
theorem cD (c:List PanicEntry) (P:Act) (d:Option Nat) (v:A6) (w:A5) (h:A8 a B f (.panic c) (Act.put P d v) w):A8 a B f (.panic c) P w:=by cases d<;>exact h
def Bs (w:A5) (bs:List (Array A6 × C6)) (W:A5):Prop:=(∀ i x,bs[i]?=some x->W.heap[w.heap.size+i]?=some (.cells x.1 x.2 (0,0)))/\Bw w W
theorem Bs.below (h:Bs t l o) (hb:Bw o b):Bs t l b:=⟨λi x a=>aD hb (h.1 i x a),aa h.2 hb⟩
theorem Bs.start:Bs r y (bP r y):=by
 have key:∀ (l:List (Array A6 × C6)) (v:A5),Bw r v->(∀ i x,l[i]?=some x->(bP v l).heap[v.heap.size+i]?=some (.cells x.1 x.2 (0,0)))/\Bw v (bP v l):=by
  intro l;induction l with
  | nil=>intro v _;exact ⟨λi x h=>by simp at h,QA6 _ _⟩
  | cons bs l f =>
    intro v e;have c:=(QA6 v.heap.size v).alloc (Nat.le_refl _) (.cells bs.1 bs.2);obtain ⟨d,b⟩:=f (v.alloc (.cells bs.1 bs.2)) (aa e c);refine ⟨λi x a=>?_,aa c b⟩;cases i with
    | zero =>simp only [List.getElem?_cons_zero,Option.some.injEq] at a;subst a;exact aD b (L6 _ _)
    | succ i =>have:=d i x ta;rw [World.size_alloc] at this;rw [show v.heap.size+(i+1)=v.heap.size+1+i by omega];exact this
 exact ⟨(key y r (QA6 _ _)).1,(key y r (QA6 _ _)).2⟩
def lH (N:Nat):List (Array A6 × C6)->List Rw
 | []=>[]
 | x::l=>⟨N,x.1,[]⟩::lH (N+1) l
theorem yr {r:Rw}:∀ {l:List (Array A6 × C6)} {N:Nat},r ∈ lH N l->∃ i x,l[i]?=some x/\r.b=N+i/\r.cs=x.1
 | [],_,h=>ni
 | y::l,N,h=>by
   rcases Y4.1 h with rfl|h
   ·exact ⟨0,y,rfl,rfl,rfl⟩
   ·obtain ⟨i,x,a,c,b⟩:=yr h
    exact ⟨i+1,x,ta,ab,b⟩
theorem Bs.eng {fn:K1}:n6 P (Bs t l) (Bs t l) (lH t.heap.size l) true (A8 P fn Rs):=
 ⟨λ_ h=>h,λW h r d=>by
  obtain ⟨i,x,a,b,c⟩:=yr d
  exact ⟨_,_,by rw [b,c];exact h.1 i x a⟩,λ_ W h=>h.below (QA6 _ _).drew,cD⟩
def fM {P:A9} {w:A5} {bs:List (Array A6 × C6)} {f:Nat} {args:Array A6} {v:A6} (h:∀ W,Bw w W->F0 P f args W λe b=>e=.returned v/\Bw W b):Cv P (Bs w bs):=⟨f,args,v,0,λW a=>(h W a.2).mono λe b k=>⟨k.1,a.below k.2⟩⟩
def nt {P:A9} {w:A5} {bs:List (Array A6 × C6)} {f:Nat} {args:Array A6} {v:A6} (h:∀ W,Bw w W->F0 P f args W λe b=>e=.returned v/\b=W):Cv P (Bs w bs):=⟨f,args,v,0,λW a=>(h W a.2).mono λe b k=>⟨k.1,by rw [k.2];exact a⟩⟩
def iP {P:A9} {S:A5->Prop} {T:C6} {d:I5} (p:O1) (v:A6) (c:P.underlying T=some d) (hd:(match d with | .struct _ | .array _ _=>true | _=>false)=false) (h:∀ W,S W->W.cell? p=some v):Ov P S :=
 ⟨do pure (.value (<- Z7 T (.pointer (some p)))),v,0,λW a=>by
  have b:=h W a
  cases d<;>simp_all [Z7,Z0,loadVar,isAgg,underlying,program,load,Sem.run,Bind.bind,Sem.bind,Pure.pure]⟩
def kW {P:A9} {S:A5->Prop} {T E:C6} {a:Option O1} {b o:Nat} (n c:Nat) (k:R4) (i:Int) (f:a=some ⟨b,o,none⟩) (g:0<=i/\i<n) (h:P.underlying T=some (.slice E)) (hz:(P.info? E).map (·.size)=some 1):Ov P S :=
 ⟨do pure (.value (<- Z6 T (.slice a n c) (.int k i))),.p b (o+i.toNat),0,λW j=>by
  subst f
  obtain ⟨info,d,e⟩:=X6.1 hz
  simp [Z6,asIntOf,underlying,program,sizeOf,typeInfo,h,d,e,g,Addr.add,Sem.run,Bind.bind,Sem.bind,Pure.pure]⟩
def iQ {P:A9} {S:A5->Prop} (a:∀ {W W'},S W->Bw W W'->S W') {f:Nat} {args:Array A6} {v:A6} (h:∀ W,S W->F0 P f args W λe c=>e=.returned v/\Bw W c):Cv P S:=⟨f,args,v,0,λW b=>(h W b).mono λe c k=>⟨k.1,a b k.2⟩⟩
def kj {P:A9} {S:A5->Prop} {f:Nat} {args:Array A6} {v:A6} (h:∀ W,S W->F0 P f args W λe b=>e=.returned v/\b=W):Cv P S:=⟨f,args,v,0,λW a=>(h W a).mono λe b k=>⟨k.1,by rw [k.2];exact a⟩⟩
def cR (k:R4) {x y:Int} (h:x=y):Vq:=⟨.int k x,.int k y,0,by rw [h]⟩
def Lh {P:A9} {S:A5->Prop} (k:R4) (x y:Int) (hy:y≠0):Ov P S:=⟨do pure (.value (<- Op.intDiv .rem k x y)),.int k (x.tmod y),0,λW _=>by
 simp [Op.intDiv,hy]⟩
structure iR (M:MV):Prop where
 x:M.x.length<=1048576
 cs:M.cs.length<=1048576
 ram:M.ram.length<=1048576
 xs:M.d.xs.length<=1048576
 ys:M.d.ys.length<=1048576
structure jD (L:List FRow) (w w':A5):Prop where
 os:w'.os=w.os
 tape:w'.tape=w.tape
 output:w'.output=w.output
 size:w.heap.size<=w'.heap.size
 block:∀ k,k<w.heap.size->(∀ q ∈ L,q.v.ownBlock≠some k)->w'.heap[k]?=w.heap[k]?
theorem jD.trans (h:jD K t b) (k:jD K b o):jD K t o :=
 ⟨k.os.trans h.os,k.tape.trans h.tape,k.output.trans h.output,Nat.le_trans h.size k.size,λi d e=>(k.block i (Nat.lt_of_lt_of_le d h.size) e).trans (h.block i d e)⟩
theorem jD.of_below {L:List FRow} (h:Bw t o):jD L t o:=⟨h.os,h.tape,h.output,h.size,λk a _=>h.block k a⟩
theorem jD.of_grown {q:FRow} (h:t.grownBy o q.v.ownBlock) (c:q ∈ K):jD K t o :=
 ⟨h.os,h.tape,h.output,h.size,λk a b=>h.block k a (λe=>b q c e.symm)⟩
theorem jD.keep (h:jD K t o) (a:bj w n t K):lG w n t o :=
 ⟨h.os,h.tape,h.output,h.size,λk c g=>h.block k c (λq b e=>by have d:=((a.own q b).lt k e).1;have f:=a.hi q b k e;omega)⟩
def yt (A:MA) (nx a c b no:Nat) (x cs ram xs ys:List Int):List FRow:=[aG A.ax nx A.cx x,aG A.ac a A.cc cs,aE A.ar c A.cr ram,aE A.ai b A.ci xs,aE A.ao no A.co ys]
theorem bj.markL {L1 L2:List FRow} {r:FRow} (h:bj w n t (L1++r::L2)) (a:t.grownBy o r.v.ownBlock) (xs:List A6) (b:o.ownsRow w r.t 1 r.v r.n xs):bj w n o (L1++⟨r.t,r.v,r.n,xs⟩::L2)/\jD (L1++r::L2) t o :=
 ⟨(h.mark a xs b).1,jD.of_grown a di⟩
theorem bj.rsl {A:MA} {a c b no:Nat} {x cs ram xs ys:List Int} (h:bj w n t (yt A Q a c b no x cs ram xs ys)):Sl .u64 t A.ax x/\Sl .u64 t A.ac cs/\Sl .u8 t A.ar ram/\Sl .u8 t A.ai xs/\Sl .u8 t A.ao ys :=
 ⟨fJ (h.own (aG A.ax Q A.cx x) (by simp [yt])),fJ (h.own (aG A.ac a A.cc cs) (by simp [yt])),fJ (h.own (aE A.ar c A.cr ram) (by simp [yt])),fJ (h.own (aE A.ai b A.ci xs) (by simp [yt])),fJ (h.own (aE A.ao no A.co ys) (by simp [yt]))⟩
def fN (w:A5):List Rw->Prop
 | []=>True
 | r::R=>pT r w/\fN w R
theorem ql {w:A5} {r:Rw}:∀ {R:List Rw},fN w R->r ∈ R->pT r w
 | [],_,h=>ni
 | _::R,h,a=>by
   rcases Y4.1 a with rfl|a
   ·exact h.1
   ·exact ql h.2 a
theorem yu {R:List Rw} (P:fN t R):n6 a (λx=>x=t) (λx=>x=t) R false (A8 a B f):=⟨λ_ h=>h,λW h r b=>by subst h;exact ql P b,(λh=>ni),cD⟩
theorem Sz {F:Fr} {k:List KI} {x:D1 × List KI × Bool} (h:Bn F (.sw E w p::k)=some x):x.2.2=false:=by
 cases w with
 | zero=>cases h
 | succ w =>
   simp only [Bn] at h;repeat (split at h<;>try cases h)
   all_goals rfl
theorem aC {S:List KI} {F:Fr} {R:List Rw} (u:fN t R) (H:Hn a (λx=>x=t) (λx=>x=t)) (m:Nat) {fn:Nat} {args:Array A6} {Rc:I2->A5->Prop} (y:F0 a fn args t Rc) (h:∀ e P,Rc e P->∃ v Rs,e=.returned v/\Wg a k (A8 a B f) w (n7 (be a R H w false m S F).1.2.2 (be a R H w false m S F).1.2.1) (pV (be a R H w false m S F).1.2.2 (be a R H w false m S F).1.2.1 v Rs) P) (hx:(iw S,(be a R H w false m S F).1.1,iw (be a R H w false m S F).1.2.1,Jf a w (be a R H w false m S F).1.2.2 (be a R H w false m S F).1.2.1)=(true,false,true,some (fn,args)):=by kernel_rfl) (he:(be a R H w false m S F).2.map R8=(be a R H w false m S F).2.map S2:=by kernel_rfl):Wg a k (A8 a B f) w S F t:=by
 simp only [Prod.mk.injEq] at hx
 obtain ⟨j,p,g,q⟩:=hx
 refine aL (λx=>x=t) (hn:=j) (ae (yu u) H m rfl (hret:=p) (he:=he) λP c=>?_)
 subst c
 refine aL k (hn:=g) (io y (hx:=q) λe P z=>?_)
 obtain ⟨v,Rs,r,s⟩:=h e P z
 refine ⟨v,Rs,r,λd=>?_,s⟩
 exact absurd d (by
  have:∀ (S:List KI) (F:Fr),iw S->xr F S=false:=by
   intro S F i
   unfold xr Bn
   cases S with
   | nil=>rfl
   | cons x S=>cases x with
     | sq=>cases i
     | sk=>cases i
     | sw all m listed =>
       cases hx:Bn F (.sw all m listed::S) with
       | none=>unfold Bn at hx;simp only [hx]
       | some x =>
         have d:=Sz hx
         unfold Bn at hx
         simp only [hx]
         exact d
     | ops all l=>cases l with
       | nil=>rfl
       | cons o l=>cases c:wn all F o with
         | none=>simp only [c]
         | some b=>cases b<;>simp only [c]
     | _=>rfl
  rw [this _ _ g];decide)
theorem gz {S:List KI} {F:Fr} {R:List Rw} (g:fN t R) (H:Hn a (λx=>x=t) (λx=>x=t)) (m:Nat) {s:Sem G1} {v:A6} {w':A5} (w:Nat) (hr:s.run a t=.ok (.value v) w') (h:Wg a k (A8 a B f) n (n7 (be a R H n false m S F).1.2.2 (be a R H n false m S F).1.2.1) (pV (be a R H n false m S F).1.2.2 (be a R H n false m S F).1.2.1 v w) w') (hx:(iw S,(be a R H n false m S F).1.1,iw (be a R H n false m S F).1.2.1,xr (be a R H n false m S F).1.2.2 (be a R H n false m S F).1.2.1,Em n (be a R H n false m S F).1.2.2 (be a R H n false m S F).1.2.1)=(true,false,true,false,some s):=by kernel_rfl) (he:(be a R H n false m S F).2.map R8=(be a R H n false m S F).2.map S2:=by kernel_rfl):Wg a k (A8 a B f) n S F t:=by simp only [Prod.mk.injEq] at hx;obtain ⟨b,c,d,e,Rs⟩:=hx;refine aL (λx=>x=t) (hn:=b) (ae (yu g) H m rfl (hret:=c) (he:=he) λj i=>?_);subst i;exact aL k (hn:=d) (dt w (hx:=Rs) hr (hS:=λP=>by rw [e] at P;cases P) h)
theorem bx {S:List KI} {F:Fr} {R:List Rw} (g:fN t R) (H:Hn a (λx=>x=t) (λx=>x=t)) (m:Nat) {s:Sem G1} {w':A5} (hr:s.run a t=.ok .skip w') (h:Wg a k (A8 a B f) n (n7 (be a R H n false m S F).1.2.2 (be a R H n false m S F).1.2.1) (pV (be a R H n false m S F).1.2.2 (be a R H n false m S F).1.2.1 undef 0) w') (hx:(iw S,(be a R H n false m S F).1.1,iw (be a R H n false m S F).1.2.1,xr (be a R H n false m S F).1.2.2 (be a R H n false m S F).1.2.1,Em n (be a R H n false m S F).1.2.2 (be a R H n false m S F).1.2.1)=(true,false,true,false,some s):=by kernel_rfl) (he:(be a R H n false m S F).2.map R8=(be a R H n false m S F).2.map S2:=by kernel_rfl):Wg a k (A8 a B f) n S F t:=by simp only [Prod.mk.injEq] at hx;obtain ⟨b,c,d,e,Rs⟩:=hx;refine aL (λx=>x=t) (hn:=b) (ae (yu g) H m rfl (hret:=c) (he:=he) λj i=>?_);subst i;exact aL k (hn:=d) (bE (hx:=Rs) hr (hS:=λP=>by rw [e] at P;cases P) h)
theorem ix {S:List KI} {F:Fr} {R:List Rw} (b:fN t R) (H:Hn a (λx=>x=t) (λx=>x=t)) (m:Nat) (h:∀ P,bU (be a R H n false m S F).1.2.2 n P->∃ v,(results B P.tmps).run a t=.ok v t/\f (.returned v) t) (hx:(iw S,(be a R H n false m S F).1.1)=(true,true):=by kernel_rfl) (he:(be a R H n false m S F).2.map R8=(be a R H n false m S F).2.map S2:=by kernel_rfl):Wg a k (A8 a B f) n S F t:=by simp only [Prod.mk.injEq] at hx;exact aL (λx=>x=t) (hn:=hx.1) (kJ (yu b) H m rfl (hv:=hx.2) (he:=he) λe P d c=>by subst d;exact h P c)
theorem jm {S:List KI} {F:Fr} {R:List Rw} (b:fN o R) (H:Hn a (λx=>x=o) (λx=>x=o)) (m:Nat) {t:Nat} {v:A6} (h:f (.returned v) o) (hx:(iw S,(be a R H n false m S F).1.1,(lk (be a R H n false m S F).1.2.2 t).map R8)=(true,true,some v):=by kernel_rfl) (he:(be a R H n false m S F).2.map R8=(be a R H n false m S F).2.map S2:=by kernel_rfl) (hr:B.results=#[.tmp t]:=by rfl):Wg a k (A8 a B f) n S F o:=by simp only [Prod.mk.injEq] at hx;exact ix b H m (hx:=x8) (he:=he) λP c=>⟨v,by rw [R6 hr,c.slot hx.2.2],h⟩
theorem Lj {α:Type} {t:Nat} {x:α}:∀ {F:List (Nat × α)},lk F t=some x->(t,x) ∈ F
 | [],h=>ni
 | (s,y)::F,h=>by
   unfold lk at h
   cases a:Z9 s t with
   | true =>
     rw [a] at h
     cases h
     have:s=t:=Z8 a
     simp [this]
   | false=>rw [a] at h;exact List.mem_cons_of_mem _ (Lj h)
theorem bU.less {F G:Fr} (h:bU F n d) (hs:G.map (λy=>some y.2.1)=G.map λy=>(lk F y.1).map R8):bU G n d :=
 ⟨h.size,h.nod,λt x e=>by
  have a:=Lj e
  have:=Y3.1 hs (t,x) a
  obtain ⟨y,b,c⟩:=X6.1 this.symm
  have:=h.at_ t y b
  rw [this,c]⟩
def VA:List KI->Bool
 | .code (.loop _)::_=>true
 | _=>false
def WM:List KI->D3
 | .code (.loop c)::_=>c
 | _=>.skip
def Rv:List KI->Act->A5->Prop
 | .fin R::_=>R
 | _=>λ_ _=>False
theorem gJ {Q:D4->Act->A5->Prop} {S:List KI} {F:Fr} {α:Type} (d:α->Fr) (I:Nat->α->A5->Prop) (i:Nat) (g:α) (hl:VA S) (hF:(d g).map (λy=>some y.2.1)=(d g).map λy=>(lk F y.1).map R8) (r:I i g t) (round:∀ j x t,I j x t->∀ R:Act->A5->Prop,(∀ P e b f,b<j->bU (d f) n P->I b f e->R P e)->Wg a k Q n (.code (WM S)::.fin R::S.tail) (d x) t):Wg a k Q n S F t:=λP w=>by
 match S,hl with
 | .code (.loop c)::k',_ =>
   show (Go.Code.loop c).wp a (iY a k Q k') P t
   refine wp_loop_ghost (λj P t=>∃ x,bU (d x) n P/\I j x t) i ⟨g,w.less hF,r⟩ λj P t s=>?_
   obtain ⟨x,p,q⟩:=s
   exact round j x t q (λh e=>∃ b,b<j/\∃ x,bU (d x) n h/\I b x e) (λh e b f l m o=>⟨b,l,f,m,o⟩) P p
theorem Lk {Q:D4->Act->A5->Prop} {S:List KI} {F:Fr} {R:List Rw} (E:n6 a k W R j Q) (H:Hn a k W) (m:Nat) (hS:W t) {T:Act->A5->Prop} (h:∀ P c,W c->bU (be a R H w j m S F).1.2.2 w P->T P c) (hx:((be a R H w j m S F).1.1,Rv (be a R H w j m S F).1.2.1)=(false,T):=by kernel_rfl) (he:(be a R H w j m S F).2.map R8=(be a R H w j m S F).2.map S2:=by kernel_rfl):Wg a k Q w S F t:=by
 simp only [Prod.mk.injEq] at hx;refine ae E H m hS (hret:=hx.1) (he:=he) λc f P e=>?_;have b:=h P c f e;rw [<- hx.2] at b;generalize (be a R H w j m S F).1.2.1=d at b;cases d with
 | nil=>cases b
 | cons y d=>cases y with
   | fin g=>exact b
   | _=>cases b
theorem dY {S:List KI} {F:Fr} {R:List Rw} (b:fN t R) (H:Hn a (λx=>x=t) (λx=>x=t)) (m:Nat) {T:Act->A5->Prop} (h:∀ P,bU (be a R H n false m S F).1.2.2 n P->T P t) (hx:(iw S,(be a R H n false m S F).1.1,Rv (be a R H n false m S F).1.2.1)=(true,false,T):=by kernel_rfl) (he:(be a R H n false m S F).2.map R8=(be a R H n false m S F).2.map S2:=by kernel_rfl):Wg a k (A8 a B f) n S F t:=by simp only [Prod.mk.injEq] at hx;exact aL (λx=>x=t) (hn:=hx.1) (Lk (T:=T) (yu b) H m rfl (hx:=by rw [hx.2.1,hx.2.2]) (he:=he) λP e d c=>by subst d;exact h P c)
theorem aj {S:List KI} {F:Fr} {R:List Rw} (P:fN t R) (H:Hn a (λx=>x=t) (λx=>x=t)) (m:Nat) (h:Wg a k (A8 a B f) n (be a R H n false m S F).1.2.1 (be a R H n false m S F).1.2.2 t) (hx:(iw S,(be a R H n false m S F).1.1,iw (be a R H n false m S F).1.2.1)=(true,false,true):=by kernel_rfl) (he:(be a R H n false m S F).2.map R8=(be a R H n false m S F).2.map S2:=by kernel_rfl):Wg a k (A8 a B f) n S F t:=by simp only [Prod.mk.injEq] at hx;exact aL (λx=>x=t) (hn:=hx.1) (ae (yu P) H m rfl (hret:=hx.2.1) (he:=he) λc b=>by subst b;exact aL k (hn:=hx.2.2) h)
def Dw (w W:A5):Prop:=∃ d,W={w with drawn:=w.drawn+d}
theorem Dw.refl:Dw r r:=⟨0,rfl⟩
structure Ez (S:A5->Prop) (R:List Rw):Prop where
 rows:∀ w,S w->∀ r ∈ R,pT r w
 drew:∀ w,S w->S w.drew
theorem oz {fn:K1} {R:List Rw} (a:Ez k R) (hS:k t):n6 P k (Dw t) R true (A8 P fn Rs):=
 ⟨λW h=>by
  obtain ⟨d,rfl⟩:=h
  induction d with
  | zero=>exact hS
  | succ d b=>exact a.drew _ b,a.rows,λ_ W h=>by obtain ⟨d,rfl⟩:=h;exact ⟨d+1,rfl⟩,cD⟩
theorem qE {S:List KI} {F:Fr} {R:List Rw} (j:Ez k R) (hS:k t) (H:Hn a k (Dw t)) (m:Nat) {Rs:Nat} {args:Array A6} {Rc:A5->I2->A5->Prop} (l:∀ W,Dw t W->F0 a Rs args W (Rc W)) (h:∀ W e P,Dw t W->Rc W e P->∃ v w,e=.returned v/\k P/\Wg a k (A8 a B f) n (n7 (be a R H n true m S F).1.2.2 (be a R H n true m S F).1.2.1) (pV (be a R H n true m S F).1.2.2 (be a R H n true m S F).1.2.1 v w) P) (hx:((be a R H n true m S F).1.1,Jf a n (be a R H n true m S F).1.2.2 (be a R H n true m S F).1.2.1)=(false,some (Rs,args)):=by kernel_rfl) (he:(be a R H n true m S F).2.map R8=(be a R H n true m S F).2.map S2:=by kernel_rfl):Wg a k (A8 a B f) n S F t :=
 aT (oz j hS) H m (Dw.refl t) l (hx:=hx) (he:=he) λW e P b c=>by
  obtain ⟨v,w,d,g,i⟩:=h W e P b c
  exact ⟨v,w,d,λ_=>g,i⟩
theorem vk {S:List KI} {F:Fr} {R:List Rw} (b:Ez k R) (hS:k t) (H:Hn a k (Dw t)) (m:Nat) {s:Sem G1} (Rs:A5->A5) (hr:∀ W,Dw t W->s.run a W=.ok .skip (Rs W)) (h:∀ W,Dw t W->k (Rs W)/\Wg a k (A8 a B f) n (n7 (be a R H n true m S F).1.2.2 (be a R H n true m S F).1.2.1) (pV (be a R H n true m S F).1.2.2 (be a R H n true m S F).1.2.1 undef 0) (Rs W)) (hx:((be a R H n true m S F).1.1,Em n (be a R H n true m S F).1.2.2 (be a R H n true m S F).1.2.1)=(false,some s):=by kernel_rfl) (he:(be a R H n true m S F).2.map R8=(be a R H n true m S F).2.map S2:=by kernel_rfl):Wg a k (A8 a B f) n S F t:=by simp only [Prod.mk.injEq] at hx;exact ae (oz b hS) H m (Dw.refl t) (hret:=hx.1) (he:=he) λW P=>bE (hx:=hx.2) (hr W P) (hS:=λ_=>(h W P).1) (h W P).2
theorem Ll {S:List KI} {F:Fr} {R:List Rw} (b:Ez k R) (hS:k t) (H:Hn a k (Dw t)) (m:Nat) {s:Sem G1} {v:A5->A6} (w:Nat) (Rs:A5->A5) (hr:∀ W,Dw t W->s.run a W=.ok (.value (v W)) (Rs W)) (h:∀ W,Dw t W->k (Rs W)/\Wg a k (A8 a B f) n (n7 (be a R H n true m S F).1.2.2 (be a R H n true m S F).1.2.1) (pV (be a R H n true m S F).1.2.2 (be a R H n true m S F).1.2.1 (v W) w) (Rs W)) (hx:((be a R H n true m S F).1.1,Em n (be a R H n true m S F).1.2.2 (be a R H n true m S F).1.2.1)=(false,some s):=by kernel_rfl) (he:(be a R H n true m S F).2.map R8=(be a R H n true m S F).2.map S2:=by kernel_rfl):Wg a k (A8 a B f) n S F t:=by simp only [Prod.mk.injEq] at hx;exact ae (oz b hS) H m (Dw.refl t) (hret:=hx.1) (he:=he) λW P=>dt w (hx:=hx.2) (hr W P) (hS:=λ_=>(h W P).1) (h W P).2
theorem zD {S:List KI} {F:Fr} {R:List Rw} (b:Ez k R) (hS:k t) (H:Hn a k (Dw t)) (m:Nat) (h:∀ W P,Dw t W->bU (be a R H n true m S F).1.2.2 n P->∃ v,(results B P.tmps).run a W=.ok v W/\f (.returned v) W) (hx:(be a R H n true m S F).1.1:=by kernel_rfl) (he:(be a R H n true m S F).2.map R8=(be a R H n true m S F).2.map S2:=by kernel_rfl):Wg a k (A8 a B f) n S F t :=
 kJ (oz b hS) H m (Dw.refl t) (hv:=hx) (he:=he) h
theorem Dw.below (hb:Below w t o) (h:Dw o b):Below w t b:=by
 obtain ⟨d,rfl⟩:=h;induction d with
 | zero=>exact hb
 | succ d a=>exact a.drew
theorem av {t ty:C6} {old cells:Array A6} (b:o.heap[g]?=some (.cells old t (0,0))) (c:(P.info? ty).map (·.size)=some cells.size) (d:old.size=cells.size) (a:cells.all (·.oneCell')): (do Y9 ty (.p g 0) (.agg cells);pure QA8:Sem G1).run P o=.ok .skip (o.setRow g cells):=by have:=run_storeVar_row (P:=P) o g t ty old cells b c d a;simp [Y9,Z0,this,QA9]
theorem mo {P:A9} {S:A5->Prop} {n:Nat} {fn:K1} {Rs:I2->A5->Prop} {k:List KI} {F:Fr} {w:A5} {R:List Rw} (hz:Ez S R) (hS:S w) (H:Hn P S (Dw w)) (m:Nat) {r:Nat} {T:C6} {d:I5} {cs:Array A6} {s p u:Nat} {v1 v2:A6} (v:∀ W,S W->S (W.setRow r cs)) (e:∀ W,S W->∃ old t,old.size=cs.size/\W.heap[r]?=some (.cells old t (0,0))) (C:(P.info? T).map (·.size)=some cs.size) (o:cs.all (·.oneCell')) (G:P.underlying T=some d) (hd:(match d with | .struct _ | .array _ _=>true | _=>false)=true) (q:fn.results=#[.tmp s,.cell p T,.tmp u]) (hx:((be P R H n true m k F).1.1,Em n (be P R H n true m k F).1.2.2 (be P R H n true m k F).1.2.1)=(false,some (do Y9 T (.p r 0) (.agg cs);pure QA8))) (he:(be P R H n true m k F).2.map R8=(be P R H n true m k F).2.map S2) (hy:(λ(y:(Bool × List KI × Fr) × List (Oe × Oe))=>(y.1.1,(lk y.1.2.2 s).map R8,(lk y.1.2.2 p).map R8,(lk y.1.2.2 u).map R8,y.2.map R8)) (be P R ({}:Hn P S λV=>∃ W,Dw w W/\Dw (W.setRow r cs) V) n true m (n7 (be P R H n true m k F).1.2.2 (be P R H n true m k F).1.2.1) (pV (be P R H n true m k F).1.2.2 (be P R H n true m k F).1.2.1 undef 0))=(true,some v1,some (.p r 0),some v2,(be P R ({}:Hn P S λV=>∃ W,Dw w W/\Dw (W.setRow r cs) V) n true m (n7 (be P R H n true m k F).1.2.2 (be P R H n true m k F).1.2.1) (pV (be P R H n true m k F).1.2.2 (be P R H n true m k F).1.2.1 undef 0)).2.map S2)) (h:∀ W V,Dw w W->Dw (W.setRow r cs) V->Rs (.returned (.tuple #[v1,.agg cs,v2])) V):Wg P S (A8 P fn Rs) n k F w:=by
 have c:∀ {a b:A5},S a->Dw a b->S b:=λ{a b} x l=>(oz (P:=P) (fn:=fn) (Rs:=Rs) hz x).sub _ l;refine vk hz hS H m (λW=>W.setRow r cs) (λW z=>?_) (hx:=hx) (he:=he) λW z=>?_;·obtain ⟨old,t,x,l⟩:=e W (c hS z);exact av l C x o
 ·have A:=v W (c hS z);refine ⟨A,?_⟩;simp only [Prod.mk.injEq] at hy;obtain ⟨I,J,K,L,M⟩:=hy;have E:n6 P S (λV=>∃ W,Dw w W/\Dw (W.setRow r cs) V) R true (A8 P fn Rs):=
   ⟨λV ⟨X,g,i⟩=>c (v X (c hS g)) i,hz.rows,λ_ V ⟨X,g,i⟩=>⟨X,g,by obtain ⟨j,rfl⟩:=i;exact ⟨j+1,rfl⟩⟩,cD⟩
  refine kJ E _ m ⟨W,z,Dw.refl _⟩ (hv:=I) (he:=M) λV a D B=>?_;obtain ⟨X,g,i⟩:=D;obtain ⟨old,t,x,l⟩:=e X (c hS g);have f:V.heap[r]?=some (.cells cs t (0,0)):=(by obtain ⟨j,rfl⟩:=i;exact I3 X r old cs t (0,0) l);refine ⟨_,?_,h X V g i⟩;rw [<- B.slot J,<- B.slot L];exact bM q a.tmps V r t cs (0,0) d (B.slot K) f G hd C
theorem jh {v old:A6} (P:t.cell? ⟨w,n,none⟩=some old/\t.frozen? ⟨w,n,none⟩=false) (d:(a.info? T).map (·.size)=some 1) (hv:v.cells=#[v]) (e:v.oneCell':=by rfl): (do Y9 T (.p w n) v;pure QA8:Sem G1).run a t=.ok .skip (t.setCell ⟨w,n,none⟩ v):=by
 obtain ⟨b,g,f⟩:=X6.1 d;have c:(store ⟨w,n,none⟩ v).run a t=.ok () (t.setCell ⟨w,n,none⟩ v):=by rw [run_store a t _ v _ e];simp [P.1,P.2]
 simp [Y9,Z0,storeVar,sizeOf,typeInfo,g,f,hv,storeCells,Addr.add,QA9,c]
theorem aI (h:Below w t o) {g:Nat} (b:w<=g) (cs:Array A6):Below w t (o.setRow g cs):=
 ⟨h.os,h.tape,h.output,by rw [setRow_size];exact h.size,λk a=>(setRow_other o g k cs ab).trans (h.block k a)⟩
theorem zE {P:A9} {fn:K1} {F:Fr} {n:Nat} {a:Act} {p u g:Nat} {T t:C6} {d:I5} {cs:Array A6} {v:A6} {w:A5} (hk:bU F n a) (h:fn.results=#[.cell p T,.tmp u]) (e:(lk F p).map R8=some (.p g 0)) (hv:(lk F u).map R8=some v) (b:w.heap[g]?=some (.cells cs t (0,0))) (f:P.underlying T=some d) (hd:(match d with | .struct _ | .array _ _=>true | _=>false)=true) (c:(P.info? T).map (·.size)=some cs.size):(results fn a.tmps).run P w=.ok (.tuple #[.agg cs,v]) w:=by rw [results_cell_tmp h,hk.slot e,hk.slot hv];simp [asAddr,run_loadVar_row w g t T cs (0,0) d b f hd c]
theorem gK {P:A9} {S:A5->Prop} {n:Nat} {fn:K1} {Rs:I2->A5->Prop} {k:List KI} {F:Fr} {w:A5} {R:List Rw} (f:fN w R) (H:Hn P (λx=>x=w) (λx=>x=w)) (m:Nat) {r:Nat} {T t:C6} {d:I5} {old cs:Array A6} {p u:Nat} {v:A6} (hr:w.heap[r]?=some (.cells old t (0,0))) (i:old.size=cs.size) (b:cs.all (·.oneCell')) (j:P.underlying T=some d) (h:Rs (.returned (.tuple #[.agg cs,v])) (w.setRow r cs)) (e:(P.info? T).map (·.size)=some cs.size:=by kernel_rfl) (hd:(match d with | .struct _ | .array _ _=>true | _=>false)=true:=by rfl) (c:fn.results=#[.cell p T,.tmp u]:=by rfl) (hx:(λ(y:Bool × List KI × Fr)=>(iw k,y.1,iw y.2.1,xr y.2.2 y.2.1,Em n y.2.2 y.2.1,iw (n7 y.2.2 y.2.1))) (be P R H n false m k F).1=(true,false,true,false,some (do Y9 T (.p r 0) (.agg cs);pure QA8),true):=by kernel_rfl) (he:(be P R H n false m k F).2.map R8=(be P R H n false m k F).2.map S2:=by kernel_rfl) (hy:∀ X,(λ(z:(Bool × List KI × Fr) × List (Oe × Oe))=>(z.1.1,(lk z.1.2.2 p).map R8,(lk z.1.2.2 u).map R8,z.2.map R8)) (be P [] ({}:Hn P (λx=>x=X) (λx=>x=X)) n false m (n7 (be P R H n false m k F).1.2.2 (be P R H n false m k F).1.2.1) (pV (be P R H n false m k F).1.2.2 (be P R H n false m k F).1.2.1 undef 0))=(true,some (.p r 0),some v,(be P [] ({}:Hn P (λx=>x=X) (λx=>x=X)) n false m (n7 (be P R H n false m k F).1.2.2 (be P R H n false m k F).1.2.1) (pV (be P R H n false m k F).1.2.2 (be P R H n false m k F).1.2.1 undef 0)).2.map S2):=by intro _;kernel_rfl):Wg P S (A8 P fn Rs) n k F w:=by simp only [Prod.mk.injEq] at hx hy;obtain ⟨l,o,q,s,A,B⟩:=hx;refine bx f H m (av hr e i b) ?_ (hx:=by rw [l,o,q,s,A]) (he:=he);exact ix (R:=[]) trivial {} m (λa g=>⟨_,zE g c (hy _).2.1 (hy _).2.2.1 (I3 _ _ _ _ _ _ hr) j hd e,h⟩) (hx:=by rw [B,(hy _).1]) (he:=(hy _).2.2.2)
theorem ct {z:A6} (h:(P.info? T).bind (·.zero)=some z) (w:A5):(do pure (.value (<- Z5 T true (.tuple #[]))):Sem G1).run P w=.ok (.value (.p w.heap.size 0)) (w.alloc (.cells z.cells T)):=by obtain ⟨i,a,b⟩:=Option.bind_eq_some_iff.1 h;simp [Z5,zeroValue,typeInfo,a,b,newVar,newRow]
theorem eO {R:List Rw} (E:n6 a k W R j (A8 a B f)) (H:Hn a k W) (m:Nat) {S:List KI} {F:Fr} {w:A5} {t s:Nat} {v u:A6} (hS:W w) (h:∀ b,W b->f (.returned (.tuple #[v,u])) b) (hv:((be a R H n j m S F).1.1,(lk (be a R H n j m S F).1.2.2 t).map R8,(lk (be a R H n j m S F).1.2.2 s).map R8)=(true,some v,some u):=by kernel_rfl) (he:(be a R H n j m S F).2.map R8=(be a R H n j m S F).2.map S2:=by kernel_rfl) (hr:B.results=#[.tmp t,.tmp s]:=by rfl):Wg a k (A8 a B f) n S F w:=by simp only [Prod.mk.injEq] at hv;exact kJ E H m hS (hv:=hv.1) (he:=he) λb P d c=>⟨_,by rw [results_tmp2 hr,c.slot hv.2.1,c.slot hv.2.2],h b d⟩
def R1 (w:A5) (g:Nat) (cs:Array A6) (t:C6) (W:A5):Prop:=W.heap[g]?=some (.cells cs t (0,0))/\Bw w W
theorem R1.below (h:R1 t g s x o) (hb:Bw o b):R1 t g s x b:=⟨aD hb h.1,aa h.2 hb⟩
theorem R1.eng {fn:K1}:n6 P (R1 t w s x) (R1 t w s x) [⟨w,s,[]⟩] true (A8 P fn Rs):=
 ⟨λ_ h=>h,λW h r a=>by rw [Y2.1 a];exact ⟨_,_,h.1⟩,λ_ W h=>h.below (QA6 _ _).drew,cD⟩
theorem R1.new {cs:Array A6} (hb:Bw t o):R1 t o.heap.size cs x ((o.alloc (.cells s x)).setRow o.heap.size cs):=by exact ⟨I3 _ _ _ _ _ _ (L6 _ _),aI (hb.alloc hb.size _) hb.size _⟩
def R2 (w:A5) (g:Nat) (cs:Array A6) (t:C6) (b:Nat) (a:Array A6) (t':C6) (W:A5):Prop:=R1 w g cs t W/\W.heap[b]?=some (.cells a t' (0,0))
theorem R2.below {a:Array A6} {t':C6} (h:R2 t g s x w a t' o) (hb:Bw o b):R2 t g s x w a t' b:=⟨h.1.below hb,aD hb h.2⟩
theorem R2.eng {fn:K1} {a:Array A6} {t':C6}:n6 P (R2 t w s x n a t') (R2 t w s x n a t') [⟨w,s,[]⟩,⟨n,a,[]⟩] true (A8 P fn Rs):=
 ⟨λ_ h=>h,λW h r c=>by rcases Y4.1 c with rfl | c;exact ⟨_,_,h.1.1⟩;rw [Y2.1 c];exact ⟨_,_,h.2⟩,λ_ W h=>h.below (QA6 _ _).drew,cD⟩
theorem jv {j:Nat} (h:t.heap[w]?=some (.cells s x (0,0))) (v:A6):(t.setCell ⟨w,j,none⟩ v).heap[w]?=some (.cells (s.set! j v) x (0,0)):=by have a:=(Array.getElem?_eq_some_iff.1 h).1;simp only [World.setCell];rw [Array.getElem?_modify];simp [h]
theorem bG {i:Nat} {v:A6} (hr:t.heap[w]?=some (.cells s x (0,0))) (e:i<s.size) (c:(P.info? T).map (·.size)=some 1) (hv:v.cells=#[v]) (f:v.oneCell':=by rfl): (do Y9 T (.p w i) v;pure QA8:Sem G1).run P t=.ok .skip (t.setCell ⟨w,i,none⟩ v):=by
 obtain ⟨x,h,g⟩:=X6.1 c;have d:t.cell? ⟨w,i,none⟩=some s[i]:=by simp [World.cell?,hr,e]
 have a:(store ⟨w,i,none⟩ v).run P t=.ok () (t.setCell ⟨w,i,none⟩ v):=by rw [run_store P t _ v _ f];simp [d,dD hr i]
 simp [Y9,Z0,storeVar,sizeOf,typeInfo,h,g,hv,storeCells,Addr.add,QA9,a]
