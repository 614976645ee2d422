/- Own lemmas. -/
import Derived.Test.YtjifdmoehfbihaaGreatDoorAuj
import Derived.Test.YtjifdmoehfbihaaGreatDoorJ02
import Derived.Deep.RegionHeld3
import Derived.Deep.LoopGhost
namespace Go.Proofs.YtjifdmoehfbihaaGreatDoor
open Go.RowKit
set_option linter.unusedVariables false
variable {w n Q t g:Nat} {a o b w':World} {f P:Program} {k c S J:World->Prop} {W:Exit->Act->World->Prop} {B:Array Oper} {E Rs:Ending->World->Prop} {L fn:Func} {d:Act} {j:Oper} {m:Array Bool} {p q:Array Value} {x dr:Bool} {K:Region.Mode} {e v:Value} {l T:TypeId} {r s:Sem Next} {y:Go.Code} {z:List FRow} {A:Type} {C:Act->World->Prop} {D:List (Array Value × TypeId)} {args:List Value} {Rc:World->Ending->World->Prop} (F:World) (G:List (Array Value × TypeId)) (I:World->Prop)
def il (P:Program) (md:Region.Mode) (ops:Array Oper) (Q:Exit->Act->World->Prop) (S:World->Prop) (k:Nat):Nat->Array Bool->Act->World->Prop
 | 0,listed,a,w=>Region.ready md ops listed=[]/\Q .normal a w
 | fuel+1,listed,a,w =>
   (Region.ready md ops listed=[]->Q .normal a w) /\
   ∀ i ∈ Region.ready md ops listed,wpOp P ops Q i (λc b=>(i≠k->S b/\il P md ops Q S k fuel (listed.setIfInBounds i true) c b)/\(i=k->wpAny P md ops Q fuel (listed.setIfInBounds i true) c b)) a w
theorem vu {P:Program} {ops:Array Oper} {Q:Exit->Act->World->Prop} {md:Region.Mode} {S:World->Prop} {k:Nat}:∀ (fuel:Nat) (listed:Array Bool) (a:Act) (w:World),il P md ops Q S k fuel listed a w->wpAny P md ops Q fuel listed a w
 | 0,_,_,_,h=>h
 | fuel+1,_,_,_,h=>⟨h.1,λi d=>wpOp_mono (λc f b=>by
  by_cases e:i=k
  ·exact b.2 e
  ·exact vu fuel _ c f (b.1 e).2) (h.2 i d)⟩
def og (md:Region.Mode) (ops:Array Oper) (k i:Nat):Bool:=(i != k)&&(match ops[k]? with | some a=>a.after.any (λe=>Region.binds md e&&(e.on==i)) | none=>false)
theorem Ei (h:og K B w n=true):n≠w/\∃ b e,B[w]?=some b/\e ∈ b.after/\Region.binds K e=true/\e.on=n:=by
 unfold og at h;simp only [Bool.and_eq_true,bne_iff_ne,ne_eq] at h;refine ⟨h.1,?_⟩;have a:=h.2;cases c:B[w]? with
 | none=>rw [c] at a;cases a
 | some b =>rw [c] at a;simp only [Array.any_eq_true,Bool.and_eq_true,beq_iff_eq] at a;obtain ⟨j,g,d,f⟩:=a;exact ⟨b,_,rfl,Array.getElem_mem g,d,f⟩
def qw (md:Region.Mode) (ops:Array Oper) (listed:Array Bool):Prop:=∀ j o,ops[j]?=some o->listed.getD j false=true->∀ e ∈ o.after,Region.binds md e=true->listed.getD e.on false=true
def uE (md:Region.Mode) (ops:Array Oper) (listed:Array Bool):Bool:=(List.range listed.size).all λj=>!(listed.getD j false)||(match ops[j]? with | some o=>o.after.all λe=>!(Region.binds md e)||listed.getD e.on false | none=>true)
theorem Bu (h:uE K B m=true):qw K B m:=by
 intro j o k d e g f;unfold uE at h;rw [List.all_eq_true] at h;have i:j<m.size:=by
  rcases Nat.lt_or_ge j m.size with a|a;·exact a
  ·simp [Array.getD,Nat.not_lt.2 a] at d
 have b:=h j (List.mem_range.2 i);rw [d,k] at b;simp only [Bool.not_true,Bool.false_or,Array.all_eq_true] at b;obtain ⟨x,l,rfl⟩:=Array.getElem_of_mem g;have c:=b x l;rw [f] at c;simpa using c
def rR (md:Region.Mode) (ops:Array Oper) (i:Nat):Nat->Nat->Bool
 | 0,_=>false
 | f+1,k=>og md ops k i||(List.range ops.size).any λj=>og md ops k j&&rR md ops i f j
theorem tq {ops:Array Oper} {md:Region.Mode} {i:Nat} {listed:Array Bool} (o:qw md ops listed):∀ f k,rR md ops i f k=true->(listed.getD k false=true\/k ∈ Region.ready md ops listed)->listed.getD i false=true
 | 0,_,h,_=>l7
 | f+1,k,h,g=>by
   have a:∀ j,og md ops k j=true->listed.getD j false=true:=by
    intro j d
    obtain ⟨_,r,e,q,p,n,c⟩:=Ei d
    rcases g with g|g
    ·have:=o k r q g e p n
     rw [c] at this;exact this
    ·obtain ⟨_,s,l,b⟩:=mem_ready.1 g
     rw [q] at l
     cases l
     have m:=b e p n
     rw [c] at m
     exact m
   unfold rR at h
   rw [Bool.or_eq_true] at h
   rcases h with h|h
   ·exact a i h
   ·rw [List.any_eq_true] at h
    obtain ⟨j,_,d⟩:=h
    rw [Bool.and_eq_true] at d
    exact tq o f j d.2 (Or.inl (a j d.1))
theorem oh (h:m.getD w false=true):(m.setIfInBounds n true).getD w false=true:=by
 simp only [Array.getD_eq_getD_getElem?,Array.getElem?_setIfInBounds] at h ⊢;split
 ·split;·rfl
  ·rename_i a b;subst a;simp [Array.getElem?_eq_none (Nat.not_lt.1 b)] at h
 ·exact h
theorem Ek (i:qw K B m) (k:w ∈ Region.ready K B m):qw K B (m.setIfInBounds w true):=by
 intro x o g c e f d;by_cases h:x=w;·subst h;obtain ⟨_,l,b,a⟩:=mem_ready.1 k;rw [g] at b;cases b;exact oh (a e f d)
 ·refine oh (i x o g ?_ e f d);simp only [Array.getD_eq_getD_getElem?,Array.getElem?_setIfInBounds] at c ⊢;rw [if_neg (Ne.symm h)] at c;exact c
theorem xF (M:B[n]?=some j) (r:∀ (u:Nat) (o:Oper) z b,B[u]?=some o->o.op≠.select z b) (U:∀ c a S,W (.panic c) (a.put j.dst e) S->W (.panic c) a S) (E:n≠w) (P:Nat) (hk:rR K B n P w=true): ∀ (fuel:Nat) (listed:Array Bool) (a:Act) (S:World),qw K B listed -> (∀ u x,B[u]?=some x->u≠n->listed.getD u true=false->(∀ v ∈ x.after,Region.binds K v=true->v.on≠n)->j.apart B x=true) -> n ∈ Region.ready K B listed->YieldsIf f B k j e a->k S -> il f K B W k w fuel (listed.setIfInBounds n true) (a.put j.dst e) S->il f K B W k w (fuel+1) listed a S:=by
 intro fuel;induction fuel with
 | zero =>
   intro listed a S _ _ q md ops H;refine ⟨λh=>(by rw [h] at q;cases q),λu y=>?_⟩;by_cases d:u=n;·subst d;exact md.wpOp M ops ⟨λ_=>⟨ops,H⟩,λv=>absurd v E⟩
   ·have:=ready_mono y d;rw [H.1] at this;cases this
 | succ fuel X =>
   intro listed a S D m q md ops H;refine ⟨λh=>(by rw [h] at q;cases q),λu y=>?_⟩;by_cases d:u=n;·subst d;exact md.wpOp M ops ⟨λ_=>⟨ops,H⟩,λv=>absurd v E⟩
   ·have l:=H.2 u (ready_mono y d);obtain ⟨p,x,t,C⟩:=mem_ready.1 y;have F:∀ v ∈ x.after,Region.binds K v=true->v.on≠n:=λv Q V L=>by
     have l:=C v Q V;have A:=(mem_ready.1 q).1;rw [L] at l;rcases Nat.lt_or_ge n listed.size with s|s;·simp [s] at A l;rw [A] at l;cases l
     ·simp [Array.getElem?_eq_none s] at l
    have g:u≠w:=by
     rintro rfl;have l:=tq D P u hk (Or.inr y);have A:=(mem_ready.1 q).1;rcases Nat.lt_or_ge n listed.size with s|s;·simp [s] at A l;rw [A] at l;cases l
     ·simp [Array.getElem?_eq_none s] at l
    have T:=wpOp_putIf t (m u x t d p F) (λz b=>r n j z b M) (λz b=>r u x z b t) U md l;have i:∀ w I,B[w]?=some I->w≠n->(listed.setIfInBounds u true).getD w true=false ->
     (∀ v ∈ I.after,Region.binds K v=true->v.on≠n)->j.apart B I=true:=λw I hk N G O=>by
     refine m w I hk N ?_ O
     by_cases g:u=w
     ·subst g;exact p
     ·rw [getD_set_ne true g] at G;exact G
    refine wpOp_mono (λR Y J=>⟨λ_=>⟨(J.2.1 g).1,X (listed.setIfInBounds u true) R Y (Ek D y) i (ready_mono q (Ne.symm d)) J.1 (J.2.1 g).1 ?_⟩,λv=>absurd v g⟩) T;rw [Array.setIfInBounds_comm _ _ d];exact (J.2.1 g).2
theorem zE (P:B[n]?=some j) (hs:Region.noSelect B=true) (fuel:Region.free K B m n=true) (hr:(Region.ready K B m).contains n=true) (b:n≠w) (hk:rR K B n 6 w=true) (listed:uE K B m=true) (g:∀ c d a,W (.panic c) (d.put j.dst e) a->W (.panic c) d a) (hy:YieldsIf f B k j e d) (hS:k a) (h:il f K B W k w Q (m.setIfInBounds n true) (d.put j.dst e) a):il f K B W k w (Q+1) m d a :=
 xF P (Region.noSelect_spec hs) g b 6 hk Q m d a (Bu listed) (Region.free_spec P fuel) (by simpa using hr) hy hS h
theorem om (h:YieldsIf f B (λ_=>True) j e d):Yields f B j e d :=
 h.imp (λ⟨c,b⟩=>⟨c,λw=>b w trivial⟩) id
theorem xG {P:Program} (D:B[n]?=some j) (m:∀ (t:Nat) (o:Oper) x b,B[t]?=some o->o.op≠.select x b) (T:∀ c a S,W (.panic c) (a.put j.dst e) S->W (.panic c) a S) (z:n≠w): ∀ (fuel:Nat) (listed:Array Bool) (a:Act) (S:World), (∀ t u,B[t]?=some u->t≠n->listed.getD t true=false->(∀ v ∈ u.after,Region.binds K v=true->v.on≠n)->j.apart B u=true) -> n ∈ Region.ready K B listed->Yields P B j e a->k S -> il P K B W k w fuel (listed.setIfInBounds n true) (a.put j.dst e) S->il P K B W k w (fuel+1) listed a S:=by
 intro fuel;induction fuel with
 | zero =>
   intro listed a S _ p F J H;refine ⟨λh=>(by rw [h] at p;cases p),λt E=>?_⟩;by_cases d:t=n;·subst d;exact (Yields.yieldsIf (S:=λ_=>True) F).wpOp D trivial ⟨λ_=>⟨J,H⟩,λv=>absurd v z⟩
   ·have:=ready_mono E d;rw [H.1] at this;cases this
 | succ fuel X =>
   intro listed a S l p F J H;refine ⟨λh=>(by rw [h] at p;cases p),λt E=>?_⟩;by_cases d:t=n;·subst d;exact (Yields.yieldsIf (S:=λ_=>True) F).wpOp D trivial ⟨λ_=>⟨J,H⟩,λv=>absurd v z⟩
   ·have q:=H.2 t (ready_mono E d);obtain ⟨i,u,s,y⟩:=mem_ready.1 E;have A:∀ v ∈ u.after,Region.binds K v=true->v.on≠n:=λv V U md=>by
     have q:=y v V U;have O:=(mem_ready.1 p).1;rw [md] at q;rcases Nat.lt_or_ge n listed.size with I|I;·simp [I] at O q;rw [O] at q;cases q
     ·simp [Array.getElem?_eq_none I] at q
    have R:=wpOp_putIf (S:=λ_=>True) s (l t u s d i A) (λx b=>m n j x b D) (λx b=>m t u x b s) T (Yields.yieldsIf F) q;have g:∀ w C,B[w]?=some C->w≠n->(listed.setIfInBounds t true).getD w true=false ->
     (∀ v ∈ C.after,Region.binds K v=true->v.on≠n)->j.apart B C=true:=λw C Q L ops M=>by
     refine l w C Q L ?_ M
     by_cases f:t=w
     ·subst f;exact i
     ·rw [getD_set_ne true f] at ops;exact ops
    by_cases f:t=w;·refine wpOp_mono (λG N r=>⟨λv=>absurd f v,λ_=>?_⟩) R;refine wpAny_first D m T fuel (listed.setIfInBounds t true) G N g (ready_mono p (Ne.symm d)) (om r.1) ?_;rw [Array.setIfInBounds_comm _ _ d];exact r.2.2 f
    ·refine wpOp_mono (λG N r=>⟨λ_=>⟨(r.2.1 f).1,X (listed.setIfInBounds t true) G N g (ready_mono p (Ne.symm d)) (om r.1) (r.2.1 f).1 ?_⟩,λv=>absurd v f⟩) R;rw [Array.setIfInBounds_comm _ _ d];exact (r.2.1 f).2
theorem zF (listed:B[n]?=some j) (hs:Region.noSelect B=true) (P:Region.free K B m n=true) (hr:(Region.ready K B m).contains n=true) (hk:n≠w) (b:∀ c d a,W (.panic c) (d.put j.dst e) a->W (.panic c) d a) (hy:Yields f B j e d) (hS:k a) (h:il f K B W k w Q (m.setIfInBounds n true) (d.put j.dst e) a):il f K B W k w (Q+1) m d a :=
 xG listed (Region.noSelect_spec hs) b hk Q m d a (Region.free_spec listed P) (by simpa using hr) hy hS h
theorem El (o:B[n]?=some j) (hr:Region.ready K B m=[n]) (hk:n≠w) (h:∀ b:Act->World->Prop,Shut (∀ d a,k a->(k a->il f K B W k w Q (m.setIfInBounds n true) d a)->b d a)->if Region.wanted j (yielded B d.tmps)=true then Oper.wp f j d a b W else b (d.put j.dst undef) a): il f K B W k w (Q+1) m d a:=by refine ⟨λP=>absurd (hr.symm.trans P) (List.cons_ne_nil _ _),λfuel listed=>?_⟩;rw [hr] at listed;obtain rfl:=List.mem_singleton.1 listed;exact wpOp_step o (λb g=>h b (λd a c l=>g d a ⟨λ_=>⟨c,l c⟩,λe=>absurd e hk⟩))
theorem Em (i:B[w]?=some j) (hr:Region.ready K B m=[w]) (h:∀ b:Act->World->Prop,Shut (∀ d a,wpAny f K B W n (m.setIfInBounds w true) d a->b d a)->if Region.wanted j (yielded B d.tmps)=true then Oper.wp f j d a b W else b (d.put j.dst undef) a): il f K B W k w (n+1) m d a:=by refine ⟨λlisted=>absurd (hr.symm.trans listed) (List.cons_ne_nil _ _),λfuel c=>?_⟩;rw [hr] at c;obtain rfl:=List.mem_singleton.1 c;exact wpOp_step i (λb P=>h b (λd a g=>P d a ⟨λe=>absurd rfl e,λ_=>g⟩))
theorem Jc (e:B[w]?=some j) (hr:Region.ready K B m=[w]) (h:∀ b:Act->World->Prop,Shut (∀ d a,wpAny f K B W n (m.setIfInBounds w true) d a->b d a)->if Region.wanted j (yielded B d.tmps)=true then Oper.wp f j d a b W else b (d.put j.dst undef) a): wpAny f K B W (n+1) m d a:=by refine ⟨λlisted=>absurd (hr.symm.trans listed) (List.cons_ne_nil _ _),λfuel c=>?_⟩;rw [hr] at c;obtain rfl:=List.mem_singleton.1 c;exact wpOp_step e h
theorem gE {p:Prop} (h:x=false) (hb:x=true):p:=by rw [h] at hb;cases hb
structure Rw where
 b:Nat
 cs:Array Value
 tg:List (Nat × Nat)
abbrev Fr:=List (Nat × Value × Nat)
def lk {α:Type}:List (Nat × α)->Nat->Option α
 | [],_=>none
 | (t,x)::F,s=>match Nat.beq t s with
   | true=>some x
   | false=>lk F s
def ev (F:Fr):Operand->Value
 | .tmp t=>match lk F t with
   | some x=>x.1
   | none=>undef
 | .const v=>v
 | .global g=>.p g 0
 | .func f=>.func (.func f) #[] #[]
def La (F:Fr):Operand->Nat
 | .tmp t=>match lk F t with
   | some x=>x.2
   | none=>0
 | _=>0
def kn (F:Fr):Operand->Bool
 | .tmp t=>(lk F t).isSome
 | _=>true
structure ch (F:Fr) (n:Nat) (a:Act):Prop where
 size:a.tmps.size=n
 nod:a.defers=[]
 at_:∀ t x,lk F t=some x->a.tmps[t]?=some x.1
theorem ch.eval {F:Fr} {n:Nat} {a:Act} (h:ch F n a) {x:Operand} (hx:kn F x=true):a.eval x=ev F x:=by
 cases x with
 | tmp t =>simp only [kn,Option.isSome_iff_exists] at hx;obtain ⟨y,b⟩:=hx;have:=h.at_ t y b;simp [Act.eval,ev,b,Array.getD_eq_getD_getElem?,this]
 | const v=>rfl
 | global g=>rfl
 | func f=>rfl
theorem ch.put {F:Fr} {n:Nat} {a:Act} (h:ch F n a) {d:Nat} (hd:Nat.blt d n=true) (v:Value) (g:Nat):ch ((d,v,g)::F) n (a.put (some d) v):=by
 have i:d<n:=Nat.lt_of_succ_le (by simpa [Nat.blt] using hd);refine ⟨by simp [Act.put,h.size],h.nod,λt x f=>?_⟩;unfold lk at f;have j:=h.size;cases c:Nat.beq d t with
 | true =>rw [c] at f;have b:d=t:=Nat.eq_of_beq_eq_true c;subst b;cases f;simp [Act.put,j,i]
 | false =>
   rw [c] at f;have b:d≠t:=λe=>by rw [e,Nat.beq_refl] at c;cases c
   have:=h.at_ t x f;simp only [Act.put];rw [Array.getElem?_setIfInBounds_ne b];exact this
def xH {α:Type} (P:Program) (r:Option Rw):Sem α->Option (α × List (Addr × Addr))
 | .pure a=>some (a,[])
 | .load _ a k=>match r with
   | none=>none
   | some r=>match r.cs[a.off]? with
     | none=>none
     | some v=>match xH P (some r) (k v) with
       | none=>none
       | some x=>some (x.1,(a,⟨r.b,a.off,none⟩)::x.2)
 | .program k=>xH P r (k P)
 | .mark _ k=>xH P r k
 | _=>none
def pO (r:Rw) (w:World):Prop:=∃ t a,w.heap[r.b]?=some (.cells r.cs t a)
theorem Pt {r:Option Rw} (hr:∀ j,r=some j->pO j a):∀ (s:Sem A) (x:A) (b:List (Addr × Addr)),xH f r s=some (x,b)->(∀ e ∈ b,e.1=e.2)->s.run f a=.ok x a:=by
 intro s;induction s with
 | pure w=>intro x b h _;simp only [xH,Option.some.injEq,Prod.mk.injEq] at h;rw [h.1];rfl
 | load m w k P =>
   intro x b h c;unfold xH at h;cases r with
   | none=>cases h
   | some r =>
     dsimp only at h;cases i:r.cs[w.off]? with
     | none=>rw [i] at h;cases h
     | some v =>
       rw [i] at h;dsimp only at h;cases g:xH f (some r) (k v) with
       | none=>rw [g] at h;cases h
       | some y =>rw [g] at h;simp only [Option.some.injEq,Prod.mk.injEq] at h;obtain ⟨l,n⟩:=h;subst n;have o:w=⟨r.b,w.off,none⟩:=c (w,⟨r.b,w.off,none⟩) cp;obtain ⟨t,q,d⟩:=hr r rfl;have p:a.cell? w=some v:=(by rw [o];simp only [World.cell?,d];simpa using i);have:=P v x y.2 (by rw [g,<- l]) (λe h=>c e (by simp [h]));simp only [Sem.run,p];exact this
 | program k P=>intro x b h c;exact P f x b h c
 | mark m k P=>intro x b h c;exact P x b h c
 | store=>intro x b h;cases h
 | new=>intro x b h;cases h
 | shape=>intro x b h;cases h
 | freeze=>intro x b h;cases h
 | frozen=>intro x b h;cases h
 | getObj=>intro x b h;cases h
 | setObj=>intro x b h;cases h
 | choose=>intro x b h;cases h
 | sys=>intro x b h;cases h
 | halt=>intro x b h;cases h
structure Ov (P:Program) (S:World->Prop) where
 s:Sem Next
 v:Value
 t:Nat
 h:∀ w,S w->s.run P w=.ok (.value v) w
structure Cv (P:Program) (S:World->Prop) where
 f:Nat
 args:Array Value
 v:Value
 t:Nat
 h:∀ w,S w->Calls P f args w λe w'=>e=.returned v/\S w'
structure Vq where
 u:Value
 v:Value
 t:Nat
 h:u=v
inductive Oe where
 | a (x:Addr)
 | v (x:Value)
 | s (x:Sem Next)
 | c (f:Nat) (args:Array Value)
def wn (ops:Array Oper) (F:Fr) (o:Oper):Option Bool :=
 match o.guard with
 | none=>some true
 | some (j,want)=>match ops[j]? with
   | none=>none
   | some a=>match a.dst with
     | none=>none
     | some d=>match lk F d with
       | none=>none
       | some x=>match x.1 with
         | .bool b=>some (b==want)
         | _=>some false
theorem kS {F:Fr} (h:ch F n d) (c:wn B F j=some x):Region.wanted j (yielded B d.tmps)=x:=by
 unfold wn at c;unfold Region.wanted;cases i:j.guard with
 | none=>rw [i] at c;simpa using c
 | some g =>
   obtain ⟨o,l⟩:=g;rw [i] at c;dsimp only at c ⊢;unfold yielded;cases k:B[o]? with
   | none=>rw [k] at c;cases c
   | some m =>
     rw [k] at c;dsimp only at c;cases e:m.dst with
     | none=>rw [e] at c;cases c
     | some a =>
       rw [e] at c;dsimp only at c;cases f:lk F a with
       | none=>rw [f] at c;cases c
       | some b =>rw [f] at c;dsimp only at c;have:=h.at_ a b f;simp only [Option.bind_some,e,this];obtain ⟨v,g⟩:=b;dsimp only at c ⊢;cases v<;>simp_all
def vy (R:List Rw) (F:Fr):Op->Option Rw
 | .load _ x=>match La F x with
   | 0=>none
   | k+1=>R[k]?
 | _=>none
def Ux (R:List Rw) (F:Fr):Op->Nat
 | .move x=>La F x
 | .assign x=>La F x
 | .nilCheck x=>La F x
 | .fieldAddr _ x _=>La F x
 | .pick c x y=>match ev F c with
   | .bool true=>La F x
   | _=>La F y
 | .load _ x=>match La F x with
   | 0=>0
   | k+1=>match R[k]?,ev F x with
     | some r,.pointer (some p)=>(lk r.tg p.off).getD 0
     | _,_=>0
 | _=>0
def VO:Op->Bool
 | .alloc _ | .box _ _ | .build _ _ | .buildSlice _ _ _ | .insert _ _ _ _ | .store _ _ _ | .ready _ | .waits _ | .makeFunc _ _ _ | .makeMap _ _ | .makeChan _ _ | .makeSlice _ _ _
 | .mapUpdate _ _ _ _ | .mapEntry _ _ _ | .entryStore _ _ _ _ | .range _ _ | .next _ _ | .entry _ | .go _ | .defer _ | .panic _ | .send _ _ | .recv _ _ _ | .select _ _=>true
 | .call c=>match c.callee with
   | .builtin .len=>false
   | _=>true
 | _=>false
def Bv:Op->Bool
 | .select _ _=>false
 | _=>true
def pl (P:Program) (f:Nat):Bool:=match P.funcs[f]? with
 | some fn=>match fn.body with
   | some _=>!(fn.name == "runtime.NumGoroutine")
   | none=>false
 | none=>false
theorem Uy (h:pl f w=true) (args:Array Value) (P:World):(callFunc w args).run f P=.ok (.enter w args) P:=by
 unfold pl at h;cases b:f.funcs[w]? with
 | none=>rw [b] at h;cases h
 | some fn =>
   rw [b] at h;dsimp only at h;cases a:fn.body with
   | none=>rw [a] at h;cases h
   | some c =>rw [a] at h;have d:fn.name≠ "runtime.NumGoroutine":=eo;simp [callFunc,b,d,a,mark]
def Lb (P:Program) {S:World->Prop} (R:List Rw) (ov:List (Nat × Ov P S)) (eq:List (Nat × Vq)) (F:Fr) (o:Oper):Option (Value × Nat × List (Oe × Oe)):=
 match o.op.operands.all (kn F)&&Bv o.op with
 | false=>none
 | true=>match o.dst.bind (lk ov) with
   | some e=>some (e.v,e.t,[(.s (execOp (ev F) o),.s e.s)])
   | none=>match xH P (vy R F o.op) (execOp (ev F) o) with
     | some (.value v,es)=>match o.dst.bind (lk eq) with
       | some e=>some (e.v,e.t,(.v v,.v e.u)::es.map λe=>(.a e.1,.a e.2))
       | none=>some (v,Ux R F o.op,es.map λe=>(.a e.1,.a e.2))
     | _=>none
theorem En {R:List Rw} {ov:List (Nat × Ov f S)} {eq:List (Nat × Vq)} {F:Fr} {o:Oper} {es:List (Oe × Oe)} (hk:ch F n d) (h:Lb f R ov eq F o=some (e,w,es)) (he:∀ v ∈ es,v.1=v.2) (E:∀ t,S t->∀ r ∈ R,pO r t): (∀ t,S t->(execOp d.eval o).run f t=.ok (.value e) t)/\∀ m b,o.op≠.select m b:=by
 unfold Lb at h;cases j:o.op.operands.all (kn F)&&Bv o.op with
 | false=>rw [j] at h;cases h
 | true =>
   rw [j] at h;dsimp only at h;rw [Bool.and_eq_true] at j;have C:∀ m b,o.op≠.select m b:=λm b v=>by have:=j.2;rw [v] at this;cases this
   have p:execOp d.eval o=execOp (ev F) o:=execOp_congr o C λx G=>hk.eval (Array.all_eq_true_iff_forall_mem.1 j.1 x G);refine ⟨λt B=>?_,C⟩;rw [p];cases l:o.dst.bind (lk ov) with
   | some v =>rw [l] at h;simp only [Option.some.injEq,Prod.mk.injEq] at h;obtain ⟨g,A,i⟩:=h;subst i;have:=he (.s (execOp (ev F) o),.s v.s) cp;simp only [Oe.s.injEq] at this;rw [this,<- g];exact v.h t B
   | none =>
     rw [l] at h;dsimp only at h;cases z:xH f (vy R F o.op) (execOp (ev F) o) with
     | none=>rw [z] at h;cases h
     | some y =>
       obtain ⟨H,P⟩:=y;rw [z] at h;cases H with
       | value u =>
         dsimp only at h;have key:(∀ v ∈ P,v.1=v.2)->Sem.run f (execOp (ev F) o) t=.ok (.value u) t:=λq=>by
          refine Pt (λI a=>?_) _ _ P z q;refine E t B I ?_;unfold vy at a;split at a
          ·split at a;·cases a
           ·exact List.mem_of_getElem? a
          ·cases a
         cases k:o.dst.bind (lk eq) with
         | some v =>rw [k] at h;simp only [Option.some.injEq,Prod.mk.injEq] at h;obtain ⟨g,A,i⟩:=h;subst i;have D:=he (.v u,.v v.u) cp;simp only [Oe.v.injEq] at D;rw [key λc s=>by have:=he (.a c.1,.a c.2) (by simp only [List.mem_cons,List.mem_map];exact .inr ⟨c,s,rfl⟩);simpa using this,<- g,<- v.h,D]
         | none =>rw [k] at h;simp only [Option.some.injEq,Prod.mk.injEq] at h;obtain ⟨g,A,i⟩:=h;subst i;rw [key λc s=>by have:=he (.a c.1,.a c.2) (List.mem_map.2 ⟨c,s,rfl⟩);simpa using this,<- g]
       | _=>cases h
def rS (P:Program) (F:Fr) (o:Oper):Option (Nat × Array Value):=
 match o.op.operands.all (kn F) with
 | false=>none
 | true=>match o.op with
   | .call c=>match c.callee with
     | .value x=>match ev F x with
       | .func (.func f) first cap=>match pl P f with
         | true=>some (f,first++c.args.map (ev F)++cap)
         | false=>none
       | _=>none
     | _=>none
   | _=>none
theorem rT {F:Fr} {a:Act} (hk:ch F n a) (h:rS f F j=some (w,p)) (P:World):(execOp a.eval j).run f P=.ok (.enter w p) P:=by
 unfold rS at h;cases k:j.op.operands.all (kn F) with
 | false=>rw [k] at h;cases h
 | true =>
   rw [k] at h;dsimp only at h;cases d:j.op with
   | call c =>
     have r:∀ args b,j.op≠.select args b:=λargs b e=>by rw [d] at e;cases e
     have l:execOp a.eval j=execOp (ev F) j:=execOp_congr j r λx o=>hk.eval (Array.all_eq_true_iff_forall_mem.1 k x o);rw [l];rw [d] at h;dsimp only at h;cases i:c.callee with
     | value x =>
       rw [i] at h;dsimp only at h;cases o:ev F x with
       | func fn g cap =>
         rw [o] at h;cases fn with
         | func q =>
           dsimp only at h;cases m:pl f q with
           | false=>rw [m] at h;cases h
           | true =>
             rw [m] at h;simp only [Option.some.injEq,Prod.mk.injEq] at h;obtain ⟨rfl,rfl⟩:=h;have:execOp (ev F) j=callFunc q (g++c.args.map (ev F)++cap):=by unfold execOp;rw [d];simp only [resolve,i,o,Deferred.ofValue];rfl
             rw [this];exact Uy m _ _
         | _=>cases h
       | _=>rw [o] at h;cases h
     | _=>rw [i] at h;cases h
   | _=>rw [d] at h;cases h
inductive KI where
 | code (c:Go.Code)
 | blk (id:Nat)
 | ops (all:Array Oper) (rest:List Oper)
 | sq (all:Array Oper) (fuel:Nat) (listed:Array Bool)
 | fin (R:Act->World->Prop)
 | sk (all:Array Oper) (kk:Nat) (fuel:Nat) (listed:Array Bool)
 | sw (all:Array Oper) (fuel:Nat) (listed:Array Bool)
def iV (P:Program) (S:World->Prop) (Q:Exit->Act->World->Prop):List KI->Exit->Act->World->Prop
 | []=>Q
 | .code c::k=>Exit.then (λa w=>c.wp P (iV P S Q k) a w) (iV P S Q k)
 | .ops all rest::k=>Exit.then (wpList P all (iV P S Q k) rest) (iV P S Q k)
 | .blk id::k=>Exit.inBlock id (iV P S Q k)
 | .sq all fuel listed::k=>Exit.then (wpAnyH P .any all (iV P S Q k) S fuel listed) (iV P S Q k)
 | .fin R::k=>Exit.then R (iV P S Q k)
 | .sk all kk fuel listed::k=>Exit.then (il P .any all (iV P S Q k) S kk fuel listed) (iV P S Q k)
 | .sw all fuel listed::k=>Exit.then (wpAny P .any all (iV P S Q k) fuel listed) (iV P S Q k)
theorem mR {P:Program} {S:World->Prop} {Q:Exit->Act->World->Prop} {c:List PanicEntry} {a:Act} {w:World}:∀ k:List KI,iV P S Q k (.panic c) a w=Q (.panic c) a w
 | []=>rfl
 | .code _::k | .ops _ _::k | .blk _::k | .sq _ _ _::k | .fin _::k | .sk _ _ _ _::k | .sw _ _ _::k=>mR k
theorem zG {P:Program} {S:World->Prop} {Q:Exit->Act->World->Prop} {a:Act} {w:World}:∀ k:List KI,iV P S Q k .ret a w=Q .ret a w
 | []=>rfl
 | .code _::k | .ops _ _::k | .blk _::k | .sq _ _ _::k | .fin _::k | .sk _ _ _ _::k | .sw _ _ _::k=>zG k
def pP (id:Nat):List KI->Option (List KI)
 | []=>none
 | .blk i::k=>match Nat.beq id i with
   | true=>some k
   | false=>pP id k
 | .code _::k=>pP id k
 | .ops _ _::k=>pP id k
 | .sq _ _ _::k=>pP id k
 | .fin _::k=>pP id k
 | .sk _ _ _ _::k=>pP id k
 | .sw _ _ _::k=>pP id k
theorem ky {P:Program} {S:World->Prop} {Q:Exit->Act->World->Prop} {id:Nat} {a:Act} {w:World}:∀ {k b:List KI},pP id k=some b->iV P S Q b .normal a w->iV P S Q k (.exit id) a w
 | [],_,h,_=>l7
 | .blk i::k,b,h,hd=>by
   unfold pP at h
   show Exit.inBlock i (iV P S Q k) (.exit id) a w
   unfold Exit.inBlock
   cases c:Nat.beq id i with
   | true =>
     rw [c] at h
     cases h
     have:id=i:=Nat.eq_of_beq_eq_true c
     simp only [this,if_true]
     exact hd
   | false =>
     rw [c] at h
     have:id≠i:=λe=>by rw [e,Nat.beq_refl] at c;cases c
     simp only [this,if_false]
     exact ky (k:=k) h hd
 | .code _::k,b,h,hd=>ky (k:=k) h hd
 | .ops _ _::k,b,h,hd=>ky (k:=k) h hd
 | .sq _ _ _::k,b,h,hd=>ky (k:=k) h hd
 | .fin _::k,b,h,hd=>ky (k:=k) h hd
 | .sk _ _ _ _::k,b,h,hd=>ky (k:=k) h hd
 | .sw _ _ _::k,b,h,hd=>ky (k:=k) h hd
structure Hn (P:Program) (S J:World->Prop) where
 eq:List (Nat × Vq):=[]
 ov:List (Nat × Ov P S):=[]
 cv:List (Nat × Cv P J):=[]
def rU (n:Nat) (F:Fr) (v:Value) (t:Nat):Option Nat->Option Fr
 | none=>some F
 | some d=>match Nat.blt d n with
   | true=>some ((d,v,t)::F)
   | false=>none
theorem kh {F c:Fr} {a:Option Nat} (h:rU n F e w a=some c) (hk:ch F n d):ch c n (d.put a e):=by
 cases a with
 | none=>cases h;exact hk
 | some a =>
   dsimp only [rU] at h;cases b:Nat.blt a n with
   | false=>rw [b] at h;cases h
   | true=>rw [b] at h;cases h;exact hk.put b e w
def qv (P:Program) {S J:World->Prop} (R:List Rw) (H:Hn P S J) (all:Array Oper) (F:Fr) (o:Oper):Option (Value × Nat × List (Oe × Oe)):=
 match wn all F o with
 | none=>none
 | some false=>some (undef,0,[])
 | some true=>Lb P R H.ov H.eq F o
theorem Lc {J:World->Prop} {R:List Rw} {H:Hn f k J} {F:Fr} {v:Value} {es:List (Oe × Oe)} (hk:ch F n d) (h:qv f R H B F j=some (v,w,es)) (he:∀ e ∈ es,e.1=e.2) (a:∀ t,k t->∀ r ∈ R,pO r t):YieldsIf f B k j v d:=by
 unfold qv at h;cases c:wn B F j with
 | none=>rw [c] at h;cases h
 | some b =>
   rw [c] at h;cases b with
   | false=>simp only [Option.some.injEq,Prod.mk.injEq] at h;exact .inr ⟨kS hk c,h.1.symm⟩
   | true=>exact .inl ⟨kS hk c,(En hk h he a).1⟩
def Ld (P:Program) {S J:World->Prop} (R:List Rw) (H:Hn P S J) (n:Nat) (all:Array Oper) (F:Fr) (o:Oper):Option (Fr × List (Oe × Oe)):=
 match qv P R H all F o with
 | some (v,t,es)=>match rU n F v t o.dst with
   | some a=>some (a,es)
   | none=>none
 | none=>match wn all F o,rS P F o,o.dst.bind (lk H.cv) with
   | some true,some (f,args),some e=>match rU n F e.v e.t o.dst with
     | some a=>some (a,[(.c f args,.c e.f e.args)])
     | none=>none
   | _,_,_=>none
theorem Gz {J:World->Prop} {R:List Rw} {H:Hn f k J} {F q:Fr} {es:List (Oe × Oe)} (hk:ch F n d) (hS:J a) (all:∀ a,J a->k a) (h:Ld f R H n B F j=some (q,es)) (he:∀ e ∈ es,e.1=e.2) (K:∀ a,k a->∀ r ∈ R,pO r a) (o:∀ d a,ch q n d->J a->C d a): if Region.wanted j (yielded B d.tmps)=true then j.wp f d a C W else C (d.put j.dst undef) a:=by
 unfold Ld at h;cases m:qv f R H B F j with
 | some y =>
   obtain ⟨v,t,z⟩:=y;rw [m] at h;dsimp only at h;cases c:rU n F v t j.dst with
   | none=>rw [c] at h;cases h
   | some u =>
     rw [c] at h;simp only [Option.some.injEq,Prod.mk.injEq] at h;obtain ⟨rfl,rfl⟩:=h;rcases Lc hk m he K with ⟨g,i⟩|⟨g,i⟩;·rw [if_pos g];show j.upon f d C W _;rw [i a (all a hS)];exact o _ _ (kh c hk) hS
     ·subst i;rw [g,if_neg bc];exact o _ _ (kh c hk) hS
 | none =>
   rw [m] at h;dsimp only at h;cases p:wn B F j with
   | none=>rw [p] at h;cases h
   | some b =>
     rw [p] at h;cases b with
     | false=>cases h
     | true =>
       cases l:rS f F j with
       | none=>rw [l] at h;cases h
       | some A =>
         obtain ⟨P,args⟩:=A;rw [l] at h;cases s:j.dst.bind (lk H.cv) with
         | none=>rw [s] at h;cases h
         | some e =>
           rw [s] at h;dsimp only at h;cases c:rU n F e.v e.t j.dst with
           | none=>rw [c] at h;cases h
           | some u =>rw [c] at h;simp only [Option.some.injEq,Prod.mk.injEq] at h;obtain ⟨rfl,rfl⟩:=h;have w:=he (.c P args,.c e.f e.args) cp;simp only [Oe.c.injEq] at w;rw [if_pos (kS hk p)];show j.upon f d C W _;rw [rT hk l a,w.1,w.2];refine (e.h a hS).mono λx E D=>?_;obtain ⟨rfl,S⟩:=D;exact o _ _ (kh c hk) S
inductive Sr where
 | go (k:List KI) (F:Fr) (es:List (Oe × Oe))
 | ret
 | stop
def qx (all:Array Oper) (listed:Array Bool):List Nat->Option Nat
 | []=>none
 | i::is=>match (match all[i]? with | some o=>!VO o.op | none=>false)&&Region.free .any all listed i with
   | true=>some i
   | false=>qx all listed is
theorem oo {all:Array Oper} {listed:Array Bool} {i:Nat}:∀ {l:List Nat},qx all listed l=some i->i ∈ l/\Region.free .any all listed i=true
 | [],h=>l7
 | j::is,h=>by
   unfold qx at h
   split at h
   ·rename_i a
    rw [Bool.and_eq_true] at a
    cases h
    exact ⟨cp,a.2⟩
   ·have:=oo (l:=is) h
    exact ⟨by simp [this.1],this.2⟩
def zH (P:Program) {S J:World->Prop} (R:List Rw) (H:Hn P S J) (n:Nat) (all:Array Oper) (fuel:Nat) (listed:Array Bool) (k:List KI) (F:Fr):Sr :=
 match Region.noSelect all with
 | false=>.stop
 | true=>match Region.ready .any all listed with
   | []=>.go k F []
   | i::is=>match fuel with
     | 0=>.stop
     | fuel+1=>match qx all listed (i::is) with
       | some j=>match all[j]? with
         | none=>.stop
         | some o=>match qv P R H all F o with
           | none=>.stop
           | some (v,t,es)=>match rU n F v t o.dst with
             | none=>.stop
             | some a=>.go (.sq all fuel (listed.setIfInBounds j true)::k) a es
       | none=>match is with
         | []=>match all[i]? with
           | none=>.stop
           | some o=>match Ld P R H n all F o with
             | none=>.stop
             | some (a,es)=>.go (.sq all fuel (listed.setIfInBounds i true)::k) a es
         | _::_=>.stop
def GA {P:Program} {S J:World->Prop} (H:Hn P S J) (all:Array Oper) (F:Fr) (o:Oper):Bool:=match wn all F o with
 | some false=>true
 | _=>(match o.dst.bind (lk H.ov) with | some _=>false | none=>true)&&(match o.op with | .load _ _=>false | _=>true)
theorem GB {P:Program} {R:List Rw} {H:Hn P k c} {F:Fr} {a:Act} {o:Oper} {es:List (Oe × Oe)} (hk:ch F n a) (h:qv P R H B F o=some (e,w,es)) (he:∀ v ∈ es,v.1=v.2) (J:GA H B F o=true):Yields P B o e a:=by
 unfold qv at h;unfold GA at J;cases d:wn B F o with
 | none=>rw [d] at h;cases h
 | some b =>
   rw [d] at h J;cases b with
   | false=>simp only [Option.some.injEq,Prod.mk.injEq] at h;exact .inr ⟨kS hk d,h.1.symm⟩
   | true =>
     dsimp only at h J;rw [Bool.and_eq_true] at J;have l:o.dst.bind (lk H.ov)=none:=by
      cases s:o.dst.bind (lk H.ov) with
      | none=>rfl
      | some x=>rw [s] at J;cases J.1
     have m:vy R F o.op=none:=by have g:=J.2;unfold vy;cases f:o.op<;>first | rfl | (rw [f] at g;cases g)
     have key:Lb P [] ([]:List (Nat × Ov P (λ_=>True))) H.eq F o=some (e,(Lb P [] ([]:List (Nat × Ov P (λ_=>True))) H.eq F o).elim w (·.2.1),es):=by
      unfold Lb at h ⊢;rw [l,m] at h;have p:vy [] F o.op=none:=by unfold vy;split<;>first | rfl | (split<;>rfl)
      have q:o.dst.bind (lk ([]:List (Nat × Ov P (λ_=>True))))=none:=(by cases o.dst<;>rfl);rw [p,q];cases i:o.op.operands.all (kn F)&&Bv o.op with
      | false=>rw [i] at h;cases h
      | true =>
        rw [i] at h;dsimp only at h ⊢;cases j:xH P none (execOp (ev F) o) with
        | none=>rw [j] at h;cases h
        | some y =>
          rw [j] at h;obtain ⟨A,S⟩:=y;cases A with
          | value u =>
            dsimp only at h ⊢;cases he:o.dst.bind (lk H.eq) with
            | none=>rw [he] at h;simp only [Option.some.injEq,Prod.mk.injEq] at h;rw [h.1,h.2.2];rfl
            | some v=>rw [he] at h;simp only [Option.some.injEq,Prod.mk.injEq] at h;rw [<- h.1,<- h.2.2];rfl
          | _=>cases h
     exact .inl ⟨kS hk d,λt=>(En (S:=λ_=>True) hk key he (λ_ _ r z=>by cases z)).1 t trivial⟩
def zI (P:Program) {S J:World->Prop} (R:List Rw) (H:Hn P S J) (n:Nat) (all:Array Oper) (kk fuel:Nat) (listed:Array Bool) (k:List KI) (F:Fr):Sr :=
 match Region.noSelect all with
 | false=>.stop
 | true=>match fuel with
   | 0=>.stop
   | fuel+1=>match qx all listed (Region.ready .any all listed) with
     | none=>.stop
     | some j=>match Nat.beq j kk,all[j]? with
       | false,some o=>match qv P R H all F o with
         | none=>.stop
         | some (v,t,es)=>match GA H all F o||(rR .any all j 6 kk&&uE .any all listed),rU n F v t o.dst with
           | true,some F'=>.go (.sk all kk fuel (listed.setIfInBounds j true)::k) F' es
           | _,_=>.stop
       | _,_=>.stop
def zJ (P:Program) {S J:World->Prop} (R:List Rw) (H:Hn P S J) (n:Nat) (all:Array Oper) (fuel:Nat) (listed:Array Bool) (k:List KI) (F:Fr):Sr :=
 match Region.noSelect all with
 | false=>.stop
 | true=>match Region.ready .any all listed with
   | []=>.go k F []
   | i::is=>match fuel with
     | 0=>.stop
     | fuel+1=>match qx all listed (i::is) with
       | none=>.stop
       | some j=>match all[j]? with
         | none=>.stop
         | some o=>match qv P R H all F o with
           | none=>.stop
           | some (v,t,es)=>match GA H all F o,rU n F v t o.dst with
             | true,some F'=>.go (.sw all fuel (listed.setIfInBounds j true)::k) F' es
             | _,_=>.stop
def iW (P:Program) (dr:Bool) (k:List KI) (F:Fr):Go.Code->Sr
 | .skip=>.go k F []
 | .seq x y=>.go (.code x::.code y::k) F []
 | .cond c x y=>match kn F c with
   | false=>.stop
   | true=>match ev F c with
     | .bool true=>.go (.code x::k) F []
     | .bool false=>.go (.code y::k) F []
     | _=>.stop
 | .block id c=>.go (.code c::.blk id::k) F []
 | .exit id=>match pP id k with
   | some a=>.go a F []
   | none=>.stop
 | .ret=>.ret
 | .region _ ops false=>.go (.ops ops ops.toList::k) F []
 | .region _ ops true=>match dr&&P.follows .mixedOrders with
   | true=>.go (.sq ops ops.size (Array.replicate ops.size false)::k) F []
   | false=>.stop
 | _=>.stop
def UA (P:Program) {S J:World->Prop} (R:List Rw) (H:Hn P S J) (n:Nat) (dr:Bool) (k:List KI) (F:Fr):Sr :=
 match k with
 | []=>.stop
 | .blk _::k=>.go k F []
 | .fin _::_=>.stop
 | .ops _ []::k=>.go k F []
 | .ops all (o::rest)::k=>match Ld P R H n all F o with
   | some (F',es)=>.go (.ops all rest::k) F' es
   | none=>.stop
 | .sq all fuel listed::k=>zH P R H n all fuel listed k F
 | .sk all kk fuel listed::k=>zI P R H n all kk fuel listed k F
 | .sw all fuel listed::k=>zJ P R H n all fuel listed k F
 | .code c::k=>iW P dr k F c
structure n6 (P:Program) (S J:World->Prop) (R:List Rw) (dr:Bool) (Q:Exit->Act->World->Prop):Prop where
 sub:∀ w,J w->S w
 rows:∀ w,S w->∀ r ∈ R,pO r w
 drew:dr=true->∀ w,J w->J w.drew
 pan:∀ c a d v w,Q (.panic c) (Act.put a d v) w->Q (.panic c) a w
theorem Jd {R:List Rw} {H:Hn f k c} (E:n6 f k c R x W) {S C:List KI} {F dr:Fr} {es:List (Oe × Oe)} (h:zH f R H n B w m S F=.go C dr es) (he:∀ e ∈ es,e.1=e.2) (b:∀ a fuel,ch dr n a->c fuel->iV f k W C .normal a fuel) (a:Act) (fuel:World) (hk:ch F n a) (hS:c fuel):wpAnyH f .any B (iV f k W S) k w m a fuel:=by
 unfold zH at h;cases d:Region.noSelect B with
 | false=>rw [d] at h;cases h
 | true =>
   rw [d] at h;dsimp only at h;cases l:Region.ready .any B m with
   | nil =>rw [l] at h;cases h;exact wpAnyH_done l (b a fuel hk hS) w
   | cons i is =>
     rw [l] at h;dsimp only at h;cases w with
     | zero=>cases h
     | succ w =>
       dsimp only at h;cases s:qx B m (i::is) with
       | some j =>
         rw [s] at h;dsimp only at h;cases P:B[j]? with
         | none=>rw [P] at h;cases h
         | some o =>
           rw [P] at h;dsimp only at h;cases u:qv f R H B F o with
           | none=>rw [u] at h;cases h
           | some y =>
             obtain ⟨v,t,listed⟩:=y;rw [u] at h;dsimp only at h;cases q:rU n F v t o.dst with
             | none=>rw [q] at h;cases h
             | some G =>rw [q] at h;simp only [Sr.go.injEq] at h;obtain ⟨rfl,rfl,rfl⟩:=h;have g:=oo s;refine wpAnyH_take P d g.2 (by rw [l];simpa using g.1) (λJ a fuel all=>?_) (Lc hk u he E.rows) (E.sub _ hS) (b _ _ (kh q hk) hS);rw [mR] at all ⊢;exact E.pan J a _ _ fuel all
       | none =>
         rw [s] at h;cases is with
         | cons _ _=>cases h
         | nil =>
           dsimp only at h;cases r:B[i]? with
           | none=>rw [r] at h;cases h
           | some o =>
             rw [r] at h;dsimp only at h;cases p:Ld f R H n B F o with
             | none=>rw [p] at h;cases h
             | some y =>obtain ⟨G,listed⟩:=y;rw [p] at h;simp only [Sr.go.injEq] at h;obtain ⟨rfl,rfl,rfl⟩:=h;refine wpAnyH_all l cp λj P=>?_;rw [List.mem_singleton] at P;subst P;refine wpOp_step r λL K=>?_;exact Gz hk hS E.sub p he E.rows λz D I A=>K z D ⟨E.sub _ A,b z D I A⟩
theorem Je {R:List Rw} {H:Hn f k c} (E:n6 f k c R x W) {S z:List KI} {F listed:Fr} {es:List (Oe × Oe)} (h:zI f R H n B w Q m S F=.go z listed es) (he:∀ e ∈ es,e.1=e.2) (b:∀ a kk,ch listed n a->c kk->iV f k W z .normal a kk) (a:Act) (kk:World) (hk:ch F n a) (hS:c kk):il f .any B (iV f k W S) k w Q m a kk:=by
 unfold zI at h;split at h;·cases h
 ·rename_i i;split at h;·cases h
  ·rename_i Q;split at h;·cases h
   ·rename_i j all;split at h
    ·rename_i o q u;split at h;·cases h
     ·rename_i v t A fuel;split at h
      ·rename_i C d r;simp only [Sr.go.injEq] at h;obtain ⟨rfl,rfl,rfl⟩:=h;have P:=oo all;have g:j≠w:=λe=>by rw [e,Nat.beq_refl] at q;cases q
       have p:∀ J a kk,iV f k W S (.panic J) (a.put o.dst v) kk->iV f k W S (.panic J) a kk:=λJ a kk s=>by rw [mR] at s ⊢;exact E.pan J a _ _ kk s
       have y:(Region.ready .any B m).contains j=true:=(by simpa using P.1);rcases Bool.or_eq_true _ _ ▸ d with l|l;·exact zF u i P.2 y g p (GB hk fuel he l) (E.sub _ hS) (b _ _ (kh r hk) hS)
       ·rw [Bool.and_eq_true] at l;exact zE u i P.2 y g l.1 l.2 p (Lc hk fuel he E.rows) (E.sub _ hS) (b _ _ (kh r hk) hS)
      ·cases h
    ·cases h
theorem Jf {R:List Rw} {H:Hn f k c} (E:n6 f k c R x W) {S p:List KI} {F l:Fr} {es:List (Oe × Oe)} (h:zJ f R H n B w m S F=.go p l es) (he:∀ e ∈ es,e.1=e.2) (b:∀ a fuel,ch l n a->c fuel->iV f k W p .normal a fuel) (a:Act) (fuel:World) (hk:ch F n a) (hS:c fuel):wpAny f .any B (iV f k W S) w m a fuel:=by
 unfold zJ at h;split at h;·cases h
 ·rename_i P;split at h;·rename_i g;cases h;exact wpAny_done g (b a fuel hk hS) w
  ·rename_i i is g;split at h;·cases h
   ·rename_i w;split at h;·cases h
    ·rename_i j u;split at h;·cases h
     ·rename_i o s;split at h;·cases h
      ·rename_i v t q dr;split at h;·rename_i z y r;simp only [Sr.go.injEq] at h;obtain ⟨rfl,rfl,rfl⟩:=h;have d:=oo u;refine wpAny_take s P d.2 (by rw [g];simpa using d.1) (λJ a fuel listed=>?_) (GB hk dr he y) (b _ _ (kh r hk) hS);rw [mR] at listed ⊢;exact E.pan J a _ _ fuel listed
       ·cases h
theorem tu {R:List Rw} (E:n6 f k J R x W) {S i:List KI} {F g:Fr} {es:List (Oe × Oe)} (h:iW f x S F y=.go i g es) (b:∀ a w,ch g n a->J w->iV f k W i .normal a w) (a:Act) (w:World) (hk:ch F n a) (hS:J w):y.wp f (iV f k W S) a w:=by
 unfold iW at h;split at h;·cases h;exact wp_skip (b a w hk hS)
 ·cases h;exact wp_seq (b a w hk hS)
 ·split at h;·cases h
  ·rename_i e;split at h;·rename_i d;cases h;exact wp_cond_true ((hk.eval e).trans d) (b a w hk hS)
   ·rename_i d;cases h;exact wp_cond_false ((hk.eval e).trans d) (b a w hk hS)
   ·cases h
 ·cases h;exact wp_block (b a w hk hS)
 ·split at h;·rename_i j;cases h;exact wp_exit (ky j (b a w hk hS))
  ·cases h
 ·cases h
 ·cases h;exact wp_region_list (b a w hk hS)
 ·split at h;·rename_i P;rw [Bool.and_eq_true] at P;cases h;exact wp_region_held P.2 (b a w.drew hk (E.drew P.1 w hS))
  ·cases h
 ·cases h
theorem SY {R:List Rw} {H:Hn f k c} (E:n6 f k c R x W) {S P:List KI} {F J:Fr} {es:List (Oe × Oe)} (h:UA f R H n x S F=.go P J es) (he:∀ e ∈ es,e.1=e.2) (b:∀ a w,ch J n a->c w->iV f k W P .normal a w) (a:Act) (w:World) (hk:ch F n a) (hS:c w):iV f k W S .normal a w:=by
 unfold UA at h;split at h;·cases h
 ·cases h;exact b a w hk hS
 ·cases h
 ·cases h;exact b a w hk hS
 ·split at h;·rename_i m;cases h;show wpList f _ _ (_::_) a w;exact wpList_step λK l=>Gz hk hS E.sub m he E.rows λd g i j=>l d g (b d g i j)
  ·cases h
 ·exact Jd E h he b a w hk hS
 ·exact Je E h he b a w hk hS
 ·exact Jf E h he b a w hk hS
 ·exact tu E h b a w hk hS
def bq (P:Program) {S J:World->Prop} (R:List Rw) (H:Hn P S J) (n:Nat) (dr:Bool):Nat->List KI->Fr->(Bool × List KI × Fr) × List (Oe × Oe)
 | 0,k,F=>((false,k,F),[])
 | m+1,k,F=>match UA P R H n dr k F with
   | .stop=>((false,k,F),[])
   | .ret=>((true,k,F),[])
   | .go c a b=>match bq P R H n dr m c a with
     | (r,es')=>(r,b++es')
theorem zK {P:Program} {S J:World->Prop} {R:List Rw} {H:Hn P S J} {n:Nat} {dr:Bool} {Q:Exit->Act->World->Prop} (E:n6 P S J R dr Q):∀ (m:Nat) (k:List KI) (F:Fr),(∀ e ∈ (bq P R H n dr m k F).2,e.1=e.2) ->
 (∀ a w,ch (bq P R H n dr m k F).1.2.2 n a->J w->if (bq P R H n dr m k F).1.1=true then Q .ret a w else iV P S Q (bq P R H n dr m k F).1.2.1 .normal a w)->∀ a w,ch F n a->J w->iV P S Q k .normal a w
 | 0,k,F,_,hf,a,w,hk,hS=>by simpa [bq] using hf a w hk hS
 | m+1,k,F,he,hf,a,w,hk,hS=>by
   cases d:UA P R H n dr k F with
   | stop =>
     have e:bq P R H n dr (m+1) k F=((false,k,F),[]):=by simp only [bq,d]
     rw [e] at hf
     simpa using hf a w hk hS
   | ret =>
     have e:bq P R H n dr (m+1) k F=((true,k,F),[]):=by simp only [bq,d]
     rw [e] at hf
     have l:Q .ret a w:=by simpa using hf a w hk hS
     unfold UA at d
     split at d
     ·cases d
     ·cases d
     ·cases d
     ·cases d
     ·split at d<;>cases d
     ·unfold zH at d
      repeat (split at d<;>try cases d)
     ·unfold zI at d
      repeat (split at d<;>try cases d)
     ·unfold zJ at d
      repeat (split at d<;>try cases d)
     ·rename_i c f
      cases c with
      | ret=>exact wp_ret (by rw [zG];exact l)
      | region i ops b=>cases b<;>simp only [iW] at d<;>(try split at d)<;>cases d
      | cond=>simp only [iW] at d;repeat (split at d<;>try cases d)
      | exit=>simp only [iW] at d;split at d<;>cases d
      | _=>cases d
   | go f g j =>
     have e:bq P R H n dr (m+1) k F=((bq P R H n dr m f g).1,j++(bq P R H n dr m f g).2):=by simp only [bq,d]
     rw [e] at he hf
     exact SY E d (λx h=>he x (by simp [h])) (zK E m f g (λx h=>he x (by simp [h])) hf) a w hk hS
def Wg (P:Program) (S:World->Prop) (Q:Exit->Act->World->Prop) (n:Nat) (k:List KI) (F:Fr) (w:World):Prop:=∀ a,ch F n a->iV P S Q k .normal a w
theorem ae {R:List Rw} (E:n6 f k c R dr W) (H:Hn f k c) (m:Nat) {S:List KI} {F:Fr} (hS:c a) (h:∀ b,c b->Wg f k W n (bq f R H n dr m S F).1.2.1 (bq f R H n dr m S F).1.2.2 b) (hret:(bq f R H n dr m S F).1.1=false:=by kernel_rfl) (he:(bq f R H n dr m S F).2.map Prod.fst=(bq f R H n dr m S F).2.map Prod.snd:=by kernel_rfl):Wg f k W n S F a:=λw d =>
 zK E m S F (λe P=>List.map_inj_left.1 he e P) (λw a J g=>by rw [hret,if_neg bc];exact h a g w J) w a d hS
theorem bm {R:List Rw} (Rs:n6 f k J R x (bodyPost f L E)) (H:Hn f k J) (m:Nat) {S:List KI} {F:Fr} (hS:J a) (h:∀ P,J P->E (.returned v) P) (hv:((bq f R H n x m S F).1.1,(lk (bq f R H n x m S F).1.2.2 t).map Prod.fst)=(true,some v):=by kernel_rfl) (he:(bq f R H n x m S F).2.map Prod.fst=(bq f R H n x m S F).2.map Prod.snd:=by kernel_rfl) (hr:L.results=#[.tmp t]:=by rfl):Wg f k (bodyPost f L E) n S F a:=λw g =>
 zK Rs m S F (λe i=>List.map_inj_left.1 he e i) (λw a d j=>by
  simp only [Prod.mk.injEq] at hv
  rw [hv.1,if_pos rfl]
  obtain ⟨dr,b,c⟩:=Option.map_eq_some_iff.1 hv.2
  have l:=d.at_ t dr b
  exact bodyPost_ret (results_tmp hr _ _ _) d.nod (by rw [Array.getD_eq_getD_getElem?,l,c];exact h a j)) w a g hS
def Le:Nat->List Value->Fr
 | _,[]=>[]
 | i,v::l=>(i,v,0)::Le (i+1) l
theorem GC:∀ (l:List Value) (i t:Nat) (x:Value × Nat),lk (Le i l) t=some x->i<=t/\l[t-i]?=some x.1
 | [],_,_,_,h=>l7
 | v::l,i,t,x,h=>by
   unfold Le lk at h
   cases a:Nat.beq i t with
   | true =>
     rw [a] at h
     cases h
     have:i=t:=Nat.eq_of_beq_eq_true a
     subst this
     simp
   | false =>
     rw [a] at h
     obtain ⟨c,b⟩:=GC l (i+1) t x h
     refine ⟨ab,?_⟩
     rw [show t-i=(t-(i+1))+1 by omega]
     simpa using b
theorem gq (d:f.funcs[w]?=some L) (h:Wg f I (bodyPost f L E) L.ntmps [.code y] (Le 0 args) a) (hb:L.body=some y:=by rfl) (hn:Nat.ble args.length L.ntmps=true:=by kernel_rfl):Calls f w args.toArray a E :=
 calls_of_wp d hb (h _ ⟨by
  have:args.length<=L.ntmps:=Nat.le_of_ble_eq_true hn
  simp;omega,rfl,λt x g=>by
  obtain ⟨_,c⟩:=GC args 0 t x g
  have b:t<args.length:=by
   rw [Nat.sub_zero] at c
   exact (List.getElem?_eq_some_iff.1 c).1
  rw [Nat.sub_zero] at c
  have e:=(List.getElem?_eq_some_iff.1 c).2
  simp [Array.getElem?_append,b]
  simpa using e⟩)
def io:List KI->Bool
 | []=>true
 | .sq _ _ _::_=>false
 | .code _::k=>io k
 | .blk _::k=>io k
 | .ops _ _::k=>io k
 | .fin _::k=>io k
 | .sk _ _ _ _::_=>false
 | .sw _ _ _::k=>io k
theorem yx {P:Program} {S:World->Prop} {Q:Exit->Act->World->Prop} {S':World->Prop}:∀ {k:List KI},io k=true->iV P S' Q k=iV P S Q k
 | [],_=>rfl
 | .sq _ _ _::_,h=>l7
 | .code _::k,h=>by unfold iV;rw [yx (k:=k) h]
 | .blk _::k,h=>by unfold iV;rw [yx (k:=k) h]
 | .ops _ _::k,h=>by unfold iV;rw [yx (k:=k) h]
 | .fin _::k,h=>by unfold iV;rw [yx (k:=k) h]
 | .sk _ _ _ _::_,h=>l7
 | .sw _ _ _::k,h=>by unfold iV;rw [yx (k:=k) h]
theorem aJ {S:List KI} {F:Fr} (h:Wg f I W n S F a) (hn:io S=true:=by kernel_rfl):Wg f k W n S F a:=λw b=>by rw [<- yx (S':=I) hn];exact h w b
def vz (P:Program) (n N:Nat):List Oper->Fr->List (Array Value × TypeId)->Option (Fr × List (Array Value × TypeId))
 | [],F,bs=>some (F,bs)
 | o::os,F,bs=>match o.guard,o.dst with
   | none,some d=>match Nat.blt d n with
     | false=>none
     | true=>match o.op with
       | .box t x=>match kn F x with
         | true=>vz P n N os ((d,.p (N+bs.length) 0,bs.length+1)::F) (bs++[((ev F x).cells,t)])
         | false=>none
       | .assign x=>match kn F x with
         | true=>vz P n N os ((d,ev F x,La F x)::F) bs
         | false=>none
       | .alloc t=>match P.info? t with
         | some i=>match i.zero with
           | some z=>vz P n N os ((d,.p (N+bs.length) 0,bs.length+1)::F) (bs++[(z.cells,t)])
           | none=>none
         | none=>none
       | _=>none
   | _,_=>none
def bT (w:World):List (Array Value × TypeId)->World
 | []=>w
 | x::l=>bT (w.alloc (.cells x.1 x.2)) l
theorem oq (x:Array Value × TypeId):∀ (l:List (Array Value × TypeId)) (w:World),bT w (l++[x])=(bT w l).alloc (.cells x.1 x.2)
 | [],_=>rfl
 | _::l,w=>oq x l _
theorem ot:∀ (l:List (Array Value × TypeId)) (w:World),(bT w l).heap.size=w.heap.size+l.length
 | [],_=>rfl
 | _::l,w=>by
   show (bT _ l).heap.size=_
   rw [ot l,World.size_alloc,List.length_cons]
   omega
theorem qy {P:Program} {n:Nat} {Q:Exit->Act->World->Prop} {all:Array Oper} {w:World}:∀ {l:List Oper} {F j:Fr} {b e:List (Array Value × TypeId)},vz P n w.heap.size l F b=some (j,e)->(∀ a,ch j n a->Q .normal a (bT w e))->∀ a,ch F n a->wpList P all Q l a (bT w b)
 | [],F,j,b,e,h,hQ,a,hk=>by
   simp only [vz,Option.some.injEq,Prod.mk.injEq] at h
   obtain ⟨rfl,rfl⟩:=h
   exact hQ a hk
 | o::os,F,j,b,e,h,hQ,a,hk=>by
   unfold vz at h
   split at h
   ·rename_i d m k
    split at h
    ·cases h
    ·rename_i p
     split at h
     ·rename_i t x c
      split at h
      ·rename_i f
       refine wpList_plain m λK g=>?_
       show o.upon P a K _ ((execOp a.eval o).run P (bT w b))
       have:(execOp a.eval o).run P (bT w b)=.ok (.value (.pointer (some ⟨(bT w b).heap.size,0,none⟩))) ((bT w b).alloc (.cells (ev F x).cells t)):=by
        unfold execOp
        rw [c]
        simp only [hk.eval f]
        rfl
       rw [this,ot]
       show K (a.put o.dst _) _
       rw [k,<- oq ((ev F x).cells,t)]
       exact g _ _ (qy h hQ _ (hk.put p _ _))
      ·cases h
     ·rename_i x c
      split at h
      ·rename_i f
       refine wpList_plain m λK g=>?_
       show o.upon P a K _ ((execOp a.eval o).run P (bT w b))
       have:(execOp a.eval o).run P (bT w b)=.ok (.value (ev F x)) (bT w b):=by
        unfold execOp
        rw [c]
        simp only [hk.eval f]
        rfl
       rw [this]
       show K (a.put o.dst _) _
       rw [k]
       exact g _ _ (qy h hQ _ (hk.put p _ _))
      ·cases h
     ·rename_i t c
      split at h
      ·rename_i i q
       split at h
       ·rename_i z r
        refine wpList_plain m λK g=>?_
        show o.upon P a K _ ((execOp a.eval o).run P (bT w b))
        have:(execOp a.eval o).run P (bT w b)=.ok (.value (.pointer (some ⟨(bT w b).heap.size,0,none⟩))) ((bT w b).alloc (.cells z.cells t)):=by
         unfold execOp
         rw [c]
         simp [Instr.alloc,zeroValue,typeInfo,q,r,newVar,newRow]
        rw [this,ot]
        show K (a.put o.dst _) _
        rw [k,<- oq (z.cells,t)]
        exact g _ _ (qy h hQ _ (hk.put p _ _))
       ·cases h
      ·cases h
     ·cases h
   ·cases h
def qz (P:Program) (n N:Nat) (c:Go.Code) (args:List Value):Option (List (Array Value × TypeId) × List KI × Fr):=match c with
 | .seq (.region _ ops false) rest=>match vz P n N ops.toList (Le 0 args) [] with
   | some (F,bs)=>some (bs,[.code rest],F)
   | none=>none
 | _=>none
def Lf (P:Program) (n N:Nat) (c:Go.Code) (args:List Value):List KI:=match qz P n N c args with
 | some x=>x.2.1
 | none=>[]
def Lg (P:Program) (n N:Nat) (c:Go.Code) (args:List Value):Fr:=match qz P n N c args with
 | some x=>x.2.2
 | none=>[]
theorem bD (j:f.funcs[w]?=some L) (h:Wg f S (bodyPost f L E) L.ntmps (Lf f L.ntmps a.heap.size y args) (Lg f L.ntmps a.heap.size y args) (bT a G)) (hb:L.body=some y:=by rfl) (hn:Nat.ble args.length L.ntmps=true:=by kernel_rfl) (hs:(qz f L.ntmps a.heap.size y args).map Prod.fst=some G:=by kernel_rfl):Calls f w args.toArray a E:=by
 refine gq S j (hb:=hb) (hn:=hn) λc k=>?_;unfold Lf Lg at h;cases b:qz f L.ntmps a.heap.size y args with
 | none=>rw [b] at hs;cases hs
 | some fn =>
   obtain ⟨e,n,l⟩:=fn;rw [b] at hs h;simp only [Option.map_some,Option.some.injEq] at hs;subst hs;unfold qz at b;split at b
   ·rename_i id ops rest;split at b;·rename_i m g d;simp only [Option.some.injEq,Prod.mk.injEq] at b;obtain ⟨rfl,rfl,rfl⟩:=b;refine wp_seq (wp_region_list ?_);exact qy (Q:=Exit.then (λc a=>rest.wp f (bodyPost f L E) c a) (bodyPost f L E)) d (λc i=>h c i) c k
    ·cases b
   ·cases b
def Bz (F:Fr):List KI->Option (Oper × List KI × Bool)
 | .ops all (o::rest)::k=>match wn all F o with
   | some true=>some (o,.ops all rest::k,false)
   | _=>none
 | .sq all (m+1) listed::k=>match Region.ready .any all listed with
   | [i]=>match all[i]? with
     | some o=>match wn all F o with
       | some true=>some (o,.sq all m (listed.setIfInBounds i true)::k,true)
       | _=>none
     | none=>none
   | _=>none
 | .sk all kk (m+1) listed::k=>match Region.ready .any all listed with
   | [i]=>match all[i]? with
     | some o=>match wn all F o with
       | some true=>match Nat.beq i kk with
         | true=>some (o,.sw all m (listed.setIfInBounds i true)::k,false)
         | false=>some (o,.sk all kk m (listed.setIfInBounds i true)::k,true)
       | _=>none
     | none=>none
   | _=>none
 | .sw all (m+1) listed::k=>match Region.ready .any all listed with
   | [i]=>match all[i]? with
     | some o=>match wn all F o with
       | some true=>some (o,.sw all m (listed.setIfInBounds i true)::k,false)
       | _=>none
     | none=>none
   | _=>none
 | _=>none
def pq (F:Fr) (k:List KI):List KI:=match Bz F k with
 | some x=>x.2.1
 | none=>[]
def zL (F:Fr) (k:List KI):Bool:=match Bz F k with
 | some x=>x.2.2
 | none=>false
def Eo (n:Nat) (F:Fr) (k:List KI):Option (Sem Next):=match Bz F k with
 | some (o,_,_)=>match o.op.operands.all (kn F)&&Bv o.op&&(match o.dst with | some d=>Nat.blt d n | none=>true) with
   | true=>some (execOp (ev F) o)
   | false=>none
 | none=>none
def qA (F:Fr) (k:List KI) (v:Value) (t:Nat):Fr:=match Bz F k with
 | some (o,_,_)=>match o.dst with
   | some d=>(d,v,t)::F
   | none=>F
 | none=>F
def Pa (P:Program) (n:Nat) (F:Fr) (k:List KI):Option (Nat × Array Value):=match Bz F k with
 | some (o,_,_)=>match (match o.dst with | some d=>Nat.blt d n | none=>true) with
   | true=>rS P F o
   | false=>none
 | none=>none
theorem zM {S z:List KI} {F:Fr} (h:Bz F S=some (j,z,x)) (hk:ch F n d) (t:∀ K:Act->World->Prop,(∀ P w,(x=true->k w)->iV f k W z .normal P w->K P w)->j.wp f d a K (iV f k W z)):iV f k W S .normal d a:=by
 unfold Bz at h;split at h
 ·rename_i all v rest p;split at h;·rename_i c;simp only [Option.some.injEq,Prod.mk.injEq] at h;obtain ⟨rfl,rfl,rfl⟩:=h;show wpList f all (iV f k W p) (v::rest) d a;refine wpList_step λK g=>?_;rw [if_pos (kS hk c)];exact t K λP w _ l=>g P w l
  ·cases h
 ·rename_i all m listed p;split at h
  ·rename_i i s;split at h
   ·rename_i v r;split at h;·rename_i c;simp only [Option.some.injEq,Prod.mk.injEq] at h;obtain ⟨rfl,rfl,rfl⟩:=h;show wpAnyH f .any all (iV f k W p) k (m+1) listed d a;refine wpAnyH_all s cp λo B=>?_;rw [List.mem_singleton] at B;subst B;refine wpOp_step r λq g=>?_;rw [if_pos (kS hk c)];exact t q λP w y l=>g P w ⟨y rfl,l⟩
    ·cases h
   ·cases h
  ·cases h
 ·rename_i all A m listed p;split at h
  ·rename_i i s;split at h
   ·rename_i v r;split at h
    ·rename_i c;split at h;·rename_i u;simp only [Option.some.injEq,Prod.mk.injEq] at h;obtain ⟨rfl,rfl,rfl⟩:=h;have e:i=A:=Nat.eq_of_beq_eq_true u;subst e;show il f .any all (iV f k W p) k i (m+1) listed d a;refine Em r s λq g=>?_;rw [if_pos (kS hk c)];exact t q λP w _ l=>g P w l
     ·rename_i u;simp only [Option.some.injEq,Prod.mk.injEq] at h;obtain ⟨rfl,rfl,rfl⟩:=h;have b:i≠A:=λe=>by rw [e,Nat.beq_refl] at u;cases u
      show il f .any all (iV f k W p) k A (m+1) listed d a;refine El r s b λq g=>?_;rw [if_pos (kS hk c)];exact t q λP w y l=>g P w (y rfl) (λ_=>l)
    ·cases h
   ·cases h
  ·cases h
 ·rename_i all m listed p;split at h
  ·rename_i i s;split at h
   ·rename_i v r;split at h;·rename_i c;simp only [Option.some.injEq,Prod.mk.injEq] at h;obtain ⟨rfl,rfl,rfl⟩:=h;show wpAny f .any all (iV f k W p) (m+1) listed d a;refine Jc r s λq g=>?_;rw [if_pos (kS hk c)];exact t q λP w _ l=>g P w l
    ·cases h
   ·cases h
  ·cases h
 ·cases h
theorem dM {S:List KI} {F:Fr} (t:Nat) (hr:s.run f a=.ok (.value v) w') (h:Wg f k W n (pq F S) (qA F S v t) w') (hx:Eo n F S=some s:=by kernel_rfl) (hS:zL F S=true->k w':=by exact gE ba):Wg f k W n S F a:=λw P=>by
 unfold Eo at hx;unfold zL at hS;unfold pq qA at h;cases i:Bz F S with
 | none=>rw [i] at hx;cases hx
 | some y =>
   obtain ⟨o,p,b⟩:=y;rw [i] at hx hS h;dsimp only at hx hS h;split at hx
   ·rename_i c;cases hx;rw [Bool.and_eq_true,Bool.and_eq_true] at c;have g:execOp w.eval o=execOp (ev F) o:=execOp_congr o (λm b e=>by have:=c.1.2;rw [e] at this;cases this) λx hx=>P.eval (Array.all_eq_true_iff_forall_mem.1 c.1.1 x hx);refine zM i P λK j=>?_;show o.upon f w K _ _;rw [g,hr];refine j _ _ hS (h _ ?_);cases l:o.dst with
    | none=>exact P
    | some d=>rw [l] at c;exact P.put c.2 v t
   ·cases hx
theorem bM {S:List KI} {F:Fr} (hr:r.run f a=.ok .skip o) (h:Wg f k W n (pq F S) (qA F S undef 0) o) (hx:Eo n F S=some r:=by kernel_rfl) (hS:zL F S=true->k o:=by exact gE ba):Wg f k W n S F a:=λw P=>by
 unfold Eo at hx;unfold zL at hS;unfold pq qA at h;cases i:Bz F S with
 | none=>rw [i] at hx;cases hx
 | some y =>
   obtain ⟨w',p,b⟩:=y;rw [i] at hx hS h;dsimp only at hx hS h;split at hx
   ·rename_i c;cases hx;rw [Bool.and_eq_true,Bool.and_eq_true] at c;have g:execOp w.eval w'=execOp (ev F) w':=execOp_congr w' (λm b e=>by have:=c.1.2;rw [e] at this;cases this) λx hx=>P.eval (Array.all_eq_true_iff_forall_mem.1 c.1.1 x hx);refine zM i P λK j=>?_;show w'.upon f w K _ _;rw [g,hr];refine j _ _ hS (h _ ?_);cases l:w'.dst with
    | none=>exact P
    | some d=>rw [l] at c;exact P.put c.2 undef 0
   ·cases hx
theorem jy {P:List KI} {F:Fr} (args:Calls f w p a E) (h:∀ e c,E e c->∃ v t,e=.returned v/\(zL F P=true->k c)/\Wg f k W n (pq F P) (qA F P v t) c) (hx:Pa f n F P=some (w,p):=by kernel_rfl):Wg f k W n P F a:=λQ g=>by
 unfold Pa at hx;unfold pq qA zL at h;cases j:Bz F P with
 | none=>rw [j] at hx;cases hx
 | some y =>
   obtain ⟨o,u,b⟩:=y;rw [j] at hx h;dsimp only at hx h;split at hx
   ·rename_i l;refine zM j g λK m=>?_;show o.upon f Q K _ _;rw [rT g hx a];refine args.mono λe c q=>?_;obtain ⟨v,t,rfl,r,s⟩:=h e c q;refine m _ _ r (s _ ?_);cases i:o.dst with
    | none=>exact g
    | some d=>rw [i] at l;exact g.put l v t
   ·cases hx
theorem aW {R:List Rw} (E:n6 f k c R dr W) (H:Hn f k c) (m:Nat) {P:List KI} {F:Fr} (hS:c a) (g:∀ b,c b->Calls f w p b (Rc b)) (h:∀ b e Q,c b->Rc b e Q->∃ v t,e=.returned v/\(zL (bq f R H n dr m P F).1.2.2 (bq f R H n dr m P F).1.2.1=true->k Q)/\Wg f k W n (pq (bq f R H n dr m P F).1.2.2 (bq f R H n dr m P F).1.2.1) (qA (bq f R H n dr m P F).1.2.2 (bq f R H n dr m P F).1.2.1 v t) Q) (hx:((bq f R H n dr m P F).1.1,Pa f n (bq f R H n dr m P F).1.2.2 (bq f R H n dr m P F).1.2.1)=(false,some (w,p)):=by kernel_rfl) (he:(bq f R H n dr m P F).2.map Prod.fst=(bq f R H n dr m P F).2.map Prod.snd:=by kernel_rfl):Wg f k W n P F a:=by simp only [Prod.mk.injEq] at hx;exact ae E H m hS (hret:=hx.1) (he:=he) λb S=>jy (g b S) (hx:=hx.2) λe Q d=>h b e Q S d
theorem lE {R:List Rw} (Rs:n6 f k c R dr (bodyPost f L E)) (H:Hn f k c) (m:Nat) {S:List KI} {F:Fr} (hS:c a) (h:∀ b w,c b->ch (bq f R H n dr m S F).1.2.2 n w->∃ v,(results L w.tmps).run f b=.ok v b/\E (.returned v) b) (hv:(bq f R H n dr m S F).1.1=true:=by kernel_rfl) (he:(bq f R H n dr m S F).2.map Prod.fst=(bq f R H n dr m S F).2.map Prod.snd:=by kernel_rfl):Wg f k (bodyPost f L E) n S F a:=λw g =>
 zK Rs m S F (λe i=>List.map_inj_left.1 he e i) (λw a J j=>by
  rw [hv,if_pos rfl]
  obtain ⟨v,d,P⟩:=h a w j J
  exact bodyPost_ret d J.nod P) w a g hS
theorem ch.slot {F:Fr} (h:ch F n d) (hl:(lk F t).map Prod.fst=some v):d.tmps.getD t undef=v:=by obtain ⟨x,b,c⟩:=Option.map_eq_some_iff.1 hl;rw [Array.getD_eq_getD_getElem?,h.at_ t x b,<- c];rfl
def ak {c b:Bool} (h:c=b):Vq:=⟨.bool c,.bool b,0,by rw [h]⟩
theorem cJ (c:List PanicEntry) (a:Act) (d:Option Nat) (v:Value) (w:World) (h:bodyPost f L E (.panic c) (Act.put a d v) w):bodyPost f L E (.panic c) a w:=by cases d<;>exact h
def Bs (w:World) (bs:List (Array Value × TypeId)) (W:World):Prop:=(∀ i x,bs[i]?=some x->W.heap[w.heap.size+i]?=some (.cells x.1 x.2 (0,0)))/\Bw w W
theorem Bs.below (h:Bs a D o) (hb:Bw o b):Bs a D b:=⟨λi x w=>br hb (h.1 i x w),aa h.2 hb⟩
theorem Bs.start:Bs F G (bT F G):=by
 have key:∀ (l:List (Array Value × TypeId)) (v:World),Bw F v->(∀ i x,l[i]?=some x->(bT v l).heap[v.heap.size+i]?=some (.cells x.1 x.2 (0,0)))/\Bw v (bT v l):=by
  intro l;induction l with
  | nil=>intro v _;exact ⟨λi x h=>by simp at h,Below.refl _ _⟩
  | cons y l f =>
    intro v e;have c:=(Below.refl v.heap.size v).alloc (Nat.le_refl _) (.cells y.1 y.2);obtain ⟨d,b⟩:=f (v.alloc (.cells y.1 y.2)) (aa e c);refine ⟨λi x a=>?_,aa c b⟩;cases i with
    | zero =>simp only [List.getElem?_cons_zero,Option.some.injEq] at a;subst a;exact br b (heap_alloc_new _ _)
    | succ i =>have:=d i x oi;rw [World.size_alloc] at this;rw [show v.heap.size+(i+1)=v.heap.size+1+i by omega];exact this
 exact ⟨(key G F (Below.refl _ _)).1,(key G F (Below.refl _ _)).2⟩
def lF (N:Nat):List (Array Value × TypeId)->List Rw
 | []=>[]
 | x::l=>⟨N,x.1,[]⟩::lF (N+1) l
theorem yz {r:Rw}:∀ {l:List (Array Value × TypeId)} {N:Nat},r ∈ lF N l->∃ i x,l[i]?=some x/\r.b=N+i/\r.cs=x.1
 | [],_,h=>l7
 | y::l,N,h=>by
   rcases List.mem_cons.1 h with rfl|h
   ·exact ⟨0,y,rfl,rfl,rfl⟩
   ·obtain ⟨i,x,a,c,b⟩:=yz h
    exact ⟨i+1,x,oi,ab,b⟩
theorem Bs.eng:n6 P (Bs a D) (Bs a D) (lF a.heap.size D) true (bodyPost P fn Rs):=
 ⟨λ_ h=>h,λW h r d=>by
  obtain ⟨i,x,w,b,c⟩:=yz d
  exact ⟨_,_,by rw [b,c];exact h.1 i x w⟩,λ_ W h=>h.below (Below.refl _ _).drew,cJ⟩
def fY {P:Program} {w:World} {bs:List (Array Value × TypeId)} {f:Nat} {args:Array Value} {v:Value} (h:∀ W,Bw w W->Calls P f args W λe b=>e=.returned v/\Bw W b):Cv P (Bs w bs):=⟨f,args,v,0,λW a=>(h W a.2).mono λe b k=>⟨k.1,a.below k.2⟩⟩
def mL {P:Program} {w:World} {bs:List (Array Value × TypeId)} {f:Nat} {args:Array Value} {v:Value} (h:∀ W,Bw w W->Calls P f args W λe b=>e=.returned v/\b=W):Cv P (Bs w bs):=⟨f,args,v,0,λW a=>(h W a.2).mono λe b k=>⟨k.1,by rw [k.2];exact a⟩⟩
def je {P:Program} {S:World->Prop} {T:TypeId} {d:TypeDesc} (p:Addr) (v:Value) (c:P.underlying T=some d) (hd:(match d with | .struct _ | .array _ _=>true | _=>false)=false) (h:∀ W,S W->W.cell? p=some v):Ov P S :=
 ⟨do pure (.value (<- Instr.loadAt T (.pointer (some p)))),v,0,λW a=>by
  have b:=h W a
  cases d<;>simp_all [Instr.loadAt,Instr.sureAddr,loadVar,isAgg,underlying,program,load,Sem.run,Bind.bind,Sem.bind,Pure.pure]⟩
def kJ {P:Program} {S:World->Prop} {T E:TypeId} {a:Option Addr} {b o:Nat} (n c:Nat) (k:IntKind) (i:Int) (f:a=some ⟨b,o,none⟩) (g:0<=i/\i<n) (h:P.underlying T=some (.slice E)) (hz:(P.info? E).map (·.size)=some 1):Ov P S :=
 ⟨do pure (.value (<- Instr.indexAt T (.slice a n c) (.int k i))),.p b (o+i.toNat),0,λW j=>by
  subst f
  obtain ⟨info,d,e⟩:=Option.map_eq_some_iff.1 hz
  simp [Instr.indexAt,asIntOf,underlying,program,sizeOf,typeInfo,h,d,e,g,Addr.add,Sem.run,Bind.bind,Sem.bind,Pure.pure]⟩
def jQ {P:Program} {S:World->Prop} (a:∀ {W W'},S W->Bw W W'->S W') {f:Nat} {args:Array Value} {v:Value} (h:∀ W,S W->Calls P f args W λe c=>e=.returned v/\Bw W c):Cv P S:=⟨f,args,v,0,λW b=>(h W b).mono λe c k=>⟨k.1,a b k.2⟩⟩
def kj {P:Program} {S:World->Prop} {f:Nat} {args:Array Value} {v:Value} (h:∀ W,S W->Calls P f args W λe b=>e=.returned v/\b=W):Cv P S:=⟨f,args,v,0,λW a=>(h W a).mono λe b k=>⟨k.1,by rw [k.2];exact a⟩⟩
def dP (k:IntKind) {x y:Int} (h:x=y):Vq:=⟨.int k x,.int k y,0,by rw [h]⟩
def Pb {P:Program} {S:World->Prop} (k:IntKind) (x y:Int) (hy:y≠0):Ov P S:=⟨do pure (.value (<- Op.intDiv .rem k x y)),.int k (x.tmod y),0,λW _=>by
 simp [Op.intDiv,hy]⟩
structure kV (M:MV):Prop where
 x:M.x.length<=1048576
 cs:M.cs.length<=1048576
 ram:M.ram.length<=1048576
 xs:M.d.xs.length<=1048576
 ys:M.d.ys.length<=1048576
structure jz (L:List FRow) (w w':World):Prop where
 os:w'.os=w.os
 tape:w'.tape=w.tape
 output:w'.output=w.output
 size:w.heap.size<=w'.heap.size
 block:∀ k,k<w.heap.size->(∀ q ∈ L,q.v.ownBlock≠some k)->w'.heap[k]?=w.heap[k]?
theorem jz.trans (h:jz z a b) (k:jz z b o):jz z a o :=
 ⟨k.os.trans h.os,k.tape.trans h.tape,k.output.trans h.output,Nat.le_trans h.size k.size,λi d e=>(k.block i (Nat.lt_of_lt_of_le d h.size) e).trans (h.block i d e)⟩
theorem jz.of_below {L:List FRow} (h:Bw a o):jz L a o:=⟨h.os,h.tape,h.output,h.size,λk w _=>h.block k w⟩
theorem jz.of_grown {q:FRow} (h:a.grownBy o q.v.ownBlock) (c:q ∈ z):jz z a o :=
 ⟨h.os,h.tape,h.output,h.size,λk w b=>h.block k w (λe=>b q c e.symm)⟩
theorem jz.keep (h:jz z a o) (E:bz w n a z):lB w n a o :=
 ⟨h.os,h.tape,h.output,h.size,λk c g=>h.block k c (λq b e=>by have d:=((E.own q b).lt k e).1;have f:=E.hi q b k e;omega)⟩
def yA (A:MA) (nx a c b no:Nat) (x cs ram xs ys:List Int):List FRow:=[aK A.ax nx A.cx x,aK A.ac a A.cc cs,aF A.ar c A.cr ram,aF A.ai b A.ci xs,aF A.ao no A.co ys]
theorem bz.markL {L1 L2:List FRow} {r:FRow} (h:bz w n a (L1++r::L2)) (E:a.grownBy o r.v.ownBlock) (xs:List Value) (b:o.ownsRow w r.t 1 r.v r.n xs):bz w n o (L1++⟨r.t,r.v,r.n,xs⟩::L2)/\jz (L1++r::L2) a o :=
 ⟨(h.mark E xs b).1,jz.of_grown E cp⟩
theorem bz.rsl {A:MA} {nx c b no:Nat} {x cs ram xs ys:List Int} (h:bz w n a (yA A Q nx c b no x cs ram xs ys)):Sl .u64 a A.ax x/\Sl .u64 a A.ac cs/\Sl .u8 a A.ar ram/\Sl .u8 a A.ai xs/\Sl .u8 a A.ao ys :=
 ⟨fL (h.own (aK A.ax Q A.cx x) (by simp [yA])),fL (h.own (aK A.ac nx A.cc cs) (by simp [yA])),fL (h.own (aF A.ar c A.cr ram) (by simp [yA])),fL (h.own (aF A.ai b A.ci xs) (by simp [yA])),fL (h.own (aF A.ao no A.co ys) (by simp [yA]))⟩
def iq (w:World):List Rw->Prop
 | []=>True
 | r::R=>pO r w/\iq w R
theorem qd {w:World} {r:Rw}:∀ {R:List Rw},iq w R->r ∈ R->pO r w
 | [],_,h=>l7
 | _::R,h,a=>by
   rcases List.mem_cons.1 a with rfl|a
   ·exact h.1
   ·exact qd h.2 a
theorem yB {R:List Rw} (w:iq a R):n6 f (λx=>x=a) (λx=>x=a) R false (bodyPost f L E):=⟨λ_ h=>h,λW h r b=>by subst h;exact qd w b,(λh=>l7),cJ⟩
theorem SZ {F:Fr} {k:List KI} {x:Oper × List KI × Bool} (h:Bz F (.sw B w m::k)=some x):x.2.2=false:=by
 cases w with
 | zero=>cases h
 | succ w =>
   simp only [Bz] at h;repeat (split at h<;>try cases h)
   all_goals rfl
theorem aO {P:List KI} {F:Fr} {R:List Rw} (u:iq a R) (H:Hn f (λx=>x=a) (λx=>x=a)) (m:Nat) {Rc:Ending->World->Prop} (y:Calls f w p a Rc) (h:∀ e Rs,Rc e Rs->∃ v t,e=.returned v/\Wg f k (bodyPost f L E) n (pq (bq f R H n false m P F).1.2.2 (bq f R H n false m P F).1.2.1) (qA (bq f R H n false m P F).1.2.2 (bq f R H n false m P F).1.2.1 v t) Rs) (hx:(io P,(bq f R H n false m P F).1.1,io (bq f R H n false m P F).1.2.1,Pa f n (bq f R H n false m P F).1.2.2 (bq f R H n false m P F).1.2.1)=(true,false,true,some (w,p)):=by kernel_rfl) (he:(bq f R H n false m P F).2.map Prod.fst=(bq f R H n false m P F).2.map Prod.snd:=by kernel_rfl):Wg f k (bodyPost f L E) n P F a:=by
 simp only [Prod.mk.injEq] at hx
 obtain ⟨j,args,g,q⟩:=hx
 refine aJ (λx=>x=a) (hn:=j) (ae (yB u) H m rfl (hret:=args) (he:=he) λRs c=>?_)
 subst c
 refine aJ k (hn:=g) (jy y (hx:=q) λe Rs z=>?_)
 obtain ⟨v,t,r,s⟩:=h e Rs z
 refine ⟨v,t,r,λd=>?_,s⟩
 exact absurd d (by
  have:∀ (P:List KI) (F:Fr),io P=true->zL F P=false:=by
   intro P F i
   unfold zL Bz
   cases P with
   | nil=>rfl
   | cons x P=>cases x with
     | sq=>cases i
     | sk=>cases i
     | sw all m listed =>
       cases hx:Bz F (.sw all m listed::P) with
       | none=>unfold Bz at hx;simp only [hx]
       | some x =>
         have d:=SZ hx
         unfold Bz at hx
         simp only [hx]
         exact d
     | ops all l=>cases l with
       | nil=>rfl
       | cons o l=>cases c:wn all F o with
         | none=>simp only [c]
         | some b=>cases b<;>simp only [c]
     | _=>rfl
  rw [this _ _ g];decide)
theorem kz {S:List KI} {F:Fr} {R:List Rw} (g:iq a R) (H:Hn f (λx=>x=a) (λx=>x=a)) (m:Nat) (t:Nat) (hr:s.run f a=.ok (.value v) w') (h:Wg f k (bodyPost f L E) n (pq (bq f R H n false m S F).1.2.2 (bq f R H n false m S F).1.2.1) (qA (bq f R H n false m S F).1.2.2 (bq f R H n false m S F).1.2.1 v t) w') (hx:(io S,(bq f R H n false m S F).1.1,io (bq f R H n false m S F).1.2.1,zL (bq f R H n false m S F).1.2.2 (bq f R H n false m S F).1.2.1,Eo n (bq f R H n false m S F).1.2.2 (bq f R H n false m S F).1.2.1)=(true,false,true,false,some s):=by kernel_rfl) (he:(bq f R H n false m S F).2.map Prod.fst=(bq f R H n false m S F).2.map Prod.snd:=by kernel_rfl):Wg f k (bodyPost f L E) n S F a:=by simp only [Prod.mk.injEq] at hx;obtain ⟨b,c,d,e,P⟩:=hx;refine aJ (λx=>x=a) (hn:=b) (ae (yB g) H m rfl (hret:=c) (he:=he) λj i=>?_);subst i;exact aJ k (hn:=d) (dM t (hx:=P) hr (hS:=λw=>by rw [e] at w;cases w) h)
theorem ct {S:List KI} {F:Fr} {R:List Rw} (g:iq a R) (H:Hn f (λx=>x=a) (λx=>x=a)) (m:Nat) (hr:r.run f a=.ok .skip o) (h:Wg f k (bodyPost f L E) n (pq (bq f R H n false m S F).1.2.2 (bq f R H n false m S F).1.2.1) (qA (bq f R H n false m S F).1.2.2 (bq f R H n false m S F).1.2.1 undef 0) o) (hx:(io S,(bq f R H n false m S F).1.1,io (bq f R H n false m S F).1.2.1,zL (bq f R H n false m S F).1.2.2 (bq f R H n false m S F).1.2.1,Eo n (bq f R H n false m S F).1.2.2 (bq f R H n false m S F).1.2.1)=(true,false,true,false,some r):=by kernel_rfl) (he:(bq f R H n false m S F).2.map Prod.fst=(bq f R H n false m S F).2.map Prod.snd:=by kernel_rfl):Wg f k (bodyPost f L E) n S F a:=by simp only [Prod.mk.injEq] at hx;obtain ⟨b,c,d,e,P⟩:=hx;refine aJ (λx=>x=a) (hn:=b) (ae (yB g) H m rfl (hret:=c) (he:=he) λj i=>?_);subst i;exact aJ k (hn:=d) (bM (hx:=P) hr (hS:=λw=>by rw [e] at w;cases w) h)
theorem gz {S:List KI} {F:Fr} {R:List Rw} (b:iq a R) (H:Hn f (λx=>x=a) (λx=>x=a)) (m:Nat) (h:∀ w,ch (bq f R H n false m S F).1.2.2 n w->∃ v,(results L w.tmps).run f a=.ok v a/\E (.returned v) a) (hx:(io S,(bq f R H n false m S F).1.1)=(true,true):=by kernel_rfl) (he:(bq f R H n false m S F).2.map Prod.fst=(bq f R H n false m S F).2.map Prod.snd:=by kernel_rfl):Wg f k (bodyPost f L E) n S F a:=by simp only [Prod.mk.injEq] at hx;exact aJ (λx=>x=a) (hn:=hx.1) (lE (yB b) H m rfl (hv:=hx.2) (he:=he) λe w d c=>by subst d;exact h w c)
theorem jk {S:List KI} {F:Fr} {R:List Rw} (b:iq a R) (H:Hn f (λx=>x=a) (λx=>x=a)) (m:Nat) (h:E (.returned v) a) (hx:(io S,(bq f R H n false m S F).1.1,(lk (bq f R H n false m S F).1.2.2 t).map Prod.fst)=(true,true,some v):=by kernel_rfl) (he:(bq f R H n false m S F).2.map Prod.fst=(bq f R H n false m S F).2.map Prod.snd:=by kernel_rfl) (hr:L.results=#[.tmp t]:=by rfl):Wg f k (bodyPost f L E) n S F a:=by simp only [Prod.mk.injEq] at hx;exact gz b H m (hx:=vw) (he:=he) λw c=>⟨v,by rw [results_tmp hr,c.slot hx.2.2],h⟩
theorem Lh {α:Type} {t:Nat} {x:α}:∀ {F:List (Nat × α)},lk F t=some x->(t,x) ∈ F
 | [],h=>l7
 | (s,y)::F,h=>by
   unfold lk at h
   cases a:Nat.beq s t with
   | true =>
     rw [a] at h
     cases h
     have:s=t:=Nat.eq_of_beq_eq_true a
     simp [this]
   | false=>rw [a] at h;exact List.mem_cons_of_mem _ (Lh h)
theorem ch.less {F G:Fr} (h:ch F n d) (hs:G.map (λy=>some y.2.1)=G.map λy=>(lk F y.1).map Prod.fst):ch G n d :=
 ⟨h.size,h.nod,λt x e=>by
  have a:=Lh e
  have:=List.map_inj_left.1 hs (t,x) a
  obtain ⟨y,b,c⟩:=Option.map_eq_some_iff.1 this.symm
  have:=h.at_ t y b
  rw [this,c]⟩
def VP:List KI->Bool
 | .code (.loop _)::_=>true
 | _=>false
def WT:List KI->Go.Code
 | .code (.loop c)::_=>c
 | _=>.skip
def RW:List KI->Act->World->Prop
 | .fin R::_=>R
 | _=>λ_ _=>False
theorem mh {S:List KI} {F:Fr} (d:A->Fr) (I:Nat->A->World->Prop) (i:Nat) (g:A) (hl:VP S=true) (hF:(d g).map (λy=>some y.2.1)=(d g).map λy=>(lk F y.1).map Prod.fst) (r:I i g a) (round:∀ j x a,I j x a->∀ R:Act->World->Prop,(∀ w e b P,b<j->ch (d P) n w->I b P e->R w e)->Wg f k W n (.code (WT S)::.fin R::S.tail) (d x) a):Wg f k W n S F a:=λw t=>by
 match S,hl with
 | .code (.loop c)::k',_ =>
   show (Go.Code.loop c).wp f (iV f k W k') w a
   refine wp_loop_ghost (λj w a=>∃ x,ch (d x) n w/\I j x a) i ⟨g,t.less hF,r⟩ λj w a s=>?_
   obtain ⟨x,p,q⟩:=s
   exact round j x a q (λh e=>∃ b,b<j/\∃ x,ch (d x) n h/\I b x e) (λh e b P l m o=>⟨b,l,P,m,o⟩) w p
theorem Ep {S:List KI} {F:Fr} {R:List Rw} (E:n6 f k c R x W) (H:Hn f k c) (m:Nat) (hS:c a) {T:Act->World->Prop} (h:∀ w J,c J->ch (bq f R H n x m S F).1.2.2 n w->T w J) (hx:((bq f R H n x m S F).1.1,RW (bq f R H n x m S F).1.2.1)=(false,T):=by kernel_rfl) (he:(bq f R H n x m S F).2.map Prod.fst=(bq f R H n x m S F).2.map Prod.snd:=by kernel_rfl):Wg f k W n S F a:=by
 simp only [Prod.mk.injEq] at hx;refine ae E H m hS (hret:=hx.1) (he:=he) λJ P w e=>?_;have b:=h w J P e;rw [<- hx.2] at b;generalize (bq f R H n x m S F).1.2.1=d at b;cases d with
 | nil=>cases b
 | cons y d=>cases y with
   | fin g=>exact b
   | _=>cases b
theorem ou {S:List KI} {F:Fr} {R:List Rw} (b:iq a R) (H:Hn f (λx=>x=a) (λx=>x=a)) (m:Nat) (h:∀ w,ch (bq f R H n false m S F).1.2.2 n w->C w a) (hx:(io S,(bq f R H n false m S F).1.1,RW (bq f R H n false m S F).1.2.1)=(true,false,C):=by kernel_rfl) (he:(bq f R H n false m S F).2.map Prod.fst=(bq f R H n false m S F).2.map Prod.snd:=by kernel_rfl):Wg f k (bodyPost f L E) n S F a:=by simp only [Prod.mk.injEq] at hx;exact aJ (λx=>x=a) (hn:=hx.1) (Ep (T:=C) (yB b) H m rfl (hx:=by rw [hx.2.1,hx.2.2]) (he:=he) λw e d c=>by subst d;exact h w c)
theorem an {S:List KI} {F:Fr} {R:List Rw} (w:iq a R) (H:Hn f (λx=>x=a) (λx=>x=a)) (m:Nat) (h:Wg f k (bodyPost f L E) n (bq f R H n false m S F).1.2.1 (bq f R H n false m S F).1.2.2 a) (hx:(io S,(bq f R H n false m S F).1.1,io (bq f R H n false m S F).1.2.1)=(true,false,true):=by kernel_rfl) (he:(bq f R H n false m S F).2.map Prod.fst=(bq f R H n false m S F).2.map Prod.snd:=by kernel_rfl):Wg f k (bodyPost f L E) n S F a:=by simp only [Prod.mk.injEq] at hx;exact aJ (λx=>x=a) (hn:=hx.1) (ae (yB w) H m rfl (hret:=hx.2.1) (he:=he) λc b=>by subst b;exact aJ k (hn:=hx.2.2) h)
def Dw (w W:World):Prop:=∃ d,W={w with drawn:=w.drawn+d}
theorem Dw.refl:Dw F F:=⟨0,rfl⟩
structure Ez (S:World->Prop) (R:List Rw):Prop where
 rows:∀ w,S w->∀ r ∈ R,pO r w
 drew:∀ w,S w->S w.drew
theorem tw {R:List Rw} (w:Ez k R) (hS:k a):n6 P k (Dw a) R true (bodyPost P fn Rs):=
 ⟨λW h=>by
  obtain ⟨d,rfl⟩:=h
  induction d with
  | zero=>exact hS
  | succ d b=>exact w.drew _ b,w.rows,λ_ W h=>by obtain ⟨d,rfl⟩:=h;exact ⟨d+1,rfl⟩,cJ⟩
theorem uF {P:List KI} {F:Fr} {R:List Rw} (j:Ez k R) (hS:k a) (H:Hn f k (Dw a)) (m:Nat) (l:∀ W,Dw a W->Calls f w p W (Rc W)) (h:∀ W e Rs,Dw a W->Rc W e Rs->∃ v t,e=.returned v/\k Rs/\Wg f k (bodyPost f L E) n (pq (bq f R H n true m P F).1.2.2 (bq f R H n true m P F).1.2.1) (qA (bq f R H n true m P F).1.2.2 (bq f R H n true m P F).1.2.1 v t) Rs) (hx:((bq f R H n true m P F).1.1,Pa f n (bq f R H n true m P F).1.2.2 (bq f R H n true m P F).1.2.1)=(false,some (w,p)):=by kernel_rfl) (he:(bq f R H n true m P F).2.map Prod.fst=(bq f R H n true m P F).2.map Prod.snd:=by kernel_rfl):Wg f k (bodyPost f L E) n P F a :=
 aW (tw j hS) H m (Dw.refl a) l (hx:=hx) (he:=he) λW e Rs b c=>by
  obtain ⟨v,t,d,g,i⟩:=h W e Rs b c
  exact ⟨v,t,d,λ_=>g,i⟩
theorem GD {S:List KI} {F:Fr} {R:List Rw} (b:Ez k R) (hS:k a) (H:Hn f k (Dw a)) (m:Nat) (P:World->World) (hr:∀ W,Dw a W->r.run f W=.ok .skip (P W)) (h:∀ W,Dw a W->k (P W)/\Wg f k (bodyPost f L E) n (pq (bq f R H n true m S F).1.2.2 (bq f R H n true m S F).1.2.1) (qA (bq f R H n true m S F).1.2.2 (bq f R H n true m S F).1.2.1 undef 0) (P W)) (hx:((bq f R H n true m S F).1.1,Eo n (bq f R H n true m S F).1.2.2 (bq f R H n true m S F).1.2.1)=(false,some r):=by kernel_rfl) (he:(bq f R H n true m S F).2.map Prod.fst=(bq f R H n true m S F).2.map Prod.snd:=by kernel_rfl):Wg f k (bodyPost f L E) n S F a:=by simp only [Prod.mk.injEq] at hx;exact ae (tw b hS) H m (Dw.refl a) (hret:=hx.1) (he:=he) λW w=>bM (hx:=hx.2) (hr W w) (hS:=λ_=>(h W w).1) (h W w).2
theorem RY {S:List KI} {F:Fr} {R:List Rw} (b:Ez k R) (hS:k a) (H:Hn f k (Dw a)) (m:Nat) {v:World->Value} (t:Nat) (P:World->World) (hr:∀ W,Dw a W->r.run f W=.ok (.value (v W)) (P W)) (h:∀ W,Dw a W->k (P W)/\Wg f k (bodyPost f L E) n (pq (bq f R H n true m S F).1.2.2 (bq f R H n true m S F).1.2.1) (qA (bq f R H n true m S F).1.2.2 (bq f R H n true m S F).1.2.1 (v W) t) (P W)) (hx:((bq f R H n true m S F).1.1,Eo n (bq f R H n true m S F).1.2.2 (bq f R H n true m S F).1.2.1)=(false,some r):=by kernel_rfl) (he:(bq f R H n true m S F).2.map Prod.fst=(bq f R H n true m S F).2.map Prod.snd:=by kernel_rfl):Wg f k (bodyPost f L E) n S F a:=by simp only [Prod.mk.injEq] at hx;exact ae (tw b hS) H m (Dw.refl a) (hret:=hx.1) (he:=he) λW w=>dM t (hx:=hx.2) (hr W w) (hS:=λ_=>(h W w).1) (h W w).2
theorem Dw.below (hb:Below w a o) (h:Dw o b):Below w a b:=by
 obtain ⟨d,rfl⟩:=h;induction d with
 | zero=>exact hb
 | succ d B=>exact B.drew
theorem aD {t ty:TypeId} {old cells:Array Value} (b:a.heap[g]?=some (.cells old t (0,0))) (c:(P.info? ty).map (·.size)=some cells.size) (d:old.size=cells.size) (w:cells.all (·.oneCell')=true): (do Instr.storeAt ty (.p g 0) (.agg cells);pure Next.skip:Sem Next).run P a=.ok .skip (a.setRow g cells):=by have:=run_storeVar_row (P:=P) a g t ty old cells b c d w;simp [Instr.storeAt,Instr.sureAddr,this,Result.andThen]
theorem mi {P:Program} {S:World->Prop} {n:Nat} {fn:Func} {Rs:Ending->World->Prop} {k:List KI} {F:Fr} {w:World} {R:List Rw} (hz:Ez S R) (hS:S w) (H:Hn P S (Dw w)) (m:Nat) {r:Nat} {T:TypeId} {d:TypeDesc} {cs:Array Value} {s p u:Nat} {v1 v2:Value} (v:∀ W,S W->S (W.setRow r cs)) (e:∀ W,S W->∃ old t,old.size=cs.size/\W.heap[r]?=some (.cells old t (0,0))) (C:(P.info? T).map (·.size)=some cs.size) (o:cs.all (·.oneCell')=true) (G:P.underlying T=some d) (hd:(match d with | .struct _ | .array _ _=>true | _=>false)=true) (q:fn.results=#[.tmp s,.cell p T,.tmp u]) (hx:((bq P R H n true m k F).1.1,Eo n (bq P R H n true m k F).1.2.2 (bq P R H n true m k F).1.2.1)=(false,some (do Instr.storeAt T (.p r 0) (.agg cs);pure Next.skip))) (he:(bq P R H n true m k F).2.map Prod.fst=(bq P R H n true m k F).2.map Prod.snd) (hy:(λ(y:(Bool × List KI × Fr) × List (Oe × Oe))=>(y.1.1,(lk y.1.2.2 s).map Prod.fst,(lk y.1.2.2 p).map Prod.fst,(lk y.1.2.2 u).map Prod.fst,y.2.map Prod.fst)) (bq P R ({}:Hn P S λV=>∃ W,Dw w W/\Dw (W.setRow r cs) V) n true m (pq (bq P R H n true m k F).1.2.2 (bq P R H n true m k F).1.2.1) (qA (bq P R H n true m k F).1.2.2 (bq P R H n true m k F).1.2.1 undef 0))=(true,some v1,some (.p r 0),some v2,(bq P R ({}:Hn P S λV=>∃ W,Dw w W/\Dw (W.setRow r cs) V) n true m (pq (bq P R H n true m k F).1.2.2 (bq P R H n true m k F).1.2.1) (qA (bq P R H n true m k F).1.2.2 (bq P R H n true m k F).1.2.1 undef 0)).2.map Prod.snd)) (h:∀ W V,Dw w W->Dw (W.setRow r cs) V->Rs (.returned (.tuple #[v1,.agg cs,v2])) V):Wg P S (bodyPost P fn Rs) n k F w:=by
 have c:∀ {a b:World},S a->Dw a b->S b:=λ{a b} x l=>(tw (P:=P) (fn:=fn) (Rs:=Rs) hz x).sub _ l;refine GD hz hS H m (λW=>W.setRow r cs) (λW z=>?_) (hx:=hx) (he:=he) λW z=>?_;·obtain ⟨old,t,x,l⟩:=e W (c hS z);exact aD l C x o
 ·have A:=v W (c hS z);refine ⟨A,?_⟩;simp only [Prod.mk.injEq] at hy;obtain ⟨I,J,K,L,M⟩:=hy;have E:n6 P S (λV=>∃ W,Dw w W/\Dw (W.setRow r cs) V) R true (bodyPost P fn Rs):=
   ⟨λV ⟨X,g,i⟩=>c (v X (c hS g)) i,hz.rows,λ_ V ⟨X,g,i⟩=>⟨X,g,by obtain ⟨j,rfl⟩:=i;exact ⟨j+1,rfl⟩⟩,cJ⟩
  refine lE E _ m ⟨W,z,Dw.refl _⟩ (hv:=I) (he:=M) λV a D B=>?_;obtain ⟨X,g,i⟩:=D;obtain ⟨old,t,x,l⟩:=e X (c hS g);have f:V.heap[r]?=some (.cells cs t (0,0)):=(by obtain ⟨j,rfl⟩:=i;exact setRow_heap X r old cs t (0,0) l);refine ⟨_,?_,h X V g i⟩;rw [<- B.slot J,<- B.slot L];exact bU q a.tmps V r t cs (0,0) d (B.slot K) f G hd C
theorem iD {old:Value} (b:a.cell? ⟨w,n,none⟩=some old/\a.frozen? ⟨w,n,none⟩=false) (d:(f.info? T).map (·.size)=some 1) (hv:v.cells=#[v]) (e:v.oneCell'=true:=by rfl): (do Instr.storeAt T (.p w n) v;pure Next.skip:Sem Next).run f a=.ok .skip (a.setCell ⟨w,n,none⟩ v):=by
 obtain ⟨t,g,P⟩:=Option.map_eq_some_iff.1 d;have c:(store ⟨w,n,none⟩ v).run f a=.ok () (a.setCell ⟨w,n,none⟩ v):=by rw [run_store f a _ v _ e];simp [b.1,b.2]
 simp [Instr.storeAt,Instr.sureAddr,storeVar,sizeOf,typeInfo,g,P,hv,storeCells,Addr.add,Result.andThen,c]
theorem aS (h:Below w a o) (b:w<=g) (cs:Array Value):Below w a (o.setRow g cs):=
 ⟨h.os,h.tape,h.output,by rw [setRow_size];exact h.size,λk B=>(setRow_other o g k cs ab).trans (h.block k B)⟩
theorem vA {P:Program} {fn:Func} {F:Fr} {n:Nat} {a:Act} {p u g:Nat} {T t:TypeId} {d:TypeDesc} {cs:Array Value} {v:Value} {w:World} (hk:ch F n a) (h:fn.results=#[.cell p T,.tmp u]) (e:(lk F p).map Prod.fst=some (.p g 0)) (hv:(lk F u).map Prod.fst=some v) (b:w.heap[g]?=some (.cells cs t (0,0))) (f:P.underlying T=some d) (hd:(match d with | .struct _ | .array _ _=>true | _=>false)=true) (c:(P.info? T).map (·.size)=some cs.size):(results fn a.tmps).run P w=.ok (.tuple #[.agg cs,v]) w:=by rw [results_cell_tmp h,hk.slot e,hk.slot hv];simp [asAddr,run_loadVar_row w g t T cs (0,0) d b f hd c]
theorem jA {P:Program} {S:World->Prop} {n:Nat} {fn:Func} {Rs:Ending->World->Prop} {k:List KI} {F:Fr} {w:World} {R:List Rw} (f:iq w R) (H:Hn P (λx=>x=w) (λx=>x=w)) (m:Nat) {r:Nat} {T t:TypeId} {d:TypeDesc} {old cs:Array Value} {p u:Nat} {v:Value} (hr:w.heap[r]?=some (.cells old t (0,0))) (i:old.size=cs.size) (b:cs.all (·.oneCell')=true) (j:P.underlying T=some d) (h:Rs (.returned (.tuple #[.agg cs,v])) (w.setRow r cs)) (e:(P.info? T).map (·.size)=some cs.size:=by kernel_rfl) (hd:(match d with | .struct _ | .array _ _=>true | _=>false)=true:=by rfl) (c:fn.results=#[.cell p T,.tmp u]:=by rfl) (hx:(λ(y:Bool × List KI × Fr)=>(io k,y.1,io y.2.1,zL y.2.2 y.2.1,Eo n y.2.2 y.2.1,io (pq y.2.2 y.2.1))) (bq P R H n false m k F).1=(true,false,true,false,some (do Instr.storeAt T (.p r 0) (.agg cs);pure Next.skip),true):=by kernel_rfl) (he:(bq P R H n false m k F).2.map Prod.fst=(bq P R H n false m k F).2.map Prod.snd:=by kernel_rfl) (hy:∀ X,(λ(z:(Bool × List KI × Fr) × List (Oe × Oe))=>(z.1.1,(lk z.1.2.2 p).map Prod.fst,(lk z.1.2.2 u).map Prod.fst,z.2.map Prod.fst)) (bq P [] ({}:Hn P (λx=>x=X) (λx=>x=X)) n false m (pq (bq P R H n false m k F).1.2.2 (bq P R H n false m k F).1.2.1) (qA (bq P R H n false m k F).1.2.2 (bq P R H n false m k F).1.2.1 undef 0))=(true,some (.p r 0),some v,(bq P [] ({}:Hn P (λx=>x=X) (λx=>x=X)) n false m (pq (bq P R H n false m k F).1.2.2 (bq P R H n false m k F).1.2.1) (qA (bq P R H n false m k F).1.2.2 (bq P R H n false m k F).1.2.1 undef 0)).2.map Prod.snd):=by intro _;kernel_rfl):Wg P S (bodyPost P fn Rs) n k F w:=by simp only [Prod.mk.injEq] at hx hy;obtain ⟨l,o,q,s,A,B⟩:=hx;refine ct f H m (aD hr e i b) ?_ (hx:=by rw [l,o,q,s,A]) (he:=he);exact gz (R:=[]) trivial {} m (λa g=>⟨_,vA g c (hy _).2.1 (hy _).2.2.1 (setRow_heap _ _ _ _ _ _ hr) j hd e,h⟩) (hx:=by rw [B,(hy _).1]) (he:=(hy _).2.2.2)
theorem dQ {z:Value} (h:(P.info? T).bind (·.zero)=some z) (w:World):(do pure (.value (<- Instr.alloc T true (.tuple #[]))):Sem Next).run P w=.ok (.value (.p w.heap.size 0)) (w.alloc (.cells z.cells T)):=by obtain ⟨i,a,b⟩:=Option.bind_eq_some_iff.1 h;simp [Instr.alloc,zeroValue,typeInfo,a,b,newVar,newRow]
theorem eY {R:List Rw} (Rs:n6 f k c R x (bodyPost f L E)) (H:Hn f k c) (m:Nat) {S:List KI} {F:Fr} {s:Nat} {u:Value} (hS:c a) (h:∀ b,c b->E (.returned (.tuple #[v,u])) b) (hv:((bq f R H n x m S F).1.1,(lk (bq f R H n x m S F).1.2.2 t).map Prod.fst,(lk (bq f R H n x m S F).1.2.2 s).map Prod.fst)=(true,some v,some u):=by kernel_rfl) (he:(bq f R H n x m S F).2.map Prod.fst=(bq f R H n x m S F).2.map Prod.snd:=by kernel_rfl) (hr:L.results=#[.tmp t,.tmp s]:=by rfl):Wg f k (bodyPost f L E) n S F a:=by simp only [Prod.mk.injEq] at hv;exact lE Rs H m hS (hv:=hv.1) (he:=he) λb w d J=>⟨_,by rw [results_tmp2 hr,J.slot hv.2.1,J.slot hv.2.2],h b d⟩
def R1 (w:World) (g:Nat) (cs:Array Value) (t:TypeId) (W:World):Prop:=W.heap[g]?=some (.cells cs t (0,0))/\Bw w W
theorem R1.below (h:R1 a g p l o) (hb:Bw o b):R1 a g p l b:=⟨br hb h.1,aa h.2 hb⟩
theorem R1.eng:n6 P (R1 a w p l) (R1 a w p l) [⟨w,p,[]⟩] true (bodyPost P fn Rs):=
 ⟨λ_ h=>h,λW h r g=>by rw [List.mem_singleton.1 g];exact ⟨_,_,h.1⟩,λ_ W h=>h.below (Below.refl _ _).drew,cJ⟩
theorem R1.new (hb:Bw a o):R1 a o.heap.size p l ((o.alloc (.cells q l)).setRow o.heap.size p):=by exact ⟨setRow_heap _ _ _ _ _ _ (heap_alloc_new _ _),aS (hb.alloc hb.size _) hb.size _⟩
def R2 (w:World) (g:Nat) (cs:Array Value) (t:TypeId) (b:Nat) (a:Array Value) (t':TypeId) (W:World):Prop:=R1 w g cs t W/\W.heap[b]?=some (.cells a t' (0,0))
theorem R2.below {t':TypeId} (h:R2 a g p l w q t' o) (hb:Bw o b):R2 a g p l w q t' b:=⟨h.1.below hb,br hb h.2⟩
theorem R2.eng {t':TypeId}:n6 P (R2 a w p l n q t') (R2 a w p l n q t') [⟨w,p,[]⟩,⟨n,q,[]⟩] true (bodyPost P fn Rs):=
 ⟨λ_ h=>h,λW h r c=>by rcases List.mem_cons.1 c with rfl | c;exact ⟨_,_,h.1.1⟩;rw [List.mem_singleton.1 c];exact ⟨_,_,h.2⟩,λ_ W h=>h.below (Below.refl _ _).drew,cJ⟩
theorem jX {j:Nat} (h:a.heap[w]?=some (.cells p l (0,0))) (v:Value):(a.setCell ⟨w,j,none⟩ v).heap[w]?=some (.cells (p.set! j v) l (0,0)):=by have W:=(Array.getElem?_eq_some_iff.1 h).1;simp only [World.setCell];rw [Array.getElem?_modify];simp [h]
theorem bJ {i:Nat} (hr:a.heap[w]?=some (.cells p l (0,0))) (e:i<p.size) (c:(P.info? T).map (·.size)=some 1) (hv:v.cells=#[v]) (f:v.oneCell'=true:=by rfl): (do Instr.storeAt T (.p w i) v;pure Next.skip:Sem Next).run P a=.ok .skip (a.setCell ⟨w,i,none⟩ v):=by
 obtain ⟨l,h,g⟩:=Option.map_eq_some_iff.1 c;have d:a.cell? ⟨w,i,none⟩=some p[i]:=by simp [World.cell?,hr,e]
 have b:(store ⟨w,i,none⟩ v).run P a=.ok () (a.setCell ⟨w,i,none⟩ v):=by rw [run_store P a _ v _ f];simp [d,ic hr i]
 simp [Instr.storeAt,Instr.sureAddr,storeVar,sizeOf,typeInfo,h,g,hv,storeCells,Addr.add,Result.andThen,b]
end Go.Proofs.YtjifdmoehfbihaaGreatDoor
