/- Own lemmas. -/
import Derived.Test.YtfagphfjfhpmjaaGreatDoorAuj
import Derived.Test.YtfagphfjfhpmjaaGreatDoorJ02
import Derived.Deep.RegionHeld3
namespace Go.Proofs.YtfagphfjfhpmjaaGreatDoor
open Go.RowKit
set_option linter.unusedVariables false
variable {P n Q:Nat} {w:Program} {a o S J:World->Prop} {k:Exit->Act->World->Prop} {t:Array Oper} {f:Oper} {b:World} {c:Act} {d:Region.Mode} {j:Value} {p dr:Bool} {s:Array Bool} {x:Ending->World->Prop} {K:Func} {W:Array Value} {e:Go.Code} {g:List (Array Value × TypeId)} {args:List Value} (l:World->Prop)
def iq (P:Program) (md:Region.Mode) (ops:Array Oper) (Q:Exit->Act->World->Prop) (S:World->Prop) (k:Nat):Nat->Array Bool->Act->World->Prop
 | 0,listed,a,w=>Region.ready md ops listed=[]/\Q .normal a w
 | fuel+1,listed,a,w =>
   (Region.ready md ops listed=[]->Q .normal a w) /\
   ∀ i ∈ Region.ready md ops listed,wpOp P ops Q i (λc b=>(i≠k->S b/\iq P md ops Q S k fuel (listed.setIfInBounds i true) c b)/\(i=k->wpAny P md ops Q fuel (listed.setIfInBounds i true) c b)) a w
theorem ug {P:Program} {ops:Array Oper} {Q:Exit->Act->World->Prop} {md:Region.Mode} {S:World->Prop} {k:Nat}:∀ (fuel:Nat) (listed:Array Bool) (a:Act) (w:World),iq P md ops Q S k fuel listed a w->wpAny P md ops Q fuel listed a w
 | 0,_,_,_,h=>h
 | fuel+1,_,_,_,h=>⟨h.1,λi d=>wpOp_mono (λc f b=>by
  by_cases e:i=k
  ·exact b.2 e
  ·exact ug fuel _ c f (b.1 e).2) (h.2 i d)⟩
def nT (md:Region.Mode) (ops:Array Oper) (k i:Nat):Bool:=(i != k)&&(match ops[k]? with | some a=>a.after.any (λe=>Region.binds md e&&(e.on==i)) | none=>false)
theorem CT (h:nT d t P Q=true):Q≠P/\∃ b e,t[P]?=some b/\e ∈ b.after/\Region.binds d e=true/\e.on=Q:=by
 unfold nT at h;simp only [Bool.and_eq_true,bne_iff_ne,ne_eq] at h;refine ⟨h.1,?_⟩;have a:=h.2;cases c:t[P]? with
 | none=>rw [c] at a;cases a
 | some b =>rw [c] at a;simp only [Array.any_eq_true,Bool.and_eq_true,beq_iff_eq] at a;obtain ⟨j,g,md,f⟩:=a;exact ⟨b,_,rfl,Array.getElem_mem g,md,f⟩
def pT (md:Region.Mode) (ops:Array Oper) (listed:Array Bool):Prop:=∀ j o,ops[j]?=some o->listed.getD j false=true->∀ e ∈ o.after,Region.binds md e=true->listed.getD e.on false=true
def tB (md:Region.Mode) (ops:Array Oper) (listed:Array Bool):Bool:=(List.range listed.size).all λj=>!(listed.getD j false)||(match ops[j]? with | some o=>o.after.all λe=>!(Region.binds md e)||listed.getD e.on false | none=>true)
theorem Ao (h:tB d t s=true):pT d t s:=by
 intro j o k md e g f;unfold tB at h;rw [List.all_eq_true] at h;have i:j<s.size:=by
  rcases Nat.lt_or_ge j s.size with a|a;·exact a
  ·simp [Array.getD,Nat.not_lt.2 a] at md
 have b:=h j (List.mem_range.2 i);rw [md,k] at b;simp only [Bool.not_true,Bool.false_or,Array.all_eq_true] at b;obtain ⟨x,l,rfl⟩:=Array.getElem_of_mem g;have c:=b x l;rw [f] at c;simpa using c
def qY (md:Region.Mode) (ops:Array Oper) (i:Nat):Nat->Nat->Bool
 | 0,_=>false
 | f+1,k=>nT md ops k i||(List.range ops.size).any λj=>nT md ops k j&&qY md ops i f j
theorem rU {ops:Array Oper} {md:Region.Mode} {i:Nat} {listed:Array Bool} (o:pT md ops listed):∀ f k,qY md ops i f k=true->(listed.getD k false=true\/k ∈ Region.ready md ops listed)->listed.getD i false=true
 | 0,_,h,_=>kd
 | f+1,k,h,g=>by
   have a:∀ j,nT md ops k j=true->listed.getD j false=true:=by
    intro j d
    obtain ⟨_,r,e,q,p,n,c⟩:=CT d
    rcases g with g|g
    ·have:=o k r q g e p n
     rw [c] at this;exact this
    ·obtain ⟨_,s,l,b⟩:=mem_ready.1 g
     rw [q] at l
     cases l
     have m:=b e p n
     rw [c] at m
     exact m
   unfold qY at h
   rw [Bool.or_eq_true] at h
   rcases h with h|h
   ·exact a i h
   ·rw [List.any_eq_true] at h
    obtain ⟨j,_,d⟩:=h
    rw [Bool.and_eq_true] at d
    exact rU o f j d.2 (Or.inl (a j d.1))
theorem nU (h:s.getD P false=true):(s.setIfInBounds n true).getD P false=true:=by
 simp only [Array.getD_eq_getD_getElem?,Array.getElem?_setIfInBounds] at h ⊢;split
 ·split;·rfl
  ·rename_i a b;subst a;simp [Array.getElem?_eq_none (Nat.not_lt.1 b)] at h
 ·exact h
theorem CU (i:pT d t s) {j:Nat} (k:j ∈ Region.ready d t s):pT d t (s.setIfInBounds j true):=by
 intro x o g c e f md;by_cases h:x=j;·subst h;obtain ⟨_,l,b,a⟩:=mem_ready.1 k;rw [g] at b;cases b;exact nU (a e f md)
 ·refine nU (i x o g ?_ e f md);simp only [Array.getD_eq_getD_getElem?,Array.getElem?_setIfInBounds] at c ⊢;rw [if_neg (Ne.symm h)] at c;exact c
theorem vX {md:Region.Mode} (M:t[n]?=some f) (r:∀ (v:Nat) (o:Oper) z b,t[v]?=some o->o.op≠.select z b) (U:∀ c S ops,k (.panic c) (S.put f.dst j) ops->k (.panic c) S ops) (E:n≠P) (u:Nat) (hk:qY md t n u P=true): ∀ (fuel:Nat) (listed:Array Bool) (S:Act) (ops:World),pT md t listed -> (∀ v x,t[v]?=some x->v≠n->listed.getD v true=false->(∀ e ∈ x.after,Region.binds md e=true->e.on≠n)->f.apart t x=true) -> n ∈ Region.ready md t listed->YieldsIf w t a f j S->a ops -> iq w md t k a P fuel (listed.setIfInBounds n true) (S.put f.dst j) ops->iq w md t k a P (fuel+1) listed S ops:=by
 intro fuel;induction fuel with
 | zero =>
   intro listed S ops _ _ q K B H;refine ⟨λh=>(by rw [h] at q;cases q),λv y=>?_⟩;by_cases d:v=n;·subst d;exact K.wpOp M B ⟨λ_=>⟨B,H⟩,λe=>absurd e E⟩
   ·have:=ready_mono y d;rw [H.1] at this;cases this
 | succ fuel X =>
   intro listed S ops D m q K B H;refine ⟨λh=>(by rw [h] at q;cases q),λv y=>?_⟩;by_cases d:v=n;·subst d;exact K.wpOp M B ⟨λ_=>⟨B,H⟩,λe=>absurd e E⟩
   ·have l:=H.2 v (ready_mono y d);obtain ⟨p,x,Q,C⟩:=mem_ready.1 y;have F:∀ e ∈ x.after,Region.binds md e=true->e.on≠n:=λe W V L=>by
     have l:=C e W V;have A:=(mem_ready.1 q).1;rw [L] at l;rcases Nat.lt_or_ge n listed.size with s|s;·simp [s] at A l;rw [A] at l;cases l
     ·simp [Array.getElem?_eq_none s] at l
    have g:v≠P:=by
     rintro rfl;have l:=rU D u v hk (Or.inr y);have A:=(mem_ready.1 q).1;rcases Nat.lt_or_ge n listed.size with s|s;·simp [s] at A l;rw [A] at l;cases l
     ·simp [Array.getElem?_eq_none s] at l
    have T:=wpOp_putIf Q (m v x Q d p F) (λz b=>r n f z b M) (λz b=>r v x z b Q) U K l;have i:∀ P I,t[P]?=some I->P≠n->(listed.setIfInBounds v true).getD P true=false ->
     (∀ e ∈ I.after,Region.binds md e=true->e.on≠n)->f.apart t I=true:=λP I hk N G O=>by
     refine m P I hk N ?_ O
     by_cases g:v=P
     ·subst g;exact p
     ·rw [getD_set_ne true g] at G;exact G
    refine wpOp_mono (λR Y J=>⟨λ_=>⟨(J.2.1 g).1,X (listed.setIfInBounds v true) R Y (CU D y) i (ready_mono q (Ne.symm d)) J.1 (J.2.1 g).1 ?_⟩,λe=>absurd e g⟩) T;rw [Array.setIfInBounds_comm _ _ d];exact (J.2.1 g).2
theorem yf (i:t[n]?=some f) (hs:Region.noSelect t=true) (fuel:Region.free d t s n=true) (hr:(Region.ready d t s).contains n=true) (e:n≠P) (hk:qY d t n 6 P=true) (md:tB d t s=true) (g:∀ listed c b,k (.panic listed) (c.put f.dst j) b->k (.panic listed) c b) (hy:YieldsIf w t a f j c) (hS:a b) (h:iq w d t k a P Q (s.setIfInBounds n true) (c.put f.dst j) b):iq w d t k a P (Q+1) s c b :=
 vX i (Region.noSelect_spec hs) g e 6 hk Q s c b (Ao md) (Region.free_spec i fuel) (by simpa using hr) hy hS h
theorem nV {a:Act} (h:YieldsIf w t (λ_=>True) f j a):Yields w t f j a :=
 h.imp (λ⟨c,b⟩=>⟨c,λP=>b P trivial⟩) id
theorem vY {md:Region.Mode} {Q:Oper} (D:t[n]?=some Q) (m:∀ (v:Nat) (o:Oper) x b,t[v]?=some o->o.op≠.select x b) (T:∀ c S ops,k (.panic c) (S.put Q.dst j) ops->k (.panic c) S ops) (z:n≠P): ∀ (fuel:Nat) (listed:Array Bool) (S:Act) (ops:World), (∀ v u,t[v]?=some u->v≠n->listed.getD v true=false->(∀ e ∈ u.after,Region.binds md e=true->e.on≠n)->Q.apart t u=true) -> n ∈ Region.ready md t listed->Yields w t Q j S->a ops -> iq w md t k a P fuel (listed.setIfInBounds n true) (S.put Q.dst j) ops->iq w md t k a P (fuel+1) listed S ops:=by
 intro fuel;induction fuel with
 | zero =>
   intro listed S ops _ p F J H;refine ⟨λh=>(by rw [h] at p;cases p),λv E=>?_⟩;by_cases d:v=n;·subst d;exact (Yields.yieldsIf (S:=λ_=>True) F).wpOp D trivial ⟨λ_=>⟨J,H⟩,λe=>absurd e z⟩
   ·have:=ready_mono E d;rw [H.1] at this;cases this
 | succ fuel X =>
   intro listed S ops l p F J H;refine ⟨λh=>(by rw [h] at p;cases p),λv E=>?_⟩;by_cases d:v=n;·subst d;exact (Yields.yieldsIf (S:=λ_=>True) F).wpOp D trivial ⟨λ_=>⟨J,H⟩,λe=>absurd e z⟩
   ·have q:=H.2 v (ready_mono E d);obtain ⟨i,u,s,y⟩:=mem_ready.1 E;have A:∀ e ∈ u.after,Region.binds md e=true->e.on≠n:=λe V U K=>by
     have q:=y e V U;have O:=(mem_ready.1 p).1;rw [K] at q;rcases Nat.lt_or_ge n listed.size with I|I;·simp [I] at O q;rw [O] at q;cases q
     ·simp [Array.getElem?_eq_none I] at q
    have R:=wpOp_putIf (S:=λ_=>True) s (l v u s d i A) (λx b=>m n Q x b D) (λx b=>m v u x b s) T (Yields.yieldsIf F) q;have g:∀ P C,t[P]?=some C->P≠n->(listed.setIfInBounds v true).getD P true=false ->
     (∀ e ∈ C.after,Region.binds md e=true->e.on≠n)->Q.apart t C=true:=λP C W L B M=>by
     refine l P C W L ?_ M
     by_cases f:v=P
     ·subst f;exact i
     ·rw [getD_set_ne true f] at B;exact B
    by_cases f:v=P;·refine wpOp_mono (λG N r=>⟨λe=>absurd f e,λ_=>?_⟩) R;refine wpAny_first D m T fuel (listed.setIfInBounds v true) G N g (ready_mono p (Ne.symm d)) (nV r.1) ?_;rw [Array.setIfInBounds_comm _ _ d];exact r.2.2 f
    ·refine wpOp_mono (λG N r=>⟨λ_=>⟨(r.2.1 f).1,X (listed.setIfInBounds v true) G N g (ready_mono p (Ne.symm d)) (nV r.1) (r.2.1 f).1 ?_⟩,λe=>absurd e f⟩) R;rw [Array.setIfInBounds_comm _ _ d];exact (r.2.1 f).2
theorem yg (md:t[n]?=some f) (hs:Region.noSelect t=true) (i:Region.free d t s n=true) (hr:(Region.ready d t s).contains n=true) (hk:n≠P) (e:∀ listed c b,k (.panic listed) (c.put f.dst j) b->k (.panic listed) c b) (hy:Yields w t f j c) (hS:a b) (h:iq w d t k a P Q (s.setIfInBounds n true) (c.put f.dst j) b):iq w d t k a P (Q+1) s c b :=
 vY md (Region.noSelect_spec hs) e hk Q s c b (Region.free_spec md i) (by simpa using hr) hy hS h
theorem CV (m:t[n]?=some f) (hr:Region.ready d t s=[n]) (hk:n≠P) (h:∀ listed:Act->World->Prop,Shut (∀ c b,a b->(a b->iq w d t k a P Q (s.setIfInBounds n true) c b)->listed c b)->if Region.wanted f (yielded t c.tmps)=true then Oper.wp w f c b listed k else listed (c.put f.dst undef) b): iq w d t k a P (Q+1) s c b:=by refine ⟨λi=>absurd (hr.symm.trans i) (List.cons_ne_nil _ _),λj md=>?_⟩;rw [hr] at md;obtain rfl:=List.mem_singleton.1 md;exact wpOp_step m (λlisted g=>h listed (λc b o l=>g c b ⟨λ_=>⟨o,l o⟩,λe=>absurd e hk⟩))
theorem CY (i:t[P]?=some f) (hr:Region.ready d t s=[P]) (h:∀ listed:Act->World->Prop,Shut (∀ c b,wpAny w d t k n (s.setIfInBounds P true) c b->listed c b)->if Region.wanted f (yielded t c.tmps)=true then Oper.wp w f c b listed k else listed (c.put f.dst undef) b): iq w d t k a P (n+1) s c b:=by refine ⟨λQ=>absurd (hr.symm.trans Q) (List.cons_ne_nil _ _),λj o=>?_⟩;rw [hr] at o;obtain rfl:=List.mem_singleton.1 o;exact wpOp_step i (λlisted S=>h listed (λc b g=>S c b ⟨λe=>absurd rfl e,λ_=>g⟩))
theorem GF (e:t[P]?=some f) (hr:Region.ready d t s=[P]) (h:∀ a:Act->World->Prop,Shut (∀ c b,wpAny w d t k n (s.setIfInBounds P true) c b->a c b)->if Region.wanted f (yielded t c.tmps)=true then Oper.wp w f c b a k else a (c.put f.dst undef) b): wpAny w d t k (n+1) s c b:=by refine ⟨λmd=>absurd (hr.symm.trans md) (List.cons_ne_nil _ _),λj listed=>?_⟩;rw [hr] at listed;obtain rfl:=List.mem_singleton.1 listed;exact wpOp_step e h
theorem fi {x:Prop} (h:p=false) (hb:p=true):x:=by rw [h] at hb;cases hb
structure Rw where
 b:Nat
 cs:Array Value
 tg:List (Nat × Nat)
abbrev Fr:=List (Nat × Value × Nat)
def lk {α:Type}:List (Nat × α)->Nat->Option α
 | [],_=>none
 | (t,x)::F,s=>match Nat.beq t s with
   | true=>some x
   | false=>lk F s
def ev (F:Fr):Operand->Value
 | .tmp t=>match lk F t with
   | some x=>x.1
   | none=>undef
 | .const v=>v
 | .global g=>.p g 0
 | .func f=>.func (.func f) #[] #[]
def Jl (F:Fr):Operand->Nat
 | .tmp t=>match lk F t with
   | some x=>x.2
   | none=>0
 | _=>0
def kn (F:Fr):Operand->Bool
 | .tmp t=>(lk F t).isSome
 | _=>true
structure bK (F:Fr) (n:Nat) (a:Act):Prop where
 size:a.tmps.size=n
 nod:a.defers=[]
 at_:∀ t x,lk F t=some x->a.tmps[t]?=some x.1
theorem bK.eval {F:Fr} {n:Nat} {a:Act} (h:bK F n a) {x:Operand} (hx:kn F x=true):a.eval x=ev F x:=by
 cases x with
 | tmp t =>simp only [kn,Option.isSome_iff_exists] at hx;obtain ⟨y,b⟩:=hx;have:=h.at_ t y b;simp [Act.eval,ev,b,Array.getD_eq_getD_getElem?,this]
 | const v=>rfl
 | global g=>rfl
 | func f=>rfl
theorem bK.put {F:Fr} {n:Nat} {a:Act} (h:bK F n a) {d:Nat} (hd:Nat.blt d n=true) (v:Value) (g:Nat):bK ((d,v,g)::F) n (a.put (some d) v):=by
 have i:d<n:=Nat.lt_of_succ_le (by simpa [Nat.blt] using hd);refine ⟨by simp [Act.put,h.size],h.nod,λt x f=>?_⟩;unfold lk at f;have j:=h.size;cases c:Nat.beq d t with
 | true =>rw [c] at f;have b:d=t:=Nat.eq_of_beq_eq_true c;subst b;cases f;simp [Act.put,j,i]
 | false =>
   rw [c] at f;have b:d≠t:=λe=>by rw [e,Nat.beq_refl] at c;cases c
   have:=h.at_ t x f;simp only [Act.put];rw [Array.getElem?_setIfInBounds_ne b];exact this
def vZ {α:Type} (P:Program) (r:Option Rw):Sem α->Option (α × List (Addr × Addr))
 | .pure a=>some (a,[])
 | .load _ a k=>match r with
   | none=>none
   | some r=>match r.cs[a.off]? with
     | none=>none
     | some v=>match vZ P (some r) (k v) with
       | none=>none
       | some x=>some (x.1,(a,⟨r.b,a.off,none⟩)::x.2)
 | .program k=>vZ P r (k P)
 | .mark _ k=>vZ P r k
 | _=>none
def pi (r:Rw) (w:World):Prop:=∃ t a,w.heap[r.b]?=some (.cells r.cs t a)
theorem ER {α:Type} {r:Option Rw} (hr:∀ j,r=some j->pi j b):∀ (s:Sem α) (x:α) (P:List (Addr × Addr)),vZ w r s=some (x,P)->(∀ e ∈ P,e.1=e.2)->s.run w b=.ok x b:=by
 intro s;induction s with
 | pure a=>intro x P h _;simp only [vZ,Option.some.injEq,Prod.mk.injEq] at h;rw [h.1];rfl
 | load m a k f =>
   intro x P h c;unfold vZ at h;cases r with
   | none=>cases h
   | some r =>
     dsimp only at h;cases i:r.cs[a.off]? with
     | none=>rw [i] at h;cases h
     | some v =>
       rw [i] at h;dsimp only at h;cases g:vZ w (some r) (k v) with
       | none=>rw [g] at h;cases h
       | some y =>rw [g] at h;simp only [Option.some.injEq,Prod.mk.injEq] at h;obtain ⟨l,n⟩:=h;subst n;have o:a=⟨r.b,a.off,none⟩:=c (a,⟨r.b,a.off,none⟩) bc;obtain ⟨t,q,d⟩:=hr r rfl;have p:b.cell? a=some v:=(by rw [o];simp only [World.cell?,d];simpa using i);have:=f v x y.2 (by rw [g,<- l]) (λe h=>c e (by simp [h]));simp only [Sem.run,p];exact this
 | program k f=>intro x P h c;exact f w x P h c
 | mark m k f=>intro x P h c;exact f x P h c
 | store=>intro x P h;cases h
 | new=>intro x P h;cases h
 | shape=>intro x P h;cases h
 | freeze=>intro x P h;cases h
 | frozen=>intro x P h;cases h
 | getObj=>intro x P h;cases h
 | setObj=>intro x P h;cases h
 | choose=>intro x P h;cases h
 | sys=>intro x P h;cases h
 | halt=>intro x P h;cases h
structure Ov (P:Program) (S:World->Prop) where
 s:Sem Next
 v:Value
 t:Nat
 h:∀ w,S w->s.run P w=.ok (.value v) w
structure Cv (P:Program) (S:World->Prop) where
 f:Nat
 args:Array Value
 v:Value
 t:Nat
 h:∀ w,S w->Calls P f args w λe w'=>e=.returned v/\S w'
structure Vq where
 u:Value
 v:Value
 t:Nat
 h:u=v
inductive Oe where
 | a (x:Addr)
 | v (x:Value)
 | s (x:Sem Next)
 | c (f:Nat) (args:Array Value)
def wn (ops:Array Oper) (F:Fr) (o:Oper):Option Bool :=
 match o.guard with
 | none=>some true
 | some (j,want)=>match ops[j]? with
   | none=>none
   | some a=>match a.dst with
     | none=>none
     | some d=>match lk F d with
       | none=>none
       | some x=>match x.1 with
         | .bool b=>some (b==want)
         | _=>some false
theorem kE {F:Fr} {o:Oper} (h:bK F P c) (a:wn t F o=some p):Region.wanted o (yielded t c.tmps)=p:=by
 unfold wn at a;unfold Region.wanted;cases i:o.guard with
 | none=>rw [i] at a;simpa using a
 | some g =>
   obtain ⟨j,l⟩:=g;rw [i] at a;dsimp only at a ⊢;unfold yielded;cases k:t[j]? with
   | none=>rw [k] at a;cases a
   | some m =>
     rw [k] at a;dsimp only at a;cases e:m.dst with
     | none=>rw [e] at a;cases a
     | some d =>
       rw [e] at a;dsimp only at a;cases f:lk F d with
       | none=>rw [f] at a;cases a
       | some x =>rw [f] at a;dsimp only at a;have:=h.at_ d x f;simp only [Option.bind_some,e,this];obtain ⟨v,g⟩:=x;dsimp only at a ⊢;cases v<;>simp_all
def uh (R:List Rw) (F:Fr):Op->Option Rw
 | .load _ x=>match Jl F x with
   | 0=>none
   | k+1=>R[k]?
 | _=>none
def Q7 (R:List Rw) (F:Fr):Op->Nat
 | .move x=>Jl F x
 | .assign x=>Jl F x
 | .nilCheck x=>Jl F x
 | .fieldAddr _ x _=>Jl F x
 | .pick c x y=>match ev F c with
   | .bool true=>Jl F x
   | _=>Jl F y
 | .load _ x=>match Jl F x with
   | 0=>0
   | k+1=>match R[k]?,ev F x with
     | some r,.pointer (some p)=>(lk r.tg p.off).getD 0
     | _,_=>0
 | _=>0
def Sn:Op->Bool
 | .alloc _ | .box _ _ | .build _ _ | .buildSlice _ _ _ | .insert _ _ _ _ | .store _ _ _ | .ready _ | .waits _ | .makeFunc _ _ _ | .makeMap _ _ | .makeChan _ _ | .makeSlice _ _ _
 | .mapUpdate _ _ _ _ | .mapEntry _ _ _ | .entryStore _ _ _ _ | .range _ _ | .next _ _ | .entry _ | .go _ | .defer _ | .panic _ | .send _ _ | .recv _ _ _ | .select _ _=>true
 | .call c=>match c.callee with
   | .builtin .len=>false
   | _=>true
 | _=>false
def Ap:Op->Bool
 | .select _ _=>false
 | _=>true
def pl (P:Program) (f:Nat):Bool:=match P.funcs[f]? with
 | some a=>match a.body with
   | some _=>!(a.name == "runtime.NumGoroutine")
   | none=>false
 | none=>false
theorem Q8 (h:pl w P=true) (args:Array Value) (f:World):(callFunc P args).run w f=.ok (.enter P args) f:=by
 unfold pl at h;cases b:w.funcs[P]? with
 | none=>rw [b] at h;cases h
 | some d =>
   rw [b] at h;dsimp only at h;cases a:d.body with
   | none=>rw [a] at h;cases h
   | some c =>rw [a] at h;have e:d.name≠ "runtime.NumGoroutine":=cp;simp [callFunc,b,e,a,mark]
def Jm (P:Program) {S:World->Prop} (R:List Rw) (ov:List (Nat × Ov P S)) (eq:List (Nat × Vq)) (F:Fr) (o:Oper):Option (Value × Nat × List (Oe × Oe)):=
 match o.op.operands.all (kn F)&&Ap o.op with
 | false=>none
 | true=>match o.dst.bind (lk ov) with
   | some e=>some (e.v,e.t,[(.s (execOp (ev F) o),.s e.s)])
   | none=>match vZ P (uh R F o.op) (execOp (ev F) o) with
     | some (.value v,es)=>match o.dst.bind (lk eq) with
       | some e=>some (e.v,e.t,(.v v,.v e.u)::es.map λe=>(.a e.1,.a e.2))
       | none=>some (v,Q7 R F o.op,es.map λe=>(.a e.1,.a e.2))
     | _=>none
theorem C0 {R:List Rw} {ov:List (Nat × Ov w S)} {eq:List (Nat × Vq)} {F:Fr} {o:Oper} {v:Value} {es:List (Oe × Oe)} (hk:bK F P c) (h:Jm w R ov eq F o=some (v,Q,es)) (he:∀ e ∈ es,e.1=e.2) (E:∀ n,S n->∀ r ∈ R,pi r n): (∀ n,S n->(execOp c.eval o).run w n=.ok (.value v) n)/\∀ m b,o.op≠.select m b:=by
 unfold Jm at h;cases j:o.op.operands.all (kn F)&&Ap o.op with
 | false=>rw [j] at h;cases h
 | true =>
   rw [j] at h;dsimp only at h;rw [Bool.and_eq_true] at j;have C:∀ m b,o.op≠.select m b:=λm b e=>by have:=j.2;rw [e] at this;cases this
   have p:execOp c.eval o=execOp (ev F) o:=execOp_congr o C λx G=>hk.eval (Array.all_eq_true_iff_forall_mem.1 j.1 x G);refine ⟨λn B=>?_,C⟩;rw [p];cases l:o.dst.bind (lk ov) with
   | some e =>rw [l] at h;simp only [Option.some.injEq,Prod.mk.injEq] at h;obtain ⟨g,A,i⟩:=h;subst i;have:=he (.s (execOp (ev F) o),.s e.s) bc;simp only [Oe.s.injEq] at this;rw [this,<- g];exact e.h n B
   | none =>
     rw [l] at h;dsimp only at h;cases z:vZ w (uh R F o.op) (execOp (ev F) o) with
     | none=>rw [z] at h;cases h
     | some y =>
       obtain ⟨H,f⟩:=y;rw [z] at h;cases H with
       | value u =>
         dsimp only at h;have key:(∀ e ∈ f,e.1=e.2)->Sem.run w (execOp (ev F) o) n=.ok (.value u) n:=λq=>by
          refine ER (λI d=>?_) _ _ f z q;refine E n B I ?_;unfold uh at d;split at d
          ·split at d;·cases d
           ·exact List.mem_of_getElem? d
          ·cases d
         cases k:o.dst.bind (lk eq) with
         | some e =>rw [k] at h;simp only [Option.some.injEq,Prod.mk.injEq] at h;obtain ⟨g,A,i⟩:=h;subst i;have D:=he (.v u,.v e.u) bc;simp only [Oe.v.injEq] at D;rw [key λa s=>by have:=he (.a a.1,.a a.2) (by simp only [List.mem_cons,List.mem_map];exact .inr ⟨a,s,rfl⟩);simpa using this,<- g,<- e.h,D]
         | none =>rw [k] at h;simp only [Option.some.injEq,Prod.mk.injEq] at h;obtain ⟨g,A,i⟩:=h;subst i;rw [key λa s=>by have:=he (.a a.1,.a a.2) (List.mem_map.2 ⟨a,s,rfl⟩);simpa using this,<- g]
       | _=>cases h
def qZ (P:Program) (F:Fr) (o:Oper):Option (Nat × Array Value):=
 match o.op.operands.all (kn F) with
 | false=>none
 | true=>match o.op with
   | .call c=>match c.callee with
     | .value x=>match ev F x with
       | .func (.func f) first cap=>match pl P f with
         | true=>some (f,first++c.args.map (ev F)++cap)
         | false=>none
       | _=>none
     | _=>none
   | _=>none
theorem oL {F:Fr} {a:Act} {o:Oper} (hk:bK F n a) (h:qZ w F o=some (P,W)) (f:World):(execOp a.eval o).run w f=.ok (.enter P W) f:=by
 unfold qZ at h;cases k:o.op.operands.all (kn F) with
 | false=>rw [k] at h;cases h
 | true =>
   rw [k] at h;dsimp only at h;cases d:o.op with
   | call c =>
     have s:∀ p b,o.op≠.select p b:=λp b e=>by rw [d] at e;cases e
     have l:execOp a.eval o=execOp (ev F) o:=execOp_congr o s λx j=>hk.eval (Array.all_eq_true_iff_forall_mem.1 k x j);rw [l];rw [d] at h;dsimp only at h;cases i:c.callee with
     | value x =>
       rw [i] at h;dsimp only at h;cases j:ev F x with
       | func r g cap =>
         rw [j] at h;cases r with
         | func q =>
           dsimp only at h;cases m:pl w q with
           | false=>rw [m] at h;cases h
           | true =>
             rw [m] at h;simp only [Option.some.injEq,Prod.mk.injEq] at h;obtain ⟨rfl,rfl⟩:=h;have:execOp (ev F) o=callFunc q (g++c.args.map (ev F)++cap):=by unfold execOp;rw [d];simp only [resolve,i,j,Deferred.ofValue];rfl
             rw [this];exact Q8 m _ _
         | _=>cases h
       | _=>rw [j] at h;cases h
     | _=>rw [i] at h;cases h
   | _=>rw [d] at h;cases h
inductive KI where
 | code (c:Go.Code)
 | blk (id:Nat)
 | ops (all:Array Oper) (rest:List Oper)
 | sq (all:Array Oper) (fuel:Nat) (listed:Array Bool)
 | fin (R:Act->World->Prop)
 | sk (all:Array Oper) (kk:Nat) (fuel:Nat) (listed:Array Bool)
 | sw (all:Array Oper) (fuel:Nat) (listed:Array Bool)
def iS (P:Program) (S:World->Prop) (Q:Exit->Act->World->Prop):List KI->Exit->Act->World->Prop
 | []=>Q
 | .code c::k=>Exit.then (λa w=>c.wp P (iS P S Q k) a w) (iS P S Q k)
 | .ops all rest::k=>Exit.then (wpList P all (iS P S Q k) rest) (iS P S Q k)
 | .blk id::k=>Exit.inBlock id (iS P S Q k)
 | .sq all fuel listed::k=>Exit.then (wpAnyH P .any all (iS P S Q k) S fuel listed) (iS P S Q k)
 | .fin R::k=>Exit.then R (iS P S Q k)
 | .sk all kk fuel listed::k=>Exit.then (iq P .any all (iS P S Q k) S kk fuel listed) (iS P S Q k)
 | .sw all fuel listed::k=>Exit.then (wpAny P .any all (iS P S Q k) fuel listed) (iS P S Q k)
theorem kR {P:Program} {S:World->Prop} {Q:Exit->Act->World->Prop} {c:List PanicEntry} {a:Act} {w:World}:∀ k:List KI,iS P S Q k (.panic c) a w=Q (.panic c) a w
 | []=>rfl
 | .code _::k | .ops _ _::k | .blk _::k | .sq _ _ _::k | .fin _::k | .sk _ _ _ _::k | .sw _ _ _::k=>kR k
theorem yh {P:Program} {S:World->Prop} {Q:Exit->Act->World->Prop} {a:Act} {w:World}:∀ k:List KI,iS P S Q k .ret a w=Q .ret a w
 | []=>rfl
 | .code _::k | .ops _ _::k | .blk _::k | .sq _ _ _::k | .fin _::k | .sk _ _ _ _::k | .sw _ _ _::k=>yh k
def pj (id:Nat):List KI->Option (List KI)
 | []=>none
 | .blk i::k=>match Nat.beq id i with
   | true=>some k
   | false=>pj id k
 | .code _::k=>pj id k
 | .ops _ _::k=>pj id k
 | .sq _ _ _::k=>pj id k
 | .fin _::k=>pj id k
 | .sk _ _ _ _::k=>pj id k
 | .sw _ _ _::k=>pj id k
theorem kg {P:Program} {S:World->Prop} {Q:Exit->Act->World->Prop} {id:Nat} {a:Act} {w:World}:∀ {k b:List KI},pj id k=some b->iS P S Q b .normal a w->iS P S Q k (.exit id) a w
 | [],_,h,_=>kd
 | .blk i::k,b,h,hd=>by
   unfold pj at h
   show Exit.inBlock i (iS P S Q k) (.exit id) a w
   unfold Exit.inBlock
   cases c:Nat.beq id i with
   | true =>
     rw [c] at h
     cases h
     have:id=i:=Nat.eq_of_beq_eq_true c
     simp only [this,if_true]
     exact hd
   | false =>
     rw [c] at h
     have:id≠i:=λe=>by rw [e,Nat.beq_refl] at c;cases c
     simp only [this,if_false]
     exact kg (k:=k) h hd
 | .code _::k,b,h,hd=>kg (k:=k) h hd
 | .ops _ _::k,b,h,hd=>kg (k:=k) h hd
 | .sq _ _ _::k,b,h,hd=>kg (k:=k) h hd
 | .fin _::k,b,h,hd=>kg (k:=k) h hd
 | .sk _ _ _ _::k,b,h,hd=>kg (k:=k) h hd
 | .sw _ _ _::k,b,h,hd=>kg (k:=k) h hd
structure Hn (P:Program) (S J:World->Prop) where
 eq:List (Nat × Vq):=[]
 ov:List (Nat × Ov P S):=[]
 cv:List (Nat × Cv P J):=[]
def rf (n:Nat) (F:Fr) (v:Value) (t:Nat):Option Nat->Option Fr
 | none=>some F
 | some d=>match Nat.blt d n with
   | true=>some ((d,v,t)::F)
   | false=>none
theorem jW {F a:Fr} {d:Option Nat} (h:rf P F j Q d=some a) (hk:bK F P c):bK a P (c.put d j):=by
 cases d with
 | none=>cases h;exact hk
 | some d =>
   dsimp only [rf] at h;cases b:Nat.blt d P with
   | false=>rw [b] at h;cases h
   | true=>rw [b] at h;cases h;exact hk.put b j Q
def qv (P:Program) {S J:World->Prop} (R:List Rw) (H:Hn P S J) (all:Array Oper) (F:Fr) (o:Oper):Option (Value × Nat × List (Oe × Oe)):=
 match wn all F o with
 | none=>none
 | some false=>some (undef,0,[])
 | some true=>Jm P R H.ov H.eq F o
theorem Jn {R:List Rw} {H:Hn w a o} {all:Array Oper} {F:Fr} {J:Act} {n:Oper} {es:List (Oe × Oe)} (hk:bK F P J) (h:qv w R H all F n=some (j,Q,es)) (he:∀ e ∈ es,e.1=e.2) (d:∀ S,a S->∀ r ∈ R,pi r S):YieldsIf w all a n j J:=by
 unfold qv at h;cases c:wn all F n with
 | none=>rw [c] at h;cases h
 | some b =>
   rw [c] at h;cases b with
   | false=>simp only [Option.some.injEq,Prod.mk.injEq] at h;exact .inr ⟨kE hk c,h.1.symm⟩
   | true=>exact .inl ⟨kE hk c,(C0 hk h he d).1⟩
def Jo (P:Program) {S J:World->Prop} (R:List Rw) (H:Hn P S J) (n:Nat) (all:Array Oper) (F:Fr) (o:Oper):Option (Fr × List (Oe × Oe)):=
 match qv P R H all F o with
 | some (v,t,es)=>match rf n F v t o.dst with
   | some a=>some (a,es)
   | none=>none
 | none=>match wn all F o,qZ P F o,o.dst.bind (lk H.cv) with
   | some true,some (f,args),some e=>match rf n F e.v e.t o.dst with
     | some a=>some (a,[(.c f args,.c e.f e.args)])
     | none=>none
   | _,_,_=>none
theorem ES {R:List Rw} {H:Hn w a o} {all:Array Oper} {F q:Fr} {S:Act} {J:Oper} {es:List (Oe × Oe)} {K:Act->World->Prop} (hk:bK F P S) (hS:o b) (B:∀ b,o b->a b) (h:Jo w R H P all F J=some (q,es)) (he:∀ e ∈ es,e.1=e.2) (C:∀ b,a b->∀ r ∈ R,pi r b) (j:∀ S b,bK q P S->o b->K S b): if Region.wanted J (yielded all S.tmps)=true then J.wp w S b K k else K (S.put J.dst undef) b:=by
 unfold Jo at h;cases m:qv w R H all F J with
 | some y =>
   obtain ⟨v,t,z⟩:=y;rw [m] at h;dsimp only at h;cases c:rf P F v t J.dst with
   | none=>rw [c] at h;cases h
   | some u =>
     rw [c] at h;simp only [Option.some.injEq,Prod.mk.injEq] at h;obtain ⟨rfl,rfl⟩:=h;rcases Jn hk m he C with ⟨g,i⟩|⟨g,i⟩;·rw [if_pos g];show J.upon w S K k _;rw [i b (B b hS)];exact j _ _ (jW c hk) hS
     ·subst i;rw [g,if_neg a6];exact j _ _ (jW c hk) hS
 | none =>
   rw [m] at h;dsimp only at h;cases p:wn all F J with
   | none=>rw [p] at h;cases h
   | some n =>
     rw [p] at h;cases n with
     | false=>cases h
     | true =>
       cases l:qZ w F J with
       | none=>rw [l] at h;cases h
       | some A =>
         obtain ⟨f,args⟩:=A;rw [l] at h;cases s:J.dst.bind (lk H.cv) with
         | none=>rw [s] at h;cases h
         | some e =>
           rw [s] at h;dsimp only at h;cases c:rf P F e.v e.t J.dst with
           | none=>rw [c] at h;cases h
           | some u =>rw [c] at h;simp only [Option.some.injEq,Prod.mk.injEq] at h;obtain ⟨rfl,rfl⟩:=h;have d:=he (.c f args,.c e.f e.args) bc;simp only [Oe.c.injEq] at d;rw [if_pos (kE hk p)];show J.upon w S K k _;rw [oL hk l b,d.1,d.2];refine (e.h b hS).mono λx E D=>?_;obtain ⟨rfl,Q⟩:=D;exact j _ _ (jW c hk) Q
inductive Sr where
 | go (k:List KI) (F:Fr) (es:List (Oe × Oe))
 | ret
 | stop
def pU (all:Array Oper) (listed:Array Bool):List Nat->Option Nat
 | []=>none
 | i::is=>match (match all[i]? with | some o=>!Sn o.op | none=>false)&&Region.free .any all listed i with
   | true=>some i
   | false=>pU all listed is
theorem nW {all:Array Oper} {listed:Array Bool} {i:Nat}:∀ {l:List Nat},pU all listed l=some i->i ∈ l/\Region.free .any all listed i=true
 | [],h=>kd
 | j::is,h=>by
   unfold pU at h
   split at h
   ·rename_i a
    rw [Bool.and_eq_true] at a
    cases h
    exact ⟨bc,a.2⟩
   ·have:=nW (l:=is) h
    exact ⟨by simp [this.1],this.2⟩
def yi (P:Program) {S J:World->Prop} (R:List Rw) (H:Hn P S J) (n:Nat) (all:Array Oper) (fuel:Nat) (listed:Array Bool) (k:List KI) (F:Fr):Sr :=
 match Region.noSelect all with
 | false=>.stop
 | true=>match Region.ready .any all listed with
   | []=>.go k F []
   | i::is=>match fuel with
     | 0=>.stop
     | fuel+1=>match pU all listed (i::is) with
       | some j=>match all[j]? with
         | none=>.stop
         | some o=>match qv P R H all F o with
           | none=>.stop
           | some (v,t,es)=>match rf n F v t o.dst with
             | none=>.stop
             | some a=>.go (.sq all fuel (listed.setIfInBounds j true)::k) a es
       | none=>match is with
         | []=>match all[i]? with
           | none=>.stop
           | some o=>match Jo P R H n all F o with
             | none=>.stop
             | some (a,es)=>.go (.sq all fuel (listed.setIfInBounds i true)::k) a es
         | _::_=>.stop
def ET {P:Program} {S J:World->Prop} (H:Hn P S J) (all:Array Oper) (F:Fr) (o:Oper):Bool:=match wn all F o with
 | some false=>true
 | _=>(match o.dst.bind (lk H.ov) with | some _=>false | none=>true)&&(match o.op with | .load _ _=>false | _=>true)
theorem EU {R:List Rw} {H:Hn w a o} {all:Array Oper} {F:Fr} {J:Oper} {v:Value} {es:List (Oe × Oe)} (hk:bK F P c) (h:qv w R H all F J=some (v,Q,es)) (he:∀ e ∈ es,e.1=e.2) (t:ET H all F J=true):Yields w all J v c:=by
 unfold qv at h;unfold ET at t;cases d:wn all F J with
 | none=>rw [d] at h;cases h
 | some b =>
   rw [d] at h t;cases b with
   | false=>simp only [Option.some.injEq,Prod.mk.injEq] at h;exact .inr ⟨kE hk d,h.1.symm⟩
   | true =>
     dsimp only at h t;rw [Bool.and_eq_true] at t;have l:J.dst.bind (lk H.ov)=none:=by
      cases s:J.dst.bind (lk H.ov) with
      | none=>rfl
      | some x=>rw [s] at t;cases t.1
     have m:uh R F J.op=none:=by have g:=t.2;unfold uh;cases f:J.op<;>first | rfl | (rw [f] at g;cases g)
     have key:Jm w [] ([]:List (Nat × Ov w (λ_=>True))) H.eq F J=some (v,(Jm w [] ([]:List (Nat × Ov w (λ_=>True))) H.eq F J).elim Q (·.2.1),es):=by
      unfold Jm at h ⊢;rw [l,m] at h;have p:uh [] F J.op=none:=by unfold uh;split<;>first | rfl | (split<;>rfl)
      have q:J.dst.bind (lk ([]:List (Nat × Ov w (λ_=>True))))=none:=(by cases J.dst<;>rfl);rw [p,q];cases i:J.op.operands.all (kn F)&&Ap J.op with
      | false=>rw [i] at h;cases h
      | true =>
        rw [i] at h;dsimp only at h ⊢;cases j:vZ w none (execOp (ev F) J) with
        | none=>rw [j] at h;cases h
        | some y =>
          rw [j] at h;obtain ⟨A,k⟩:=y;cases A with
          | value u =>
            dsimp only at h ⊢;cases he:J.dst.bind (lk H.eq) with
            | none=>rw [he] at h;simp only [Option.some.injEq,Prod.mk.injEq] at h;rw [h.1,h.2.2];rfl
            | some e=>rw [he] at h;simp only [Option.some.injEq,Prod.mk.injEq] at h;rw [<- h.1,<- h.2.2];rfl
          | _=>cases h
     exact .inl ⟨kE hk d,λS=>(C0 (S:=λ_=>True) hk key he (λ_ _ r z=>by cases z)).1 S trivial⟩
def yj (P:Program) {S J:World->Prop} (R:List Rw) (H:Hn P S J) (n:Nat) (all:Array Oper) (kk fuel:Nat) (listed:Array Bool) (k:List KI) (F:Fr):Sr :=
 match Region.noSelect all with
 | false=>.stop
 | true=>match fuel with
   | 0=>.stop
   | fuel+1=>match pU all listed (Region.ready .any all listed) with
     | none=>.stop
     | some j=>match Nat.beq j kk,all[j]? with
       | false,some o=>match qv P R H all F o with
         | none=>.stop
         | some (v,t,es)=>match ET H all F o||(qY .any all j 6 kk&&tB .any all listed),rf n F v t o.dst with
           | true,some F'=>.go (.sk all kk fuel (listed.setIfInBounds j true)::k) F' es
           | _,_=>.stop
       | _,_=>.stop
def yk (P:Program) {S J:World->Prop} (R:List Rw) (H:Hn P S J) (n:Nat) (all:Array Oper) (fuel:Nat) (listed:Array Bool) (k:List KI) (F:Fr):Sr :=
 match Region.noSelect all with
 | false=>.stop
 | true=>match Region.ready .any all listed with
   | []=>.go k F []
   | i::is=>match fuel with
     | 0=>.stop
     | fuel+1=>match pU all listed (i::is) with
       | none=>.stop
       | some j=>match all[j]? with
         | none=>.stop
         | some o=>match qv P R H all F o with
           | none=>.stop
           | some (v,t,es)=>match ET H all F o,rf n F v t o.dst with
             | true,some F'=>.go (.sw all fuel (listed.setIfInBounds j true)::k) F' es
             | _,_=>.stop
def iT (P:Program) (dr:Bool) (k:List KI) (F:Fr):Go.Code->Sr
 | .skip=>.go k F []
 | .seq x y=>.go (.code x::.code y::k) F []
 | .cond c x y=>match kn F c with
   | false=>.stop
   | true=>match ev F c with
     | .bool true=>.go (.code x::k) F []
     | .bool false=>.go (.code y::k) F []
     | _=>.stop
 | .block id c=>.go (.code c::.blk id::k) F []
 | .exit id=>match pj id k with
   | some a=>.go a F []
   | none=>.stop
 | .ret=>.ret
 | .region _ ops false=>.go (.ops ops ops.toList::k) F []
 | .region _ ops true=>match dr&&P.follows .mixedOrders with
   | true=>.go (.sq ops ops.size (Array.replicate ops.size false)::k) F []
   | false=>.stop
 | _=>.stop
def Q9 (P:Program) {S J:World->Prop} (R:List Rw) (H:Hn P S J) (n:Nat) (dr:Bool) (k:List KI) (F:Fr):Sr :=
 match k with
 | []=>.stop
 | .blk _::k=>.go k F []
 | .fin _::_=>.stop
 | .ops _ []::k=>.go k F []
 | .ops all (o::rest)::k=>match Jo P R H n all F o with
   | some (F',es)=>.go (.ops all rest::k) F' es
   | none=>.stop
 | .sq all fuel listed::k=>yi P R H n all fuel listed k F
 | .sk all kk fuel listed::k=>yj P R H n all kk fuel listed k F
 | .sw all fuel listed::k=>yk P R H n all fuel listed k F
 | .code c::k=>iT P dr k F c
structure oM (P:Program) (S J:World->Prop) (R:List Rw) (dr:Bool) (Q:Exit->Act->World->Prop):Prop where
 sub:∀ w,J w->S w
 rows:∀ w,S w->∀ r ∈ R,pi r w
 drew:dr=true->∀ w,J w->J w.drew
 pan:∀ c a d v w,Q (.panic c) (Act.put a d v) w->Q (.panic c) a w
theorem GG {R:List Rw} {H:Hn w a o} {dr:Bool} (E:oM w a o R dr k) {all:Array Oper} {fuel:Nat} {listed:Array Bool} {Q C:List KI} {F x:Fr} {es:List (Oe × Oe)} (h:yi w R H P all fuel listed Q F=.go C x es) (he:∀ e ∈ es,e.1=e.2) (b:∀ J S,bK x P J->o S->iS w a k C .normal J S) (J:Act) (S:World) (hk:bK F P J) (hS:o S):wpAnyH w .any all (iS w a k Q) a fuel listed J S:=by
 unfold yi at h;cases d:Region.noSelect all with
 | false=>rw [d] at h;cases h
 | true =>
   rw [d] at h;dsimp only at h;cases l:Region.ready .any all listed with
   | nil =>rw [l] at h;cases h;exact wpAnyH_done l (b J S hk hS) fuel
   | cons i is =>
     rw [l] at h;dsimp only at h;cases fuel with
     | zero=>cases h
     | succ fuel =>
       dsimp only at h;cases s:pU all listed (i::is) with
       | some j =>
         rw [s] at h;dsimp only at h;cases f:all[j]? with
         | none=>rw [f] at h;cases h
         | some n =>
           rw [f] at h;dsimp only at h;cases u:qv w R H all F n with
           | none=>rw [u] at h;cases h
           | some y =>
             obtain ⟨v,t,m⟩:=y;rw [u] at h;dsimp only at h;cases q:rf P F v t n.dst with
             | none=>rw [q] at h;cases h
             | some G =>rw [q] at h;simp only [Sr.go.injEq] at h;obtain ⟨rfl,rfl,rfl⟩:=h;have g:=nW s;refine wpAnyH_take f d g.2 (by rw [l];simpa using g.1) (λc J S B=>?_) (Jn hk u he E.rows) (E.sub _ hS) (b _ _ (jW q hk) hS);rw [kR] at B ⊢;exact E.pan c J _ _ S B
       | none =>
         rw [s] at h;cases is with
         | cons _ _=>cases h
         | nil =>
           dsimp only at h;cases r:all[i]? with
           | none=>rw [r] at h;cases h
           | some n =>
             rw [r] at h;dsimp only at h;cases p:Jo w R H P all F n with
             | none=>rw [p] at h;cases h
             | some y =>obtain ⟨G,m⟩:=y;rw [p] at h;simp only [Sr.go.injEq] at h;obtain ⟨rfl,rfl,rfl⟩:=h;refine wpAnyH_all l bc λj f=>?_;rw [List.mem_singleton] at f;subst f;refine wpOp_step r λL K=>?_;exact ES hk hS E.sub p he E.rows λz D I A=>K z D ⟨E.sub _ A,b z D I A⟩
theorem GH {R:List Rw} {H:Hn w a o} (E:oM w a o R p k) {all:Array Oper} {kk fuel:Nat} {listed:Array Bool} {Q z:List KI} {F m:Fr} {es:List (Oe × Oe)} (h:yj w R H n all kk fuel listed Q F=.go z m es) (he:∀ e ∈ es,e.1=e.2) (b:∀ S P,bK m n S->o P->iS w a k z .normal S P) (S:Act) (P:World) (hk:bK F n S) (hS:o P):iq w .any all (iS w a k Q) a kk fuel listed S P:=by
 unfold yj at h;split at h;·cases h
 ·rename_i i;split at h;·cases h
  ·rename_i fuel;split at h;·cases h
   ·rename_i j B;split at h
    ·rename_i J q u;split at h;·cases h
     ·rename_i v t A x;split at h
      ·rename_i C d r;simp only [Sr.go.injEq] at h;obtain ⟨rfl,rfl,rfl⟩:=h;have f:=nW B;have g:j≠kk:=λe=>by rw [e,Nat.beq_refl] at q;cases q
       have dr:∀ c S P,iS w a k Q (.panic c) (S.put J.dst v) P->iS w a k Q (.panic c) S P:=λc S P s=>by rw [kR] at s ⊢;exact E.pan c S _ _ P s
       have y:(Region.ready .any all listed).contains j=true:=(by simpa using f.1);rcases Bool.or_eq_true _ _ ▸ d with l|l;·exact yg u i f.2 y g dr (EU hk x he l) (E.sub _ hS) (b _ _ (jW r hk) hS)
       ·rw [Bool.and_eq_true] at l;exact yf u i f.2 y g l.1 l.2 dr (Jn hk x he E.rows) (E.sub _ hS) (b _ _ (jW r hk) hS)
      ·cases h
    ·cases h
theorem GI {R:List Rw} {H:Hn w a o} (E:oM w a o R p k) {all:Array Oper} {fuel:Nat} {listed:Array Bool} {Q dr:List KI} {F l:Fr} {es:List (Oe × Oe)} (h:yk w R H n all fuel listed Q F=.go dr l es) (he:∀ e ∈ es,e.1=e.2) (b:∀ S P,bK l n S->o P->iS w a k dr .normal S P) (S:Act) (P:World) (hk:bK F n S) (hS:o P):wpAny w .any all (iS w a k Q) fuel listed S P:=by
 unfold yk at h;split at h;·cases h
 ·rename_i f;split at h;·rename_i g;cases h;exact wpAny_done g (b S P hk hS) fuel
  ·rename_i i is g;split at h;·cases h
   ·rename_i fuel;split at h;·cases h
    ·rename_i j u;split at h;·cases h
     ·rename_i J s;split at h;·cases h
      ·rename_i v t q x;split at h;·rename_i z y r;simp only [Sr.go.injEq] at h;obtain ⟨rfl,rfl,rfl⟩:=h;have d:=nW u;refine wpAny_take s f d.2 (by rw [g];simpa using d.1) (λc S P m=>?_) (EU hk x he y) (b _ _ (jW r hk) hS);rw [kR] at m ⊢;exact E.pan c S _ _ P m
       ·cases h
theorem rV {R:List Rw} (E:oM w a J R p k) {c:Go.Code} {Q i:List KI} {F g:Fr} {es:List (Oe × Oe)} (h:iT w p Q F c=.go i g es) (b:∀ S P,bK g n S->J P->iS w a k i .normal S P) (S:Act) (P:World) (hk:bK F n S) (hS:J P):c.wp w (iS w a k Q) S P:=by
 unfold iT at h;split at h;·cases h;exact wp_skip (b S P hk hS)
 ·cases h;exact wp_seq (b S P hk hS)
 ·split at h;·cases h
  ·rename_i e;split at h;·rename_i d;cases h;exact wp_cond_true ((hk.eval e).trans d) (b S P hk hS)
   ·rename_i d;cases h;exact wp_cond_false ((hk.eval e).trans d) (b S P hk hS)
   ·cases h
 ·cases h;exact wp_block (b S P hk hS)
 ·split at h;·rename_i j;cases h;exact wp_exit (kg j (b S P hk hS))
  ·cases h
 ·cases h
 ·cases h;exact wp_region_list (b S P hk hS)
 ·split at h;·rename_i f;rw [Bool.and_eq_true] at f;cases h;exact wp_region_held f.2 (b S P.drew hk (E.drew f.1 P hS))
  ·cases h
 ·cases h
theorem PF {R:List Rw} {H:Hn w a o} (E:oM w a o R p k) {Q f:List KI} {F c:Fr} {es:List (Oe × Oe)} (h:Q9 w R H n p Q F=.go f c es) (he:∀ e ∈ es,e.1=e.2) (b:∀ S P,bK c n S->o P->iS w a k f .normal S P) (S:Act) (P:World) (hk:bK F n S) (hS:o P):iS w a k Q .normal S P:=by
 unfold Q9 at h;split at h;·cases h
 ·cases h;exact b S P hk hS
 ·cases h
 ·cases h;exact b S P hk hS
 ·split at h;·rename_i m;cases h;show wpList w _ _ (_::_) S P;exact wpList_step λK l=>ES hk hS E.sub m he E.rows λd g i j=>l d g (b d g i j)
  ·cases h
 ·exact GG E h he b S P hk hS
 ·exact GH E h he b S P hk hS
 ·exact GI E h he b S P hk hS
 ·exact rV E h b S P hk hS
def aY (P:Program) {S J:World->Prop} (R:List Rw) (H:Hn P S J) (n:Nat) (dr:Bool):Nat->List KI->Fr->(Bool × List KI × Fr) × List (Oe × Oe)
 | 0,k,F=>((false,k,F),[])
 | m+1,k,F=>match Q9 P R H n dr k F with
   | .stop=>((false,k,F),[])
   | .ret=>((true,k,F),[])
   | .go c a b=>match aY P R H n dr m c a with
     | (r,es')=>(r,b++es')
theorem ym {P:Program} {S J:World->Prop} {R:List Rw} {H:Hn P S J} {n:Nat} {dr:Bool} {Q:Exit->Act->World->Prop} (E:oM P S J R dr Q):∀ (m:Nat) (k:List KI) (F:Fr),(∀ e ∈ (aY P R H n dr m k F).2,e.1=e.2) ->
 (∀ a w,bK (aY P R H n dr m k F).1.2.2 n a->J w->if (aY P R H n dr m k F).1.1=true then Q .ret a w else iS P S Q (aY P R H n dr m k F).1.2.1 .normal a w)->∀ a w,bK F n a->J w->iS P S Q k .normal a w
 | 0,k,F,_,hf,a,w,hk,hS=>by simpa [aY] using hf a w hk hS
 | m+1,k,F,he,hf,a,w,hk,hS=>by
   cases d:Q9 P R H n dr k F with
   | stop =>
     have e:aY P R H n dr (m+1) k F=((false,k,F),[]):=by simp only [aY,d]
     rw [e] at hf
     simpa using hf a w hk hS
   | ret =>
     have e:aY P R H n dr (m+1) k F=((true,k,F),[]):=by simp only [aY,d]
     rw [e] at hf
     have l:Q .ret a w:=by simpa using hf a w hk hS
     unfold Q9 at d
     split at d
     ·cases d
     ·cases d
     ·cases d
     ·cases d
     ·split at d<;>cases d
     ·unfold yi at d
      repeat (split at d<;>try cases d)
     ·unfold yj at d
      repeat (split at d<;>try cases d)
     ·unfold yk at d
      repeat (split at d<;>try cases d)
     ·rename_i c f
      cases c with
      | ret=>exact wp_ret (by rw [yh];exact l)
      | region i ops b=>cases b<;>simp only [iT] at d<;>(try split at d)<;>cases d
      | cond=>simp only [iT] at d;repeat (split at d<;>try cases d)
      | exit=>simp only [iT] at d;split at d<;>cases d
      | _=>cases d
   | go f g j =>
     have e:aY P R H n dr (m+1) k F=((aY P R H n dr m f g).1,j++(aY P R H n dr m f g).2):=by simp only [aY,d]
     rw [e] at he hf
     exact PF E d (λx h=>he x (by simp [h])) (ym E m f g (λx h=>he x (by simp [h])) hf) a w hk hS
def Wg (P:Program) (S:World->Prop) (Q:Exit->Act->World->Prop) (n:Nat) (k:List KI) (F:Fr) (w:World):Prop:=∀ a,bK F n a->iS P S Q k .normal a w
theorem ae {R:List Rw} (E:oM w a o R dr k) (H:Hn w a o) (m:Nat) {Q:List KI} {F:Fr} {P:World} (hS:o P) (h:∀ b,o b->Wg w a k n (aY w R H n dr m Q F).1.2.1 (aY w R H n dr m Q F).1.2.2 b) (hret:(aY w R H n dr m Q F).1.1=false:=by kernel_rfl) (he:(aY w R H n dr m Q F).2.map Prod.fst=(aY w R H n dr m Q F).2.map Prod.snd:=by kernel_rfl):Wg w a k n Q F P:=λS d =>
 ym E m Q F (λe f=>List.map_inj_left.1 he e f) (λS P c g=>by rw [hret,if_neg a6];exact h P g S c) S P d hS
theorem aU {R:List Rw} (E:oM w a J R p (bodyPost w K x)) (H:Hn w a J) (m:Nat) {k:List KI} {F:Fr} {P:World} {t:Nat} {v:Value} (hS:J P) (h:∀ f,J f->x (.returned v) f) (hv:((aY w R H n p m k F).1.1,(lk (aY w R H n p m k F).1.2.2 t).map Prod.fst)=(true,some v):=by kernel_rfl) (he:(aY w R H n p m k F).2.map Prod.fst=(aY w R H n p m k F).2.map Prod.snd:=by kernel_rfl) (hr:K.results=#[.tmp t]:=by rfl):Wg w a (bodyPost w K x) n k F P:=λS g =>
 ym E m k F (λe i=>List.map_inj_left.1 he e i) (λS P d j=>by
  simp only [Prod.mk.injEq] at hv
  rw [hv.1,if_pos rfl]
  obtain ⟨Rs,b,c⟩:=Option.map_eq_some_iff.1 hv.2
  have l:=d.at_ t Rs b
  exact bodyPost_ret (results_tmp hr _ _ _) d.nod (by rw [Array.getD_eq_getD_getElem?,l,c];exact h P j)) S P g hS
def Jp:Nat->List Value->Fr
 | _,[]=>[]
 | i,v::l=>(i,v,0)::Jp (i+1) l
theorem EV:∀ (l:List Value) (i t:Nat) (x:Value × Nat),lk (Jp i l) t=some x->i<=t/\l[t-i]?=some x.1
 | [],_,_,_,h=>kd
 | v::l,i,t,x,h=>by
   unfold Jp lk at h
   cases a:Nat.beq i t with
   | true =>
     rw [a] at h
     cases h
     have:i=t:=Nat.eq_of_beq_eq_true a
     subst this
     simp
   | false =>
     rw [a] at h
     obtain ⟨c,b⟩:=EV l (i+1) t x h
     refine ⟨ab,?_⟩
     rw [show t-i=(t-(i+1))+1 by omega]
     simpa using b
theorem fj (d:w.funcs[P]?=some K) (h:Wg w l (bodyPost w K x) K.ntmps [.code e] (Jp 0 args) b) (hb:K.body=some e:=by rfl) (hn:Nat.ble args.length K.ntmps=true:=by kernel_rfl):Calls w P args.toArray b x :=
 calls_of_wp d hb (h _ ⟨by
  have:args.length<=K.ntmps:=Nat.le_of_ble_eq_true hn
  simp;omega,rfl,λt Rs g=>by
  obtain ⟨_,a⟩:=EV args 0 t Rs g
  have c:t<args.length:=by
   rw [Nat.sub_zero] at a
   exact (List.getElem?_eq_some_iff.1 a).1
  rw [Nat.sub_zero] at a
  have fn:=(List.getElem?_eq_some_iff.1 a).2
  simp [Array.getElem?_append,c]
  simpa using fn⟩)
def iu:List KI->Bool
 | []=>true
 | .sq _ _ _::_=>false
 | .code _::k=>iu k
 | .blk _::k=>iu k
 | .ops _ _::k=>iu k
 | .fin _::k=>iu k
 | .sk _ _ _ _::_=>false
 | .sw _ _ _::k=>iu k
theorem xg {P:Program} {S:World->Prop} {Q:Exit->Act->World->Prop} {S':World->Prop}:∀ {k:List KI},iu k=true->iS P S' Q k=iS P S Q k
 | [],_=>rfl
 | .sq _ _ _::_,h=>kd
 | .code _::k,h=>by unfold iS;rw [xg (k:=k) h]
 | .blk _::k,h=>by unfold iS;rw [xg (k:=k) h]
 | .ops _ _::k,h=>by unfold iS;rw [xg (k:=k) h]
 | .fin _::k,h=>by unfold iS;rw [xg (k:=k) h]
 | .sk _ _ _ _::_,h=>kd
 | .sw _ _ _::k,h=>by unfold iS;rw [xg (k:=k) h]
theorem aK {S:List KI} {F:Fr} (h:Wg w l k n S F b) (hn:iu S=true:=by kernel_rfl):Wg w a k n S F b:=λP Q=>by rw [<- xg (S':=l) hn];exact h P Q
def ui (P:Program) (n N:Nat):List Oper->Fr->List (Array Value × TypeId)->Option (Fr × List (Array Value × TypeId))
 | [],F,bs=>some (F,bs)
 | o::os,F,bs=>match o.guard,o.dst with
   | none,some d=>match Nat.blt d n with
     | false=>none
     | true=>match o.op with
       | .box t x=>match kn F x with
         | true=>ui P n N os ((d,.p (N+bs.length) 0,bs.length+1)::F) (bs++[((ev F x).cells,t)])
         | false=>none
       | .assign x=>match kn F x with
         | true=>ui P n N os ((d,ev F x,Jl F x)::F) bs
         | false=>none
       | .alloc t=>match P.info? t with
         | some i=>match i.zero with
           | some z=>ui P n N os ((d,.p (N+bs.length) 0,bs.length+1)::F) (bs++[(z.cells,t)])
           | none=>none
         | none=>none
       | _=>none
   | _,_=>none
def dZ (w:World):List (Array Value × TypeId)->World
 | []=>w
 | x::l=>dZ (w.alloc (.cells x.1 x.2)) l
theorem nX (x:Array Value × TypeId):∀ (l:List (Array Value × TypeId)) (w:World),dZ w (l++[x])=(dZ w l).alloc (.cells x.1 x.2)
 | [],_=>rfl
 | _::l,w=>nX x l _
theorem nY:∀ (l:List (Array Value × TypeId)) (w:World),(dZ w l).heap.size=w.heap.size+l.length
 | [],_=>rfl
 | _::l,w=>by
   show (dZ _ l).heap.size=_
   rw [nY l,World.size_alloc,List.length_cons]
   omega
theorem pV {P:Program} {n:Nat} {Q:Exit->Act->World->Prop} {all:Array Oper} {w:World}:∀ {l:List Oper} {F j:Fr} {b e:List (Array Value × TypeId)},ui P n w.heap.size l F b=some (j,e)->(∀ a,bK j n a->Q .normal a (dZ w e))->∀ a,bK F n a->wpList P all Q l a (dZ w b)
 | [],F,j,b,e,h,hQ,a,hk=>by
   simp only [ui,Option.some.injEq,Prod.mk.injEq] at h
   obtain ⟨rfl,rfl⟩:=h
   exact hQ a hk
 | o::os,F,j,b,e,h,hQ,a,hk=>by
   unfold ui at h
   split at h
   ·rename_i d m k
    split at h
    ·cases h
    ·rename_i p
     split at h
     ·rename_i t x c
      split at h
      ·rename_i f
       refine wpList_plain m λK g=>?_
       show o.upon P a K _ ((execOp a.eval o).run P (dZ w b))
       have:(execOp a.eval o).run P (dZ w b)=.ok (.value (.pointer (some ⟨(dZ w b).heap.size,0,none⟩))) ((dZ w b).alloc (.cells (ev F x).cells t)):=by
        unfold execOp
        rw [c]
        simp only [hk.eval f]
        rfl
       rw [this,nY]
       show K (a.put o.dst _) _
       rw [k,<- nX ((ev F x).cells,t)]
       exact g _ _ (pV h hQ _ (hk.put p _ _))
      ·cases h
     ·rename_i x c
      split at h
      ·rename_i f
       refine wpList_plain m λK g=>?_
       show o.upon P a K _ ((execOp a.eval o).run P (dZ w b))
       have:(execOp a.eval o).run P (dZ w b)=.ok (.value (ev F x)) (dZ w b):=by
        unfold execOp
        rw [c]
        simp only [hk.eval f]
        rfl
       rw [this]
       show K (a.put o.dst _) _
       rw [k]
       exact g _ _ (pV h hQ _ (hk.put p _ _))
      ·cases h
     ·rename_i t c
      split at h
      ·rename_i i q
       split at h
       ·rename_i z r
        refine wpList_plain m λK g=>?_
        show o.upon P a K _ ((execOp a.eval o).run P (dZ w b))
        have:(execOp a.eval o).run P (dZ w b)=.ok (.value (.pointer (some ⟨(dZ w b).heap.size,0,none⟩))) ((dZ w b).alloc (.cells z.cells t)):=by
         unfold execOp
         rw [c]
         simp [Instr.alloc,zeroValue,typeInfo,q,r,newVar,newRow]
        rw [this,nY]
        show K (a.put o.dst _) _
        rw [k,<- nX (z.cells,t)]
        exact g _ _ (pV h hQ _ (hk.put p _ _))
       ·cases h
      ·cases h
     ·cases h
   ·cases h
def pW (P:Program) (n N:Nat) (c:Go.Code) (args:List Value):Option (List (Array Value × TypeId) × List KI × Fr):=match c with
 | .seq (.region _ ops false) rest=>match ui P n N ops.toList (Jp 0 args) [] with
   | some (F,bs)=>some (bs,[.code rest],F)
   | none=>none
 | _=>none
def Jq (P:Program) (n N:Nat) (c:Go.Code) (args:List Value):List KI:=match pW P n N c args with
 | some x=>x.2.1
 | none=>[]
def Jr (P:Program) (n N:Nat) (c:Go.Code) (args:List Value):Fr:=match pW P n N c args with
 | some x=>x.2.2
 | none=>[]
theorem bf {f:World} (bs:List (Array Value × TypeId)) (j:w.funcs[P]?=some K) (h:Wg w S (bodyPost w K x) K.ntmps (Jq w K.ntmps f.heap.size e args) (Jr w K.ntmps f.heap.size e args) (dZ f bs)) (hb:K.body=some e:=by rfl) (hn:Nat.ble args.length K.ntmps=true:=by kernel_rfl) (hs:(pW w K.ntmps f.heap.size e args).map Prod.fst=some bs:=by kernel_rfl):Calls w P args.toArray f x:=by
 refine fj S j (hb:=hb) (hn:=hn) λa k=>?_;unfold Jq Jr at h;cases b:pW w K.ntmps f.heap.size e args with
 | none=>rw [b] at hs;cases hs
 | some y =>
   obtain ⟨c,n,l⟩:=y;rw [b] at hs h;simp only [Option.map_some,Option.some.injEq] at hs;subst hs;unfold pW at b;split at b
   ·rename_i id ops rest;split at b;·rename_i m g d;simp only [Option.some.injEq,Prod.mk.injEq] at b;obtain ⟨rfl,rfl,rfl⟩:=b;refine wp_seq (wp_region_list ?_);exact pV (Q:=Exit.then (λa f=>rest.wp w (bodyPost w K x) a f) (bodyPost w K x)) d (λa i=>h a i) a k
    ·cases b
   ·cases b
def Ae (F:Fr):List KI->Option (Oper × List KI × Bool)
 | .ops all (o::rest)::k=>match wn all F o with
   | some true=>some (o,.ops all rest::k,false)
   | _=>none
 | .sq all (m+1) listed::k=>match Region.ready .any all listed with
   | [i]=>match all[i]? with
     | some o=>match wn all F o with
       | some true=>some (o,.sq all m (listed.setIfInBounds i true)::k,true)
       | _=>none
     | none=>none
   | _=>none
 | .sk all kk (m+1) listed::k=>match Region.ready .any all listed with
   | [i]=>match all[i]? with
     | some o=>match wn all F o with
       | some true=>match Nat.beq i kk with
         | true=>some (o,.sw all m (listed.setIfInBounds i true)::k,false)
         | false=>some (o,.sk all kk m (listed.setIfInBounds i true)::k,true)
       | _=>none
     | none=>none
   | _=>none
 | .sw all (m+1) listed::k=>match Region.ready .any all listed with
   | [i]=>match all[i]? with
     | some o=>match wn all F o with
       | some true=>some (o,.sw all m (listed.setIfInBounds i true)::k,false)
       | _=>none
     | none=>none
   | _=>none
 | _=>none
def nZ (F:Fr) (k:List KI):List KI:=match Ae F k with
 | some x=>x.2.1
 | none=>[]
def vP (F:Fr) (k:List KI):Bool:=match Ae F k with
 | some x=>x.2.2
 | none=>false
def EW (n:Nat) (F:Fr) (k:List KI):Option (Sem Next):=match Ae F k with
 | some (o,_,_)=>match o.op.operands.all (kn F)&&Ap o.op&&(match o.dst with | some d=>Nat.blt d n | none=>true) with
   | true=>some (execOp (ev F) o)
   | false=>none
 | none=>none
def pP (F:Fr) (k:List KI) (v:Value) (t:Nat):Fr:=match Ae F k with
 | some (o,_,_)=>match o.dst with
   | some d=>(d,v,t)::F
   | none=>F
 | none=>F
def I8 (P:Program) (n:Nat) (F:Fr) (k:List KI):Option (Nat × Array Value):=match Ae F k with
 | some (o,_,_)=>match (match o.dst with | some d=>Nat.blt d n | none=>true) with
   | true=>qZ P F o
   | false=>none
 | none=>none
theorem uj {Q z:List KI} {F:Fr} (h:Ae F Q=some (f,z,p)) {S:Act} {P:World} (hk:bK F n S) (t:∀ K:Act->World->Prop,(∀ o d,(p=true->a d)->iS w a k z .normal o d->K o d)->f.wp w S P K (iS w a k z)):iS w a k Q .normal S P:=by
 unfold Ae at h;split at h
 ·rename_i all v rest b;split at h;·rename_i c;simp only [Option.some.injEq,Prod.mk.injEq] at h;obtain ⟨rfl,rfl,rfl⟩:=h;show wpList w all (iS w a k b) (v::rest) S P;refine wpList_step λK g=>?_;rw [if_pos (kE hk c)];exact t K λo d _ l=>g o d l
  ·cases h
 ·rename_i all m listed b;split at h
  ·rename_i i s;split at h
   ·rename_i v r;split at h;·rename_i c;simp only [Option.some.injEq,Prod.mk.injEq] at h;obtain ⟨rfl,rfl,rfl⟩:=h;show wpAnyH w .any all (iS w a k b) a (m+1) listed S P;refine wpAnyH_all s bc λj B=>?_;rw [List.mem_singleton] at B;subst B;refine wpOp_step r λq g=>?_;rw [if_pos (kE hk c)];exact t q λo d y l=>g o d ⟨y rfl,l⟩
    ·cases h
   ·cases h
  ·cases h
 ·rename_i all A m listed b;split at h
  ·rename_i i s;split at h
   ·rename_i v r;split at h
    ·rename_i c;split at h;·rename_i u;simp only [Option.some.injEq,Prod.mk.injEq] at h;obtain ⟨rfl,rfl,rfl⟩:=h;have e:i=A:=Nat.eq_of_beq_eq_true u;subst e;show iq w .any all (iS w a k b) a i (m+1) listed S P;refine CY r s λq g=>?_;rw [if_pos (kE hk c)];exact t q λo d _ l=>g o d l
     ·rename_i u;simp only [Option.some.injEq,Prod.mk.injEq] at h;obtain ⟨rfl,rfl,rfl⟩:=h;have x:i≠A:=λe=>by rw [e,Nat.beq_refl] at u;cases u
      show iq w .any all (iS w a k b) a A (m+1) listed S P;refine CV r s x λq g=>?_;rw [if_pos (kE hk c)];exact t q λo d y l=>g o d (y rfl) (λ_=>l)
    ·cases h
   ·cases h
  ·cases h
 ·rename_i all m listed b;split at h
  ·rename_i i s;split at h
   ·rename_i v r;split at h;·rename_i c;simp only [Option.some.injEq,Prod.mk.injEq] at h;obtain ⟨rfl,rfl,rfl⟩:=h;show wpAny w .any all (iS w a k b) (m+1) listed S P;refine GF r s λq g=>?_;rw [if_pos (kE hk c)];exact t q λo d _ l=>g o d l
    ·cases h
   ·cases h
  ·cases h
 ·cases h
theorem fz {n:List KI} {F:Fr} {w':World} {s:Sem Next} {v:Value} (t:Nat) (hr:s.run w b=.ok (.value v) w') (h:Wg w a k P (nZ F n) (pP F n v t) w') (hx:EW P F n=some s:=by kernel_rfl) (hS:vP F n=true->a w':=by exact fi a4):Wg w a k P n F b:=λS f=>by
 unfold EW at hx;unfold vP at hS;unfold nZ pP at h;cases i:Ae F n with
 | none=>rw [i] at hx;cases hx
 | some y =>
   obtain ⟨o,p,Q⟩:=y;rw [i] at hx hS h;dsimp only at hx hS h;split at hx
   ·rename_i c;cases hx;rw [Bool.and_eq_true,Bool.and_eq_true] at c;have g:execOp S.eval o=execOp (ev F) o:=execOp_congr o (λm Q e=>by have:=c.1.2;rw [e] at this;cases this) λx hx=>f.eval (Array.all_eq_true_iff_forall_mem.1 c.1.1 x hx);refine uj i f λK j=>?_;show o.upon w S K _ _;rw [g,hr];refine j _ _ hS (h _ ?_);cases l:o.dst with
    | none=>exact f
    | some d=>rw [l] at c;exact f.put c.2 v t
   ·cases hx
theorem bx {n:List KI} {F:Fr} {w':World} {s:Sem Next} (hr:s.run w b=.ok .skip w') (h:Wg w a k P (nZ F n) (pP F n undef 0) w') (hx:EW P F n=some s:=by kernel_rfl) (hS:vP F n=true->a w':=by exact fi a4):Wg w a k P n F b:=λS f=>by
 unfold EW at hx;unfold vP at hS;unfold nZ pP at h;cases i:Ae F n with
 | none=>rw [i] at hx;cases hx
 | some y =>
   obtain ⟨o,p,Q⟩:=y;rw [i] at hx hS h;dsimp only at hx hS h;split at hx
   ·rename_i c;cases hx;rw [Bool.and_eq_true,Bool.and_eq_true] at c;have g:execOp S.eval o=execOp (ev F) o:=execOp_congr o (λm Q e=>by have:=c.1.2;rw [e] at this;cases this) λx hx=>f.eval (Array.all_eq_true_iff_forall_mem.1 c.1.1 x hx);refine uj i f λK j=>?_;show o.upon w S K _ _;rw [g,hr];refine j _ _ hS (h _ ?_);cases l:o.dst with
    | none=>exact f
    | some d=>rw [l] at c;exact f.put c.2 undef 0
   ·cases hx
theorem ij {n:List KI} {F:Fr} (p:Calls w Q W b x) (h:∀ e c,x e c->∃ v t,e=.returned v/\(vP F n=true->a c)/\Wg w a k P (nZ F n) (pP F n v t) c) (hx:I8 w P F n=some (Q,W):=by kernel_rfl):Wg w a k P n F b:=λS g=>by
 unfold I8 at hx;unfold nZ pP vP at h;cases j:Ae F n with
 | none=>rw [j] at hx;cases hx
 | some y =>
   obtain ⟨o,u,f⟩:=y;rw [j] at hx h;dsimp only at hx h;split at hx
   ·rename_i l;refine uj j g λK m=>?_;show o.upon w S K _ _;rw [oL g hx b];refine p.mono λe c q=>?_;obtain ⟨v,t,rfl,r,s⟩:=h e c q;refine m _ _ r (s _ ?_);cases i:o.dst with
    | none=>exact g
    | some d=>rw [i] at l;exact g.put l v t
   ·cases hx
theorem aN {R:List Rw} (E:oM w a o R dr k) (H:Hn w a o) (m:Nat) {Q:List KI} {F:Fr} {P:World} {f:Nat} {args:Array Value} {Rc:World->Ending->World->Prop} (hS:o P) (g:∀ b,o b->Calls w f args b (Rc b)) (h:∀ b e S,o b->Rc b e S->∃ v t,e=.returned v/\(vP (aY w R H n dr m Q F).1.2.2 (aY w R H n dr m Q F).1.2.1=true->a S)/\Wg w a k n (nZ (aY w R H n dr m Q F).1.2.2 (aY w R H n dr m Q F).1.2.1) (pP (aY w R H n dr m Q F).1.2.2 (aY w R H n dr m Q F).1.2.1 v t) S) (hx:((aY w R H n dr m Q F).1.1,I8 w n (aY w R H n dr m Q F).1.2.2 (aY w R H n dr m Q F).1.2.1)=(false,some (f,args)):=by kernel_rfl) (he:(aY w R H n dr m Q F).2.map Prod.fst=(aY w R H n dr m Q F).2.map Prod.snd:=by kernel_rfl):Wg w a k n Q F P:=by simp only [Prod.mk.injEq] at hx;exact ae E H m hS (hret:=hx.1) (he:=he) λb c=>ij (g b c) (hx:=hx.2) λe S d=>h b e S c d
theorem kt {R:List Rw} (E:oM w a o R dr (bodyPost w K x)) (H:Hn w a o) (m:Nat) {k:List KI} {F:Fr} {P:World} (hS:o P) (h:∀ b S,o b->bK (aY w R H n dr m k F).1.2.2 n S->∃ v,(results K S.tmps).run w b=.ok v b/\x (.returned v) b) (hv:(aY w R H n dr m k F).1.1=true:=by kernel_rfl) (he:(aY w R H n dr m k F).2.map Prod.fst=(aY w R H n dr m k F).2.map Prod.snd:=by kernel_rfl):Wg w a (bodyPost w K x) n k F P:=λS g =>
 ym E m k F (λe i=>List.map_inj_left.1 he e i) (λS P c j=>by
  rw [hv,if_pos rfl]
  obtain ⟨v,d,f⟩:=h P S j c
  exact bodyPost_ret d c.nod f) S P g hS
theorem bK.slot {F:Fr} (h:bK F n c) {t:Nat} {v:Value} (hl:(lk F t).map Prod.fst=some v):c.tmps.getD t undef=v:=by obtain ⟨x,b,a⟩:=Option.map_eq_some_iff.1 hl;rw [Array.getD_eq_getD_getElem?,h.at_ t x b,<- a];rfl
def af {c b:Bool} (h:c=b):Vq:=⟨.bool c,.bool b,0,by rw [h]⟩
theorem cL (c:List PanicEntry) (a:Act) (d:Option Nat) (v:Value) (P:World) (h:bodyPost w K x (.panic c) (Act.put a d v) P):bodyPost w K x (.panic c) a P:=by cases d<;>exact h
def Bs (w:World) (bs:List (Array Value × TypeId)) (W:World):Prop:=(∀ i x,bs[i]?=some x->W.heap[w.heap.size+i]?=some (.cells x.1 x.2 (0,0)))/\Bw w W
theorem Bs.below {W W':World} (h:Bs b g W) (hb:Bw W W'):Bs b g W':=⟨λi x a=>aB hb (h.1 i x a),aa h.2 hb⟩
theorem Bs.start (w:World) (bs:List (Array Value × TypeId)):Bs w bs (dZ w bs):=by
 have key:∀ (l:List (Array Value × TypeId)) (v:World),Bw w v->(∀ i x,l[i]?=some x->(dZ v l).heap[v.heap.size+i]?=some (.cells x.1 x.2 (0,0)))/\Bw v (dZ v l):=by
  intro l;induction l with
  | nil=>intro v _;exact ⟨λi x h=>by simp at h,Below.refl _ _⟩
  | cons y l f =>
    intro v e;have c:=(Below.refl v.heap.size v).alloc (Nat.le_refl _) (.cells y.1 y.2);obtain ⟨d,b⟩:=f (v.alloc (.cells y.1 y.2)) (aa e c);refine ⟨λi x a=>?_,aa c b⟩;cases i with
    | zero =>simp only [List.getElem?_cons_zero,Option.some.injEq] at a;subst a;exact aB b (heap_alloc_new _ _)
    | succ i =>have:=d i x qh;rw [World.size_alloc] at this;rw [show v.heap.size+(i+1)=v.heap.size+1+i by omega];exact this
 exact ⟨(key bs w (Below.refl _ _)).1,(key bs w (Below.refl _ _)).2⟩
def lf (N:Nat):List (Array Value × TypeId)->List Rw
 | []=>[]
 | x::l=>⟨N,x.1,[]⟩::lf (N+1) l
theorem xh {r:Rw}:∀ {l:List (Array Value × TypeId)} {N:Nat},r ∈ lf N l->∃ i x,l[i]?=some x/\r.b=N+i/\r.cs=x.1
 | [],_,h=>kd
 | y::l,N,h=>by
   rcases List.mem_cons.1 h with rfl|h
   ·exact ⟨0,y,rfl,rfl,rfl⟩
   ·obtain ⟨i,x,a,c,b⟩:=xh h
    exact ⟨i+1,x,qh,ab,b⟩
theorem Bs.eng {P:Program} {fn:Func} {Rs:Ending->World->Prop}:oM P (Bs b g) (Bs b g) (lf b.heap.size g) true (bodyPost P fn Rs):=
 ⟨λ_ h=>h,λW h r d=>by
  obtain ⟨i,x,a,w,c⟩:=xh d
  exact ⟨_,_,by rw [w,c];exact h.1 i x a⟩,λ_ W h=>h.below (Below.refl _ _).drew,cL⟩
def eY {P:Program} {w:World} {bs:List (Array Value × TypeId)} {f:Nat} {args:Array Value} {v:Value} (h:∀ W,Bw w W->Calls P f args W λe b=>e=.returned v/\Bw W b):Cv P (Bs w bs):=⟨f,args,v,0,λW a=>(h W a.2).mono λe b k=>⟨k.1,a.below k.2⟩⟩
def jX {P:Program} {w:World} {bs:List (Array Value × TypeId)} {f:Nat} {args:Array Value} {v:Value} (h:∀ W,Bw w W->Calls P f args W λe b=>e=.returned v/\b=W):Cv P (Bs w bs):=⟨f,args,v,0,λW a=>(h W a.2).mono λe b k=>⟨k.1,by rw [k.2];exact a⟩⟩
def jk {P:Program} {S:World->Prop} {T:TypeId} {d:TypeDesc} (p:Addr) (v:Value) (c:P.underlying T=some d) (hd:(match d with | .struct _ | .array _ _=>true | _=>false)=false) (h:∀ W,S W->W.cell? p=some v):Ov P S :=
 ⟨do pure (.value (<- Instr.loadAt T (.pointer (some p)))),v,0,λW a=>by
  have b:=h W a
  cases d<;>simp_all [Instr.loadAt,Instr.sureAddr,loadVar,isAgg,underlying,program,load,Sem.run,Bind.bind,Sem.bind,Pure.pure]⟩
def pe {P:Program} {S:World->Prop} {T E:TypeId} {a:Option Addr} {b o:Nat} (n c:Nat) (k:IntKind) (i:Int) (f:a=some ⟨b,o,none⟩) (g:0<=i/\i<n) (h:P.underlying T=some (.slice E)) (hz:(P.info? E).map (·.size)=some 1):Ov P S :=
 ⟨do pure (.value (<- Instr.indexAt T (.slice a n c) (.int k i))),.p b (o+i.toNat),0,λW j=>by
  subst f
  obtain ⟨info,d,e⟩:=Option.map_eq_some_iff.1 hz
  simp [Instr.indexAt,asIntOf,underlying,program,sizeOf,typeInfo,h,d,e,g,Addr.add,Sem.run,Bind.bind,Sem.bind,Pure.pure]⟩
def jb {P:Program} {S:World->Prop} (a:∀ {W W'},S W->Bw W W'->S W') {f:Nat} {args:Array Value} {v:Value} (h:∀ W,S W->Calls P f args W λe c=>e=.returned v/\Bw W c):Cv P S:=⟨f,args,v,0,λW b=>(h W b).mono λe c k=>⟨k.1,a b k.2⟩⟩
def jY {P:Program} {S:World->Prop} {f:Nat} {args:Array Value} {v:Value} (h:∀ W,S W->Calls P f args W λe b=>e=.returned v/\b=W):Cv P S:=⟨f,args,v,0,λW a=>(h W a).mono λe b k=>⟨k.1,by rw [k.2];exact a⟩⟩
def cZ (k:IntKind) {x y:Int} (h:x=y):Vq:=⟨.int k x,.int k y,0,by rw [h]⟩
def Js {P:Program} {S:World->Prop} (k:IntKind) (x y:Int) (hy:y≠0):Ov P S:=⟨do pure (.value (<- Op.intDiv .rem k x y)),.int k (x.tmod y),0,λW _=>by
 simp [Op.intDiv,hy]⟩
end Go.Proofs.YtfagphfjfhpmjaaGreatDoor
