/- Own lemmas. -/
import Derived.Test.YtfagphfjfhpmjaaGreatDoorAut
import Derived.Test.YtfagphfjfhpmjaaGreatDoorK02
import Derived.Deep.RegionHeld3
import Derived.Deep.LoopGhost
namespace Go.Proofs.YtfagphfjfhpmjaaGreatDoor
open Go.RowKit
set_option linter.unusedVariables false
variable {w a t:World} {n b g:Nat} {o P:Program} {W:Act} {B J:Array Value} {S T:TypeId} {E:Oper} {L:Array Oper} {c v:Value} {f d:World->Prop} {p:Bool} {q:List FRow} {x:List (Array Value × TypeId)} {fn:Func} {Rs:Ending->World->Prop} (K:World)
section
variable {P : Program} {ops : Array Oper} {Q : Exit -> Act -> World -> Prop} {md : Region.Mode} {S : World -> Prop} {k : Nat}
def ig (P:Program) (md:Region.Mode) (ops:Array Oper) (Q:Exit->Act->World->Prop) (S:World->Prop) (k:Nat):Nat->Array Bool->Act->World->Prop
 | 0,listed,a,w=>Region.ready md ops listed=[]/\Q .normal a w
 | fuel+1,listed,a,w =>
   (Region.ready md ops listed=[]->Q .normal a w) /\
   ∀ i ∈ Region.ready md ops listed,wpOp P ops Q i (λc b=>(i≠k->S b/\ig P md ops Q S k fuel (listed.setIfInBounds i true) c b)/\(i=k->wpAny P md ops Q fuel (listed.setIfInBounds i true) c b)) a w
theorem vj:∀ (fuel:Nat) (listed:Array Bool) (a:Act) (w:World),ig P md ops Q S k fuel listed a w->wpAny P md ops Q fuel listed a w
 | 0,_,_,_,h=>h
 | fuel+1,_,_,_,h=>⟨h.1,λi d=>wpOp_mono (λc f b=>by
  by_cases e:i=k
  ·exact b.2 e
  ·exact vj fuel _ c f (b.1 e).2) (h.2 i d)⟩
def oc (md:Region.Mode) (ops:Array Oper) (k i:Nat):Bool:=(i != k)&&(match ops[k]? with | some a=>a.after.any (λe=>Region.binds md e&&(e.on==i)) | none=>false)
theorem D5 {i:Nat} (h:oc md ops k i=true):i≠k/\∃ b e,ops[k]?=some b/\e ∈ b.after/\Region.binds md e=true/\e.on=i:=by
 unfold oc at h;simp only [Bool.and_eq_true,bne_iff_ne,ne_eq] at h;refine ⟨h.1,?_⟩;have a:=h.2;cases c:ops[k]? with
 | none=>rw [c] at a;cases a
 | some b =>rw [c] at a;simp only [Array.any_eq_true,Bool.and_eq_true,beq_iff_eq] at a;obtain ⟨j,g,d,f⟩:=a;exact ⟨b,_,rfl,Array.getElem_mem g,d,f⟩
def qw (md:Region.Mode) (ops:Array Oper) (listed:Array Bool):Prop:=∀ j o,ops[j]?=some o->listed.getD j false=true->∀ e ∈ o.after,Region.binds md e=true->listed.getD e.on false=true
def uz (md:Region.Mode) (ops:Array Oper) (listed:Array Bool):Bool:=(List.range listed.size).all λj=>!(listed.getD j false)||(match ops[j]? with | some o=>o.after.all λe=>!(Region.binds md e)||listed.getD e.on false | none=>true)
theorem Bj {listed:Array Bool} (h:uz md ops listed=true):qw md ops listed:=by
 intro j o k d e g f;unfold uz at h;rw [List.all_eq_true] at h;have i:j<listed.size:=by
  rcases Nat.lt_or_ge j listed.size with a|a;·exact a
  ·simp [Array.getD,Nat.not_lt.2 a] at d
 have b:=h j (List.mem_range.2 i);rw [d,k] at b;simp only [Bool.not_true,Bool.false_or,Array.all_eq_true] at b;obtain ⟨x,l,rfl⟩:=Array.getElem_of_mem g;have c:=b x l;rw [f] at c;simpa using c
def rP (md:Region.Mode) (ops:Array Oper) (i:Nat):Nat->Nat->Bool
 | 0,_=>false
 | f+1,k=>oc md ops k i||(List.range ops.size).any λj=>oc md ops k j&&rP md ops i f j
theorem sW {i:Nat} {listed:Array Bool} (o:qw md ops listed):∀ f k,rP md ops i f k=true->(listed.getD k false=true\/k ∈ Region.ready md ops listed)->listed.getD i false=true
 | 0,_,h,_=>ni
 | f+1,k,h,g=>by
   have a:∀ j,oc md ops k j=true->listed.getD j false=true:=by
    intro j d
    obtain ⟨_,r,e,q,p,n,c⟩:=D5 d
    rcases g with g|g
    ·have:=o k r q g e p n
     rw [c] at this;exact this
    ·obtain ⟨_,s,l,b⟩:=mem_ready.1 g
     rw [q] at l
     cases l
     have m:=b e p n
     rw [c] at m
     exact m
   unfold rP at h
   rw [Bool.or_eq_true] at h
   rcases h with h|h
   ·exact a i h
   ·rw [List.any_eq_true] at h
    obtain ⟨j,_,d⟩:=h
    rw [Bool.and_eq_true] at d
    exact sW o f j d.2 (Or.inl (a j d.1))
theorem od {listed:Array Bool} {i j:Nat} (h:listed.getD i false=true):(listed.setIfInBounds j true).getD i false=true:=by
 simp only [Array.getD_eq_getD_getElem?,Array.getElem?_setIfInBounds] at h ⊢;split
 ·split;·rfl
  ·rename_i a b;subst a;simp [Array.getElem?_eq_none (Nat.not_lt.1 b)] at h
 ·exact h
theorem D6 {listed:Array Bool} (i:qw md ops listed) {j:Nat} (k:j ∈ Region.ready md ops listed):qw md ops (listed.setIfInBounds j true):=by
 intro x o g c e f d;by_cases h:x=j;·subst h;obtain ⟨_,l,b,a⟩:=mem_ready.1 k;rw [g] at b;cases b;exact od (a e f d)
 ·refine od (i x o g ?_ e f d);simp only [Array.getD_eq_getD_getElem?,Array.getElem?_setIfInBounds] at c ⊢;rw [if_neg (Ne.symm h)] at c;exact c
theorem xw {i:Nat} {u:Oper} {v:Value} (M:ops[i]?=some u) (r:∀ (j:Nat) (o:Oper) z b,ops[j]?=some o->o.op≠.select z b) (U:∀ c a w,Q (.panic c) (a.put u.dst v) w->Q (.panic c) a w) (E:i≠k) (f:Nat) (hk:rP md ops i f k=true):∀ (fuel:Nat) (listed:Array Bool) (a:Act) (w:World),qw md ops listed -> (∀ j x,ops[j]?=some x->j≠i->listed.getD j true=false->(∀ e ∈ x.after,Region.binds md e=true->e.on≠i)->u.apart ops x=true) -> i ∈ Region.ready md ops listed->YieldsIf P ops S u v a->S w -> ig P md ops Q S k fuel (listed.setIfInBounds i true) (a.put u.dst v) w->ig P md ops Q S k (fuel+1) listed a w:=by
 intro fuel;induction fuel with
 | zero =>
   intro listed a w _ _ q K B H;refine ⟨λh=>(by rw [h] at q;cases q),λj y=>?_⟩;by_cases d:j=i;·subst d;exact K.wpOp M B ⟨λ_=>⟨B,H⟩,λe=>absurd e E⟩
   ·have:=ready_mono y d;rw [H.1] at this;cases this
 | succ fuel X =>
   intro listed a w D m q K B H;refine ⟨λh=>(by rw [h] at q;cases q),λj y=>?_⟩;by_cases d:j=i;·subst d;exact K.wpOp M B ⟨λ_=>⟨B,H⟩,λe=>absurd e E⟩
   ·have l:=H.2 j (ready_mono y d);obtain ⟨p,x,t,C⟩:=mem_ready.1 y;have F:∀ e ∈ x.after,Region.binds md e=true->e.on≠i:=λe W V L=>by
     have l:=C e W V;have A:=(mem_ready.1 q).1;rw [L] at l;rcases Nat.lt_or_ge i listed.size with s|s;·simp [s] at A l;rw [A] at l;cases l
     ·simp [Array.getElem?_eq_none s] at l
    have g:j≠k:=by
     rintro rfl;have l:=sW D f j hk (Or.inr y);have A:=(mem_ready.1 q).1;rcases Nat.lt_or_ge i listed.size with s|s;·simp [s] at A l;rw [A] at l;cases l
     ·simp [Array.getElem?_eq_none s] at l
    have T:=wpOp_putIf t (m j x t d p F) (λz b=>r i u z b M) (λz b=>r j x z b t) U K l;have n:∀ k I,ops[k]?=some I->k≠i->(listed.setIfInBounds j true).getD k true=false ->
     (∀ e ∈ I.after,Region.binds md e=true->e.on≠i)->u.apart ops I=true:=λk I hk N G O=>by
     refine m k I hk N ?_ O
     by_cases g:j=k
     ·subst g;exact p
     ·rw [getD_set_ne true g] at G;exact G
    refine wpOp_mono (λR Y J=>⟨λ_=>⟨(J.2.1 g).1,X (listed.setIfInBounds j true) R Y (D6 D y) n (ready_mono q (Ne.symm d)) J.1 (J.2.1 g).1 ?_⟩,λe=>absurd e g⟩) T;rw [Array.setIfInBounds_comm _ _ d];exact (J.2.1 g).2
theorem zt {i:Nat} {b:Oper} {v:Value} {fuel:Nat} {listed:Array Bool} {a:Act} {w:World} (f:ops[i]?=some b)
 (hs:Region.noSelect ops=true) (j:Region.free md ops listed i=true) (hr:(Region.ready md ops listed).contains i=true) (e:i≠k) (hk:rP md ops i 6 k=true) (d:uz md ops listed=true)
 (g:∀ c a w,Q (.panic c) (a.put b.dst v) w->Q (.panic c) a w) (hy:YieldsIf P ops S b v a) (hS:S w)
 (h:ig P md ops Q S k fuel (listed.setIfInBounds i true) (a.put b.dst v) w):ig P md ops Q S k (fuel+1) listed a w :=
 xw f (Region.noSelect_spec hs) g e 6 hk fuel listed a w (Bj d) (Region.free_spec f j) (by simpa using hr) hy hS h
theorem oe {o:Oper} {v:Value} {a:Act} (h:YieldsIf P ops (λ_=>True) o v a):Yields P ops o v a :=
 h.imp (λ⟨c,b⟩=>⟨c,λw=>b w trivial⟩) id
theorem xx {i:Nat} {t:Oper} {v:Value} (D:ops[i]?=some t) (m:∀ (j:Nat) (o:Oper) x b,ops[j]?=some o->o.op≠.select x b) (T:∀ c a w,Q (.panic c) (a.put t.dst v) w->Q (.panic c) a w) (z:i≠k):∀ (fuel:Nat) (listed:Array Bool) (a:Act) (w:World), (∀ j u,ops[j]?=some u->j≠i->listed.getD j true=false->(∀ e ∈ u.after,Region.binds md e=true->e.on≠i)->t.apart ops u=true) -> i ∈ Region.ready md ops listed->Yields P ops t v a->S w -> ig P md ops Q S k fuel (listed.setIfInBounds i true) (a.put t.dst v) w->ig P md ops Q S k (fuel+1) listed a w:=by
 intro fuel;induction fuel with
 | zero =>
   intro listed a w _ p F J H;refine ⟨λh=>(by rw [h] at p;cases p),λj E=>?_⟩;by_cases d:j=i;·subst d;exact (Yields.yieldsIf (S:=λ_=>True) F).wpOp D trivial ⟨λ_=>⟨J,H⟩,λe=>absurd e z⟩
   ·have:=ready_mono E d;rw [H.1] at this;cases this
 | succ fuel X =>
   intro listed a w l p F J H;refine ⟨λh=>(by rw [h] at p;cases p),λj E=>?_⟩;by_cases d:j=i;·subst d;exact (Yields.yieldsIf (S:=λ_=>True) F).wpOp D trivial ⟨λ_=>⟨J,H⟩,λe=>absurd e z⟩
   ·have q:=H.2 j (ready_mono E d);obtain ⟨n,u,s,y⟩:=mem_ready.1 E;have A:∀ e ∈ u.after,Region.binds md e=true->e.on≠i:=λe V U K=>by
     have q:=y e V U;have O:=(mem_ready.1 p).1;rw [K] at q;rcases Nat.lt_or_ge i listed.size with I|I;·simp [I] at O q;rw [O] at q;cases q
     ·simp [Array.getElem?_eq_none I] at q
    have R:=wpOp_putIf (S:=λ_=>True) s (l j u s d n A) (λx b=>m i t x b D) (λx b=>m j u x b s) T (Yields.yieldsIf F) q;have g:∀ k C,ops[k]?=some C->k≠i->(listed.setIfInBounds j true).getD k true=false ->
     (∀ e ∈ C.after,Region.binds md e=true->e.on≠i)->t.apart ops C=true:=λk C W L B M=>by
     refine l k C W L ?_ M
     by_cases f:j=k
     ·subst f;exact n
     ·rw [getD_set_ne true f] at B;exact B
    by_cases f:j=k;·refine wpOp_mono (λG N r=>⟨λe=>absurd f e,λ_=>?_⟩) R;refine wpAny_first D m T fuel (listed.setIfInBounds j true) G N g (ready_mono p (Ne.symm d)) (oe r.1) ?_;rw [Array.setIfInBounds_comm _ _ d];exact r.2.2 f
    ·refine wpOp_mono (λG N r=>⟨λ_=>⟨(r.2.1 f).1,X (listed.setIfInBounds j true) G N g (ready_mono p (Ne.symm d)) (oe r.1) (r.2.1 f).1 ?_⟩,λe=>absurd e f⟩) R;rw [Array.setIfInBounds_comm _ _ d];exact (r.2.1 f).2
theorem zu {i:Nat} {b:Oper} {v:Value} {fuel:Nat} {listed:Array Bool} {a:Act} {w:World} (d:ops[i]?=some b)
 (hs:Region.noSelect ops=true) (f:Region.free md ops listed i=true) (hr:(Region.ready md ops listed).contains i=true) (hk:i≠k)
 (e:∀ c a w,Q (.panic c) (a.put b.dst v) w->Q (.panic c) a w) (hy:Yields P ops b v a) (hS:S w)
 (h:ig P md ops Q S k fuel (listed.setIfInBounds i true) (a.put b.dst v) w):ig P md ops Q S k (fuel+1) listed a w :=
 xx d (Region.noSelect_spec hs) e hk fuel listed a w (Region.free_spec d f) (by simpa using hr) hy hS h
theorem D7 {i:Nat} {o:Oper} {fuel:Nat} {listed:Array Bool} {a:Act} {w:World} (m:ops[i]?=some o) (hr:Region.ready md ops listed=[i]) (hk:i≠k) (h:∀ b:Act->World->Prop,Shut (∀ a w,S w->(S w->ig P md ops Q S k fuel (listed.setIfInBounds i true) a w)->b a w)->if Region.wanted o (yielded ops a.tmps)=true then Oper.wp P o a w b Q else b (a.put o.dst undef) w):ig P md ops Q S k (fuel+1) listed a w:=by refine ⟨λf=>absurd (hr.symm.trans f) (List.cons_ne_nil _ _),λj d=>?_⟩;rw [hr] at d;obtain rfl:=List.mem_singleton.1 d;exact wpOp_step m (λb g=>h b (λa w c l=>g a w ⟨λ_=>⟨c,l c⟩,λe=>absurd e hk⟩))
theorem D9 {o:Oper} {fuel:Nat} {listed:Array Bool} {a:Act} {w:World} (i:ops[k]?=some o) (hr:Region.ready md ops listed=[k]) (h:∀ b:Act->World->Prop,Shut (∀ a w,wpAny P md ops Q fuel (listed.setIfInBounds k true) a w->b a w)->if Region.wanted o (yielded ops a.tmps)=true then Oper.wp P o a w b Q else b (a.put o.dst undef) w):ig P md ops Q S k (fuel+1) listed a w:=by refine ⟨λd=>absurd (hr.symm.trans d) (List.cons_ne_nil _ _),λj c=>?_⟩;rw [hr] at c;obtain rfl:=List.mem_singleton.1 c;exact wpOp_step i (λb f=>h b (λa w g=>f a w ⟨λe=>absurd rfl e,λ_=>g⟩))
theorem IL {i:Nat} {o:Oper} {fuel:Nat} {listed:Array Bool} {a:Act} {w:World} (e:ops[i]?=some o) (hr:Region.ready md ops listed=[i]) (h:∀ b:Act->World->Prop,Shut (∀ a w,wpAny P md ops Q fuel (listed.setIfInBounds i true) a w->b a w)->if Region.wanted o (yielded ops a.tmps)=true then Oper.wp P o a w b Q else b (a.put o.dst undef) w):wpAny P md ops Q (fuel+1) listed a w:=by refine ⟨λd=>absurd (hr.symm.trans d) (List.cons_ne_nil _ _),λj c=>?_⟩;rw [hr] at c;obtain rfl:=List.mem_singleton.1 c;exact wpOp_step e h
end
theorem gh {x:Prop} (h:p=false) (hb:p=true):x:=by rw [h] at hb;cases hb
structure Rw where
 b:Nat
 cs:Array Value
 tg:List (Nat × Nat)
abbrev Fr:=List (Nat × Value × Nat)
def lk {α:Type}:List (Nat × α)->Nat->Option α
 | [],_=>none
 | (t,x)::F,s=>match Nat.beq t s with
   | true=>some x
   | false=>lk F s
def ev (F:Fr):Operand->Value
 | .tmp t=>match lk F t with
   | some x=>x.1
   | none=>undef
 | .const v=>v
 | .global g=>.p g 0
 | .func f=>.func (.func f) #[] #[]
def KM (F:Fr):Operand->Nat
 | .tmp t=>match lk F t with
   | some x=>x.2
   | none=>0
 | _=>0
def kn (F:Fr):Operand->Bool
 | .tmp t=>(lk F t).isSome
 | _=>true
structure cg (F:Fr) (n:Nat) (a:Act):Prop where
 size:a.tmps.size=n
 nod:a.defers=[]
 at_:∀ t x,lk F t=some x->a.tmps[t]?=some x.1
theorem cg.eval {F:Fr} {n:Nat} {a:Act} (h:cg F n a) {x:Operand} (hx:kn F x=true):a.eval x=ev F x:=by
 cases x with
 | tmp t =>simp only [kn,Option.isSome_iff_exists] at hx;obtain ⟨y,b⟩:=hx;have:=h.at_ t y b;simp [Act.eval,ev,b,Array.getD_eq_getD_getElem?,this]
 | const v=>rfl
 | global g=>rfl
 | func f=>rfl
theorem cg.put {F:Fr} {n:Nat} {a:Act} (h:cg F n a) {d:Nat} (hd:Nat.blt d n=true) (v:Value) (g:Nat):cg ((d,v,g)::F) n (a.put (some d) v):=by
 have i:d<n:=Nat.lt_of_succ_le (by simpa [Nat.blt] using hd);refine ⟨by simp [Act.put,h.size],h.nod,λt x f=>?_⟩;unfold lk at f;have j:=h.size;cases c:Nat.beq d t with
 | true =>rw [c] at f;have b:d=t:=Nat.eq_of_beq_eq_true c;subst b;cases f;simp [Act.put,j,i]
 | false =>
   rw [c] at f;have b:d≠t:=λe=>by rw [e,Nat.beq_refl] at c;cases c
   have:=h.at_ t x f;simp only [Act.put];rw [Array.getElem?_setIfInBounds_ne b];exact this
def xy {α:Type} (P:Program) (r:Option Rw):Sem α->Option (α × List (Addr × Addr))
 | .pure a=>some (a,[])
 | .load _ a k=>match r with
   | none=>none
   | some r=>match r.cs[a.off]? with
     | none=>none
     | some v=>match xy P (some r) (k v) with
       | none=>none
       | some x=>some (x.1,(a,⟨r.b,a.off,none⟩)::x.2)
 | .program k=>xy P r (k P)
 | .mark _ k=>xy P r k
 | _=>none
def pO (r:Rw) (w:World):Prop:=∃ t a,w.heap[r.b]?=some (.cells r.cs t a)
theorem OP {α:Type} {r:Option Rw} (hr:∀ j,r=some j->pO j w):∀ (s:Sem α) (x:α) (b:List (Addr × Addr)),xy o r s=some (x,b)->(∀ e ∈ b,e.1=e.2)->s.run o w=.ok x w:=by
 intro s;induction s with
 | pure a=>intro x b h _;simp only [xy,Option.some.injEq,Prod.mk.injEq] at h;rw [h.1];rfl
 | load m a k f =>
   intro x b h c;unfold xy at h;cases r with
   | none=>cases h
   | some r =>
     dsimp only at h;cases i:r.cs[a.off]? with
     | none=>rw [i] at h;cases h
     | some v =>
       rw [i] at h;dsimp only at h;cases g:xy o (some r) (k v) with
       | none=>rw [g] at h;cases h
       | some y =>rw [g] at h;simp only [Option.some.injEq,Prod.mk.injEq] at h;obtain ⟨l,n⟩:=h;subst n;have P:a=⟨r.b,a.off,none⟩:=c (a,⟨r.b,a.off,none⟩) cp;obtain ⟨t,q,d⟩:=hr r rfl;have p:w.cell? a=some v:=(by rw [P];simp only [World.cell?,d];simpa using i);have:=f v x y.2 (by rw [g,<- l]) (λe h=>c e (by simp [h]));simp only [Sem.run,p];exact this
 | program k f=>intro x b h c;exact f o x b h c
 | mark m k f=>intro x b h c;exact f x b h c
 | store=>intro x b h;cases h
 | new=>intro x b h;cases h
 | shape=>intro x b h;cases h
 | freeze=>intro x b h;cases h
 | frozen=>intro x b h;cases h
 | getObj=>intro x b h;cases h
 | setObj=>intro x b h;cases h
 | choose=>intro x b h;cases h
 | sys=>intro x b h;cases h
 | halt=>intro x b h;cases h
structure Ov (P:Program) (S:World->Prop) where
 s:Sem Next
 v:Value
 t:Nat
 h:∀ w,S w->s.run P w=.ok (.value v) w
structure Cv (P:Program) (S:World->Prop) where
 f:Nat
 args:Array Value
 v:Value
 t:Nat
 h:∀ w,S w->Calls P f args w λe w'=>e=.returned v/\S w'
structure Vq where
 u:Value
 v:Value
 t:Nat
 h:u=v
inductive Oe where
 | a (x:Addr)
 | v (x:Value)
 | s (x:Sem Next)
 | c (f:Nat) (args:Array Value)
def wn (ops:Array Oper) (F:Fr) (o:Oper):Option Bool :=
 match o.guard with
 | none=>some true
 | some (j,want)=>match ops[j]? with
   | none=>none
   | some a=>match a.dst with
     | none=>none
     | some d=>match lk F d with
       | none=>none
       | some x=>match x.1 with
         | .bool b=>some (b==want)
         | _=>some false
theorem kP {F:Fr} (h:cg F n W) (c:wn L F E=some p):Region.wanted E (yielded L W.tmps)=p:=by
 unfold wn at c;unfold Region.wanted;cases i:E.guard with
 | none=>rw [i] at c;simpa using c
 | some g =>
   obtain ⟨j,l⟩:=g;rw [i] at c;dsimp only at c ⊢;unfold yielded;cases k:L[j]? with
   | none=>rw [k] at c;cases c
   | some m =>
     rw [k] at c;dsimp only at c;cases e:m.dst with
     | none=>rw [e] at c;cases c
     | some d =>
       rw [e] at c;dsimp only at c;cases f:lk F d with
       | none=>rw [f] at c;cases c
       | some x =>rw [f] at c;dsimp only at c;have:=h.at_ d x f;simp only [Option.bind_some,e,this];obtain ⟨v,g⟩:=x;dsimp only at c ⊢;cases v<;>simp_all
def vk (R:List Rw) (F:Fr):Op->Option Rw
 | .load _ x=>match KM F x with
   | 0=>none
   | k+1=>R[k]?
 | _=>none
def TI (R:List Rw) (F:Fr):Op->Nat
 | .move x=>KM F x
 | .assign x=>KM F x
 | .nilCheck x=>KM F x
 | .fieldAddr _ x _=>KM F x
 | .pick c x y=>match ev F c with
   | .bool true=>KM F x
   | _=>KM F y
 | .load _ x=>match KM F x with
   | 0=>0
   | k+1=>match R[k]?,ev F x with
     | some r,.pointer (some p)=>(lk r.tg p.off).getD 0
     | _,_=>0
 | _=>0
def UV:Op->Bool
 | .alloc _ | .box _ _ | .build _ _ | .buildSlice _ _ _ | .insert _ _ _ _ | .store _ _ _ | .ready _ | .waits _ | .makeFunc _ _ _ | .makeMap _ _ | .makeChan _ _ | .makeSlice _ _ _
 | .mapUpdate _ _ _ _ | .mapEntry _ _ _ | .entryStore _ _ _ _ | .range _ _ | .next _ _ | .entry _ | .go _ | .defer _ | .panic _ | .send _ _ | .recv _ _ _ | .select _ _=>true
 | .call c=>match c.callee with
   | .builtin .len=>false
   | _=>true
 | _=>false
def Bk:Op->Bool
 | .select _ _=>false
 | _=>true
def pl (P:Program) (f:Nat):Bool:=match P.funcs[f]? with
 | some fn=>match fn.body with
   | some _=>!(fn.name == "runtime.NumGoroutine")
   | none=>false
 | none=>false
theorem TJ (h:pl o n=true) (args:Array Value) (w:World):(callFunc n args).run o w=.ok (.enter n args) w:=by
 unfold pl at h;cases b:o.funcs[n]? with
 | none=>rw [b] at h;cases h
 | some fn =>
   rw [b] at h;dsimp only at h;cases a:fn.body with
   | none=>rw [a] at h;cases h
   | some c =>rw [a] at h;have d:fn.name≠ "runtime.NumGoroutine":=el;simp [callFunc,b,d,a,mark]
def KN (P:Program) {S:World->Prop} (R:List Rw) (ov:List (Nat × Ov P S)) (eq:List (Nat × Vq)) (F:Fr) (o:Oper):Option (Value × Nat × List (Oe × Oe)):=
 match o.op.operands.all (kn F)&&Bk o.op with
 | false=>none
 | true=>match o.dst.bind (lk ov) with
   | some e=>some (e.v,e.t,[(.s (execOp (ev F) o),.s e.s)])
   | none=>match xy P (vk R F o.op) (execOp (ev F) o) with
     | some (.value v,es)=>match o.dst.bind (lk eq) with
       | some e=>some (e.v,e.t,(.v v,.v e.u)::es.map λe=>(.a e.1,.a e.2))
       | none=>some (v,TI R F o.op,es.map λe=>(.a e.1,.a e.2))
     | _=>none
theorem Ea {S:World->Prop} {R:List Rw} {ov:List (Nat × Ov o S)} {eq:List (Nat × Vq)} {F:Fr} {es:List (Oe × Oe)} (hk:cg F n W) (h:KN o R ov eq F E=some (c,b,es)) (he:∀ e ∈ es,e.1=e.2) (a:∀ w,S w->∀ r ∈ R,pO r w): (∀ w,S w->(execOp W.eval E).run o w=.ok (.value c) w)/\∀ m P,E.op≠.select m P:=by
 unfold KN at h;cases j:E.op.operands.all (kn F)&&Bk E.op with
 | false=>rw [j] at h;cases h
 | true =>
   rw [j] at h;dsimp only at h;rw [Bool.and_eq_true] at j;have C:∀ m P,E.op≠.select m P:=λm P e=>by have:=j.2;rw [e] at this;cases this
   have p:execOp W.eval E=execOp (ev F) E:=execOp_congr E C λx G=>hk.eval (Array.all_eq_true_iff_forall_mem.1 j.1 x G);refine ⟨λw B=>?_,C⟩;rw [p];cases l:E.dst.bind (lk ov) with
   | some e =>rw [l] at h;simp only [Option.some.injEq,Prod.mk.injEq] at h;obtain ⟨g,A,i⟩:=h;subst i;have:=he (.s (execOp (ev F) E),.s e.s) cp;simp only [Oe.s.injEq] at this;rw [this,<- g];exact e.h w B
   | none =>
     rw [l] at h;dsimp only at h;cases z:xy o (vk R F E.op) (execOp (ev F) E) with
     | none=>rw [z] at h;cases h
     | some y =>
       obtain ⟨H,f⟩:=y;rw [z] at h;cases H with
       | value u =>
         dsimp only at h;have key:(∀ e ∈ f,e.1=e.2)->Sem.run o (execOp (ev F) E) w=.ok (.value u) w:=λq=>by
          refine OP (λI d=>?_) _ _ f z q;refine a w B I ?_;unfold vk at d;split at d
          ·split at d;·cases d
           ·exact List.mem_of_getElem? d
          ·cases d
         cases k:E.dst.bind (lk eq) with
         | some e =>rw [k] at h;simp only [Option.some.injEq,Prod.mk.injEq] at h;obtain ⟨g,A,i⟩:=h;subst i;have D:=he (.v u,.v e.u) cp;simp only [Oe.v.injEq] at D;rw [key λv s=>by have:=he (.a v.1,.a v.2) (by simp only [List.mem_cons,List.mem_map];exact .inr ⟨v,s,rfl⟩);simpa using this,<- g,<- e.h,D]
         | none =>rw [k] at h;simp only [Option.some.injEq,Prod.mk.injEq] at h;obtain ⟨g,A,i⟩:=h;subst i;rw [key λv s=>by have:=he (.a v.1,.a v.2) (List.mem_map.2 ⟨v,s,rfl⟩);simpa using this,<- g]
       | _=>cases h
def rQ (P:Program) (F:Fr) (o:Oper):Option (Nat × Array Value):=
 match o.op.operands.all (kn F) with
 | false=>none
 | true=>match o.op with
   | .call c=>match c.callee with
     | .value x=>match ev F x with
       | .func (.func f) first cap=>match pl P f with
         | true=>some (f,first++c.args.map (ev F)++cap)
         | false=>none
       | _=>none
     | _=>none
   | _=>none
theorem rR {F:Fr} (hk:cg F n W) (h:rQ o F E=some (b,B)) (w:World):(execOp W.eval E).run o w=.ok (.enter b B) w:=by
 unfold rQ at h;cases k:E.op.operands.all (kn F) with
 | false=>rw [k] at h;cases h
 | true =>
   rw [k] at h;dsimp only at h;cases d:E.op with
   | call c =>
     have r:∀ p P,E.op≠.select p P:=λp P e=>by rw [d] at e;cases e
     have l:execOp W.eval E=execOp (ev F) E:=execOp_congr E r λx j=>hk.eval (Array.all_eq_true_iff_forall_mem.1 k x j);rw [l];rw [d] at h;dsimp only at h;cases i:c.callee with
     | value x =>
       rw [i] at h;dsimp only at h;cases j:ev F x with
       | func fn g cap =>
         rw [j] at h;cases fn with
         | func q =>
           dsimp only at h;cases m:pl o q with
           | false=>rw [m] at h;cases h
           | true =>
             rw [m] at h;simp only [Option.some.injEq,Prod.mk.injEq] at h;obtain ⟨rfl,rfl⟩:=h;have:execOp (ev F) E=callFunc q (g++c.args.map (ev F)++cap):=by unfold execOp;rw [d];simp only [resolve,i,j,Deferred.ofValue];rfl
             rw [this];exact TJ m _ _
         | _=>cases h
       | _=>rw [j] at h;cases h
     | _=>rw [i] at h;cases h
   | _=>rw [d] at h;cases h
inductive KI where
 | code (c:Go.Code)
 | blk (id:Nat)
 | ops (all:Array Oper) (rest:List Oper)
 | sq (all:Array Oper) (fuel:Nat) (listed:Array Bool)
 | fin (R:Act->World->Prop)
 | sk (all:Array Oper) (kk:Nat) (fuel:Nat) (listed:Array Bool)
 | sw (all:Array Oper) (fuel:Nat) (listed:Array Bool)
def iO (P:Program) (S:World->Prop) (Q:Exit->Act->World->Prop):List KI->Exit->Act->World->Prop
 | []=>Q
 | .code c::k=>Exit.then (λa w=>c.wp P (iO P S Q k) a w) (iO P S Q k)
 | .ops all rest::k=>Exit.then (wpList P all (iO P S Q k) rest) (iO P S Q k)
 | .blk id::k=>Exit.inBlock id (iO P S Q k)
 | .sq all fuel listed::k=>Exit.then (wpAnyH P .any all (iO P S Q k) S fuel listed) (iO P S Q k)
 | .fin R::k=>Exit.then R (iO P S Q k)
 | .sk all kk fuel listed::k=>Exit.then (ig P .any all (iO P S Q k) S kk fuel listed) (iO P S Q k)
 | .sw all fuel listed::k=>Exit.then (wpAny P .any all (iO P S Q k) fuel listed) (iO P S Q k)
theorem mO {P:Program} {S:World->Prop} {Q:Exit->Act->World->Prop} {c:List PanicEntry} {a:Act} {w:World}:∀ k:List KI,iO P S Q k (.panic c) a w=Q (.panic c) a w
 | []=>rfl
 | .code _::k | .ops _ _::k | .blk _::k | .sq _ _ _::k | .fin _::k | .sk _ _ _ _::k | .sw _ _ _::k=>mO k
theorem zv {P:Program} {S:World->Prop} {Q:Exit->Act->World->Prop} {a:Act} {w:World}:∀ k:List KI,iO P S Q k .ret a w=Q .ret a w
 | []=>rfl
 | .code _::k | .ops _ _::k | .blk _::k | .sq _ _ _::k | .fin _::k | .sk _ _ _ _::k | .sw _ _ _::k=>zv k
def pP (id:Nat):List KI->Option (List KI)
 | []=>none
 | .blk i::k=>match Nat.beq id i with
   | true=>some k
   | false=>pP id k
 | .code _::k=>pP id k
 | .ops _ _::k=>pP id k
 | .sq _ _ _::k=>pP id k
 | .fin _::k=>pP id k
 | .sk _ _ _ _::k=>pP id k
 | .sw _ _ _::k=>pP id k
theorem kt {P:Program} {S:World->Prop} {Q:Exit->Act->World->Prop} {id:Nat} {a:Act} {w:World}:∀ {k b:List KI},pP id k=some b->iO P S Q b .normal a w->iO P S Q k (.exit id) a w
 | [],_,h,_=>ni
 | .blk i::k,b,h,hd=>by
   unfold pP at h
   show Exit.inBlock i (iO P S Q k) (.exit id) a w
   unfold Exit.inBlock
   cases c:Nat.beq id i with
   | true =>
     rw [c] at h
     cases h
     have:id=i:=Nat.eq_of_beq_eq_true c
     simp only [this,if_true]
     exact hd
   | false =>
     rw [c] at h
     have:id≠i:=λe=>by rw [e,Nat.beq_refl] at c;cases c
     simp only [this,if_false]
     exact kt (k:=k) h hd
 | .code _::k,b,h,hd=>kt (k:=k) h hd
 | .ops _ _::k,b,h,hd=>kt (k:=k) h hd
 | .sq _ _ _::k,b,h,hd=>kt (k:=k) h hd
 | .fin _::k,b,h,hd=>kt (k:=k) h hd
 | .sk _ _ _ _::k,b,h,hd=>kt (k:=k) h hd
 | .sw _ _ _::k,b,h,hd=>kt (k:=k) h hd
structure Hn (P:Program) (S J:World->Prop) where
 eq:List (Nat × Vq):=[]
 ov:List (Nat × Ov P S):=[]
 cv:List (Nat × Cv P J):=[]
def rS (n:Nat) (F:Fr) (v:Value) (t:Nat):Option Nat->Option Fr
 | none=>some F
 | some d=>match Nat.blt d n with
   | true=>some ((d,v,t)::F)
   | false=>none
theorem j9 {F v:Fr} {t:Nat} {d:Option Nat} (h:rS n F c t d=some v) (hk:cg F n W):cg v n (W.put d c):=by
 cases d with
 | none=>cases h;exact hk
 | some d =>
   dsimp only [rS] at h;cases b:Nat.blt d n with
   | false=>rw [b] at h;cases h
   | true=>rw [b] at h;cases h;exact hk.put b c t
def qv (P:Program) {S J:World->Prop} (R:List Rw) (H:Hn P S J) (all:Array Oper) (F:Fr) (o:Oper):Option (Value × Nat × List (Oe × Oe)):=
 match wn all F o with
 | none=>none
 | some false=>some (undef,0,[])
 | some true=>KN P R H.ov H.eq F o
theorem KO {R:List Rw} {H:Hn o f d} {F:Fr} {v:Value} {es:List (Oe × Oe)} (hk:cg F n W) (h:qv o R H L F E=some (v,b,es)) (he:∀ e ∈ es,e.1=e.2) (S:∀ w,f w->∀ r ∈ R,pO r w):YieldsIf o L f E v W:=by
 unfold qv at h;cases c:wn L F E with
 | none=>rw [c] at h;cases h
 | some all =>
   rw [c] at h;cases all with
   | false=>simp only [Option.some.injEq,Prod.mk.injEq] at h;exact .inr ⟨kP hk c,h.1.symm⟩
   | true=>exact .inl ⟨kP hk c,(Ea hk h he S).1⟩
def KP (P:Program) {S J:World->Prop} (R:List Rw) (H:Hn P S J) (n:Nat) (all:Array Oper) (F:Fr) (o:Oper):Option (Fr × List (Oe × Oe)):=
 match qv P R H all F o with
 | some (v,t,es)=>match rS n F v t o.dst with
   | some a=>some (a,es)
   | none=>none
 | none=>match wn all F o,rQ P F o,o.dst.bind (lk H.cv) with
   | some true,some (f,args),some e=>match rS n F e.v e.t o.dst with
     | some a=>some (a,[(.c f args,.c e.f e.args)])
     | none=>none
   | _,_,_=>none
theorem Gl {R:List Rw} {H:Hn o f d} {F q:Fr} {es:List (Oe × Oe)} {K:Act->World->Prop} {Q:Exit->Act->World->Prop} (hk:cg F n W) (hS:d w) (B:∀ w,d w->f w) (h:KP o R H n L F E=some (q,es)) (he:∀ e ∈ es,e.1=e.2) (C:∀ w,f w->∀ r ∈ R,pO r w) (j:∀ W w,cg q n W->d w->K W w): if Region.wanted E (yielded L W.tmps)=true then E.wp o W w K Q else K (W.put E.dst undef) w:=by
 unfold KP at h;cases m:qv o R H L F E with
 | some y =>
   obtain ⟨v,t,z⟩:=y;rw [m] at h;dsimp only at h;cases c:rS n F v t E.dst with
   | none=>rw [c] at h;cases h
   | some u =>
     rw [c] at h;simp only [Option.some.injEq,Prod.mk.injEq] at h;obtain ⟨rfl,rfl⟩:=h;rcases KO hk m he C with ⟨g,i⟩|⟨g,i⟩;·rw [if_pos g];show E.upon o W K Q _;rw [i w (B w hS)];exact j _ _ (j9 c hk) hS
     ·subst i;rw [g,if_neg bc];exact j _ _ (j9 c hk) hS
 | none =>
   rw [m] at h;dsimp only at h;cases p:wn L F E with
   | none=>rw [p] at h;cases h
   | some b =>
     rw [p] at h;cases b with
     | false=>cases h
     | true =>
       cases l:rQ o F E with
       | none=>rw [l] at h;cases h
       | some A =>
         obtain ⟨P,args⟩:=A;rw [l] at h;cases s:E.dst.bind (lk H.cv) with
         | none=>rw [s] at h;cases h
         | some e =>
           rw [s] at h;dsimp only at h;cases c:rS n F e.v e.t E.dst with
           | none=>rw [c] at h;cases h
           | some u =>rw [c] at h;simp only [Option.some.injEq,Prod.mk.injEq] at h;obtain ⟨rfl,rfl⟩:=h;have S:=he (.c P args,.c e.f e.args) cp;simp only [Oe.c.injEq] at S;rw [if_pos (kP hk p)];show E.upon o W K Q _;rw [rR hk l w,S.1,S.2];refine (e.h w hS).mono λx a D=>?_;obtain ⟨rfl,k⟩:=D;exact j _ _ (j9 c hk) k
inductive Sr where
 | go (k:List KI) (F:Fr) (es:List (Oe × Oe))
 | ret
 | stop
def qx (all:Array Oper) (listed:Array Bool):List Nat->Option Nat
 | []=>none
 | i::is=>match (match all[i]? with | some o=>!UV o.op | none=>false)&&Region.free .any all listed i with
   | true=>some i
   | false=>qx all listed is
theorem og {all:Array Oper} {listed:Array Bool} {i:Nat}:∀ {l:List Nat},qx all listed l=some i->i ∈ l/\Region.free .any all listed i=true
 | [],h=>ni
 | j::is,h=>by
   unfold qx at h
   split at h
   ·rename_i a
    rw [Bool.and_eq_true] at a
    cases h
    exact ⟨cp,a.2⟩
   ·have:=og (l:=is) h
    exact ⟨by simp [this.1],this.2⟩
def zw (P:Program) {S J:World->Prop} (R:List Rw) (H:Hn P S J) (n:Nat) (all:Array Oper) (fuel:Nat) (listed:Array Bool) (k:List KI) (F:Fr):Sr :=
 match Region.noSelect all with
 | false=>.stop
 | true=>match Region.ready .any all listed with
   | []=>.go k F []
   | i::is=>match fuel with
     | 0=>.stop
     | fuel+1=>match qx all listed (i::is) with
       | some j=>match all[j]? with
         | none=>.stop
         | some o=>match qv P R H all F o with
           | none=>.stop
           | some (v,t,es)=>match rS n F v t o.dst with
             | none=>.stop
             | some a=>.go (.sq all fuel (listed.setIfInBounds j true)::k) a es
       | none=>match is with
         | []=>match all[i]? with
           | none=>.stop
           | some o=>match KP P R H n all F o with
             | none=>.stop
             | some (a,es)=>.go (.sq all fuel (listed.setIfInBounds i true)::k) a es
         | _::_=>.stop
def Gm {P:Program} {S J:World->Prop} (H:Hn P S J) (all:Array Oper) (F:Fr) (o:Oper):Bool:=match wn all F o with
 | some false=>true
 | _=>(match o.dst.bind (lk H.ov) with | some _=>false | none=>true)&&(match o.op with | .load _ _=>false | _=>true)
theorem Gn {S J:World->Prop} {R:List Rw} {H:Hn o S J} {F:Fr} {es:List (Oe × Oe)} (hk:cg F n W) (h:qv o R H L F E=some (c,b,es)) (he:∀ e ∈ es,e.1=e.2) (v:Gm H L F E=true):Yields o L E c W:=by
 unfold qv at h;unfold Gm at v;cases d:wn L F E with
 | none=>rw [d] at h;cases h
 | some all =>
   rw [d] at h v;cases all with
   | false=>simp only [Option.some.injEq,Prod.mk.injEq] at h;exact .inr ⟨kP hk d,h.1.symm⟩
   | true =>
     dsimp only at h v;rw [Bool.and_eq_true] at v;have l:E.dst.bind (lk H.ov)=none:=by
      cases s:E.dst.bind (lk H.ov) with
      | none=>rfl
      | some x=>rw [s] at v;cases v.1
     have m:vk R F E.op=none:=by have g:=v.2;unfold vk;cases f:E.op<;>first | rfl | (rw [f] at g;cases g)
     have key:KN o [] ([]:List (Nat × Ov o (λ_=>True))) H.eq F E=some (c,(KN o [] ([]:List (Nat × Ov o (λ_=>True))) H.eq F E).elim b (·.2.1),es):=by
      unfold KN at h ⊢;rw [l,m] at h;have p:vk [] F E.op=none:=by unfold vk;split<;>first | rfl | (split<;>rfl)
      have q:E.dst.bind (lk ([]:List (Nat × Ov o (λ_=>True))))=none:=(by cases E.dst<;>rfl);rw [p,q];cases i:E.op.operands.all (kn F)&&Bk E.op with
      | false=>rw [i] at h;cases h
      | true =>
        rw [i] at h;dsimp only at h ⊢;cases j:xy o none (execOp (ev F) E) with
        | none=>rw [j] at h;cases h
        | some y =>
          rw [j] at h;obtain ⟨A,k⟩:=y;cases A with
          | value u =>
            dsimp only at h ⊢;cases he:E.dst.bind (lk H.eq) with
            | none=>rw [he] at h;simp only [Option.some.injEq,Prod.mk.injEq] at h;rw [h.1,h.2.2];rfl
            | some e=>rw [he] at h;simp only [Option.some.injEq,Prod.mk.injEq] at h;rw [<- h.1,<- h.2.2];rfl
          | _=>cases h
     exact .inl ⟨kP hk d,λw=>(Ea (S:=λ_=>True) hk key he (λ_ _ r z=>by cases z)).1 w trivial⟩
def zx (P:Program) {S J:World->Prop} (R:List Rw) (H:Hn P S J) (n:Nat) (all:Array Oper) (kk fuel:Nat) (listed:Array Bool) (k:List KI) (F:Fr):Sr :=
 match Region.noSelect all with
 | false=>.stop
 | true=>match fuel with
   | 0=>.stop
   | fuel+1=>match qx all listed (Region.ready .any all listed) with
     | none=>.stop
     | some j=>match Nat.beq j kk,all[j]? with
       | false,some o=>match qv P R H all F o with
         | none=>.stop
         | some (v,t,es)=>match Gm H all F o||(rP .any all j 6 kk&&uz .any all listed),rS n F v t o.dst with
           | true,some F'=>.go (.sk all kk fuel (listed.setIfInBounds j true)::k) F' es
           | _,_=>.stop
       | _,_=>.stop
def zy (P:Program) {S J:World->Prop} (R:List Rw) (H:Hn P S J) (n:Nat) (all:Array Oper) (fuel:Nat) (listed:Array Bool) (k:List KI) (F:Fr):Sr :=
 match Region.noSelect all with
 | false=>.stop
 | true=>match Region.ready .any all listed with
   | []=>.go k F []
   | i::is=>match fuel with
     | 0=>.stop
     | fuel+1=>match qx all listed (i::is) with
       | none=>.stop
       | some j=>match all[j]? with
         | none=>.stop
         | some o=>match qv P R H all F o with
           | none=>.stop
           | some (v,t,es)=>match Gm H all F o,rS n F v t o.dst with
             | true,some F'=>.go (.sw all fuel (listed.setIfInBounds j true)::k) F' es
             | _,_=>.stop
def iP (P:Program) (dr:Bool) (k:List KI) (F:Fr):Go.Code->Sr
 | .skip=>.go k F []
 | .seq x y=>.go (.code x::.code y::k) F []
 | .cond c x y=>match kn F c with
   | false=>.stop
   | true=>match ev F c with
     | .bool true=>.go (.code x::k) F []
     | .bool false=>.go (.code y::k) F []
     | _=>.stop
 | .block id c=>.go (.code c::.blk id::k) F []
 | .exit id=>match pP id k with
   | some a=>.go a F []
   | none=>.stop
 | .ret=>.ret
 | .region _ ops false=>.go (.ops ops ops.toList::k) F []
 | .region _ ops true=>match dr&&P.follows .mixedOrders with
   | true=>.go (.sq ops ops.size (Array.replicate ops.size false)::k) F []
   | false=>.stop
 | _=>.stop
def TK (P:Program) {S J:World->Prop} (R:List Rw) (H:Hn P S J) (n:Nat) (dr:Bool) (k:List KI) (F:Fr):Sr :=
 match k with
 | []=>.stop
 | .blk _::k=>.go k F []
 | .fin _::_=>.stop
 | .ops _ []::k=>.go k F []
 | .ops all (o::rest)::k=>match KP P R H n all F o with
   | some (F',es)=>.go (.ops all rest::k) F' es
   | none=>.stop
 | .sq all fuel listed::k=>zw P R H n all fuel listed k F
 | .sk all kk fuel listed::k=>zx P R H n all kk fuel listed k F
 | .sw all fuel listed::k=>zy P R H n all fuel listed k F
 | .code c::k=>iP P dr k F c
structure nZ (P:Program) (S J:World->Prop) (R:List Rw) (dr:Bool) (Q:Exit->Act->World->Prop):Prop where
 sub:∀ w,J w->S w
 rows:∀ w,S w->∀ r ∈ R,pO r w
 drew:dr=true->∀ w,J w->J w.drew
 pan:∀ c a d v w,Q (.panic c) (Act.put a d v) w->Q (.panic c) a w
section
variable {P : Program} {S J : World -> Prop} {R : List Rw} {H : Hn P S J} {n : Nat} {dr : Bool} {Q : Exit -> Act -> World -> Prop}
theorem IN (E:nZ P S J R dr Q) {all:Array Oper} {fuel:Nat} {listed:Array Bool} {k C:List KI} {F x:Fr} {es:List (Oe × Oe)} (h:zw P R H n all fuel listed k F=.go C x es) (he:∀ e ∈ es,e.1=e.2) (b:∀ a w,cg x n a->J w->iO P S Q C .normal a w) (a:Act) (w:World) (hk:cg F n a) (hS:J w):wpAnyH P .any all (iO P S Q k) S fuel listed a w:=by
 unfold zw at h;cases d:Region.noSelect all with
 | false=>rw [d] at h;cases h
 | true =>
   rw [d] at h;dsimp only at h;cases l:Region.ready .any all listed with
   | nil =>rw [l] at h;cases h;exact wpAnyH_done l (b a w hk hS) fuel
   | cons i is =>
     rw [l] at h;dsimp only at h;cases fuel with
     | zero=>cases h
     | succ fuel =>
       dsimp only at h;cases s:qx all listed (i::is) with
       | some j =>
         rw [s] at h;dsimp only at h;cases f:all[j]? with
         | none=>rw [f] at h;cases h
         | some o =>
           rw [f] at h;dsimp only at h;cases u:qv P R H all F o with
           | none=>rw [u] at h;cases h
           | some y =>
             obtain ⟨v,t,m⟩:=y;rw [u] at h;dsimp only at h;cases q:rS n F v t o.dst with
             | none=>rw [q] at h;cases h
             | some G =>rw [q] at h;simp only [Sr.go.injEq] at h;obtain ⟨rfl,rfl,rfl⟩:=h;have g:=og s;refine wpAnyH_take f d g.2 (by rw [l];simpa using g.1) (λc a w B=>?_) (KO hk u he E.rows) (E.sub _ hS) (b _ _ (j9 q hk) hS);rw [mO] at B ⊢;exact E.pan c a _ _ w B
       | none =>
         rw [s] at h;cases is with
         | cons _ _=>cases h
         | nil =>
           dsimp only at h;cases r:all[i]? with
           | none=>rw [r] at h;cases h
           | some o =>
             rw [r] at h;dsimp only at h;cases p:KP P R H n all F o with
             | none=>rw [p] at h;cases h
             | some y =>obtain ⟨G,m⟩:=y;rw [p] at h;simp only [Sr.go.injEq] at h;obtain ⟨rfl,rfl,rfl⟩:=h;refine wpAnyH_all l cp λj f=>?_;rw [List.mem_singleton] at f;subst f;refine wpOp_step r λL K=>?_;exact Gl hk hS E.sub p he E.rows λz D I A=>K z D ⟨E.sub _ A,b z D I A⟩
theorem IP (E:nZ P S J R dr Q) {all:Array Oper} {kk fuel:Nat} {listed:Array Bool} {k z:List KI} {F m:Fr} {es:List (Oe × Oe)} (h:zx P R H n all kk fuel listed k F=.go z m es) (he:∀ e ∈ es,e.1=e.2) (b:∀ a w,cg m n a->J w->iO P S Q z .normal a w) (a:Act) (w:World) (hk:cg F n a) (hS:J w):ig P .any all (iO P S Q k) S kk fuel listed a w:=by
 unfold zx at h;split at h;·cases h
 ·rename_i i;split at h;·cases h
  ·rename_i fuel;split at h;·cases h
   ·rename_i j B;split at h
    ·rename_i o q u;split at h;·cases h
     ·rename_i v t A x;split at h
      ·rename_i C d r;simp only [Sr.go.injEq] at h;obtain ⟨rfl,rfl,rfl⟩:=h;have f:=og B;have g:j≠kk:=λe=>by rw [e,Nat.beq_refl] at q;cases q
       have p:∀ c a w,iO P S Q k (.panic c) (a.put o.dst v) w->iO P S Q k (.panic c) a w:=λc a w s=>by rw [mO] at s ⊢;exact E.pan c a _ _ w s
       have y:(Region.ready .any all listed).contains j=true:=(by simpa using f.1);rcases Bool.or_eq_true _ _ ▸ d with l|l;·exact zu u i f.2 y g p (Gn hk x he l) (E.sub _ hS) (b _ _ (j9 r hk) hS)
       ·rw [Bool.and_eq_true] at l;exact zt u i f.2 y g l.1 l.2 p (KO hk x he E.rows) (E.sub _ hS) (b _ _ (j9 r hk) hS)
      ·cases h
    ·cases h
theorem IQ (E:nZ P S J R dr Q) {all:Array Oper} {fuel:Nat} {listed:Array Bool} {k p:List KI} {F l:Fr} {es:List (Oe × Oe)} (h:zy P R H n all fuel listed k F=.go p l es) (he:∀ e ∈ es,e.1=e.2) (b:∀ a w,cg l n a->J w->iO P S Q p .normal a w) (a:Act) (w:World) (hk:cg F n a) (hS:J w):wpAny P .any all (iO P S Q k) fuel listed a w:=by
 unfold zy at h;split at h;·cases h
 ·rename_i f;split at h;·rename_i g;cases h;exact wpAny_done g (b a w hk hS) fuel
  ·rename_i i is g;split at h;·cases h
   ·rename_i fuel;split at h;·cases h
    ·rename_i j u;split at h;·cases h
     ·rename_i o s;split at h;·cases h
      ·rename_i v t q x;split at h;·rename_i z y r;simp only [Sr.go.injEq] at h;obtain ⟨rfl,rfl,rfl⟩:=h;have d:=og u;refine wpAny_take s f d.2 (by rw [g];simpa using d.1) (λc a w m=>?_) (Gn hk x he y) (b _ _ (j9 r hk) hS);rw [mO] at m ⊢;exact E.pan c a _ _ w m
       ·cases h
theorem sZ (E:nZ P S J R dr Q) {c:Go.Code} {k i:List KI} {F g:Fr} {es:List (Oe × Oe)} (h:iP P dr k F c=.go i g es) (b:∀ a w,cg g n a->J w->iO P S Q i .normal a w) (a:Act) (w:World) (hk:cg F n a) (hS:J w):c.wp P (iO P S Q k) a w:=by
 unfold iP at h;split at h;·cases h;exact wp_skip (b a w hk hS)
 ·cases h;exact wp_seq (b a w hk hS)
 ·split at h;·cases h
  ·rename_i e;split at h;·rename_i d;cases h;exact wp_cond_true ((hk.eval e).trans d) (b a w hk hS)
   ·rename_i d;cases h;exact wp_cond_false ((hk.eval e).trans d) (b a w hk hS)
   ·cases h
 ·cases h;exact wp_block (b a w hk hS)
 ·split at h;·rename_i j;cases h;exact wp_exit (kt j (b a w hk hS))
  ·cases h
 ·cases h
 ·cases h;exact wp_region_list (b a w hk hS)
 ·split at h;·rename_i f;rw [Bool.and_eq_true] at f;cases h;exact wp_region_held f.2 (b a w.drew hk (E.drew f.1 w hS))
  ·cases h
 ·cases h
theorem R9 (E:nZ P S J R dr Q) {k f:List KI} {F c:Fr} {es:List (Oe × Oe)} (h:TK P R H n dr k F=.go f c es) (he:∀ e ∈ es,e.1=e.2) (b:∀ a w,cg c n a->J w->iO P S Q f .normal a w) (a:Act) (w:World) (hk:cg F n a) (hS:J w):iO P S Q k .normal a w:=by
 unfold TK at h;split at h;·cases h
 ·cases h;exact b a w hk hS
 ·cases h
 ·cases h;exact b a w hk hS
 ·split at h;·rename_i m;cases h;show wpList P _ _ (_::_) a w;exact wpList_step λK l=>Gl hk hS E.sub m he E.rows λd g i j=>l d g (b d g i j)
  ·cases h
 ·exact IN E h he b a w hk hS
 ·exact IP E h he b a w hk hS
 ·exact IQ E h he b a w hk hS
 ·exact sZ E h b a w hk hS
def bp (P:Program) {S J:World->Prop} (R:List Rw) (H:Hn P S J) (n:Nat) (dr:Bool):Nat->List KI->Fr->(Bool × List KI × Fr) × List (Oe × Oe)
 | 0,k,F=>((false,k,F),[])
 | m+1,k,F=>match TK P R H n dr k F with
   | .stop=>((false,k,F),[])
   | .ret=>((true,k,F),[])
   | .go c a b=>match bp P R H n dr m c a with
     | (r,es')=>(r,b++es')
theorem zA (E:nZ P S J R dr Q):∀ (m:Nat) (k:List KI) (F:Fr),(∀ e ∈ (bp P R H n dr m k F).2,e.1=e.2) ->
 (∀ a w,cg (bp P R H n dr m k F).1.2.2 n a->J w->if (bp P R H n dr m k F).1.1=true then Q .ret a w else iO P S Q (bp P R H n dr m k F).1.2.1 .normal a w)->∀ a w,cg F n a->J w->iO P S Q k .normal a w
 | 0,k,F,_,hf,a,w,hk,hS=>by simpa [bp] using hf a w hk hS
 | m+1,k,F,he,hf,a,w,hk,hS=>by
   cases d:TK P R H n dr k F with
   | stop =>
     have e:bp P R H n dr (m+1) k F=((false,k,F),[]):=by simp only [bp,d]
     rw [e] at hf
     simpa using hf a w hk hS
   | ret =>
     have e:bp P R H n dr (m+1) k F=((true,k,F),[]):=by simp only [bp,d]
     rw [e] at hf
     have l:Q .ret a w:=by simpa using hf a w hk hS
     unfold TK at d
     split at d
     ·cases d
     ·cases d
     ·cases d
     ·cases d
     ·split at d<;>cases d
     ·unfold zw at d
      repeat (split at d<;>try cases d)
     ·unfold zx at d
      repeat (split at d<;>try cases d)
     ·unfold zy at d
      repeat (split at d<;>try cases d)
     ·rename_i c f
      cases c with
      | ret=>exact wp_ret (by rw [zv];exact l)
      | region i ops b=>cases b<;>simp only [iP] at d<;>(try split at d)<;>cases d
      | cond=>simp only [iP] at d;repeat (split at d<;>try cases d)
      | exit=>simp only [iP] at d;split at d<;>cases d
      | _=>cases d
   | go f g j =>
     have e:bp P R H n dr (m+1) k F=((bp P R H n dr m f g).1,j++(bp P R H n dr m f g).2):=by simp only [bp,d]
     rw [e] at he hf
     exact R9 E d (λx h=>he x (by simp [h])) (zA E m f g (λx h=>he x (by simp [h])) hf) a w hk hS
def Wg (P:Program) (S:World->Prop) (Q:Exit->Act->World->Prop) (n:Nat) (k:List KI) (F:Fr) (w:World):Prop:=∀ a,cg F n a->iO P S Q k .normal a w
theorem ae (E:nZ P S J R dr Q) (H:Hn P S J) (m:Nat) {k:List KI} {F:Fr} {w:World} (hS:J w)
 (h:∀ b,J b->Wg P S Q n (bp P R H n dr m k F).1.2.1 (bp P R H n dr m k F).1.2.2 b) (hret:(bp P R H n dr m k F).1.1=false:=by kernel_rfl) (he:(bp P R H n dr m k F).2.map Prod.fst=(bp P R H n dr m k F).2.map Prod.snd:=by kernel_rfl):Wg P S Q n k F w:=λa d =>
 zA E m k F (λe f=>List.map_inj_left.1 he e f) (λa w c g=>by rw [hret,if_neg bc];exact h w g a c) a w d hS
theorem bm {fn:Func} {Rs:Ending->World->Prop} (E:nZ P S J R dr (bodyPost P fn Rs)) (H:Hn P S J) (m:Nat) {k:List KI} {F:Fr} {w:World} {t:Nat} {v:Value} (hS:J w)
 (h:∀ f,J f->Rs (.returned v) f) (hv:((bp P R H n dr m k F).1.1,(lk (bp P R H n dr m k F).1.2.2 t).map Prod.fst)=(true,some v):=by kernel_rfl) (he:(bp P R H n dr m k F).2.map Prod.fst=(bp P R H n dr m k F).2.map Prod.snd:=by kernel_rfl) (hr:fn.results=#[.tmp t]:=by rfl):Wg P S (bodyPost P fn Rs) n k F w:=λa g =>
 zA E m k F (λe i=>List.map_inj_left.1 he e i) (λa w d j=>by
  simp only [Prod.mk.injEq] at hv
  rw [hv.1,if_pos rfl]
  obtain ⟨x,b,c⟩:=Option.map_eq_some_iff.1 hv.2
  have l:=d.at_ t x b
  exact bodyPost_ret (results_tmp hr _ _ _) d.nod (by rw [Array.getD_eq_getD_getElem?,l,c];exact h w j)) a w g hS
def KQ:Nat->List Value->Fr
 | _,[]=>[]
 | i,v::l=>(i,v,0)::KQ (i+1) l
theorem Gp:∀ (l:List Value) (i t:Nat) (x:Value × Nat),lk (KQ i l) t=some x->i<=t/\l[t-i]?=some x.1
 | [],_,_,_,h=>ni
 | v::l,i,t,x,h=>by
   unfold KQ lk at h
   cases a:Nat.beq i t with
   | true =>
     rw [a] at h
     cases h
     have:i=t:=Nat.eq_of_beq_eq_true a
     subst this
     simp
   | false =>
     rw [a] at h
     obtain ⟨c,b⟩:=Gp l (i+1) t x h
     refine ⟨ab,?_⟩
     rw [show t-i=(t-(i+1))+1 by omega]
     simpa using b
theorem gg {f:Nat} {fn:Func} {c:Go.Code} {args:List Value} {w:World} {Rs:Ending->World->Prop} (S:World->Prop) (d:P.funcs[f]?=some fn) (h:Wg P S (bodyPost P fn Rs) fn.ntmps [.code c] (KQ 0 args) w) (hb:fn.body=some c:=by rfl) (hn:Nat.ble args.length fn.ntmps=true:=by kernel_rfl):Calls P f args.toArray w Rs :=
 calls_of_wp d hb (h _ ⟨by
  have:args.length<=fn.ntmps:=Nat.le_of_ble_eq_true hn
  simp;omega,rfl,λt x g=>by
  obtain ⟨_,a⟩:=Gp args 0 t x g
  have b:t<args.length:=by
   rw [Nat.sub_zero] at a
   exact (List.getElem?_eq_some_iff.1 a).1
  rw [Nat.sub_zero] at a
  have e:=(List.getElem?_eq_some_iff.1 a).2
  simp [Array.getElem?_append,b]
  simpa using e⟩)
def ij:List KI->Bool
 | []=>true
 | .sq _ _ _::_=>false
 | .code _::k=>ij k
 | .blk _::k=>ij k
 | .ops _ _::k=>ij k
 | .fin _::k=>ij k
 | .sk _ _ _ _::_=>false
 | .sw _ _ _::k=>ij k
theorem ym {S':World->Prop}:∀ {k:List KI},ij k=true->iO P S' Q k=iO P S Q k
 | [],_=>rfl
 | .sq _ _ _::_,h=>ni
 | .code _::k,h=>by unfold iO;rw [ym (k:=k) h]
 | .blk _::k,h=>by unfold iO;rw [ym (k:=k) h]
 | .ops _ _::k,h=>by unfold iO;rw [ym (k:=k) h]
 | .fin _::k,h=>by unfold iO;rw [ym (k:=k) h]
 | .sk _ _ _ _::_,h=>ni
 | .sw _ _ _::k,h=>by unfold iO;rw [ym (k:=k) h]
theorem aH {k:List KI} {F:Fr} {w:World} (S':World->Prop) (h:Wg P S' Q n k F w) (hn:ij k=true:=by kernel_rfl):Wg P S Q n k F w:=λa b=>by rw [<- ym (S':=S') hn];exact h a b
def vm (P:Program) (n N:Nat):List Oper->Fr->List (Array Value × TypeId)->Option (Fr × List (Array Value × TypeId))
 | [],F,bs=>some (F,bs)
 | o::os,F,bs=>match o.guard,o.dst with
   | none,some d=>match Nat.blt d n with
     | false=>none
     | true=>match o.op with
       | .box t x=>match kn F x with
         | true=>vm P n N os ((d,.p (N+bs.length) 0,bs.length+1)::F) (bs++[((ev F x).cells,t)])
         | false=>none
       | .assign x=>match kn F x with
         | true=>vm P n N os ((d,ev F x,KM F x)::F) bs
         | false=>none
       | .alloc t=>match P.info? t with
         | some i=>match i.zero with
           | some z=>vm P n N os ((d,.p (N+bs.length) 0,bs.length+1)::F) (bs++[(z.cells,t)])
           | none=>none
         | none=>none
       | _=>none
   | _,_=>none
def bP (w:World):List (Array Value × TypeId)->World
 | []=>w
 | x::l=>bP (w.alloc (.cells x.1 x.2)) l
theorem oh (x:Array Value × TypeId):∀ (l:List (Array Value × TypeId)) (w:World),bP w (l++[x])=(bP w l).alloc (.cells x.1 x.2)
 | [],_=>rfl
 | _::l,w=>oh x l _
theorem om:∀ (l:List (Array Value × TypeId)) (w:World),(bP w l).heap.size=w.heap.size+l.length
 | [],_=>rfl
 | _::l,w=>by
   show (bP _ l).heap.size=_
   rw [om l,World.size_alloc,List.length_cons]
   omega
theorem qy {all:Array Oper} {w:World}:∀ {l:List Oper} {F j:Fr} {b e:List (Array Value × TypeId)},vm P n w.heap.size l F b=some (j,e)->(∀ a,cg j n a->Q .normal a (bP w e))->∀ a,cg F n a->wpList P all Q l a (bP w b)
 | [],F,j,b,e,h,hQ,a,hk=>by
   simp only [vm,Option.some.injEq,Prod.mk.injEq] at h
   obtain ⟨rfl,rfl⟩:=h
   exact hQ a hk
 | o::os,F,j,b,e,h,hQ,a,hk=>by
   unfold vm at h
   split at h
   ·rename_i d m k
    split at h
    ·cases h
    ·rename_i p
     split at h
     ·rename_i t x c
      split at h
      ·rename_i f
       refine wpList_plain m λK g=>?_
       show o.upon P a K _ ((execOp a.eval o).run P (bP w b))
       have:(execOp a.eval o).run P (bP w b)=.ok (.value (.pointer (some ⟨(bP w b).heap.size,0,none⟩))) ((bP w b).alloc (.cells (ev F x).cells t)):=by
        unfold execOp
        rw [c]
        simp only [hk.eval f]
        rfl
       rw [this,om]
       show K (a.put o.dst _) _
       rw [k,<- oh ((ev F x).cells,t)]
       exact g _ _ (qy h hQ _ (hk.put p _ _))
      ·cases h
     ·rename_i x c
      split at h
      ·rename_i f
       refine wpList_plain m λK g=>?_
       show o.upon P a K _ ((execOp a.eval o).run P (bP w b))
       have:(execOp a.eval o).run P (bP w b)=.ok (.value (ev F x)) (bP w b):=by
        unfold execOp
        rw [c]
        simp only [hk.eval f]
        rfl
       rw [this]
       show K (a.put o.dst _) _
       rw [k]
       exact g _ _ (qy h hQ _ (hk.put p _ _))
      ·cases h
     ·rename_i t c
      split at h
      ·rename_i i q
       split at h
       ·rename_i z r
        refine wpList_plain m λK g=>?_
        show o.upon P a K _ ((execOp a.eval o).run P (bP w b))
        have:(execOp a.eval o).run P (bP w b)=.ok (.value (.pointer (some ⟨(bP w b).heap.size,0,none⟩))) ((bP w b).alloc (.cells z.cells t)):=by
         unfold execOp
         rw [c]
         simp [Instr.alloc,zeroValue,typeInfo,q,r,newVar,newRow]
        rw [this,om]
        show K (a.put o.dst _) _
        rw [k,<- oh (z.cells,t)]
        exact g _ _ (qy h hQ _ (hk.put p _ _))
       ·cases h
      ·cases h
     ·cases h
   ·cases h
def qz (P:Program) (n N:Nat) (c:Go.Code) (args:List Value):Option (List (Array Value × TypeId) × List KI × Fr):=match c with
 | .seq (.region _ ops false) rest=>match vm P n N ops.toList (KQ 0 args) [] with
   | some (F,bs)=>some (bs,[.code rest],F)
   | none=>none
 | _=>none
def KR (P:Program) (n N:Nat) (c:Go.Code) (args:List Value):List KI:=match qz P n N c args with
 | some x=>x.2.1
 | none=>[]
def KT (P:Program) (n N:Nat) (c:Go.Code) (args:List Value):Fr:=match qz P n N c args with
 | some x=>x.2.2
 | none=>[]
theorem bC {f:Nat} {fn:Func} {c:Go.Code} {args:List Value} {w:World} {Rs:Ending->World->Prop} (bs:List (Array Value × TypeId)) (j:P.funcs[f]?=some fn) (h:Wg P S (bodyPost P fn Rs) fn.ntmps (KR P fn.ntmps w.heap.size c args) (KT P fn.ntmps w.heap.size c args) (bP w bs)) (hb:fn.body=some c:=by rfl) (hn:Nat.ble args.length fn.ntmps=true:=by kernel_rfl) (hs:(qz P fn.ntmps w.heap.size c args).map Prod.fst=some bs:=by kernel_rfl):Calls P f args.toArray w Rs:=by
 refine gg S j (hb:=hb) (hn:=hn) λa k=>?_;unfold KR KT at h;cases b:qz P fn.ntmps w.heap.size c args with
 | none=>rw [b] at hs;cases hs
 | some y =>
   obtain ⟨e,n,l⟩:=y;rw [b] at hs h;simp only [Option.map_some,Option.some.injEq] at hs;subst hs;unfold qz at b;split at b
   ·rename_i id ops rest;split at b;·rename_i m g d;simp only [Option.some.injEq,Prod.mk.injEq] at b;obtain ⟨rfl,rfl,rfl⟩:=b;refine wp_seq (wp_region_list ?_);exact qy (Q:=Exit.then (λa w=>rest.wp P (bodyPost P fn Rs) a w) (bodyPost P fn Rs)) d (λa i=>h a i) a k
    ·cases b
   ·cases b
def Bl (F:Fr):List KI->Option (Oper × List KI × Bool)
 | .ops all (o::rest)::k=>match wn all F o with
   | some true=>some (o,.ops all rest::k,false)
   | _=>none
 | .sq all (m+1) listed::k=>match Region.ready .any all listed with
   | [i]=>match all[i]? with
     | some o=>match wn all F o with
       | some true=>some (o,.sq all m (listed.setIfInBounds i true)::k,true)
       | _=>none
     | none=>none
   | _=>none
 | .sk all kk (m+1) listed::k=>match Region.ready .any all listed with
   | [i]=>match all[i]? with
     | some o=>match wn all F o with
       | some true=>match Nat.beq i kk with
         | true=>some (o,.sw all m (listed.setIfInBounds i true)::k,false)
         | false=>some (o,.sk all kk m (listed.setIfInBounds i true)::k,true)
       | _=>none
     | none=>none
   | _=>none
 | .sw all (m+1) listed::k=>match Region.ready .any all listed with
   | [i]=>match all[i]? with
     | some o=>match wn all F o with
       | some true=>some (o,.sw all m (listed.setIfInBounds i true)::k,false)
       | _=>none
     | none=>none
   | _=>none
 | _=>none
def po (F:Fr) (k:List KI):List KI:=match Bl F k with
 | some x=>x.2.1
 | none=>[]
def zB (F:Fr) (k:List KI):Bool:=match Bl F k with
 | some x=>x.2.2
 | none=>false
def Eb (n:Nat) (F:Fr) (k:List KI):Option (Sem Next):=match Bl F k with
 | some (o,_,_)=>match o.op.operands.all (kn F)&&Bk o.op&&(match o.dst with | some d=>Nat.blt d n | none=>true) with
   | true=>some (execOp (ev F) o)
   | false=>none
 | none=>none
def qA (F:Fr) (k:List KI) (v:Value) (t:Nat):Fr:=match Bl F k with
 | some (o,_,_)=>match o.dst with
   | some d=>(d,v,t)::F
   | none=>F
 | none=>F
def OA (P:Program) (n:Nat) (F:Fr) (k:List KI):Option (Nat × Array Value):=match Bl F k with
 | some (o,_,_)=>match (match o.dst with | some d=>Nat.blt d n | none=>true) with
   | true=>rQ P F o
   | false=>none
 | none=>none
theorem zC {k z:List KI} {F:Fr} {o:Oper} {b:Bool} (h:Bl F k=some (o,z,b)) {a:Act} {w:World} (hk:cg F n a) (t:∀ K:Act->World->Prop,(∀ f d,(b=true->S d)->iO P S Q z .normal f d->K f d)->o.wp P a w K (iO P S Q z)):iO P S Q k .normal a w:=by
 unfold Bl at h;split at h
 ·rename_i all v rest p;split at h;·rename_i c;simp only [Option.some.injEq,Prod.mk.injEq] at h;obtain ⟨rfl,rfl,rfl⟩:=h;show wpList P all (iO P S Q p) (v::rest) a w;refine wpList_step λK g=>?_;rw [if_pos (kP hk c)];exact t K λf d _ l=>g f d l
  ·cases h
 ·rename_i all m listed p;split at h
  ·rename_i i s;split at h
   ·rename_i v r;split at h;·rename_i c;simp only [Option.some.injEq,Prod.mk.injEq] at h;obtain ⟨rfl,rfl,rfl⟩:=h;show wpAnyH P .any all (iO P S Q p) S (m+1) listed a w;refine wpAnyH_all s cp λj B=>?_;rw [List.mem_singleton] at B;subst B;refine wpOp_step r λq g=>?_;rw [if_pos (kP hk c)];exact t q λf d y l=>g f d ⟨y rfl,l⟩
    ·cases h
   ·cases h
  ·cases h
 ·rename_i all A m listed p;split at h
  ·rename_i i s;split at h
   ·rename_i v r;split at h
    ·rename_i c;split at h;·rename_i u;simp only [Option.some.injEq,Prod.mk.injEq] at h;obtain ⟨rfl,rfl,rfl⟩:=h;have e:i=A:=Nat.eq_of_beq_eq_true u;subst e;show ig P .any all (iO P S Q p) S i (m+1) listed a w;refine D9 r s λq g=>?_;rw [if_pos (kP hk c)];exact t q λf d _ l=>g f d l
     ·rename_i u;simp only [Option.some.injEq,Prod.mk.injEq] at h;obtain ⟨rfl,rfl,rfl⟩:=h;have x:i≠A:=λe=>by rw [e,Nat.beq_refl] at u;cases u
      show ig P .any all (iO P S Q p) S A (m+1) listed a w;refine D7 r s x λq g=>?_;rw [if_pos (kP hk c)];exact t q λf d y l=>g f d (y rfl) (λ_=>l)
    ·cases h
   ·cases h
  ·cases h
 ·rename_i all m listed p;split at h
  ·rename_i i s;split at h
   ·rename_i v r;split at h;·rename_i c;simp only [Option.some.injEq,Prod.mk.injEq] at h;obtain ⟨rfl,rfl,rfl⟩:=h;show wpAny P .any all (iO P S Q p) (m+1) listed a w;refine IL r s λq g=>?_;rw [if_pos (kP hk c)];exact t q λf d _ l=>g f d l
    ·cases h
   ·cases h
  ·cases h
 ·cases h
theorem dF {k:List KI} {F:Fr} {w w':World} {s:Sem Next} {v:Value} (t:Nat) (hr:s.run P w=.ok (.value v) w') (h:Wg P S Q n (po F k) (qA F k v t) w') (hx:Eb n F k=some s:=by kernel_rfl) (hS:zB F k=true->S w':=by exact gh ba):Wg P S Q n k F w:=λa f=>by
 unfold Eb at hx;unfold zB at hS;unfold po qA at h;cases i:Bl F k with
 | none=>rw [i] at hx;cases hx
 | some y =>
   obtain ⟨o,p,b⟩:=y;rw [i] at hx hS h;dsimp only at hx hS h;split at hx
   ·rename_i c;cases hx;rw [Bool.and_eq_true,Bool.and_eq_true] at c;have g:execOp a.eval o=execOp (ev F) o:=execOp_congr o (λm b e=>by have:=c.1.2;rw [e] at this;cases this) λx hx=>f.eval (Array.all_eq_true_iff_forall_mem.1 c.1.1 x hx);refine zC i f λK j=>?_;show o.upon P a K _ _;rw [g,hr];refine j _ _ hS (h _ ?_);cases l:o.dst with
    | none=>exact f
    | some d=>rw [l] at c;exact f.put c.2 v t
   ·cases hx
theorem bM {k:List KI} {F:Fr} {w w':World} {s:Sem Next} (hr:s.run P w=.ok .skip w') (h:Wg P S Q n (po F k) (qA F k undef 0) w') (hx:Eb n F k=some s:=by kernel_rfl) (hS:zB F k=true->S w':=by exact gh ba):Wg P S Q n k F w:=λa f=>by
 unfold Eb at hx;unfold zB at hS;unfold po qA at h;cases i:Bl F k with
 | none=>rw [i] at hx;cases hx
 | some y =>
   obtain ⟨o,p,b⟩:=y;rw [i] at hx hS h;dsimp only at hx hS h;split at hx
   ·rename_i c;cases hx;rw [Bool.and_eq_true,Bool.and_eq_true] at c;have g:execOp a.eval o=execOp (ev F) o:=execOp_congr o (λm b e=>by have:=c.1.2;rw [e] at this;cases this) λx hx=>f.eval (Array.all_eq_true_iff_forall_mem.1 c.1.1 x hx);refine zC i f λK j=>?_;show o.upon P a K _ _;rw [g,hr];refine j _ _ hS (h _ ?_);cases l:o.dst with
    | none=>exact f
    | some d=>rw [l] at c;exact f.put c.2 undef 0
   ·cases hx
theorem ju {k:List KI} {F:Fr} {w:World} {f:Nat} {args:Array Value} {Rc:Ending->World->Prop} (p:Calls P f args w Rc) (h:∀ e c,Rc e c->∃ v t,e=.returned v/\(zB F k=true->S c)/\Wg P S Q n (po F k) (qA F k v t) c) (hx:OA P n F k=some (f,args):=by kernel_rfl):Wg P S Q n k F w:=λa g=>by
 unfold OA at hx;unfold po qA zB at h;cases j:Bl F k with
 | none=>rw [j] at hx;cases hx
 | some y =>
   obtain ⟨o,u,b⟩:=y;rw [j] at hx h;dsimp only at hx h;split at hx
   ·rename_i l;refine zC j g λK m=>?_;show o.upon P a K _ _;rw [rR g hx w];refine p.mono λe c q=>?_;obtain ⟨v,t,rfl,r,s⟩:=h e c q;refine m _ _ r (s _ ?_);cases i:o.dst with
    | none=>exact g
    | some d=>rw [i] at l;exact g.put l v t
   ·cases hx
theorem aS (E:nZ P S J R dr Q) (H:Hn P S J) (m:Nat) {k:List KI} {F:Fr} {w:World} {f:Nat} {args:Array Value} {Rc:World->Ending->World->Prop} (hS:J w) (g:∀ b,J b->Calls P f args b (Rc b)) (h:∀ b e a,J b->Rc b e a->∃ v t,e=.returned v/\(zB (bp P R H n dr m k F).1.2.2 (bp P R H n dr m k F).1.2.1=true->S a)/\Wg P S Q n (po (bp P R H n dr m k F).1.2.2 (bp P R H n dr m k F).1.2.1) (qA (bp P R H n dr m k F).1.2.2 (bp P R H n dr m k F).1.2.1 v t) a) (hx:((bp P R H n dr m k F).1.1,OA P n (bp P R H n dr m k F).1.2.2 (bp P R H n dr m k F).1.2.1)=(false,some (f,args)):=by kernel_rfl) (he:(bp P R H n dr m k F).2.map Prod.fst=(bp P R H n dr m k F).2.map Prod.snd:=by kernel_rfl):Wg P S Q n k F w:=by simp only [Prod.mk.injEq] at hx;exact ae E H m hS (hret:=hx.1) (he:=he) λb c=>ju (g b c) (hx:=hx.2) λe a d=>h b e a c d
theorem lB {fn:Func} {Rs:Ending->World->Prop} (E:nZ P S J R dr (bodyPost P fn Rs)) (H:Hn P S J) (m:Nat) {k:List KI} {F:Fr} {w:World} (hS:J w)
 (h:∀ b a,J b->cg (bp P R H n dr m k F).1.2.2 n a->∃ v,(results fn a.tmps).run P b=.ok v b/\Rs (.returned v) b) (hv:(bp P R H n dr m k F).1.1=true:=by kernel_rfl) (he:(bp P R H n dr m k F).2.map Prod.fst=(bp P R H n dr m k F).2.map Prod.snd:=by kernel_rfl):Wg P S (bodyPost P fn Rs) n k F w:=λa g =>
 zA E m k F (λe i=>List.map_inj_left.1 he e i) (λa w c j=>by
  rw [hv,if_pos rfl]
  obtain ⟨v,d,f⟩:=h w a j c
  exact bodyPost_ret d c.nod f) a w g hS
theorem cg.slot {F:Fr} {n:Nat} {a:Act} (h:cg F n a) {t:Nat} {v:Value} (hl:(lk F t).map Prod.fst=some v):a.tmps.getD t undef=v:=by obtain ⟨x,b,c⟩:=Option.map_eq_some_iff.1 hl;rw [Array.getD_eq_getD_getElem?,h.at_ t x b,<- c];rfl
def ak {c b:Bool} (h:c=b):Vq:=⟨.bool c,.bool b,0,by rw [h]⟩
theorem cH {fn:Func} {Rs:Ending->World->Prop} (c:List PanicEntry) (a:Act) (d:Option Nat) (v:Value) (w:World) (h:bodyPost P fn Rs (.panic c) (Act.put a d v) w):bodyPost P fn Rs (.panic c) a w:=by cases d<;>exact h
end
def Bs (w:World) (bs:List (Array Value × TypeId)) (W:World):Prop:=(∀ i x,bs[i]?=some x->W.heap[w.heap.size+i]?=some (.cells x.1 x.2 (0,0)))/\Bw w W
theorem Bs.below (h:Bs w x a) (hb:Bw a t):Bs w x t:=⟨λi bs W=>bq hb (h.1 i bs W),aa h.2 hb⟩
theorem Bs.start (bs:List (Array Value × TypeId)):Bs K bs (bP K bs):=by
 have key:∀ (l:List (Array Value × TypeId)) (v:World),Bw K v->(∀ i x,l[i]?=some x->(bP v l).heap[v.heap.size+i]?=some (.cells x.1 x.2 (0,0)))/\Bw v (bP v l):=by
  intro l;induction l with
  | nil=>intro v _;exact ⟨λi x h=>by simp at h,Below.refl _ _⟩
  | cons y l f =>
    intro v e;have c:=(Below.refl v.heap.size v).alloc (Nat.le_refl _) (.cells y.1 y.2);obtain ⟨d,b⟩:=f (v.alloc (.cells y.1 y.2)) (aa e c);refine ⟨λi x a=>?_,aa c b⟩;cases i with
    | zero =>simp only [List.getElem?_cons_zero,Option.some.injEq] at a;subst a;exact bq b (heap_alloc_new _ _)
    | succ i =>have:=d i x ri;rw [World.size_alloc] at this;rw [show v.heap.size+(i+1)=v.heap.size+1+i by omega];exact this
 exact ⟨(key bs K (Below.refl _ _)).1,(key bs K (Below.refl _ _)).2⟩
def lC (N:Nat):List (Array Value × TypeId)->List Rw
 | []=>[]
 | x::l=>⟨N,x.1,[]⟩::lC (N+1) l
theorem yo {r:Rw}:∀ {l:List (Array Value × TypeId)} {N:Nat},r ∈ lC N l->∃ i x,l[i]?=some x/\r.b=N+i/\r.cs=x.1
 | [],_,h=>ni
 | y::l,N,h=>by
   rcases List.mem_cons.1 h with rfl|h
   ·exact ⟨0,y,rfl,rfl,rfl⟩
   ·obtain ⟨i,x,a,c,b⟩:=yo h
    exact ⟨i+1,x,ri,ab,b⟩
theorem Bs.eng:nZ P (Bs w x) (Bs w x) (lC w.heap.size x) true (bodyPost P fn Rs):=
 ⟨λ_ h=>h,λW h r d=>by
  obtain ⟨i,bs,a,b,c⟩:=yo d
  exact ⟨_,_,by rw [b,c];exact h.1 i bs a⟩,λ_ W h=>h.below (Below.refl _ _).drew,cH⟩
def fQ {P:Program} {w:World} {bs:List (Array Value × TypeId)} {f:Nat} {args:Array Value} {v:Value} (h:∀ W,Bw w W->Calls P f args W λe b=>e=.returned v/\Bw W b):Cv P (Bs w bs):=⟨f,args,v,0,λW a=>(h W a.2).mono λe b k=>⟨k.1,a.below k.2⟩⟩
def mI {P:Program} {w:World} {bs:List (Array Value × TypeId)} {f:Nat} {args:Array Value} {v:Value} (h:∀ W,Bw w W->Calls P f args W λe b=>e=.returned v/\b=W):Cv P (Bs w bs):=⟨f,args,v,0,λW a=>(h W a.2).mono λe b k=>⟨k.1,by rw [k.2];exact a⟩⟩
def iL {P:Program} {S:World->Prop} {T:TypeId} {d:TypeDesc} (p:Addr) (v:Value) (c:P.underlying T=some d) (hd:(match d with | .struct _ | .array _ _=>true | _=>false)=false) (h:∀ W,S W->W.cell? p=some v):Ov P S :=
 ⟨do pure (.value (<- Instr.loadAt T (.pointer (some p)))),v,0,λW a=>by
  have b:=h W a
  cases d<;>simp_all [Instr.loadAt,Instr.sureAddr,loadVar,isAgg,underlying,program,load,Sem.run,Bind.bind,Sem.bind,Pure.pure]⟩
def kF {P:Program} {S:World->Prop} {T E:TypeId} {a:Option Addr} {b o:Nat} (n c:Nat) (k:IntKind) (i:Int) (f:a=some ⟨b,o,none⟩) (g:0<=i/\i<n) (h:P.underlying T=some (.slice E)) (hz:(P.info? E).map (·.size)=some 1):Ov P S :=
 ⟨do pure (.value (<- Instr.indexAt T (.slice a n c) (.int k i))),.p b (o+i.toNat),0,λW j=>by
  subst f
  obtain ⟨info,d,e⟩:=Option.map_eq_some_iff.1 hz
  simp [Instr.indexAt,asIntOf,underlying,program,sizeOf,typeInfo,h,d,e,g,Addr.add,Sem.run,Bind.bind,Sem.bind,Pure.pure]⟩
def jp {P:Program} {S:World->Prop} (a:∀ {W W'},S W->Bw W W'->S W') {f:Nat} {args:Array Value} {v:Value} (h:∀ W,S W->Calls P f args W λe c=>e=.returned v/\Bw W c):Cv P S:=⟨f,args,v,0,λW b=>(h W b).mono λe c k=>⟨k.1,a b k.2⟩⟩
def ke {P:Program} {S:World->Prop} {f:Nat} {args:Array Value} {v:Value} (h:∀ W,S W->Calls P f args W λe b=>e=.returned v/\b=W):Cv P S:=⟨f,args,v,0,λW a=>(h W a).mono λe b k=>⟨k.1,by rw [k.2];exact a⟩⟩
def dG (k:IntKind) {x y:Int} (h:x=y):Vq:=⟨.int k x,.int k y,0,by rw [h]⟩
def OB {P:Program} {S:World->Prop} (k:IntKind) (x y:Int) (hy:y≠0):Ov P S:=⟨do pure (.value (<- Op.intDiv .rem k x y)),.int k (x.tmod y),0,λW _=>by
 simp [Op.intDiv,hy]⟩
structure jR (M:MV):Prop where
 x:M.x.length<=1048576
 cs:M.cs.length<=1048576
 ram:M.ram.length<=1048576
 xs:M.d.xs.length<=1048576
 ys:M.d.ys.length<=1048576
structure jv (L:List FRow) (w w':World):Prop where
 os:w'.os=w.os
 tape:w'.tape=w.tape
 output:w'.output=w.output
 size:w.heap.size<=w'.heap.size
 block:∀ k,k<w.heap.size->(∀ q ∈ L,q.v.ownBlock≠some k)->w'.heap[k]?=w.heap[k]?
theorem jv.trans (h:jv q a w) (k:jv q w t):jv q a t :=
 ⟨k.os.trans h.os,k.tape.trans h.tape,k.output.trans h.output,Nat.le_trans h.size k.size,λi d e=>(k.block i (Nat.lt_of_lt_of_le d h.size) e).trans (h.block i d e)⟩
theorem jv.of_below {L:List FRow} (h:Bw w a):jv L w a:=⟨h.os,h.tape,h.output,h.size,λk w' _=>h.block k w'⟩
theorem jv.of_grown {L:FRow} (h:w.grownBy a L.v.ownBlock) (c:L ∈ q):jv q w a :=
 ⟨h.os,h.tape,h.output,h.size,λk w' b=>h.block k w' (λe=>b L c e.symm)⟩
theorem jv.keep (h:jv q w a) (w':bA n b w q):ly n b w a :=
 ⟨h.os,h.tape,h.output,h.size,λk c g=>h.block k c (λL E e=>by have d:=((w'.own L E).lt k e).1;have f:=w'.hi L E k e;omega)⟩
def yp (A:MA) (nx a c b no:Nat) (x cs ram xs ys:List Int):List FRow:=[aJ A.ax nx A.cx x,aJ A.ac a A.cc cs,aD A.ar c A.cr ram,aD A.ai b A.ci xs,aD A.ao no A.co ys]
theorem bA.markL {L1 L2:List FRow} {r:FRow} (h:bA n b w (L1++r::L2)) (w':w.grownBy a r.v.ownBlock) (xs:List Value) (E:a.ownsRow n r.t 1 r.v r.n xs):bA n b a (L1++⟨r.t,r.v,r.n,xs⟩::L2)/\jv (L1++r::L2) w a :=
 ⟨(h.mark w' xs E).1,jv.of_grown w' cp⟩
theorem bA.rsl {E:Nat} {A:MA} {nx a c no:Nat} {x cs ram xs ys:List Int} (h:bA n E w (yp A nx a c b no x cs ram xs ys)):Sl .u64 w A.ax x/\Sl .u64 w A.ac cs/\Sl .u8 w A.ar ram/\Sl .u8 w A.ai xs/\Sl .u8 w A.ao ys :=
 ⟨fO (h.own (aJ A.ax nx A.cx x) (by simp [yp])),fO (h.own (aJ A.ac a A.cc cs) (by simp [yp])),fO (h.own (aD A.ar c A.cr ram) (by simp [yp])),fO (h.own (aD A.ai b A.ci xs) (by simp [yp])),fO (h.own (aD A.ao no A.co ys) (by simp [yp]))⟩
def ik (w:World):List Rw->Prop
 | []=>True
 | r::R=>pO r w/\ik w R
theorem qb {w:World} {r:Rw}:∀ {R:List Rw},ik w R->r ∈ R->pO r w
 | [],_,h=>ni
 | _::R,h,a=>by
   rcases List.mem_cons.1 a with rfl|a
   ·exact h.1
   ·exact qb h.2 a
section
variable {P : Program} {S : World -> Prop} {n : Nat} {fn : Func} {Rs : Ending -> World -> Prop} {k : List KI} {F : Fr} {w : World}
theorem yq {R:List Rw} (a:ik w R):nZ P (λx=>x=w) (λx=>x=w) R false (bodyPost P fn Rs):=⟨λ_ h=>h,λW h r b=>by subst h;exact qb a b,(λh=>ni),cH⟩
theorem Sb {F:Fr} {all:Array Oper} {m:Nat} {listed:Array Bool} {k:List KI} {x:Oper × List KI × Bool} (h:Bl F (.sw all m listed::k)=some x):x.2.2=false:=by
 cases m with
 | zero=>cases h
 | succ m =>
   simp only [Bl] at h;repeat (split at h<;>try cases h)
   all_goals rfl
theorem aN {R:List Rw} (u:ik w R) (H:Hn P (λx=>x=w) (λx=>x=w)) (m:Nat) {f:Nat} {args:Array Value} {Rc:Ending->World->Prop} (y:Calls P f args w Rc) (h:∀ e a,Rc e a->∃ v t,e=.returned v/\Wg P S (bodyPost P fn Rs) n (po (bp P R H n false m k F).1.2.2 (bp P R H n false m k F).1.2.1) (qA (bp P R H n false m k F).1.2.2 (bp P R H n false m k F).1.2.1 v t) a) (hx:(ij k,(bp P R H n false m k F).1.1,ij (bp P R H n false m k F).1.2.1,OA P n (bp P R H n false m k F).1.2.2 (bp P R H n false m k F).1.2.1)=(true,false,true,some (f,args)):=by kernel_rfl) (he:(bp P R H n false m k F).2.map Prod.fst=(bp P R H n false m k F).2.map Prod.snd:=by kernel_rfl):Wg P S (bodyPost P fn Rs) n k F w:=by
 simp only [Prod.mk.injEq] at hx
 obtain ⟨j,p,g,q⟩:=hx
 refine aH (λx=>x=w) (hn:=j) (ae (yq u) H m rfl (hret:=p) (he:=he) λa c=>?_)
 subst c
 refine aH S (hn:=g) (ju y (hx:=q) λe a z=>?_)
 obtain ⟨v,t,r,s⟩:=h e a z
 refine ⟨v,t,r,λd=>?_,s⟩
 exact absurd d (by
  have:∀ (k:List KI) (F:Fr),ij k=true->zB F k=false:=by
   intro k F i
   unfold zB Bl
   cases k with
   | nil=>rfl
   | cons x k=>cases x with
     | sq=>cases i
     | sk=>cases i
     | sw all m listed =>
       cases hx:Bl F (.sw all m listed::k) with
       | none=>unfold Bl at hx;simp only [hx]
       | some x =>
         have d:=Sb hx
         unfold Bl at hx
         simp only [hx]
         exact d
     | ops all l=>cases l with
       | nil=>rfl
       | cons o l=>cases c:wn all F o with
         | none=>simp only [c]
         | some b=>cases b<;>simp only [c]
     | _=>rfl
  rw [this _ _ g];decide)
theorem jh {R:List Rw} (g:ik w R) (H:Hn P (λx=>x=w) (λx=>x=w)) (m:Nat) {s:Sem Next} {v:Value} {w':World} (t:Nat) (hr:s.run P w=.ok (.value v) w') (h:Wg P S (bodyPost P fn Rs) n (po (bp P R H n false m k F).1.2.2 (bp P R H n false m k F).1.2.1) (qA (bp P R H n false m k F).1.2.2 (bp P R H n false m k F).1.2.1 v t) w') (hx:(ij k,(bp P R H n false m k F).1.1,ij (bp P R H n false m k F).1.2.1,zB (bp P R H n false m k F).1.2.2 (bp P R H n false m k F).1.2.1,Eb n (bp P R H n false m k F).1.2.2 (bp P R H n false m k F).1.2.1)=(true,false,true,false,some s):=by kernel_rfl) (he:(bp P R H n false m k F).2.map Prod.fst=(bp P R H n false m k F).2.map Prod.snd:=by kernel_rfl):Wg P S (bodyPost P fn Rs) n k F w:=by simp only [Prod.mk.injEq] at hx;obtain ⟨b,c,d,e,f⟩:=hx;refine aH (λx=>x=w) (hn:=b) (ae (yq g) H m rfl (hret:=c) (he:=he) λj i=>?_);subst i;exact aH S (hn:=d) (dF t (hx:=f) hr (hS:=λa=>by rw [e] at a;cases a) h)
theorem cq {R:List Rw} (g:ik w R) (H:Hn P (λx=>x=w) (λx=>x=w)) (m:Nat) {s:Sem Next} {w':World} (hr:s.run P w=.ok .skip w') (h:Wg P S (bodyPost P fn Rs) n (po (bp P R H n false m k F).1.2.2 (bp P R H n false m k F).1.2.1) (qA (bp P R H n false m k F).1.2.2 (bp P R H n false m k F).1.2.1 undef 0) w') (hx:(ij k,(bp P R H n false m k F).1.1,ij (bp P R H n false m k F).1.2.1,zB (bp P R H n false m k F).1.2.2 (bp P R H n false m k F).1.2.1,Eb n (bp P R H n false m k F).1.2.2 (bp P R H n false m k F).1.2.1)=(true,false,true,false,some s):=by kernel_rfl) (he:(bp P R H n false m k F).2.map Prod.fst=(bp P R H n false m k F).2.map Prod.snd:=by kernel_rfl):Wg P S (bodyPost P fn Rs) n k F w:=by simp only [Prod.mk.injEq] at hx;obtain ⟨b,c,d,e,f⟩:=hx;refine aH (λx=>x=w) (hn:=b) (ae (yq g) H m rfl (hret:=c) (he:=he) λj i=>?_);subst i;exact aH S (hn:=d) (bM (hx:=f) hr (hS:=λa=>by rw [e] at a;cases a) h)
theorem gu {R:List Rw} (b:ik w R) (H:Hn P (λx=>x=w) (λx=>x=w)) (m:Nat) (h:∀ a,cg (bp P R H n false m k F).1.2.2 n a->∃ v,(results fn a.tmps).run P w=.ok v w/\Rs (.returned v) w) (hx:(ij k,(bp P R H n false m k F).1.1)=(true,true):=by kernel_rfl) (he:(bp P R H n false m k F).2.map Prod.fst=(bp P R H n false m k F).2.map Prod.snd:=by kernel_rfl):Wg P S (bodyPost P fn Rs) n k F w:=by simp only [Prod.mk.injEq] at hx;exact aH (λx=>x=w) (hn:=hx.1) (lB (yq b) H m rfl (hv:=hx.2) (he:=he) λe a d c=>by subst d;exact h a c)
theorem i8 {R:List Rw} (b:ik w R) (H:Hn P (λx=>x=w) (λx=>x=w)) (m:Nat) {t:Nat} {v:Value} (h:Rs (.returned v) w) (hx:(ij k,(bp P R H n false m k F).1.1,(lk (bp P R H n false m k F).1.2.2 t).map Prod.fst)=(true,true,some v):=by kernel_rfl) (he:(bp P R H n false m k F).2.map Prod.fst=(bp P R H n false m k F).2.map Prod.snd:=by kernel_rfl) (hr:fn.results=#[.tmp t]:=by rfl):Wg P S (bodyPost P fn Rs) n k F w:=by simp only [Prod.mk.injEq] at hx;exact gu b H m (hx:=vw) (he:=he) λa c=>⟨v,by rw [results_tmp hr,c.slot hx.2.2],h⟩
end
theorem KU {α:Type} {t:Nat} {x:α}:∀ {F:List (Nat × α)},lk F t=some x->(t,x) ∈ F
 | [],h=>ni
 | (s,y)::F,h=>by
   unfold lk at h
   cases a:Nat.beq s t with
   | true =>
     rw [a] at h
     cases h
     have:s=t:=Nat.eq_of_beq_eq_true a
     simp [this]
   | false=>rw [a] at h;exact List.mem_cons_of_mem _ (KU h)
theorem cg.less {F G:Fr} (h:cg F n W) (hs:G.map (λy=>some y.2.1)=G.map λy=>(lk F y.1).map Prod.fst):cg G n W :=
 ⟨h.size,h.nod,λt x e=>by
  have d:=KU e
  have:=List.map_inj_left.1 hs (t,x) d
  obtain ⟨y,b,c⟩:=Option.map_eq_some_iff.1 this.symm
  have:=h.at_ t y b
  rw [this,c]⟩
def UW:List KI->Bool
 | .code (.loop _)::_=>true
 | _=>false
def VT:List KI->Go.Code
 | .code (.loop c)::_=>c
 | _=>.skip
def QW:List KI->Act->World->Prop
 | .fin R::_=>R
 | _=>λ_ _=>False
section
variable {P : Program} {S : World -> Prop} {n : Nat} {Q : Exit -> Act -> World -> Prop} {k : List KI} {F : Fr} {w : World}
theorem kS {α:Type} (d:α->Fr) (I:Nat->α->World->Prop) (i:Nat) (g:α) (hl:UW k=true) (hF:(d g).map (λy=>some y.2.1)=(d g).map λy=>(lk F y.1).map Prod.fst) (r:I i g w)
 (round:∀ j x w,I j x w->∀ R:Act->World->Prop,(∀ a e b f,b<j->cg (d f) n a->I b f e->R a e)->Wg P S Q n (.code (VT k)::.fin R::k.tail) (d x) w):Wg P S Q n k F w:=λa t=>by
 match k,hl with
 | .code (.loop c)::k',_ =>
   show (Go.Code.loop c).wp P (iO P S Q k') a w
   refine wp_loop_ghost (λj a w=>∃ x,cg (d x) n a/\I j x w) i ⟨g,t.less hF,r⟩ λj a w s=>?_
   obtain ⟨x,p,q⟩:=s
   exact round j x w q (λh e=>∃ b,b<j/\∃ x,cg (d x) n h/\I b x e) (λh e b f l m o=>⟨b,l,f,m,o⟩) a p
theorem zD {R:List Rw} {dr:Bool} {J:World->Prop} (E:nZ P S J R dr Q) (H:Hn P S J) (m:Nat) (hS:J w) {T:Act->World->Prop} (h:∀ a c,J c->cg (bp P R H n dr m k F).1.2.2 n a->T a c) (hx:((bp P R H n dr m k F).1.1,QW (bp P R H n dr m k F).1.2.1)=(false,T):=by kernel_rfl) (he:(bp P R H n dr m k F).2.map Prod.fst=(bp P R H n dr m k F).2.map Prod.snd:=by kernel_rfl):Wg P S Q n k F w:=by
 simp only [Prod.mk.injEq] at hx;refine ae E H m hS (hret:=hx.1) (he:=he) λc f a e=>?_;have b:=h a c f e;rw [<- hx.2] at b;generalize (bp P R H n dr m k F).1.2.1=d at b;cases d with
 | nil=>cases b
 | cons y d=>cases y with
   | fin g=>exact b
   | _=>cases b
end
section
variable {P : Program} {S : World -> Prop} {n : Nat} {fn : Func} {Rs : Ending -> World -> Prop} {k : List KI} {F : Fr} {w : World}
theorem oo {R:List Rw} (b:ik w R) (H:Hn P (λx=>x=w) (λx=>x=w)) (m:Nat) {T:Act->World->Prop} (h:∀ a,cg (bp P R H n false m k F).1.2.2 n a->T a w) (hx:(ij k,(bp P R H n false m k F).1.1,QW (bp P R H n false m k F).1.2.1)=(true,false,T):=by kernel_rfl) (he:(bp P R H n false m k F).2.map Prod.fst=(bp P R H n false m k F).2.map Prod.snd:=by kernel_rfl):Wg P S (bodyPost P fn Rs) n k F w:=by simp only [Prod.mk.injEq] at hx;exact aH (λx=>x=w) (hn:=hx.1) (zD (T:=T) (yq b) H m rfl (hx:=by rw [hx.2.1,hx.2.2]) (he:=he) λa e d c=>by subst d;exact h a c)
theorem an {R:List Rw} (a:ik w R) (H:Hn P (λx=>x=w) (λx=>x=w)) (m:Nat) (h:Wg P S (bodyPost P fn Rs) n (bp P R H n false m k F).1.2.1 (bp P R H n false m k F).1.2.2 w) (hx:(ij k,(bp P R H n false m k F).1.1,ij (bp P R H n false m k F).1.2.1)=(true,false,true):=by kernel_rfl) (he:(bp P R H n false m k F).2.map Prod.fst=(bp P R H n false m k F).2.map Prod.snd:=by kernel_rfl):Wg P S (bodyPost P fn Rs) n k F w:=by simp only [Prod.mk.injEq] at hx;exact aH (λx=>x=w) (hn:=hx.1) (ae (yq a) H m rfl (hret:=hx.2.1) (he:=he) λc b=>by subst b;exact aH S (hn:=hx.2.2) h)
end
def Dw (w W:World):Prop:=∃ d,W={w with drawn:=w.drawn+d}
theorem Dw.refl:Dw K K:=⟨0,rfl⟩
structure Ez (S:World->Prop) (R:List Rw):Prop where
 rows:∀ w,S w->∀ r ∈ R,pO r w
 drew:∀ w,S w->S w.drew
section
variable {P : Program} {S : World -> Prop} {n : Nat} {fn : Func} {Rs : Ending -> World -> Prop} {k : List KI} {F : Fr} {w : World} {R : List Rw}
theorem td (a:Ez S R) (hS:S w):nZ P S (Dw w) R true (bodyPost P fn Rs):=
 ⟨λW h=>by
  obtain ⟨d,rfl⟩:=h
  induction d with
  | zero=>exact hS
  | succ d b=>exact a.drew _ b,a.rows,λ_ W h=>by obtain ⟨d,rfl⟩:=h;exact ⟨d+1,rfl⟩,cH⟩
theorem uA (j:Ez S R) (hS:S w) (H:Hn P S (Dw w)) (m:Nat) {f:Nat} {args:Array Value} {Rc:World->Ending->World->Prop} (l:∀ W,Dw w W->Calls P f args W (Rc W))
 (h:∀ W e a,Dw w W->Rc W e a->∃ v t,e=.returned v/\S a/\Wg P S (bodyPost P fn Rs) n (po (bp P R H n true m k F).1.2.2 (bp P R H n true m k F).1.2.1) (qA (bp P R H n true m k F).1.2.2 (bp P R H n true m k F).1.2.1 v t) a) (hx:((bp P R H n true m k F).1.1,OA P n (bp P R H n true m k F).1.2.2 (bp P R H n true m k F).1.2.1)=(false,some (f,args)):=by kernel_rfl) (he:(bp P R H n true m k F).2.map Prod.fst=(bp P R H n true m k F).2.map Prod.snd:=by kernel_rfl):Wg P S (bodyPost P fn Rs) n k F w :=
 aS (td j hS) H m (Dw.refl w) l (hx:=hx) (he:=he) λW e a b c=>by
  obtain ⟨v,t,d,g,i⟩:=h W e a b c
  exact ⟨v,t,d,λ_=>g,i⟩
theorem Gq (b:Ez S R) (hS:S w) (H:Hn P S (Dw w)) (m:Nat) {s:Sem Next} (f:World->World) (hr:∀ W,Dw w W->s.run P W=.ok .skip (f W)) (h:∀ W,Dw w W->S (f W)/\Wg P S (bodyPost P fn Rs) n (po (bp P R H n true m k F).1.2.2 (bp P R H n true m k F).1.2.1) (qA (bp P R H n true m k F).1.2.2 (bp P R H n true m k F).1.2.1 undef 0) (f W)) (hx:((bp P R H n true m k F).1.1,Eb n (bp P R H n true m k F).1.2.2 (bp P R H n true m k F).1.2.1)=(false,some s):=by kernel_rfl) (he:(bp P R H n true m k F).2.map Prod.fst=(bp P R H n true m k F).2.map Prod.snd:=by kernel_rfl):Wg P S (bodyPost P fn Rs) n k F w:=by simp only [Prod.mk.injEq] at hx;exact ae (td b hS) H m (Dw.refl w) (hret:=hx.1) (he:=he) λW a=>bM (hx:=hx.2) (hr W a) (hS:=λ_=>(h W a).1) (h W a).2
theorem QX (b:Ez S R) (hS:S w) (H:Hn P S (Dw w)) (m:Nat) {s:Sem Next} {v:World->Value} (t:Nat) (f:World->World) (hr:∀ W,Dw w W->s.run P W=.ok (.value (v W)) (f W)) (h:∀ W,Dw w W->S (f W)/\Wg P S (bodyPost P fn Rs) n (po (bp P R H n true m k F).1.2.2 (bp P R H n true m k F).1.2.1) (qA (bp P R H n true m k F).1.2.2 (bp P R H n true m k F).1.2.1 (v W) t) (f W)) (hx:((bp P R H n true m k F).1.1,Eb n (bp P R H n true m k F).1.2.2 (bp P R H n true m k F).1.2.1)=(false,some s):=by kernel_rfl) (he:(bp P R H n true m k F).2.map Prod.fst=(bp P R H n true m k F).2.map Prod.snd:=by kernel_rfl):Wg P S (bodyPost P fn Rs) n k F w:=by simp only [Prod.mk.injEq] at hx;exact ae (td b hS) H m (Dw.refl w) (hret:=hx.1) (he:=he) λW a=>dF t (hx:=hx.2) (hr W a) (hS:=λ_=>(h W a).1) (h W a).2
end
theorem Dw.below (hb:Below n a w) (h:Dw w t):Below n a t:=by
 obtain ⟨d,rfl⟩:=h;induction d with
 | zero=>exact hb
 | succ d v=>exact v.drew
theorem az {t ty:TypeId} {old cells:Array Value} (b:w.heap[g]?=some (.cells old t (0,0))) (c:(P.info? ty).map (·.size)=some cells.size) (d:old.size=cells.size) (a:cells.all (·.oneCell')=true): (do Instr.storeAt ty (.p g 0) (.agg cells);pure Next.skip:Sem Next).run P w=.ok .skip (w.setRow g cells):=by have:=run_storeVar_row (P:=P) w g t ty old cells b c d a;simp [Instr.storeAt,Instr.sureAddr,this,Result.andThen]
theorem mi {P:Program} {S:World->Prop} {n:Nat} {fn:Func} {Rs:Ending->World->Prop} {k:List KI} {F:Fr} {w:World} {R:List Rw} (hz:Ez S R) (hS:S w) (H:Hn P S (Dw w)) (m:Nat) {r:Nat} {T:TypeId} {d:TypeDesc} {cs:Array Value} {s p u:Nat} {v1 v2:Value} (v:∀ W,S W->S (W.setRow r cs)) (e:∀ W,S W->∃ old t,old.size=cs.size/\W.heap[r]?=some (.cells old t (0,0))) (C:(P.info? T).map (·.size)=some cs.size) (o:cs.all (·.oneCell')=true) (G:P.underlying T=some d) (hd:(match d with | .struct _ | .array _ _=>true | _=>false)=true) (q:fn.results=#[.tmp s,.cell p T,.tmp u]) (hx:((bp P R H n true m k F).1.1,Eb n (bp P R H n true m k F).1.2.2 (bp P R H n true m k F).1.2.1)=(false,some (do Instr.storeAt T (.p r 0) (.agg cs);pure Next.skip))) (he:(bp P R H n true m k F).2.map Prod.fst=(bp P R H n true m k F).2.map Prod.snd) (hy:(λ(y:(Bool × List KI × Fr) × List (Oe × Oe))=>(y.1.1,(lk y.1.2.2 s).map Prod.fst,(lk y.1.2.2 p).map Prod.fst,(lk y.1.2.2 u).map Prod.fst,y.2.map Prod.fst)) (bp P R ({}:Hn P S λV=>∃ W,Dw w W/\Dw (W.setRow r cs) V) n true m (po (bp P R H n true m k F).1.2.2 (bp P R H n true m k F).1.2.1) (qA (bp P R H n true m k F).1.2.2 (bp P R H n true m k F).1.2.1 undef 0))=(true,some v1,some (.p r 0),some v2,(bp P R ({}:Hn P S λV=>∃ W,Dw w W/\Dw (W.setRow r cs) V) n true m (po (bp P R H n true m k F).1.2.2 (bp P R H n true m k F).1.2.1) (qA (bp P R H n true m k F).1.2.2 (bp P R H n true m k F).1.2.1 undef 0)).2.map Prod.snd)) (h:∀ W V,Dw w W->Dw (W.setRow r cs) V->Rs (.returned (.tuple #[v1,.agg cs,v2])) V):Wg P S (bodyPost P fn Rs) n k F w:=by
 have c:∀ {a b:World},S a->Dw a b->S b:=λ{a b} x l=>(td (P:=P) (fn:=fn) (Rs:=Rs) hz x).sub _ l;refine Gq hz hS H m (λW=>W.setRow r cs) (λW z=>?_) (hx:=hx) (he:=he) λW z=>?_;·obtain ⟨old,t,x,l⟩:=e W (c hS z);exact az l C x o
 ·have A:=v W (c hS z);refine ⟨A,?_⟩;simp only [Prod.mk.injEq] at hy;obtain ⟨I,J,K,L,M⟩:=hy;have E:nZ P S (λV=>∃ W,Dw w W/\Dw (W.setRow r cs) V) R true (bodyPost P fn Rs):=
   ⟨λV ⟨X,g,i⟩=>c (v X (c hS g)) i,hz.rows,λ_ V ⟨X,g,i⟩=>⟨X,g,by obtain ⟨j,rfl⟩:=i;exact ⟨j+1,rfl⟩⟩,cH⟩
  refine lB E _ m ⟨W,z,Dw.refl _⟩ (hv:=I) (he:=M) λV a D B=>?_;obtain ⟨X,g,i⟩:=D;obtain ⟨old,t,x,l⟩:=e X (c hS g);have f:V.heap[r]?=some (.cells cs t (0,0)):=(by obtain ⟨j,rfl⟩:=i;exact setRow_heap X r old cs t (0,0) l);refine ⟨_,?_,h X V g i⟩;rw [<- B.slot J,<- B.slot L];exact bT q a.tmps V r t cs (0,0) d (B.slot K) f G hd C
theorem jw {old:Value} (a:w.cell? ⟨b,n,none⟩=some old/\w.frozen? ⟨b,n,none⟩=false) (d:(o.info? T).map (·.size)=some 1) (hv:v.cells=#[v]) (e:v.oneCell'=true:=by rfl): (do Instr.storeAt T (.p b n) v;pure Next.skip:Sem Next).run o w=.ok .skip (w.setCell ⟨b,n,none⟩ v):=by
 obtain ⟨t,g,f⟩:=Option.map_eq_some_iff.1 d;have c:(store ⟨b,n,none⟩ v).run o w=.ok () (w.setCell ⟨b,n,none⟩ v):=by rw [run_store o w _ v _ e];simp [a.1,a.2]
 simp [Instr.storeAt,Instr.sureAddr,storeVar,sizeOf,typeInfo,g,f,hv,storeCells,Addr.add,Result.andThen,c]
theorem aR (h:Below n a w) (b:n<=g) (cs:Array Value):Below n a (w.setRow g cs):=
 ⟨h.os,h.tape,h.output,by rw [setRow_size];exact h.size,λk v=>(setRow_other w g k cs ab).trans (h.block k v)⟩
theorem vq {P:Program} {fn:Func} {F:Fr} {n:Nat} {a:Act} {p u g:Nat} {T t:TypeId} {d:TypeDesc} {cs:Array Value} {v:Value} {w:World} (hk:cg F n a) (h:fn.results=#[.cell p T,.tmp u]) (e:(lk F p).map Prod.fst=some (.p g 0)) (hv:(lk F u).map Prod.fst=some v) (b:w.heap[g]?=some (.cells cs t (0,0))) (f:P.underlying T=some d) (hd:(match d with | .struct _ | .array _ _=>true | _=>false)=true) (c:(P.info? T).map (·.size)=some cs.size):(results fn a.tmps).run P w=.ok (.tuple #[.agg cs,v]) w:=by rw [results_cell_tmp h,hk.slot e,hk.slot hv];simp [asAddr,run_loadVar_row w g t T cs (0,0) d b f hd c]
theorem jx {P:Program} {S:World->Prop} {n:Nat} {fn:Func} {Rs:Ending->World->Prop} {k:List KI} {F:Fr} {w:World} {R:List Rw} (f:ik w R) (H:Hn P (λx=>x=w) (λx=>x=w)) (m:Nat) {r:Nat} {T t:TypeId} {d:TypeDesc} {old cs:Array Value} {p u:Nat} {v:Value} (hr:w.heap[r]?=some (.cells old t (0,0))) (i:old.size=cs.size) (b:cs.all (·.oneCell')=true) (j:P.underlying T=some d) (h:Rs (.returned (.tuple #[.agg cs,v])) (w.setRow r cs)) (e:(P.info? T).map (·.size)=some cs.size:=by kernel_rfl) (hd:(match d with | .struct _ | .array _ _=>true | _=>false)=true:=by rfl) (c:fn.results=#[.cell p T,.tmp u]:=by rfl) (hx:(λ(y:Bool × List KI × Fr)=>(ij k,y.1,ij y.2.1,zB y.2.2 y.2.1,Eb n y.2.2 y.2.1,ij (po y.2.2 y.2.1))) (bp P R H n false m k F).1=(true,false,true,false,some (do Instr.storeAt T (.p r 0) (.agg cs);pure Next.skip),true):=by kernel_rfl) (he:(bp P R H n false m k F).2.map Prod.fst=(bp P R H n false m k F).2.map Prod.snd:=by kernel_rfl) (hy:∀ X,(λ(z:(Bool × List KI × Fr) × List (Oe × Oe))=>(z.1.1,(lk z.1.2.2 p).map Prod.fst,(lk z.1.2.2 u).map Prod.fst,z.2.map Prod.fst)) (bp P [] ({}:Hn P (λx=>x=X) (λx=>x=X)) n false m (po (bp P R H n false m k F).1.2.2 (bp P R H n false m k F).1.2.1) (qA (bp P R H n false m k F).1.2.2 (bp P R H n false m k F).1.2.1 undef 0))=(true,some (.p r 0),some v,(bp P [] ({}:Hn P (λx=>x=X) (λx=>x=X)) n false m (po (bp P R H n false m k F).1.2.2 (bp P R H n false m k F).1.2.1) (qA (bp P R H n false m k F).1.2.2 (bp P R H n false m k F).1.2.1 undef 0)).2.map Prod.snd):=by intro _;kernel_rfl):Wg P S (bodyPost P fn Rs) n k F w:=by simp only [Prod.mk.injEq] at hx hy;obtain ⟨l,o,q,s,A,B⟩:=hx;refine cq f H m (az hr e i b) ?_ (hx:=by rw [l,o,q,s,A]) (he:=he);exact gu (R:=[]) trivial {} m (λa g=>⟨_,vq g c (hy _).2.1 (hy _).2.2.1 (setRow_heap _ _ _ _ _ _ hr) j hd e,h⟩) (hx:=by rw [B,(hy _).1]) (he:=(hy _).2.2.2)
theorem dD {z:Value} (h:(P.info? T).bind (·.zero)=some z) (w:World):(do pure (.value (<- Instr.alloc T true (.tuple #[]))):Sem Next).run P w=.ok (.value (.p w.heap.size 0)) (w.alloc (.cells z.cells T)):=by obtain ⟨i,a,b⟩:=Option.bind_eq_some_iff.1 h;simp [Instr.alloc,zeroValue,typeInfo,a,b,newVar,newRow]
theorem eQ {R:List Rw} {fn:Func} {Rs:Ending->World->Prop} (E:nZ o f d R p (bodyPost o fn Rs)) (H:Hn o f d) (m:Nat) {k:List KI} {F:Fr} {t s:Nat} {u:Value} (hS:d w) (h:∀ b,d b->Rs (.returned (.tuple #[v,u])) b) (hv:((bp o R H n p m k F).1.1,(lk (bp o R H n p m k F).1.2.2 t).map Prod.fst,(lk (bp o R H n p m k F).1.2.2 s).map Prod.fst)=(true,some v,some u):=by kernel_rfl) (he:(bp o R H n p m k F).2.map Prod.fst=(bp o R H n p m k F).2.map Prod.snd:=by kernel_rfl) (hr:fn.results=#[.tmp t,.tmp s]:=by rfl):Wg o f (bodyPost o fn Rs) n k F w:=by simp only [Prod.mk.injEq] at hv;exact lB E H m hS (hv:=hv.1) (he:=he) λb a J c=>⟨_,by rw [results_tmp2 hr,c.slot hv.2.1,c.slot hv.2.2],h b J⟩
def R1 (w:World) (g:Nat) (cs:Array Value) (t:TypeId) (W:World):Prop:=W.heap[g]?=some (.cells cs t (0,0))/\Bw w W
theorem R1.below (h:R1 w g B S a) (hb:Bw a t):R1 w g B S t:=⟨bq hb h.1,aa h.2 hb⟩
theorem R1.eng:nZ P (R1 w n B S) (R1 w n B S) [⟨n,B,[]⟩] true (bodyPost P fn Rs):=
 ⟨λ_ h=>h,λW h r a=>by rw [List.mem_singleton.1 a];exact ⟨_,_,h.1⟩,λ_ W h=>h.below (Below.refl _ _).drew,cH⟩
theorem R1.new (hb:Bw w a):R1 w a.heap.size B S ((a.alloc (.cells J S)).setRow a.heap.size B):=by exact ⟨setRow_heap _ _ _ _ _ _ (heap_alloc_new _ _),aR (hb.alloc hb.size _) hb.size _⟩
def R2 (w:World) (g:Nat) (cs:Array Value) (t:TypeId) (b:Nat) (a:Array Value) (t':TypeId) (W:World):Prop:=R1 w g cs t W/\W.heap[b]?=some (.cells a t' (0,0))
theorem R2.below {t':TypeId} (h:R2 w g B S b J t' a) (hb:Bw a t):R2 w g B S b J t' t:=⟨h.1.below hb,bq hb h.2⟩
theorem R2.eng {t':TypeId}:nZ P (R2 w n B S b J t') (R2 w n B S b J t') [⟨n,B,[]⟩,⟨b,J,[]⟩] true (bodyPost P fn Rs):=
 ⟨λ_ h=>h,λW h r c=>by rcases List.mem_cons.1 c with rfl | c;exact ⟨_,_,h.1.1⟩;rw [List.mem_singleton.1 c];exact ⟨_,_,h.2⟩,λ_ W h=>h.below (Below.refl _ _).drew,cH⟩
theorem jS {j:Nat} (h:w.heap[n]?=some (.cells B S (0,0))) (v:Value):(w.setCell ⟨n,j,none⟩ v).heap[n]?=some (.cells (B.set! j v) S (0,0)):=by have a:=(Array.getElem?_eq_some_iff.1 h).1;simp only [World.setCell];rw [Array.getElem?_modify];simp [h]
theorem bJ {i:Nat} (hr:w.heap[b]?=some (.cells B S (0,0))) (e:i<B.size) (c:(P.info? T).map (·.size)=some 1) (hv:v.cells=#[v]) (f:v.oneCell'=true:=by rfl): (do Instr.storeAt T (.p b i) v;pure Next.skip:Sem Next).run P w=.ok .skip (w.setCell ⟨b,i,none⟩ v):=by
 obtain ⟨S,h,g⟩:=Option.map_eq_some_iff.1 c;have d:w.cell? ⟨b,i,none⟩=some B[i]:=by simp [World.cell?,hr,e]
 have a:(store ⟨b,i,none⟩ v).run P w=.ok () (w.setCell ⟨b,i,none⟩ v):=by rw [run_store P w _ v _ f];simp [d,hO hr i]
 simp [Instr.storeAt,Instr.sureAddr,storeVar,sizeOf,typeInfo,h,g,hv,storeCells,Addr.add,Result.andThen,a]
end Go.Proofs.YtfagphfjfhpmjaaGreatDoor
