/- Own lemmas. -/
import Derived.Test.YtjifdmoehfbihaaGreatDoorAut
import Derived.Test.YtjifdmoehfbihaaGreatDoorK04
namespace Go.Proofs.YtjifdmoehfbihaaGreatDoor
open Go.RowKit
set_option linter.unusedVariables false
theorem gm {x:Bool} {p:Prop} (h:x=false) (hb:x=true):p:=by rw [h] at hb;cases hb
structure Rw where
 b:Nat
 cs:Array Value
 tg:List (Nat × Nat)
abbrev Fr:=List (Nat × Value × Nat)
def lk {α:Type}:List (Nat × α)->Nat->Option α
 | [],_=>none
 | (t,x)::F,s=>match Nat.beq t s with
   | true=>some x
   | false=>lk F s
def ev (F:Fr):Operand->Value
 | .tmp t=>match lk F t with
   | some x=>x.1
   | none=>undef
 | .const v=>v
 | .global g=>.p g 0
 | .func f=>.func (.func f) #[] #[]
def JW (F:Fr):Operand->Nat
 | .tmp t=>match lk F t with
   | some x=>x.2
   | none=>0
 | _=>0
def kn (F:Fr):Operand->Bool
 | .tmp t=>(lk F t).isSome
 | _=>true
structure bP (F:Fr) (n:Nat) (a:Act):Prop where
 size:a.tmps.size=n
 nod:a.defers=[]
 at_:∀ t x,lk F t=some x->a.tmps[t]?=some x.1
theorem bP.eval {F:Fr} {n:Nat} {a:Act} (h:bP F n a) {x:Operand} (hx:kn F x=true):a.eval x=ev F x:=by
 cases x with
 | tmp t =>simp only [kn,Option.isSome_iff_exists] at hx;obtain ⟨y,b⟩:=hx;have:=h.at_ t y b;simp [Act.eval,ev,b,Array.getD_eq_getD_getElem?,this]
 | const v=>rfl
 | global g=>rfl
 | func f=>rfl
theorem bP.put {F:Fr} {n:Nat} {a:Act} (h:bP F n a) {d:Nat} (hd:Nat.blt d n=true) (v:Value) (g:Nat):bP ((d,v,g)::F) n (a.put (some d) v):=by
 have i:d<n:=Nat.lt_of_succ_le (by simpa [Nat.blt] using hd);refine ⟨by simp [Act.put,h.size],h.nod,λt x f=>?_⟩;unfold lk at f;have j:=h.size;cases c:Nat.beq d t with
 | true =>rw [c] at f;have b:d=t:=Nat.eq_of_beq_eq_true c;subst b;cases f;simp [Act.put,j,i]
 | false =>
   rw [c] at f;have b:d≠t:=λe=>by rw [e,Nat.beq_refl] at c;cases c
   have:=h.at_ t x f;simp only [Act.put];rw [Array.getElem?_setIfInBounds_ne b];exact this
def wC {α:Type} (P:Program) (r:Option Rw):Sem α->Option (α × List (Addr × Addr))
 | .pure a=>some (a,[])
 | .load _ a k=>match r with
   | none=>none
   | some r=>match r.cs[a.off]? with
     | none=>none
     | some v=>match wC P (some r) (k v) with
       | none=>none
       | some x=>some (x.1,(a,⟨r.b,a.off,none⟩)::x.2)
 | .program k=>wC P r (k P)
 | .mark _ k=>wC P r k
 | _=>none
def o9 (r:Rw) (w:World):Prop:=∃ t a,w.heap[r.b]?=some (.cells r.cs t a)
theorem NQ {α:Type} {P:Program} {r:Option Rw} {w:World} (hr:∀ j,r=some j->o9 j w):∀ (s:Sem α) (x:α) (b:List (Addr × Addr)),wC P r s=some (x,b)->(∀ e ∈ b,e.1=e.2)->s.run P w=.ok x w:=by
 intro s;induction s with
 | pure a=>intro x b h _;simp only [wC,Option.some.injEq,Prod.mk.injEq] at h;rw [h.1];rfl
 | load m a k f =>
   intro x b h c;unfold wC at h;cases r with
   | none=>cases h
   | some r =>
     dsimp only at h;cases i:r.cs[a.off]? with
     | none=>rw [i] at h;cases h
     | some v =>
       rw [i] at h;dsimp only at h;cases g:wC P (some r) (k v) with
       | none=>rw [g] at h;cases h
       | some y =>rw [g] at h;simp only [Option.some.injEq,Prod.mk.injEq] at h;obtain ⟨l,n⟩:=h;subst n;have o:a=⟨r.b,a.off,none⟩:=c (a,⟨r.b,a.off,none⟩) cp;obtain ⟨t,q,d⟩:=hr r rfl;have p:w.cell? a=some v:=(by rw [o];simp only [World.cell?,d];simpa using i);have:=f v x y.2 (by rw [g,<- l]) (λe h=>c e (by simp [h]));simp only [Sem.run,p];exact this
 | program k f=>intro x b h c;exact f P x b h c
 | mark m k f=>intro x b h c;exact f x b h c
 | store=>intro x b h;cases h
 | new=>intro x b h;cases h
 | shape=>intro x b h;cases h
 | freeze=>intro x b h;cases h
 | frozen=>intro x b h;cases h
 | getObj=>intro x b h;cases h
 | setObj=>intro x b h;cases h
 | choose=>intro x b h;cases h
 | sys=>intro x b h;cases h
 | halt=>intro x b h;cases h
structure Ov (P:Program) (S:World->Prop) where
 s:Sem Next
 v:Value
 t:Nat
 h:∀ w,S w->s.run P w=.ok (.value v) w
structure Cv (P:Program) (S:World->Prop) where
 f:Nat
 args:Array Value
 v:Value
 t:Nat
 h:∀ w,S w->Calls P f args w λe w'=>e=.returned v/\S w'
structure Vq where
 u:Value
 v:Value
 t:Nat
 h:u=v
inductive Oe where
 | a (x:Addr)
 | v (x:Value)
 | s (x:Sem Next)
 | c (f:Nat) (args:Array Value)
def wn (a:Array Oper) (F:Fr) (o:Oper):Option Bool :=
 match o.guard with
 | none=>some true
 | some (j,want)=>match a[j]? with
   | none=>none
   | some c=>match c.dst with
     | none=>none
     | some d=>match lk F d with
       | none=>none
       | some x=>match x.1 with
         | .bool b=>some (b==want)
         | _=>some false
theorem kA {e:Array Oper} {F:Fr} {n:Nat} {a:Act} {o:Oper} {b:Bool} (h:bP F n a) (c:wn e F o=some b):Region.wanted o (yielded e a.tmps)=b:=by
 unfold wn at c;unfold Region.wanted;cases k:o.guard with
 | none=>rw [k] at c;simpa using c
 | some g =>
   obtain ⟨j,m⟩:=g;rw [k] at c;dsimp only at c ⊢;unfold yielded;cases l:e[j]? with
   | none=>rw [l] at c;cases c
   | some p =>
     rw [l] at c;dsimp only at c;cases f:p.dst with
     | none=>rw [f] at c;cases c
     | some d =>
       rw [f] at c;dsimp only at c;cases i:lk F d with
       | none=>rw [i] at c;cases c
       | some x =>rw [i] at c;dsimp only at c;have:=h.at_ d x i;simp only [Option.bind_some,f,this];obtain ⟨v,g⟩:=x;dsimp only at c ⊢;cases v<;>simp_all
def ut (R:List Rw) (F:Fr):Op->Option Rw
 | .load _ x=>match JW F x with
   | 0=>none
   | k+1=>R[k]?
 | _=>none
def SM (R:List Rw) (F:Fr):Op->Nat
 | .move x=>JW F x
 | .assign x=>JW F x
 | .nilCheck x=>JW F x
 | .fieldAddr _ x _=>JW F x
 | .pick c x y=>match ev F c with
   | .bool true=>JW F x
   | _=>JW F y
 | .load _ x=>match JW F x with
   | 0=>0
   | k+1=>match R[k]?,ev F x with
     | some r,.pointer (some p)=>(lk r.tg p.off).getD 0
     | _,_=>0
 | _=>0
def T8:Op->Bool
 | .alloc _ | .box _ _ | .build _ _ | .buildSlice _ _ _ | .insert _ _ _ _ | .store _ _ _ | .ready _ | .waits _ | .makeFunc _ _ _ | .makeMap _ _ | .makeChan _ _ | .makeSlice _ _ _
 | .mapUpdate _ _ _ _ | .mapEntry _ _ _ | .entryStore _ _ _ _ | .range _ _ | .next _ _ | .entry _ | .go _ | .defer _ | .panic _ | .send _ _ | .recv _ _ _ | .select _ _=>true
 | .call c=>match c.callee with
   | .builtin .len=>false
   | _=>true
 | _=>false
def Aq:Op->Bool
 | .select _ _=>false
 | _=>true
def pl (P:Program) (f:Nat):Bool:=match P.funcs[f]? with
 | some a=>match a.body with
   | some _=>!(a.name == "runtime.NumGoroutine")
   | none=>false
 | none=>false
theorem SO {P:Program} {f:Nat} (h:pl P f=true) (args:Array Value) (w:World):(callFunc f args).run P w=.ok (.enter f args) w:=by
 unfold pl at h;cases b:P.funcs[f]? with
 | none=>rw [b] at h;cases h
 | some d =>
   rw [b] at h;dsimp only at h;cases a:d.body with
   | none=>rw [a] at h;cases h
   | some c =>rw [a] at h;have e:d.name≠ "runtime.NumGoroutine":=ej;simp [callFunc,b,e,a,mark]
def JX (P:Program) {S:World->Prop} (R:List Rw) (ov:List (Nat × Ov P S)) (eq:List (Nat × Vq)) (F:Fr) (o:Oper):Option (Value × Nat × List (Oe × Oe)):=
 match o.op.operands.all (kn F)&&Aq o.op with
 | false=>none
 | true=>match o.dst.bind (lk ov) with
   | some e=>some (e.v,e.t,[(.s (execOp (ev F) o),.s e.s)])
   | none=>match wC P (ut R F o.op) (execOp (ev F) o) with
     | some (.value v,es)=>match o.dst.bind (lk eq) with
       | some e=>some (e.v,e.t,(.v v,.v e.u)::es.map λe=>(.a e.1,.a e.2))
       | none=>some (v,SM R F o.op,es.map λe=>(.a e.1,.a e.2))
     | _=>none
theorem C9 {P:Program} {S:World->Prop} {R:List Rw} {ov:List (Nat × Ov P S)} {eq:List (Nat × Vq)} {F:Fr} {n:Nat} {a:Act} {o:Oper} {v:Value} {t:Nat} {es:List (Oe × Oe)} (hk:bP F n a) (h:JX P R ov eq F o=some (v,t,es)) (he:∀ e ∈ es,e.1=e.2) (E:∀ w,S w->∀ r ∈ R,o9 r w):(∀ w,S w->(execOp a.eval o).run P w=.ok (.value v) w)/\∀ m b,o.op≠.select m b:=by
 unfold JX at h;cases j:o.op.operands.all (kn F)&&Aq o.op with
 | false=>rw [j] at h;cases h
 | true =>
   rw [j] at h;dsimp only at h;rw [Bool.and_eq_true] at j;have C:∀ m b,o.op≠.select m b:=λm b e=>by have:=j.2;rw [e] at this;cases this
   have p:execOp a.eval o=execOp (ev F) o:=execOp_congr o C λx G=>hk.eval (Array.all_eq_true_iff_forall_mem.1 j.1 x G);refine ⟨λw B=>?_,C⟩;rw [p];cases l:o.dst.bind (lk ov) with
   | some e =>rw [l] at h;simp only [Option.some.injEq,Prod.mk.injEq] at h;obtain ⟨g,A,i⟩:=h;subst i;have:=he (.s (execOp (ev F) o),.s e.s) cp;simp only [Oe.s.injEq] at this;rw [this,<- g];exact e.h w B
   | none =>
     rw [l] at h;dsimp only at h;cases z:wC P (ut R F o.op) (execOp (ev F) o) with
     | none=>rw [z] at h;cases h
     | some y =>
       obtain ⟨H,f⟩:=y;rw [z] at h;cases H with
       | value u =>
         dsimp only at h;have key:(∀ e ∈ f,e.1=e.2)->Sem.run P (execOp (ev F) o) w=.ok (.value u) w:=λq=>by
          refine NQ (λI d=>?_) _ _ f z q;refine E w B I ?_;unfold ut at d;split at d
          ·split at d;·cases d
           ·exact List.mem_of_getElem? d
          ·cases d
         cases k:o.dst.bind (lk eq) with
         | some e =>rw [k] at h;simp only [Option.some.injEq,Prod.mk.injEq] at h;obtain ⟨g,A,i⟩:=h;subst i;have D:=he (.v u,.v e.u) cp;simp only [Oe.v.injEq] at D;rw [key λc s=>by have:=he (.a c.1,.a c.2) (by simp only [List.mem_cons,List.mem_map];exact .inr ⟨c,s,rfl⟩);simpa using this,<- g,<- e.h,D]
         | none =>rw [k] at h;simp only [Option.some.injEq,Prod.mk.injEq] at h;obtain ⟨g,A,i⟩:=h;subst i;rw [key λc s=>by have:=he (.a c.1,.a c.2) (List.mem_map.2 ⟨c,s,rfl⟩);simpa using this,<- g]
       | _=>cases h
def rf (P:Program) (F:Fr) (o:Oper):Option (Nat × Array Value):=
 match o.op.operands.all (kn F) with
 | false=>none
 | true=>match o.op with
   | .call c=>match c.callee with
     | .value x=>match ev F x with
       | .func (.func f) first cap=>match pl P f with
         | true=>some (f,first++c.args.map (ev F)++cap)
         | false=>none
       | _=>none
     | _=>none
   | _=>none
theorem rg {P:Program} {F:Fr} {n:Nat} {a:Act} {o:Oper} {f:Nat} {args:Array Value} (hk:bP F n a) (h:rf P F o=some (f,args)) (w:World):(execOp a.eval o).run P w=.ok (.enter f args) w:=by
 unfold rf at h;cases k:o.op.operands.all (kn F) with
 | false=>rw [k] at h;cases h
 | true =>
   rw [k] at h;dsimp only at h;cases d:o.op with
   | call c =>
     have s:∀ p b,o.op≠.select p b:=λp b e=>by rw [d] at e;cases e
     have l:execOp a.eval o=execOp (ev F) o:=execOp_congr o s λx j=>hk.eval (Array.all_eq_true_iff_forall_mem.1 k x j);rw [l];rw [d] at h;dsimp only at h;cases i:c.callee with
     | value x =>
       rw [i] at h;dsimp only at h;cases j:ev F x with
       | func r g cap =>
         rw [j] at h;cases r with
         | func q =>
           dsimp only at h;cases m:pl P q with
           | false=>rw [m] at h;cases h
           | true =>
             rw [m] at h;simp only [Option.some.injEq,Prod.mk.injEq] at h;obtain ⟨rfl,rfl⟩:=h;have:execOp (ev F) o=callFunc q (g++c.args.map (ev F)++cap):=by unfold execOp;rw [d];simp only [resolve,i,j,Deferred.ofValue];rfl
             rw [this];exact SO m _ _
         | _=>cases h
       | _=>rw [j] at h;cases h
     | _=>rw [i] at h;cases h
   | _=>rw [d] at h;cases h
inductive KI where
 | code (c:Go.Code)
 | blk (id:Nat)
 | ops (all:Array Oper) (rest:List Oper)
 | sq (all:Array Oper) (fuel:Nat) (listed:Array Bool)
 | fin (R:Act->World->Prop)
 | sk (all:Array Oper) (kk:Nat) (fuel:Nat) (listed:Array Bool)
 | sw (all:Array Oper) (fuel:Nat) (listed:Array Bool)
def iD (P:Program) (S:World->Prop) (Q:Exit->Act->World->Prop):List KI->Exit->Act->World->Prop
 | []=>Q
 | .code c::k=>Exit.then (λa w=>c.wp P (iD P S Q k) a w) (iD P S Q k)
 | .ops all rest::k=>Exit.then (wpList P all (iD P S Q k) rest) (iD P S Q k)
 | .blk id::k=>Exit.inBlock id (iD P S Q k)
 | .sq all fuel listed::k=>Exit.then (wpAnyH P .any all (iD P S Q k) S fuel listed) (iD P S Q k)
 | .fin R::k=>Exit.then R (iD P S Q k)
 | .sk all kk fuel listed::k=>Exit.then (gY P .any all (iD P S Q k) S kk fuel listed) (iD P S Q k)
 | .sw all fuel listed::k=>Exit.then (wpAny P .any all (iD P S Q k) fuel listed) (iD P S Q k)
theorem mu {P:Program} {S:World->Prop} {Q:Exit->Act->World->Prop} {c:List PanicEntry} {a:Act} {w:World}:∀ k:List KI,iD P S Q k (.panic c) a w=Q (.panic c) a w
 | []=>rfl
 | .code _::k | .ops _ _::k | .blk _::k | .sq _ _ _::k | .fin _::k | .sk _ _ _ _::k | .sw _ _ _::k=>mu k
theorem yE {P:Program} {S:World->Prop} {Q:Exit->Act->World->Prop} {a:Act} {w:World}:∀ k:List KI,iD P S Q k .ret a w=Q .ret a w
 | []=>rfl
 | .code _::k | .ops _ _::k | .blk _::k | .sq _ _ _::k | .fin _::k | .sk _ _ _ _::k | .sw _ _ _::k=>yE k
def pd (id:Nat):List KI->Option (List KI)
 | []=>none
 | .blk i::k=>match Nat.beq id i with
   | true=>some k
   | false=>pd id k
 | .code _::k=>pd id k
 | .ops _ _::k=>pd id k
 | .sq _ _ _::k=>pd id k
 | .fin _::k=>pd id k
 | .sk _ _ _ _::k=>pd id k
 | .sw _ _ _::k=>pd id k
theorem j6 {P:Program} {S:World->Prop} {Q:Exit->Act->World->Prop} {id:Nat} {a:Act} {w:World}:∀ {k b:List KI},pd id k=some b->iD P S Q b .normal a w->iD P S Q k (.exit id) a w
 | [],_,h,_=>l0
 | .blk i::k,b,h,hd=>by
   unfold pd at h
   show Exit.inBlock i (iD P S Q k) (.exit id) a w
   unfold Exit.inBlock
   cases c:Nat.beq id i with
   | true =>
     rw [c] at h
     cases h
     have:id=i:=Nat.eq_of_beq_eq_true c
     simp only [this,if_true]
     exact hd
   | false =>
     rw [c] at h
     have:id≠i:=λe=>by rw [e,Nat.beq_refl] at c;cases c
     simp only [this,if_false]
     exact j6 (k:=k) h hd
 | .code _::k,b,h,hd=>j6 (k:=k) h hd
 | .ops _ _::k,b,h,hd=>j6 (k:=k) h hd
 | .sq _ _ _::k,b,h,hd=>j6 (k:=k) h hd
 | .fin _::k,b,h,hd=>j6 (k:=k) h hd
 | .sk _ _ _ _::k,b,h,hd=>j6 (k:=k) h hd
 | .sw _ _ _::k,b,h,hd=>j6 (k:=k) h hd
structure Hn (P:Program) (S J:World->Prop) where
 eq:List (Nat × Vq):=[]
 ov:List (Nat × Ov P S):=[]
 cv:List (Nat × Cv P J):=[]
def rh (n:Nat) (F:Fr) (v:Value) (t:Nat):Option Nat->Option Fr
 | none=>some F
 | some d=>match Nat.blt d n with
   | true=>some ((d,v,t)::F)
   | false=>none
theorem jR {n:Nat} {F c:Fr} {v:Value} {t:Nat} {d:Option Nat} {a:Act} (h:rh n F v t d=some c) (hk:bP F n a):bP c n (a.put d v):=by
 cases d with
 | none=>cases h;exact hk
 | some d =>
   dsimp only [rh] at h;cases b:Nat.blt d n with
   | false=>rw [b] at h;cases h
   | true=>rw [b] at h;cases h;exact hk.put b v t
def qv (P:Program) {S J:World->Prop} (R:List Rw) (H:Hn P S J) (all:Array Oper) (F:Fr) (o:Oper):Option (Value × Nat × List (Oe × Oe)):=
 match wn all F o with
 | none=>none
 | some false=>some (undef,0,[])
 | some true=>JX P R H.ov H.eq F o
theorem JY {P:Program} {S J:World->Prop} {R:List Rw} {H:Hn P S J} {all:Array Oper} {F:Fr} {n:Nat} {a:Act} {o:Oper} {v:Value} {t:Nat} {es:List (Oe × Oe)} (hk:bP F n a) (h:qv P R H all F o=some (v,t,es)) (he:∀ e ∈ es,e.1=e.2) (d:∀ w,S w->∀ r ∈ R,o9 r w):YieldsIf P all S o v a:=by
 unfold qv at h;cases c:wn all F o with
 | none=>rw [c] at h;cases h
 | some b =>
   rw [c] at h;cases b with
   | false=>simp only [Option.some.injEq,Prod.mk.injEq] at h;exact .inr ⟨kA hk c,h.1.symm⟩
   | true=>exact .inl ⟨kA hk c,(C9 hk h he d).1⟩
def JZ (P:Program) {S J:World->Prop} (R:List Rw) (H:Hn P S J) (n:Nat) (all:Array Oper) (F:Fr) (o:Oper):Option (Fr × List (Oe × Oe)):=
 match qv P R H all F o with
 | some (v,t,es)=>match rh n F v t o.dst with
   | some a=>some (a,es)
   | none=>none
 | none=>match wn all F o,rf P F o,o.dst.bind (lk H.cv) with
   | some true,some (f,args),some e=>match rh n F e.v e.t o.dst with
     | some a=>some (a,[(.c f args,.c e.f e.args)])
     | none=>none
   | _,_,_=>none
theorem Fg {P:Program} {S J:World->Prop} {R:List Rw} {H:Hn P S J} {n:Nat} {all:Array Oper} {F q:Fr} {a:Act} {w:World} {o:Oper} {es:List (Oe × Oe)} {K:Act->World->Prop} {Q:Exit->Act->World->Prop} (hk:bP F n a) (hS:J w) (B:∀ w,J w->S w) (h:JZ P R H n all F o=some (q,es)) (he:∀ e ∈ es,e.1=e.2) (C:∀ w,S w->∀ r ∈ R,o9 r w) (j:∀ a w,bP q n a->J w->K a w):if Region.wanted o (yielded all a.tmps)=true then o.wp P a w K Q else K (a.put o.dst undef) w:=by
 unfold JZ at h;cases m:qv P R H all F o with
 | some y =>
   obtain ⟨v,t,z⟩:=y;rw [m] at h;dsimp only at h;cases c:rh n F v t o.dst with
   | none=>rw [c] at h;cases h
   | some u =>
     rw [c] at h;simp only [Option.some.injEq,Prod.mk.injEq] at h;obtain ⟨rfl,rfl⟩:=h;rcases JY hk m he C with ⟨g,i⟩|⟨g,i⟩;·rw [if_pos g];show o.upon P a K Q _;rw [i w (B w hS)];exact j _ _ (jR c hk) hS
     ·subst i;rw [g,if_neg bb];exact j _ _ (jR c hk) hS
 | none =>
   rw [m] at h;dsimp only at h;cases p:wn all F o with
   | none=>rw [p] at h;cases h
   | some b =>
     rw [p] at h;cases b with
     | false=>cases h
     | true =>
       cases l:rf P F o with
       | none=>rw [l] at h;cases h
       | some A =>
         obtain ⟨f,args⟩:=A;rw [l] at h;cases s:o.dst.bind (lk H.cv) with
         | none=>rw [s] at h;cases h
         | some e =>
           rw [s] at h;dsimp only at h;cases c:rh n F e.v e.t o.dst with
           | none=>rw [c] at h;cases h
           | some u =>rw [c] at h;simp only [Option.some.injEq,Prod.mk.injEq] at h;obtain ⟨rfl,rfl⟩:=h;have d:=he (.c f args,.c e.f e.args) cp;simp only [Oe.c.injEq] at d;rw [if_pos (kA hk p)];show o.upon P a K Q _;rw [rg hk l w,d.1,d.2];refine (e.h w hS).mono λx E D=>?_;obtain ⟨rfl,k⟩:=D;exact j _ _ (jR c hk) k
inductive Sr where
 | go (k:List KI) (F:Fr) (es:List (Oe × Oe))
 | ret
 | stop
def pM (all:Array Oper) (listed:Array Bool):List Nat->Option Nat
 | []=>none
 | i::is=>match (match all[i]? with | some o=>!T8 o.op | none=>false)&&Region.free .any all listed i with
   | true=>some i
   | false=>pM all listed is
theorem nN {all:Array Oper} {listed:Array Bool} {i:Nat}:∀ {l:List Nat},pM all listed l=some i->i ∈ l/\Region.free .any all listed i=true
 | [],h=>l0
 | j::is,h=>by
   unfold pM at h
   split at h
   ·rename_i a
    rw [Bool.and_eq_true] at a
    cases h
    exact ⟨cp,a.2⟩
   ·have:=nN (l:=is) h
    exact ⟨by simp [this.1],this.2⟩
def yF (P:Program) {S J:World->Prop} (R:List Rw) (H:Hn P S J) (n:Nat) (all:Array Oper) (fuel:Nat) (listed:Array Bool) (k:List KI) (F:Fr):Sr :=
 match Region.noSelect all with
 | false=>.stop
 | true=>match Region.ready .any all listed with
   | []=>.go k F []
   | i::is=>match fuel with
     | 0=>.stop
     | fuel+1=>match pM all listed (i::is) with
       | some j=>match all[j]? with
         | none=>.stop
         | some o=>match qv P R H all F o with
           | none=>.stop
           | some (v,t,es)=>match rh n F v t o.dst with
             | none=>.stop
             | some a=>.go (.sq all fuel (listed.setIfInBounds j true)::k) a es
       | none=>match is with
         | []=>match all[i]? with
           | none=>.stop
           | some o=>match JZ P R H n all F o with
             | none=>.stop
             | some (a,es)=>.go (.sq all fuel (listed.setIfInBounds i true)::k) a es
         | _::_=>.stop
def Fh {P:Program} {S J:World->Prop} (H:Hn P S J) (all:Array Oper) (F:Fr) (o:Oper):Bool:=match wn all F o with
 | some false=>true
 | _=>(match o.dst.bind (lk H.ov) with | some _=>false | none=>true)&&(match o.op with | .load _ _=>false | _=>true)
theorem Fi {P:Program} {S J:World->Prop} {R:List Rw} {H:Hn P S J} {all:Array Oper} {F:Fr} {n:Nat} {a:Act} {o:Oper} {v:Value} {t:Nat} {es:List (Oe × Oe)} (hk:bP F n a) (h:qv P R H all F o=some (v,t,es)) (he:∀ e ∈ es,e.1=e.2) (c:Fh H all F o=true):Yields P all o v a:=by
 unfold qv at h;unfold Fh at c;cases d:wn all F o with
 | none=>rw [d] at h;cases h
 | some b =>
   rw [d] at h c;cases b with
   | false=>simp only [Option.some.injEq,Prod.mk.injEq] at h;exact .inr ⟨kA hk d,h.1.symm⟩
   | true =>
     dsimp only at h c;rw [Bool.and_eq_true] at c;have l:o.dst.bind (lk H.ov)=none:=by
      cases s:o.dst.bind (lk H.ov) with
      | none=>rfl
      | some x=>rw [s] at c;cases c.1
     have m:ut R F o.op=none:=by have g:=c.2;unfold ut;cases f:o.op<;>first | rfl | (rw [f] at g;cases g)
     have key:JX P [] ([]:List (Nat × Ov P (λ_=>True))) H.eq F o=some (v,(JX P [] ([]:List (Nat × Ov P (λ_=>True))) H.eq F o).elim t (·.2.1),es):=by
      unfold JX at h ⊢;rw [l,m] at h;have p:ut [] F o.op=none:=by unfold ut;split<;>first | rfl | (split<;>rfl)
      have q:o.dst.bind (lk ([]:List (Nat × Ov P (λ_=>True))))=none:=(by cases o.dst<;>rfl);rw [p,q];cases i:o.op.operands.all (kn F)&&Aq o.op with
      | false=>rw [i] at h;cases h
      | true =>
        rw [i] at h;dsimp only at h ⊢;cases j:wC P none (execOp (ev F) o) with
        | none=>rw [j] at h;cases h
        | some y =>
          rw [j] at h;obtain ⟨A,k⟩:=y;cases A with
          | value u =>
            dsimp only at h ⊢;cases he:o.dst.bind (lk H.eq) with
            | none=>rw [he] at h;simp only [Option.some.injEq,Prod.mk.injEq] at h;rw [h.1,h.2.2];rfl
            | some e=>rw [he] at h;simp only [Option.some.injEq,Prod.mk.injEq] at h;rw [<- h.1,<- h.2.2];rfl
          | _=>cases h
     exact .inl ⟨kA hk d,λw=>(C9 (S:=λ_=>True) hk key he (λ_ _ r z=>by cases z)).1 w trivial⟩
def yG (P:Program) {S J:World->Prop} (R:List Rw) (H:Hn P S J) (n:Nat) (all:Array Oper) (kk fuel:Nat) (listed:Array Bool) (k:List KI) (F:Fr):Sr :=
 match Region.noSelect all with
 | false=>.stop
 | true=>match fuel with
   | 0=>.stop
   | fuel+1=>match pM all listed (Region.ready .any all listed) with
     | none=>.stop
     | some j=>match Nat.beq j kk,all[j]? with
       | false,some o=>match qv P R H all F o with
         | none=>.stop
         | some (v,t,es)=>match Fh H all F o||(qZ .any all j 6 kk&&tG .any all listed),rh n F v t o.dst with
           | true,some F'=>.go (.sk all kk fuel (listed.setIfInBounds j true)::k) F' es
           | _,_=>.stop
       | _,_=>.stop
def yH (P:Program) {S J:World->Prop} (R:List Rw) (H:Hn P S J) (n:Nat) (all:Array Oper) (fuel:Nat) (listed:Array Bool) (k:List KI) (F:Fr):Sr :=
 match Region.noSelect all with
 | false=>.stop
 | true=>match Region.ready .any all listed with
   | []=>.go k F []
   | i::is=>match fuel with
     | 0=>.stop
     | fuel+1=>match pM all listed (i::is) with
       | none=>.stop
       | some j=>match all[j]? with
         | none=>.stop
         | some o=>match qv P R H all F o with
           | none=>.stop
           | some (v,t,es)=>match Fh H all F o,rh n F v t o.dst with
             | true,some F'=>.go (.sw all fuel (listed.setIfInBounds j true)::k) F' es
             | _,_=>.stop
def iE (P:Program) (dr:Bool) (k:List KI) (F:Fr):Go.Code->Sr
 | .skip=>.go k F []
 | .seq x y=>.go (.code x::.code y::k) F []
 | .cond c x y=>match kn F c with
   | false=>.stop
   | true=>match ev F c with
     | .bool true=>.go (.code x::k) F []
     | .bool false=>.go (.code y::k) F []
     | _=>.stop
 | .block id c=>.go (.code c::.blk id::k) F []
 | .exit id=>match pd id k with
   | some b=>.go b F []
   | none=>.stop
 | .ret=>.ret
 | .region _ a false=>.go (.ops a a.toList::k) F []
 | .region _ a true=>match dr&&P.follows .mixedOrders with
   | true=>.go (.sq a a.size (Array.replicate a.size false)::k) F []
   | false=>.stop
 | _=>.stop
def SP (P:Program) {S J:World->Prop} (R:List Rw) (H:Hn P S J) (n:Nat) (dr:Bool) (k:List KI) (F:Fr):Sr :=
 match k with
 | []=>.stop
 | .blk _::k=>.go k F []
 | .fin _::_=>.stop
 | .ops _ []::k=>.go k F []
 | .ops all (o::rest)::k=>match JZ P R H n all F o with
   | some (F',es)=>.go (.ops all rest::k) F' es
   | none=>.stop
 | .sq all fuel listed::k=>yF P R H n all fuel listed k F
 | .sk all kk fuel listed::k=>yG P R H n all kk fuel listed k F
 | .sw all fuel listed::k=>yH P R H n all fuel listed k F
 | .code c::k=>iE P dr k F c
structure nE (P:Program) (S J:World->Prop) (R:List Rw) (dr:Bool) (Q:Exit->Act->World->Prop):Prop where
 sub:∀ w,J w->S w
 rows:∀ w,S w->∀ r ∈ R,o9 r w
 drew:dr=true->∀ w,J w->J w.drew
 pan:∀ c a d v w,Q (.panic c) (Act.put a d v) w->Q (.panic c) a w
section
variable {P : Program} {S J : World -> Prop} {R : List Rw} {H : Hn P S J} {n : Nat} {dr : Bool} {Q : Exit -> Act -> World -> Prop}
theorem Ho (E:nE P S J R dr Q) {all:Array Oper} {fuel:Nat} {listed:Array Bool} {k C:List KI} {F x:Fr} {es:List (Oe × Oe)} (h:yF P R H n all fuel listed k F=.go C x es) (he:∀ e ∈ es,e.1=e.2) (b:∀ a w,bP x n a->J w->iD P S Q C .normal a w) (a:Act) (w:World) (hk:bP F n a) (hS:J w):wpAnyH P .any all (iD P S Q k) S fuel listed a w:=by
 unfold yF at h;cases d:Region.noSelect all with
 | false=>rw [d] at h;cases h
 | true =>
   rw [d] at h;dsimp only at h;cases l:Region.ready .any all listed with
   | nil =>rw [l] at h;cases h;exact wpAnyH_done l (b a w hk hS) fuel
   | cons i is =>
     rw [l] at h;dsimp only at h;cases fuel with
     | zero=>cases h
     | succ fuel =>
       dsimp only at h;cases s:pM all listed (i::is) with
       | some j =>
         rw [s] at h;dsimp only at h;cases f:all[j]? with
         | none=>rw [f] at h;cases h
         | some o =>
           rw [f] at h;dsimp only at h;cases u:qv P R H all F o with
           | none=>rw [u] at h;cases h
           | some y =>
             obtain ⟨v,t,m⟩:=y;rw [u] at h;dsimp only at h;cases q:rh n F v t o.dst with
             | none=>rw [q] at h;cases h
             | some G =>rw [q] at h;simp only [Sr.go.injEq] at h;obtain ⟨rfl,rfl,rfl⟩:=h;have g:=nN s;refine wpAnyH_take f d g.2 (by rw [l];simpa using g.1) (λc a w B=>?_) (JY hk u he E.rows) (E.sub _ hS) (b _ _ (jR q hk) hS);rw [mu] at B ⊢;exact E.pan c a _ _ w B
       | none =>
         rw [s] at h;cases is with
         | cons _ _=>cases h
         | nil =>
           dsimp only at h;cases r:all[i]? with
           | none=>rw [r] at h;cases h
           | some o =>
             rw [r] at h;dsimp only at h;cases p:JZ P R H n all F o with
             | none=>rw [p] at h;cases h
             | some y =>obtain ⟨G,m⟩:=y;rw [p] at h;simp only [Sr.go.injEq] at h;obtain ⟨rfl,rfl,rfl⟩:=h;refine wpAnyH_all l cp λj f=>?_;rw [List.mem_singleton] at f;subst f;refine wpOp_step r λL K=>?_;exact Fg hk hS E.sub p he E.rows λz D I A=>K z D ⟨E.sub _ A,b z D I A⟩
theorem Hp (E:nE P S J R dr Q) {all:Array Oper} {kk fuel:Nat} {listed:Array Bool} {k z:List KI} {F m:Fr} {es:List (Oe × Oe)} (h:yG P R H n all kk fuel listed k F=.go z m es) (he:∀ e ∈ es,e.1=e.2) (b:∀ a w,bP m n a->J w->iD P S Q z .normal a w) (a:Act) (w:World) (hk:bP F n a) (hS:J w):gY P .any all (iD P S Q k) S kk fuel listed a w:=by
 unfold yG at h;split at h;·cases h
 ·rename_i i;split at h;·cases h
  ·rename_i fuel;split at h;·cases h
   ·rename_i j B;split at h
    ·rename_i o q u;split at h;·cases h
     ·rename_i v t A x;split at h
      ·rename_i C d r;simp only [Sr.go.injEq] at h;obtain ⟨rfl,rfl,rfl⟩:=h;have f:=nN B;have g:j≠kk:=λe=>by rw [e,Nat.beq_refl] at q;cases q
       have p:∀ c a w,iD P S Q k (.panic c) (a.put o.dst v) w->iD P S Q k (.panic c) a w:=λc a w s=>by rw [mu] at s ⊢;exact E.pan c a _ _ w s
       have y:(Region.ready .any all listed).contains j=true:=(by simpa using f.1);rcases Bool.or_eq_true _ _ ▸ d with l|l;·exact yD u i f.2 y g p (Fi hk x he l) (E.sub _ hS) (b _ _ (jR r hk) hS)
       ·rw [Bool.and_eq_true] at l;exact yC u i f.2 y g l.1 l.2 p (JY hk x he E.rows) (E.sub _ hS) (b _ _ (jR r hk) hS)
      ·cases h
    ·cases h
theorem Hq (E:nE P S J R dr Q) {all:Array Oper} {fuel:Nat} {listed:Array Bool} {k p:List KI} {F l:Fr} {es:List (Oe × Oe)} (h:yH P R H n all fuel listed k F=.go p l es) (he:∀ e ∈ es,e.1=e.2) (b:∀ a w,bP l n a->J w->iD P S Q p .normal a w) (a:Act) (w:World) (hk:bP F n a) (hS:J w):wpAny P .any all (iD P S Q k) fuel listed a w:=by
 unfold yH at h;split at h;·cases h
 ·rename_i f;split at h;·rename_i g;cases h;exact wpAny_done g (b a w hk hS) fuel
  ·rename_i i is g;split at h;·cases h
   ·rename_i fuel;split at h;·cases h
    ·rename_i j u;split at h;·cases h
     ·rename_i o s;split at h;·cases h
      ·rename_i v t q x;split at h;·rename_i z y r;simp only [Sr.go.injEq] at h;obtain ⟨rfl,rfl,rfl⟩:=h;have d:=nN u;refine wpAny_take s f d.2 (by rw [g];simpa using d.1) (λc a w m=>?_) (Fi hk x he y) (b _ _ (jR r hk) hS);rw [mu] at m ⊢;exact E.pan c a _ _ w m
       ·cases h
theorem se (E:nE P S J R dr Q) {c:Go.Code} {k i:List KI} {F g:Fr} {es:List (Oe × Oe)} (h:iE P dr k F c=.go i g es) (b:∀ a w,bP g n a->J w->iD P S Q i .normal a w) (a:Act) (w:World) (hk:bP F n a) (hS:J w):c.wp P (iD P S Q k) a w:=by
 unfold iE at h;split at h;·cases h;exact wp_skip (b a w hk hS)
 ·cases h;exact wp_seq (b a w hk hS)
 ·split at h;·cases h
  ·rename_i e;split at h;·rename_i d;cases h;exact wp_cond_true ((hk.eval e).trans d) (b a w hk hS)
   ·rename_i d;cases h;exact wp_cond_false ((hk.eval e).trans d) (b a w hk hS)
   ·cases h
 ·cases h;exact wp_block (b a w hk hS)
 ·split at h;·rename_i j;cases h;exact wp_exit (j6 j (b a w hk hS))
  ·cases h
 ·cases h
 ·cases h;exact wp_region_list (b a w hk hS)
 ·split at h;·rename_i f;rw [Bool.and_eq_true] at f;cases h;exact wp_region_held f.2 (b a w.drew hk (E.drew f.1 w hS))
  ·cases h
 ·cases h
theorem QR (E:nE P S J R dr Q) {k f:List KI} {F c:Fr} {es:List (Oe × Oe)} (h:SP P R H n dr k F=.go f c es) (he:∀ e ∈ es,e.1=e.2) (b:∀ a w,bP c n a->J w->iD P S Q f .normal a w) (a:Act) (w:World) (hk:bP F n a) (hS:J w):iD P S Q k .normal a w:=by
 unfold SP at h;split at h;·cases h
 ·cases h;exact b a w hk hS
 ·cases h
 ·cases h;exact b a w hk hS
 ·split at h;·rename_i m;cases h;show wpList P _ _ (_::_) a w;exact wpList_step λK l=>Fg hk hS E.sub m he E.rows λd g i j=>l d g (b d g i j)
  ·cases h
 ·exact Ho E h he b a w hk hS
 ·exact Hp E h he b a w hk hS
 ·exact Hq E h he b a w hk hS
 ·exact se E h b a w hk hS
def be (P:Program) {S J:World->Prop} (R:List Rw) (H:Hn P S J) (n:Nat) (dr:Bool):Nat->List KI->Fr->(Bool × List KI × Fr) × List (Oe × Oe)
 | 0,k,F=>((false,k,F),[])
 | m+1,k,F=>match SP P R H n dr k F with
   | .stop=>((false,k,F),[])
   | .ret=>((true,k,F),[])
   | .go c a b=>match be P R H n dr m c a with
     | (r,es')=>(r,b++es')
theorem yI (E:nE P S J R dr Q):∀ (m:Nat) (k:List KI) (F:Fr),(∀ e ∈ (be P R H n dr m k F).2,e.1=e.2) ->
 (∀ a w,bP (be P R H n dr m k F).1.2.2 n a->J w->if (be P R H n dr m k F).1.1=true then Q .ret a w else iD P S Q (be P R H n dr m k F).1.2.1 .normal a w)->∀ a w,bP F n a->J w->iD P S Q k .normal a w
 | 0,k,F,_,hf,a,w,hk,hS=>by simpa [be] using hf a w hk hS
 | m+1,k,F,he,hf,a,w,hk,hS=>by
   cases d:SP P R H n dr k F with
   | stop =>
     have e:be P R H n dr (m+1) k F=((false,k,F),[]):=by simp only [be,d]
     rw [e] at hf
     simpa using hf a w hk hS
   | ret =>
     have e:be P R H n dr (m+1) k F=((true,k,F),[]):=by simp only [be,d]
     rw [e] at hf
     have l:Q .ret a w:=by simpa using hf a w hk hS
     unfold SP at d
     split at d
     ·cases d
     ·cases d
     ·cases d
     ·cases d
     ·split at d<;>cases d
     ·unfold yF at d
      repeat (split at d<;>try cases d)
     ·unfold yG at d
      repeat (split at d<;>try cases d)
     ·unfold yH at d
      repeat (split at d<;>try cases d)
     ·rename_i c f
      cases c with
      | ret=>exact wp_ret (by rw [yE];exact l)
      | region i o b=>cases b<;>simp only [iE] at d<;>(try split at d)<;>cases d
      | cond=>simp only [iE] at d;repeat (split at d<;>try cases d)
      | exit=>simp only [iE] at d;split at d<;>cases d
      | _=>cases d
   | go f g j =>
     have e:be P R H n dr (m+1) k F=((be P R H n dr m f g).1,j++(be P R H n dr m f g).2):=by simp only [be,d]
     rw [e] at he hf
     exact QR E d (λx h=>he x (by simp [h])) (yI E m f g (λx h=>he x (by simp [h])) hf) a w hk hS
def Wg (P:Program) (S:World->Prop) (Q:Exit->Act->World->Prop) (n:Nat) (k:List KI) (F:Fr) (w:World):Prop:=∀ a,bP F n a->iD P S Q k .normal a w
theorem ae (E:nE P S J R dr Q) (H:Hn P S J) (m:Nat) {k:List KI} {F:Fr} {w:World} (hS:J w)
 (h:∀ b,J b->Wg P S Q n (be P R H n dr m k F).1.2.1 (be P R H n dr m k F).1.2.2 b) (hret:(be P R H n dr m k F).1.1=false:=by kernel_rfl) (he:(be P R H n dr m k F).2.map Prod.fst=(be P R H n dr m k F).2.map Prod.snd:=by kernel_rfl):Wg P S Q n k F w:=λa d =>
 yI E m k F (λe f=>List.map_inj_left.1 he e f) (λa w c g=>by rw [hret,if_neg bb];exact h w g a c) a w d hS
theorem aY {fn:Func} {Rs:Ending->World->Prop} (E:nE P S J R dr (bodyPost P fn Rs)) (H:Hn P S J) (m:Nat) {k:List KI} {F:Fr} {w:World} {t:Nat} {v:Value} (hS:J w)
 (h:∀ f,J f->Rs (.returned v) f) (hv:((be P R H n dr m k F).1.1,(lk (be P R H n dr m k F).1.2.2 t).map Prod.fst)=(true,some v):=by kernel_rfl) (he:(be P R H n dr m k F).2.map Prod.fst=(be P R H n dr m k F).2.map Prod.snd:=by kernel_rfl) (hr:fn.results=#[.tmp t]:=by rfl):Wg P S (bodyPost P fn Rs) n k F w:=λa g =>
 yI E m k F (λe i=>List.map_inj_left.1 he e i) (λa w d j=>by
  simp only [Prod.mk.injEq] at hv
  rw [hv.1,if_pos rfl]
  obtain ⟨x,b,c⟩:=Option.map_eq_some_iff.1 hv.2
  have l:=d.at_ t x b
  exact bodyPost_ret (results_tmp hr _ _ _) d.nod (by rw [Array.getD_eq_getD_getElem?,l,c];exact h w j)) a w g hS
def J0:Nat->List Value->Fr
 | _,[]=>[]
 | i,v::l=>(i,v,0)::J0 (i+1) l
theorem Fj:∀ (l:List Value) (i t:Nat) (x:Value × Nat),lk (J0 i l) t=some x->i<=t/\l[t-i]?=some x.1
 | [],_,_,_,h=>l0
 | v::l,i,t,x,h=>by
   unfold J0 lk at h
   cases a:Nat.beq i t with
   | true =>
     rw [a] at h
     cases h
     have:i=t:=Nat.eq_of_beq_eq_true a
     subst this
     simp
   | false =>
     rw [a] at h
     obtain ⟨c,b⟩:=Fj l (i+1) t x h
     refine ⟨ab,?_⟩
     rw [show t-i=(t-(i+1))+1 by omega]
     simpa using b
theorem fT {f:Nat} {fn:Func} {c:Go.Code} {args:List Value} {w:World} {Rs:Ending->World->Prop} (S:World->Prop) (d:P.funcs[f]?=some fn) (h:Wg P S (bodyPost P fn Rs) fn.ntmps [.code c] (J0 0 args) w) (hb:fn.body=some c:=by rfl) (hn:Nat.ble args.length fn.ntmps=true:=by kernel_rfl):Calls P f args.toArray w Rs :=
 calls_of_wp d hb (h _ ⟨by
  have:args.length<=fn.ntmps:=Nat.le_of_ble_eq_true hn
  simp;omega,rfl,λt x g=>by
  obtain ⟨_,a⟩:=Fj args 0 t x g
  have b:t<args.length:=by
   rw [Nat.sub_zero] at a
   exact (List.getElem?_eq_some_iff.1 a).1
  rw [Nat.sub_zero] at a
  have e:=(List.getElem?_eq_some_iff.1 a).2
  simp [Array.getElem?_append,b]
  simpa using e⟩)
def gZ:List KI->Bool
 | []=>true
 | .sq _ _ _::_=>false
 | .code _::k=>gZ k
 | .blk _::k=>gZ k
 | .ops _ _::k=>gZ k
 | .fin _::k=>gZ k
 | .sk _ _ _ _::_=>false
 | .sw _ _ _::k=>gZ k
theorem xv {S':World->Prop}:∀ {k:List KI},gZ k=true->iD P S' Q k=iD P S Q k
 | [],_=>rfl
 | .sq _ _ _::_,h=>l0
 | .code _::k,h=>by unfold iD;rw [xv (k:=k) h]
 | .blk _::k,h=>by unfold iD;rw [xv (k:=k) h]
 | .ops _ _::k,h=>by unfold iD;rw [xv (k:=k) h]
 | .fin _::k,h=>by unfold iD;rw [xv (k:=k) h]
 | .sk _ _ _ _::_,h=>l0
 | .sw _ _ _::k,h=>by unfold iD;rw [xv (k:=k) h]
theorem aH {k:List KI} {F:Fr} {w:World} (S':World->Prop) (h:Wg P S' Q n k F w) (hn:gZ k=true:=by kernel_rfl):Wg P S Q n k F w:=λa b=>by rw [<- xv (S':=S') hn];exact h a b
def uw (P:Program) (n N:Nat):List Oper->Fr->List (Array Value × TypeId)->Option (Fr × List (Array Value × TypeId))
 | [],F,bs=>some (F,bs)
 | o::os,F,bs=>match o.guard,o.dst with
   | none,some d=>match Nat.blt d n with
     | false=>none
     | true=>match o.op with
       | .box t x=>match kn F x with
         | true=>uw P n N os ((d,.p (N+bs.length) 0,bs.length+1)::F) (bs++[((ev F x).cells,t)])
         | false=>none
       | .assign x=>match kn F x with
         | true=>uw P n N os ((d,ev F x,JW F x)::F) bs
         | false=>none
       | .alloc t=>match P.info? t with
         | some i=>match i.zero with
           | some z=>uw P n N os ((d,.p (N+bs.length) 0,bs.length+1)::F) (bs++[(z.cells,t)])
           | none=>none
         | none=>none
       | _=>none
   | _,_=>none
def bM (w:World):List (Array Value × TypeId)->World
 | []=>w
 | x::l=>bM (w.alloc (.cells x.1 x.2)) l
theorem nO (x:Array Value × TypeId):∀ (l:List (Array Value × TypeId)) (w:World),bM w (l++[x])=(bM w l).alloc (.cells x.1 x.2)
 | [],_=>rfl
 | _::l,w=>nO x l _
theorem nP:∀ (l:List (Array Value × TypeId)) (w:World),(bM w l).heap.size=w.heap.size+l.length
 | [],_=>rfl
 | _::l,w=>by
   show (bM _ l).heap.size=_
   rw [nP l,World.size_alloc,List.length_cons]
   omega
theorem pN {all:Array Oper} {w:World}:∀ {l:List Oper} {F j:Fr} {b e:List (Array Value × TypeId)},uw P n w.heap.size l F b=some (j,e)->(∀ a,bP j n a->Q .normal a (bM w e))->∀ a,bP F n a->wpList P all Q l a (bM w b)
 | [],F,j,b,e,h,hQ,a,hk=>by
   simp only [uw,Option.some.injEq,Prod.mk.injEq] at h
   obtain ⟨rfl,rfl⟩:=h
   exact hQ a hk
 | o::os,F,j,b,e,h,hQ,a,hk=>by
   unfold uw at h
   split at h
   ·rename_i d m k
    split at h
    ·cases h
    ·rename_i p
     split at h
     ·rename_i t x c
      split at h
      ·rename_i f
       refine wpList_plain m λK g=>?_
       show o.upon P a K _ ((execOp a.eval o).run P (bM w b))
       have:(execOp a.eval o).run P (bM w b)=.ok (.value (.pointer (some ⟨(bM w b).heap.size,0,none⟩))) ((bM w b).alloc (.cells (ev F x).cells t)):=by
        unfold execOp
        rw [c]
        simp only [hk.eval f]
        rfl
       rw [this,nP]
       show K (a.put o.dst _) _
       rw [k,<- nO ((ev F x).cells,t)]
       exact g _ _ (pN h hQ _ (hk.put p _ _))
      ·cases h
     ·rename_i x c
      split at h
      ·rename_i f
       refine wpList_plain m λK g=>?_
       show o.upon P a K _ ((execOp a.eval o).run P (bM w b))
       have:(execOp a.eval o).run P (bM w b)=.ok (.value (ev F x)) (bM w b):=by
        unfold execOp
        rw [c]
        simp only [hk.eval f]
        rfl
       rw [this]
       show K (a.put o.dst _) _
       rw [k]
       exact g _ _ (pN h hQ _ (hk.put p _ _))
      ·cases h
     ·rename_i t c
      split at h
      ·rename_i i q
       split at h
       ·rename_i z r
        refine wpList_plain m λK g=>?_
        show o.upon P a K _ ((execOp a.eval o).run P (bM w b))
        have:(execOp a.eval o).run P (bM w b)=.ok (.value (.pointer (some ⟨(bM w b).heap.size,0,none⟩))) ((bM w b).alloc (.cells z.cells t)):=by
         unfold execOp
         rw [c]
         simp [Instr.alloc,zeroValue,typeInfo,q,r,newVar,newRow]
        rw [this,nP]
        show K (a.put o.dst _) _
        rw [k,<- nO (z.cells,t)]
        exact g _ _ (pN h hQ _ (hk.put p _ _))
       ·cases h
      ·cases h
     ·cases h
   ·cases h
def pO (P:Program) (n N:Nat) (c:Go.Code) (args:List Value):Option (List (Array Value × TypeId) × List KI × Fr):=match c with
 | .seq (.region _ ops false) rest=>match uw P n N ops.toList (J0 0 args) [] with
   | some (F,bs)=>some (bs,[.code rest],F)
   | none=>none
 | _=>none
def J1 (P:Program) (n N:Nat) (c:Go.Code) (args:List Value):List KI:=match pO P n N c args with
 | some x=>x.2.1
 | none=>[]
def J2 (P:Program) (n N:Nat) (c:Go.Code) (args:List Value):Fr:=match pO P n N c args with
 | some x=>x.2.2
 | none=>[]
theorem bz {f:Nat} {fn:Func} {c:Go.Code} {args:List Value} {w:World} {Rs:Ending->World->Prop} (bs:List (Array Value × TypeId)) (j:P.funcs[f]?=some fn) (h:Wg P S (bodyPost P fn Rs) fn.ntmps (J1 P fn.ntmps w.heap.size c args) (J2 P fn.ntmps w.heap.size c args) (bM w bs)) (hb:fn.body=some c:=by rfl) (hn:Nat.ble args.length fn.ntmps=true:=by kernel_rfl) (hs:(pO P fn.ntmps w.heap.size c args).map Prod.fst=some bs:=by kernel_rfl):Calls P f args.toArray w Rs:=by
 refine fT S j (hb:=hb) (hn:=hn) λa k=>?_;unfold J1 J2 at h;cases b:pO P fn.ntmps w.heap.size c args with
 | none=>rw [b] at hs;cases hs
 | some y =>
   obtain ⟨e,o,m⟩:=y;rw [b] at hs h;simp only [Option.map_some,Option.some.injEq] at hs;subst hs;unfold pO at b;split at b
   ·rename_i id l rest;split at b;·rename_i n g d;simp only [Option.some.injEq,Prod.mk.injEq] at b;obtain ⟨rfl,rfl,rfl⟩:=b;refine wp_seq (wp_region_list ?_);exact pN (Q:=Exit.then (λa w=>rest.wp P (bodyPost P fn Rs) a w) (bodyPost P fn Rs)) d (λa i=>h a i) a k
    ·cases b
   ·cases b
def Ar (F:Fr):List KI->Option (Oper × List KI × Bool)
 | .ops all (o::rest)::k=>match wn all F o with
   | some true=>some (o,.ops all rest::k,false)
   | _=>none
 | .sq all (m+1) listed::k=>match Region.ready .any all listed with
   | [i]=>match all[i]? with
     | some o=>match wn all F o with
       | some true=>some (o,.sq all m (listed.setIfInBounds i true)::k,true)
       | _=>none
     | none=>none
   | _=>none
 | .sk all kk (m+1) listed::k=>match Region.ready .any all listed with
   | [i]=>match all[i]? with
     | some o=>match wn all F o with
       | some true=>match Nat.beq i kk with
         | true=>some (o,.sw all m (listed.setIfInBounds i true)::k,false)
         | false=>some (o,.sk all kk m (listed.setIfInBounds i true)::k,true)
       | _=>none
     | none=>none
   | _=>none
 | .sw all (m+1) listed::k=>match Region.ready .any all listed with
   | [i]=>match all[i]? with
     | some o=>match wn all F o with
       | some true=>some (o,.sw all m (listed.setIfInBounds i true)::k,false)
       | _=>none
     | none=>none
   | _=>none
 | _=>none
def oI (F:Fr) (k:List KI):List KI:=match Ar F k with
 | some x=>x.2.1
 | none=>[]
def yJ (F:Fr) (k:List KI):Bool:=match Ar F k with
 | some x=>x.2.2
 | none=>false
def Da (n:Nat) (F:Fr) (k:List KI):Option (Sem Next):=match Ar F k with
 | some (o,_,_)=>match o.op.operands.all (kn F)&&Aq o.op&&(match o.dst with | some d=>Nat.blt d n | none=>true) with
   | true=>some (execOp (ev F) o)
   | false=>none
 | none=>none
def pP (F:Fr) (k:List KI) (v:Value) (t:Nat):Fr:=match Ar F k with
 | some (o,_,_)=>match o.dst with
   | some d=>(d,v,t)::F
   | none=>F
 | none=>F
def NB (P:Program) (n:Nat) (F:Fr) (k:List KI):Option (Nat × Array Value):=match Ar F k with
 | some (o,_,_)=>match (match o.dst with | some d=>Nat.blt d n | none=>true) with
   | true=>rf P F o
   | false=>none
 | none=>none
theorem yK {k z:List KI} {F:Fr} {o:Oper} {b:Bool} (h:Ar F k=some (o,z,b)) {a:Act} {w:World} (hk:bP F n a) (t:∀ K:Act->World->Prop,(∀ f d,(b=true->S d)->iD P S Q z .normal f d->K f d)->o.wp P a w K (iD P S Q z)):iD P S Q k .normal a w:=by
 unfold Ar at h;split at h
 ·rename_i all v rest p;split at h;·rename_i c;simp only [Option.some.injEq,Prod.mk.injEq] at h;obtain ⟨rfl,rfl,rfl⟩:=h;show wpList P all (iD P S Q p) (v::rest) a w;refine wpList_step λK g=>?_;rw [if_pos (kA hk c)];exact t K λf d _ l=>g f d l
  ·cases h
 ·rename_i all m listed p;split at h
  ·rename_i i s;split at h
   ·rename_i v r;split at h;·rename_i c;simp only [Option.some.injEq,Prod.mk.injEq] at h;obtain ⟨rfl,rfl,rfl⟩:=h;show wpAnyH P .any all (iD P S Q p) S (m+1) listed a w;refine wpAnyH_all s cp λj B=>?_;rw [List.mem_singleton] at B;subst B;refine wpOp_step r λq g=>?_;rw [if_pos (kA hk c)];exact t q λf d y l=>g f d ⟨y rfl,l⟩
    ·cases h
   ·cases h
  ·cases h
 ·rename_i all A m listed p;split at h
  ·rename_i i s;split at h
   ·rename_i v r;split at h
    ·rename_i c;split at h;·rename_i u;simp only [Option.some.injEq,Prod.mk.injEq] at h;obtain ⟨rfl,rfl,rfl⟩:=h;have e:i=A:=Nat.eq_of_beq_eq_true u;subst e;show gY P .any all (iD P S Q p) S i (m+1) listed a w;refine CZ r s λq g=>?_;rw [if_pos (kA hk c)];exact t q λf d _ l=>g f d l
     ·rename_i u;simp only [Option.some.injEq,Prod.mk.injEq] at h;obtain ⟨rfl,rfl,rfl⟩:=h;have x:i≠A:=λe=>by rw [e,Nat.beq_refl] at u;cases u
      show gY P .any all (iD P S Q p) S A (m+1) listed a w;refine CY r s x λq g=>?_;rw [if_pos (kA hk c)];exact t q λf d y l=>g f d (y rfl) (λ_=>l)
    ·cases h
   ·cases h
  ·cases h
 ·rename_i all m listed p;split at h
  ·rename_i i s;split at h
   ·rename_i v r;split at h;·rename_i c;simp only [Option.some.injEq,Prod.mk.injEq] at h;obtain ⟨rfl,rfl,rfl⟩:=h;show wpAny P .any all (iD P S Q p) (m+1) listed a w;refine Hm r s λq g=>?_;rw [if_pos (kA hk c)];exact t q λf d _ l=>g f d l
    ·cases h
   ·cases h
  ·cases h
 ·cases h
theorem dU {k:List KI} {F:Fr} {w w':World} {s:Sem Next} {v:Value} (t:Nat) (hr:s.run P w=.ok (.value v) w') (h:Wg P S Q n (oI F k) (pP F k v t) w') (hx:Da n F k=some s:=by kernel_rfl) (hS:yJ F k=true->S w':=by exact gm al):Wg P S Q n k F w:=λa f=>by
 unfold Da at hx;unfold yJ at hS;unfold oI pP at h;cases i:Ar F k with
 | none=>rw [i] at hx;cases hx
 | some y =>
   obtain ⟨o,p,b⟩:=y;rw [i] at hx hS h;dsimp only at hx hS h;split at hx
   ·rename_i c;cases hx;rw [Bool.and_eq_true,Bool.and_eq_true] at c;have g:execOp a.eval o=execOp (ev F) o:=execOp_congr o (λm b e=>by have:=c.1.2;rw [e] at this;cases this) λx hx=>f.eval (Array.all_eq_true_iff_forall_mem.1 c.1.1 x hx);refine yK i f λK j=>?_;show o.upon P a K _ _;rw [g,hr];refine j _ _ hS (h _ ?_);cases l:o.dst with
    | none=>exact f
    | some d=>rw [l] at c;exact f.put c.2 v t
   ·cases hx
theorem bJ {k:List KI} {F:Fr} {w w':World} {s:Sem Next} (hr:s.run P w=.ok .skip w') (h:Wg P S Q n (oI F k) (pP F k undef 0) w') (hx:Da n F k=some s:=by kernel_rfl) (hS:yJ F k=true->S w':=by exact gm al):Wg P S Q n k F w:=λa f=>by
 unfold Da at hx;unfold yJ at hS;unfold oI pP at h;cases i:Ar F k with
 | none=>rw [i] at hx;cases hx
 | some y =>
   obtain ⟨o,p,b⟩:=y;rw [i] at hx hS h;dsimp only at hx hS h;split at hx
   ·rename_i c;cases hx;rw [Bool.and_eq_true,Bool.and_eq_true] at c;have g:execOp a.eval o=execOp (ev F) o:=execOp_congr o (λm b e=>by have:=c.1.2;rw [e] at this;cases this) λx hx=>f.eval (Array.all_eq_true_iff_forall_mem.1 c.1.1 x hx);refine yK i f λK j=>?_;show o.upon P a K _ _;rw [g,hr];refine j _ _ hS (h _ ?_);cases l:o.dst with
    | none=>exact f
    | some d=>rw [l] at c;exact f.put c.2 undef 0
   ·cases hx
theorem lQ {k:List KI} {F:Fr} {w:World} {f:Nat} {args:Array Value} {Rc:Ending->World->Prop} (p:Calls P f args w Rc) (h:∀ e c,Rc e c->∃ v t,e=.returned v/\(yJ F k=true->S c)/\Wg P S Q n (oI F k) (pP F k v t) c) (hx:NB P n F k=some (f,args):=by kernel_rfl):Wg P S Q n k F w:=λa g=>by
 unfold NB at hx;unfold oI pP yJ at h;cases j:Ar F k with
 | none=>rw [j] at hx;cases hx
 | some y =>
   obtain ⟨o,u,b⟩:=y;rw [j] at hx h;dsimp only at hx h;split at hx
   ·rename_i l;refine yK j g λK m=>?_;show o.upon P a K _ _;rw [rg g hx w];refine p.mono λe c q=>?_;obtain ⟨v,t,rfl,r,s⟩:=h e c q;refine m _ _ r (s _ ?_);cases i:o.dst with
    | none=>exact g
    | some d=>rw [i] at l;exact g.put l v t
   ·cases hx
theorem aN (E:nE P S J R dr Q) (H:Hn P S J) (m:Nat) {k:List KI} {F:Fr} {w:World} {f:Nat} {args:Array Value} {Rc:World->Ending->World->Prop} (hS:J w) (g:∀ b,J b->Calls P f args b (Rc b)) (h:∀ b e a,J b->Rc b e a->∃ v t,e=.returned v/\(yJ (be P R H n dr m k F).1.2.2 (be P R H n dr m k F).1.2.1=true->S a)/\Wg P S Q n (oI (be P R H n dr m k F).1.2.2 (be P R H n dr m k F).1.2.1) (pP (be P R H n dr m k F).1.2.2 (be P R H n dr m k F).1.2.1 v t) a) (hx:((be P R H n dr m k F).1.1,NB P n (be P R H n dr m k F).1.2.2 (be P R H n dr m k F).1.2.1)=(false,some (f,args)):=by kernel_rfl) (he:(be P R H n dr m k F).2.map Prod.fst=(be P R H n dr m k F).2.map Prod.snd:=by kernel_rfl):Wg P S Q n k F w:=by simp only [Prod.mk.injEq] at hx;exact ae E H m hS (hret:=hx.1) (he:=he) λb c=>lQ (g b c) (hx:=hx.2) λe a d=>h b e a c d
theorem kV {fn:Func} {Rs:Ending->World->Prop} (E:nE P S J R dr (bodyPost P fn Rs)) (H:Hn P S J) (m:Nat) {k:List KI} {F:Fr} {w:World} (hS:J w)
 (h:∀ b a,J b->bP (be P R H n dr m k F).1.2.2 n a->∃ v,(results fn a.tmps).run P b=.ok v b/\Rs (.returned v) b) (hv:(be P R H n dr m k F).1.1=true:=by kernel_rfl) (he:(be P R H n dr m k F).2.map Prod.fst=(be P R H n dr m k F).2.map Prod.snd:=by kernel_rfl):Wg P S (bodyPost P fn Rs) n k F w:=λa g =>
 yI E m k F (λe i=>List.map_inj_left.1 he e i) (λa w c j=>by
  rw [hv,if_pos rfl]
  obtain ⟨v,d,f⟩:=h w a j c
  exact bodyPost_ret d c.nod f) a w g hS
theorem bP.slot {F:Fr} {n:Nat} {a:Act} (h:bP F n a) {t:Nat} {v:Value} (hl:(lk F t).map Prod.fst=some v):a.tmps.getD t undef=v:=by obtain ⟨x,b,c⟩:=Option.map_eq_some_iff.1 hl;rw [Array.getD_eq_getD_getElem?,h.at_ t x b,<- c];rfl
def aj {c b:Bool} (h:c=b):Vq:=⟨.bool c,.bool b,0,by rw [h]⟩
theorem ct {fn:Func} {Rs:Ending->World->Prop} (c:List PanicEntry) (a:Act) (d:Option Nat) (v:Value) (w:World) (h:bodyPost P fn Rs (.panic c) (Act.put a d v) w):bodyPost P fn Rs (.panic c) a w:=by cases d<;>exact h
end
end Go.Proofs.YtjifdmoehfbihaaGreatDoor
