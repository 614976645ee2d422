/- Own lemmas. -/
import Derived.Test.YtjifdmoehfbihaaGreatDoorAut
import Derived.Test.YtjifdmoehfbihaaGreatDoorK04
namespace Go.Proofs.YtjifdmoehfbihaaGreatDoor
open Go.RowKit
set_option linter.unusedVariables false
theorem gp {x:Bool} {p:Prop} (h:x=false) (hb:x=true):p:=by rw [h] at hb;cases hb
structure Rw where
 b:Nat
 cs:Array Value
 tg:List (Nat × Nat)
abbrev Fr:=List (Nat × Value × Nat)
def lk {α:Type}:List (Nat × α)->Nat->Option α
 | [],_=>none
 | (t,x)::F,s=>match Nat.beq t s with
   | true=>some x
   | false=>lk F s
def ev (F:Fr):Operand->Value
 | .tmp t=>match lk F t with
   | some x=>x.1
   | none=>undef
 | .const v=>v
 | .global g=>.p g 0
 | .func f=>.func (.func f) #[] #[]
def Hp (F:Fr):Operand->Nat
 | .tmp t=>match lk F t with
   | some x=>x.2
   | none=>0
 | _=>0
def kn (F:Fr):Operand->Bool
 | .tmp t=>(lk F t).isSome
 | _=>true
structure bL (F:Fr) (n:Nat) (a:Act):Prop where
 size:a.tmps.size=n
 nod:a.defers=[]
 at_:∀ t x,lk F t=some x->a.tmps[t]?=some x.1
theorem bL.eval {F:Fr} {n:Nat} {a:Act} (h:bL F n a) {x:Operand} (hx:kn F x=true):a.eval x=ev F x:=by
 cases x with
 | tmp t =>simp only [kn,Option.isSome_iff_exists] at hx;obtain ⟨y,b⟩:=hx;have:=h.at_ t y b;simp [Act.eval,ev,b,Array.getD_eq_getD_getElem?,this]
 | const v=>rfl
 | global g=>rfl
 | func f=>rfl
theorem bL.put {F:Fr} {n:Nat} {a:Act} (h:bL F n a) {d:Nat} (hd:Nat.blt d n=true) (v:Value) (g:Nat):bL ((d,v,g)::F) n (a.put (some d) v):=by
 have i:d<n:=Nat.lt_of_succ_le (by simpa [Nat.blt] using hd);refine ⟨by simp [Act.put,h.size],h.nod,λt x f=>?_⟩;unfold lk at f;have j:=h.size;cases c:Nat.beq d t with
 | true =>rw [c] at f;have b:d=t:=Nat.eq_of_beq_eq_true c;subst b;cases f;simp [Act.put,j,i]
 | false =>
   rw [c] at f;have b:d≠t:=λe=>by rw [e,Nat.beq_refl] at c;cases c
   have:=h.at_ t x f;simp only [Act.put];rw [Array.getElem?_setIfInBounds_ne b];exact this
def uW {α:Type} (P:Program) (r:Option Rw):Sem α->Option (α × List (Addr × Addr))
 | .pure a=>some (a,[])
 | .load _ a k=>match r with
   | none=>none
   | some r=>match r.cs[a.off]? with
     | none=>none
     | some v=>match uW P (some r) (k v) with
       | none=>none
       | some x=>some (x.1,(a,⟨r.b,a.off,none⟩)::x.2)
 | .program k=>uW P r (k P)
 | .mark _ k=>uW P r k
 | _=>none
def ot (r:Rw) (w:World):Prop:=∃ t a,w.heap[r.b]?=some (.cells r.cs t a)
theorem La {α:Type} {P:Program} {r:Option Rw} {w:World} (hr:∀ j,r=some j->ot j w):∀ (s:Sem α) (x:α) (b:List (Addr × Addr)),uW P r s=some (x,b)->(∀ e ∈ b,e.1=e.2)->s.run P w=.ok x w:=by
 intro s;induction s with
 | pure a=>intro x b h _;simp only [uW,Option.some.injEq,Prod.mk.injEq] at h;rw [h.1];rfl
 | load m a k f =>
   intro x b h c;unfold uW at h;cases r with
   | none=>cases h
   | some r =>
     dsimp only at h;cases i:r.cs[a.off]? with
     | none=>rw [i] at h;cases h
     | some v =>
       rw [i] at h;dsimp only at h;cases g:uW P (some r) (k v) with
       | none=>rw [g] at h;cases h
       | some y =>rw [g] at h;simp only [Option.some.injEq,Prod.mk.injEq] at h;obtain ⟨l,n⟩:=h;subst n;have o:a=⟨r.b,a.off,none⟩:=c (a,⟨r.b,a.off,none⟩) bc;obtain ⟨t,q,d⟩:=hr r rfl;have p:w.cell? a=some v:=(by rw [o];simp only [World.cell?,d];simpa using i);have:=f v x y.2 (by rw [g,<- l]) (λe h=>c e (by simp [h]));simp only [Sem.run,p];exact this
 | program k f=>intro x b h c;exact f P x b h c
 | mark m k f=>intro x b h c;exact f x b h c
 | store=>intro x b h;cases h
 | new=>intro x b h;cases h
 | shape=>intro x b h;cases h
 | freeze=>intro x b h;cases h
 | frozen=>intro x b h;cases h
 | getObj=>intro x b h;cases h
 | setObj=>intro x b h;cases h
 | choose=>intro x b h;cases h
 | sys=>intro x b h;cases h
 | halt=>intro x b h;cases h
structure Ov (P:Program) (S:World->Prop) where
 s:Sem Next
 v:Value
 t:Nat
 h:∀ w,S w->s.run P w=.ok (.value v) w
structure Cv (P:Program) (S:World->Prop) where
 f:Nat
 args:Array Value
 v:Value
 t:Nat
 h:∀ w,S w->Calls P f args w λe w'=>e=.returned v/\S w'
structure Vq where
 u:Value
 v:Value
 t:Nat
 h:u=v
inductive Oe where
 | a (x:Addr)
 | v (x:Value)
 | s (x:Sem Next)
 | c (f:Nat) (args:Array Value)
def wn (a:Array Oper) (F:Fr) (o:Oper):Option Bool :=
 match o.guard with
 | none=>some true
 | some (j,want)=>match a[j]? with
   | none=>none
   | some c=>match c.dst with
     | none=>none
     | some d=>match lk F d with
       | none=>none
       | some x=>match x.1 with
         | .bool b=>some (b==want)
         | _=>some false
theorem jW {e:Array Oper} {F:Fr} {n:Nat} {a:Act} {o:Oper} {b:Bool} (h:bL F n a) (c:wn e F o=some b):Region.wanted o (yielded e a.tmps)=b:=by
 unfold wn at c;unfold Region.wanted;cases k:o.guard with
 | none=>rw [k] at c;simpa using c
 | some g =>
   obtain ⟨j,m⟩:=g;rw [k] at c;dsimp only at c ⊢;unfold yielded;cases l:e[j]? with
   | none=>rw [l] at c;cases c
   | some p =>
     rw [l] at c;dsimp only at c;cases f:p.dst with
     | none=>rw [f] at c;cases c
     | some d =>
       rw [f] at c;dsimp only at c;cases i:lk F d with
       | none=>rw [i] at c;cases c
       | some x =>rw [i] at c;dsimp only at c;have:=h.at_ d x i;simp only [Option.bind_some,f,this];obtain ⟨v,g⟩:=x;dsimp only at c ⊢;cases v<;>simp_all
def sX (R:List Rw) (F:Fr):Op->Option Rw
 | .load _ x=>match Hp F x with
   | 0=>none
   | k+1=>R[k]?
 | _=>none
def Pg (R:List Rw) (F:Fr):Op->Nat
 | .move x=>Hp F x
 | .assign x=>Hp F x
 | .nilCheck x=>Hp F x
 | .fieldAddr _ x _=>Hp F x
 | .pick c x y=>match ev F c with
   | .bool true=>Hp F x
   | _=>Hp F y
 | .load _ x=>match Hp F x with
   | 0=>0
   | k+1=>match R[k]?,ev F x with
     | some r,.pointer (some p)=>(lk r.tg p.off).getD 0
     | _,_=>0
 | _=>0
def Qe:Op->Bool
 | .alloc _ | .box _ _ | .build _ _ | .buildSlice _ _ _ | .insert _ _ _ _ | .store _ _ _ | .ready _ | .waits _ | .makeFunc _ _ _ | .makeMap _ _ | .makeChan _ _ | .makeSlice _ _ _
 | .mapUpdate _ _ _ _ | .mapEntry _ _ _ | .entryStore _ _ _ _ | .range _ _ | .next _ _ | .entry _ | .go _ | .defer _ | .panic _ | .send _ _ | .recv _ _ _ | .select _ _=>true
 | .call c=>match c.callee with
   | .builtin .len=>false
   | _=>true
 | _=>false
def yU:Op->Bool
 | .select _ _=>false
 | _=>true
def pl (P:Program) (f:Nat):Bool:=match P.funcs[f]? with
 | some a=>match a.body with
   | some _=>!(a.name == "runtime.NumGoroutine")
   | none=>false
 | none=>false
theorem Ph {P:Program} {f:Nat} (h:pl P f=true) (args:Array Value) (w:World):(callFunc f args).run P w=.ok (.enter f args) w:=by
 unfold pl at h;cases b:P.funcs[f]? with
 | none=>rw [b] at h;cases h
 | some d =>
   rw [b] at h;dsimp only at h;cases a:d.body with
   | none=>rw [a] at h;cases h
   | some c =>rw [a] at h;have e:d.name≠ "runtime.NumGoroutine":=dn;simp [callFunc,b,e,a,mark]
def Hq (P:Program) {S:World->Prop} (R:List Rw) (ov:List (Nat × Ov P S)) (eq:List (Nat × Vq)) (F:Fr) (o:Oper):Option (Value × Nat × List (Oe × Oe)):=
 match o.op.operands.all (kn F)&&yU o.op with
 | false=>none
 | true=>match o.dst.bind (lk ov) with
   | some e=>some (e.v,e.t,[(.s (execOp (ev F) o),.s e.s)])
   | none=>match uW P (sX R F o.op) (execOp (ev F) o) with
     | some (.value v,es)=>match o.dst.bind (lk eq) with
       | some e=>some (e.v,e.t,(.v v,.v e.u)::es.map λe=>(.a e.1,.a e.2))
       | none=>some (v,Pg R F o.op,es.map λe=>(.a e.1,.a e.2))
     | _=>none
theorem BA {P:Program} {S:World->Prop} {R:List Rw} {ov:List (Nat × Ov P S)} {eq:List (Nat × Vq)} {F:Fr} {n:Nat} {a:Act} {o:Oper} {v:Value} {t:Nat} {es:List (Oe × Oe)} (hk:bL F n a) (h:Hq P R ov eq F o=some (v,t,es)) (he:∀ e ∈ es,e.1=e.2) (E:∀ w,S w->∀ r ∈ R,ot r w):(∀ w,S w->(execOp a.eval o).run P w=.ok (.value v) w)/\∀ m b,o.op≠.select m b:=by
 unfold Hq at h;cases j:o.op.operands.all (kn F)&&yU o.op with
 | false=>rw [j] at h;cases h
 | true =>
   rw [j] at h;dsimp only at h;rw [Bool.and_eq_true] at j;have C:∀ m b,o.op≠.select m b:=λm b e=>by have:=j.2;rw [e] at this;cases this
   have p:execOp a.eval o=execOp (ev F) o:=execOp_congr o C λx G=>hk.eval (Array.all_eq_true_iff_forall_mem.1 j.1 x G);refine ⟨λw B=>?_,C⟩;rw [p];cases l:o.dst.bind (lk ov) with
   | some e =>rw [l] at h;simp only [Option.some.injEq,Prod.mk.injEq] at h;obtain ⟨g,A,i⟩:=h;subst i;have:=he (.s (execOp (ev F) o),.s e.s) bc;simp only [Oe.s.injEq] at this;rw [this,<- g];exact e.h w B
   | none =>
     rw [l] at h;dsimp only at h;cases z:uW P (sX R F o.op) (execOp (ev F) o) with
     | none=>rw [z] at h;cases h
     | some y =>
       obtain ⟨H,f⟩:=y;rw [z] at h;cases H with
       | value u =>
         dsimp only at h;have key:(∀ e ∈ f,e.1=e.2)->Sem.run P (execOp (ev F) o) w=.ok (.value u) w:=λq=>by
          refine La (λI d=>?_) _ _ f z q;refine E w B I ?_;unfold sX at d;split at d
          ·split at d;·cases d
           ·exact List.mem_of_getElem? d
          ·cases d
         cases k:o.dst.bind (lk eq) with
         | some e =>rw [k] at h;simp only [Option.some.injEq,Prod.mk.injEq] at h;obtain ⟨g,A,i⟩:=h;subst i;have D:=he (.v u,.v e.u) bc;simp only [Oe.v.injEq] at D;rw [key λc s=>by have:=he (.a c.1,.a c.2) (by simp only [List.mem_cons,List.mem_map];exact .inr ⟨c,s,rfl⟩);simpa using this,<- g,<- e.h,D]
         | none =>rw [k] at h;simp only [Option.some.injEq,Prod.mk.injEq] at h;obtain ⟨g,A,i⟩:=h;subst i;rw [key λc s=>by have:=he (.a c.1,.a c.2) (List.mem_map.2 ⟨c,s,rfl⟩);simpa using this,<- g]
       | _=>cases h
def qk (P:Program) (F:Fr) (o:Oper):Option (Nat × Array Value):=
 match o.op.operands.all (kn F) with
 | false=>none
 | true=>match o.op with
   | .call c=>match c.callee with
     | .value x=>match ev F x with
       | .func (.func f) first cap=>match pl P f with
         | true=>some (f,first++c.args.map (ev F)++cap)
         | false=>none
       | _=>none
     | _=>none
   | _=>none
theorem ql {P:Program} {F:Fr} {n:Nat} {a:Act} {o:Oper} {f:Nat} {args:Array Value} (hk:bL F n a) (h:qk P F o=some (f,args)) (w:World):(execOp a.eval o).run P w=.ok (.enter f args) w:=by
 unfold qk at h;cases k:o.op.operands.all (kn F) with
 | false=>rw [k] at h;cases h
 | true =>
   rw [k] at h;dsimp only at h;cases d:o.op with
   | call c =>
     have s:∀ p b,o.op≠.select p b:=λp b e=>by rw [d] at e;cases e
     have l:execOp a.eval o=execOp (ev F) o:=execOp_congr o s λx j=>hk.eval (Array.all_eq_true_iff_forall_mem.1 k x j);rw [l];rw [d] at h;dsimp only at h;cases i:c.callee with
     | value x =>
       rw [i] at h;dsimp only at h;cases j:ev F x with
       | func r g cap =>
         rw [j] at h;cases r with
         | func q =>
           dsimp only at h;cases m:pl P q with
           | false=>rw [m] at h;cases h
           | true =>
             rw [m] at h;simp only [Option.some.injEq,Prod.mk.injEq] at h;obtain ⟨rfl,rfl⟩:=h;have:execOp (ev F) o=callFunc q (g++c.args.map (ev F)++cap):=by unfold execOp;rw [d];simp only [resolve,i,j,Deferred.ofValue];rfl
             rw [this];exact Ph m _ _
         | _=>cases h
       | _=>rw [j] at h;cases h
     | _=>rw [i] at h;cases h
   | _=>rw [d] at h;cases h
inductive KI where
 | code (c:Go.Code)
 | blk (id:Nat)
 | ops (all:Array Oper) (rest:List Oper)
 | sq (all:Array Oper) (fuel:Nat) (listed:Array Bool)
 | fin (R:Act->World->Prop)
 | sk (all:Array Oper) (kk:Nat) (fuel:Nat) (listed:Array Bool)
 | sw (all:Array Oper) (fuel:Nat) (listed:Array Bool)
def ij (P:Program) (S:World->Prop) (Q:Exit->Act->World->Prop):List KI->Exit->Act->World->Prop
 | []=>Q
 | .code c::k=>Exit.then (λa w=>c.wp P (ij P S Q k) a w) (ij P S Q k)
 | .ops all rest::k=>Exit.then (wpList P all (ij P S Q k) rest) (ij P S Q k)
 | .blk id::k=>Exit.inBlock id (ij P S Q k)
 | .sq all fuel listed::k=>Exit.then (wpAnyH P .any all (ij P S Q k) S fuel listed) (ij P S Q k)
 | .fin R::k=>Exit.then R (ij P S Q k)
 | .sk all kk fuel listed::k=>Exit.then (gE P .any all (ij P S Q k) S kk fuel listed) (ij P S Q k)
 | .sw all fuel listed::k=>Exit.then (wpAny P .any all (ij P S Q k) fuel listed) (ij P S Q k)
theorem lN {P:Program} {S:World->Prop} {Q:Exit->Act->World->Prop} {c:List PanicEntry} {a:Act} {w:World}:∀ k:List KI,ij P S Q k (.panic c) a w=Q (.panic c) a w
 | []=>rfl
 | .code _::k | .ops _ _::k | .blk _::k | .sq _ _ _::k | .fin _::k | .sk _ _ _ _::k | .sw _ _ _::k=>lN k
theorem xi {P:Program} {S:World->Prop} {Q:Exit->Act->World->Prop} {a:Act} {w:World}:∀ k:List KI,ij P S Q k .ret a w=Q .ret a w
 | []=>rfl
 | .code _::k | .ops _ _::k | .blk _::k | .sq _ _ _::k | .fin _::k | .sk _ _ _ _::k | .sw _ _ _::k=>xi k
def ou (id:Nat):List KI->Option (List KI)
 | []=>none
 | .blk i::k=>match Nat.beq id i with
   | true=>some k
   | false=>ou id k
 | .code _::k=>ou id k
 | .ops _ _::k=>ou id k
 | .sq _ _ _::k=>ou id k
 | .fin _::k=>ou id k
 | .sk _ _ _ _::k=>ou id k
 | .sw _ _ _::k=>ou id k
theorem jE {P:Program} {S:World->Prop} {Q:Exit->Act->World->Prop} {id:Nat} {a:Act} {w:World}:∀ {k b:List KI},ou id k=some b->ij P S Q b .normal a w->ij P S Q k (.exit id) a w
 | [],_,h,_=>ow
 | .blk i::k,b,h,hd=>by
   unfold ou at h
   show Exit.inBlock i (ij P S Q k) (.exit id) a w
   unfold Exit.inBlock
   cases c:Nat.beq id i with
   | true =>
     rw [c] at h
     cases h
     have:id=i:=Nat.eq_of_beq_eq_true c
     simp only [this,if_true]
     exact hd
   | false =>
     rw [c] at h
     have:id≠i:=λe=>by rw [e,Nat.beq_refl] at c;cases c
     simp only [this,if_false]
     exact jE (k:=k) h hd
 | .code _::k,b,h,hd=>jE (k:=k) h hd
 | .ops _ _::k,b,h,hd=>jE (k:=k) h hd
 | .sq _ _ _::k,b,h,hd=>jE (k:=k) h hd
 | .fin _::k,b,h,hd=>jE (k:=k) h hd
 | .sk _ _ _ _::k,b,h,hd=>jE (k:=k) h hd
 | .sw _ _ _::k,b,h,hd=>jE (k:=k) h hd
structure Hn (P:Program) (S J:World->Prop) where
 eq:List (Nat × Vq):=[]
 ov:List (Nat × Ov P S):=[]
 cv:List (Nat × Cv P J):=[]
def qm (n:Nat) (F:Fr) (v:Value) (t:Nat):Option Nat->Option Fr
 | none=>some F
 | some d=>match Nat.blt d n with
   | true=>some ((d,v,t)::F)
   | false=>none
theorem jw {n:Nat} {F c:Fr} {v:Value} {t:Nat} {d:Option Nat} {a:Act} (h:qm n F v t d=some c) (hk:bL F n a):bL c n (a.put d v):=by
 cases d with
 | none=>cases h;exact hk
 | some d =>
   dsimp only [qm] at h;cases b:Nat.blt d n with
   | false=>rw [b] at h;cases h
   | true=>rw [b] at h;cases h;exact hk.put b v t
def qv (P:Program) {S J:World->Prop} (R:List Rw) (H:Hn P S J) (all:Array Oper) (F:Fr) (o:Oper):Option (Value × Nat × List (Oe × Oe)):=
 match wn all F o with
 | none=>none
 | some false=>some (undef,0,[])
 | some true=>Hq P R H.ov H.eq F o
theorem Hr {P:Program} {S J:World->Prop} {R:List Rw} {H:Hn P S J} {all:Array Oper} {F:Fr} {n:Nat} {a:Act} {o:Oper} {v:Value} {t:Nat} {es:List (Oe × Oe)} (hk:bL F n a) (h:qv P R H all F o=some (v,t,es)) (he:∀ e ∈ es,e.1=e.2) (d:∀ w,S w->∀ r ∈ R,ot r w):YieldsIf P all S o v a:=by
 unfold qv at h;cases c:wn all F o with
 | none=>rw [c] at h;cases h
 | some b =>
   rw [c] at h;cases b with
   | false=>simp only [Option.some.injEq,Prod.mk.injEq] at h;exact .inr ⟨jW hk c,h.1.symm⟩
   | true=>exact .inl ⟨jW hk c,(BA hk h he d).1⟩
def Hu (P:Program) {S J:World->Prop} (R:List Rw) (H:Hn P S J) (n:Nat) (all:Array Oper) (F:Fr) (o:Oper):Option (Fr × List (Oe × Oe)):=
 match qv P R H all F o with
 | some (v,t,es)=>match qm n F v t o.dst with
   | some a=>some (a,es)
   | none=>none
 | none=>match wn all F o,qk P F o,o.dst.bind (lk H.cv) with
   | some true,some (f,args),some e=>match qm n F e.v e.t o.dst with
     | some a=>some (a,[(.c f args,.c e.f e.args)])
     | none=>none
   | _,_,_=>none
theorem DG {P:Program} {S J:World->Prop} {R:List Rw} {H:Hn P S J} {n:Nat} {all:Array Oper} {F q:Fr} {a:Act} {w:World} {o:Oper} {es:List (Oe × Oe)} {K:Act->World->Prop} {Q:Exit->Act->World->Prop} (hk:bL F n a) (hS:J w) (B:∀ w,J w->S w) (h:Hu P R H n all F o=some (q,es)) (he:∀ e ∈ es,e.1=e.2) (C:∀ w,S w->∀ r ∈ R,ot r w) (j:∀ a w,bL q n a->J w->K a w):if Region.wanted o (yielded all a.tmps)=true then o.wp P a w K Q else K (a.put o.dst undef) w:=by
 unfold Hu at h;cases m:qv P R H all F o with
 | some y =>
   obtain ⟨v,t,z⟩:=y;rw [m] at h;dsimp only at h;cases c:qm n F v t o.dst with
   | none=>rw [c] at h;cases h
   | some u =>
     rw [c] at h;simp only [Option.some.injEq,Prod.mk.injEq] at h;obtain ⟨rfl,rfl⟩:=h;rcases Hr hk m he C with ⟨g,i⟩|⟨g,i⟩;·rw [if_pos g];show o.upon P a K Q _;rw [i w (B w hS)];exact j _ _ (jw c hk) hS
     ·subst i;rw [g,if_neg a5];exact j _ _ (jw c hk) hS
 | none =>
   rw [m] at h;dsimp only at h;cases p:wn all F o with
   | none=>rw [p] at h;cases h
   | some b =>
     rw [p] at h;cases b with
     | false=>cases h
     | true =>
       cases l:qk P F o with
       | none=>rw [l] at h;cases h
       | some A =>
         obtain ⟨f,args⟩:=A;rw [l] at h;cases s:o.dst.bind (lk H.cv) with
         | none=>rw [s] at h;cases h
         | some e =>
           rw [s] at h;dsimp only at h;cases c:qm n F e.v e.t o.dst with
           | none=>rw [c] at h;cases h
           | some u =>rw [c] at h;simp only [Option.some.injEq,Prod.mk.injEq] at h;obtain ⟨rfl,rfl⟩:=h;have d:=he (.c f args,.c e.f e.args) bc;simp only [Oe.c.injEq] at d;rw [if_pos (jW hk p)];show o.upon P a K Q _;rw [ql hk l w,d.1,d.2];refine (e.h w hS).mono λx E D=>?_;obtain ⟨rfl,k⟩:=D;exact j _ _ (jw c hk) k
inductive Sr where
 | go (k:List KI) (F:Fr) (es:List (Oe × Oe))
 | ret
 | stop
def o9 (all:Array Oper) (listed:Array Bool):List Nat->Option Nat
 | []=>none
 | i::is=>match (match all[i]? with | some o=>!Qe o.op | none=>false)&&Region.free .any all listed i with
   | true=>some i
   | false=>o9 all listed is
theorem nl {all:Array Oper} {listed:Array Bool} {i:Nat}:∀ {l:List Nat},o9 all listed l=some i->i ∈ l/\Region.free .any all listed i=true
 | [],h=>ow
 | j::is,h=>by
   unfold o9 at h
   split at h
   ·rename_i a
    rw [Bool.and_eq_true] at a
    cases h
    exact ⟨bc,a.2⟩
   ·have:=nl (l:=is) h
    exact ⟨by simp [this.1],this.2⟩
def xj (P:Program) {S J:World->Prop} (R:List Rw) (H:Hn P S J) (n:Nat) (all:Array Oper) (fuel:Nat) (listed:Array Bool) (k:List KI) (F:Fr):Sr :=
 match Region.noSelect all with
 | false=>.stop
 | true=>match Region.ready .any all listed with
   | []=>.go k F []
   | i::is=>match fuel with
     | 0=>.stop
     | fuel+1=>match o9 all listed (i::is) with
       | some j=>match all[j]? with
         | none=>.stop
         | some o=>match qv P R H all F o with
           | none=>.stop
           | some (v,t,es)=>match qm n F v t o.dst with
             | none=>.stop
             | some a=>.go (.sq all fuel (listed.setIfInBounds j true)::k) a es
       | none=>match is with
         | []=>match all[i]? with
           | none=>.stop
           | some o=>match Hu P R H n all F o with
             | none=>.stop
             | some (a,es)=>.go (.sq all fuel (listed.setIfInBounds i true)::k) a es
         | _::_=>.stop
def DH {P:Program} {S J:World->Prop} (H:Hn P S J) (all:Array Oper) (F:Fr) (o:Oper):Bool:=match wn all F o with
 | some false=>true
 | _=>(match o.dst.bind (lk H.ov) with | some _=>false | none=>true)&&(match o.op with | .load _ _=>false | _=>true)
theorem DI {P:Program} {S J:World->Prop} {R:List Rw} {H:Hn P S J} {all:Array Oper} {F:Fr} {n:Nat} {a:Act} {o:Oper} {v:Value} {t:Nat} {es:List (Oe × Oe)} (hk:bL F n a) (h:qv P R H all F o=some (v,t,es)) (he:∀ e ∈ es,e.1=e.2) (c:DH H all F o=true):Yields P all o v a:=by
 unfold qv at h;unfold DH at c;cases d:wn all F o with
 | none=>rw [d] at h;cases h
 | some b =>
   rw [d] at h c;cases b with
   | false=>simp only [Option.some.injEq,Prod.mk.injEq] at h;exact .inr ⟨jW hk d,h.1.symm⟩
   | true =>
     dsimp only at h c;rw [Bool.and_eq_true] at c;have l:o.dst.bind (lk H.ov)=none:=by
      cases s:o.dst.bind (lk H.ov) with
      | none=>rfl
      | some x=>rw [s] at c;cases c.1
     have m:sX R F o.op=none:=by have g:=c.2;unfold sX;cases f:o.op<;>first | rfl | (rw [f] at g;cases g)
     have key:Hq P [] ([]:List (Nat × Ov P (λ_=>True))) H.eq F o=some (v,(Hq P [] ([]:List (Nat × Ov P (λ_=>True))) H.eq F o).elim t (·.2.1),es):=by
      unfold Hq at h ⊢;rw [l,m] at h;have p:sX [] F o.op=none:=by unfold sX;split<;>first | rfl | (split<;>rfl)
      have q:o.dst.bind (lk ([]:List (Nat × Ov P (λ_=>True))))=none:=(by cases o.dst<;>rfl);rw [p,q];cases i:o.op.operands.all (kn F)&&yU o.op with
      | false=>rw [i] at h;cases h
      | true =>
        rw [i] at h;dsimp only at h ⊢;cases j:uW P none (execOp (ev F) o) with
        | none=>rw [j] at h;cases h
        | some y =>
          rw [j] at h;obtain ⟨A,k⟩:=y;cases A with
          | value u =>
            dsimp only at h ⊢;cases he:o.dst.bind (lk H.eq) with
            | none=>rw [he] at h;simp only [Option.some.injEq,Prod.mk.injEq] at h;rw [h.1,h.2.2];rfl
            | some e=>rw [he] at h;simp only [Option.some.injEq,Prod.mk.injEq] at h;rw [<- h.1,<- h.2.2];rfl
          | _=>cases h
     exact .inl ⟨jW hk d,λw=>(BA (S:=λ_=>True) hk key he (λ_ _ r z=>by cases z)).1 w trivial⟩
def xk (P:Program) {S J:World->Prop} (R:List Rw) (H:Hn P S J) (n:Nat) (all:Array Oper) (kk fuel:Nat) (listed:Array Bool) (k:List KI) (F:Fr):Sr :=
 match Region.noSelect all with
 | false=>.stop
 | true=>match fuel with
   | 0=>.stop
   | fuel+1=>match o9 all listed (Region.ready .any all listed) with
     | none=>.stop
     | some j=>match Nat.beq j kk,all[j]? with
       | false,some o=>match qv P R H all F o with
         | none=>.stop
         | some (v,t,es)=>match DH H all F o||(qj .any all j 6 kk&&sm .any all listed),qm n F v t o.dst with
           | true,some F'=>.go (.sk all kk fuel (listed.setIfInBounds j true)::k) F' es
           | _,_=>.stop
       | _,_=>.stop
def xl (P:Program) {S J:World->Prop} (R:List Rw) (H:Hn P S J) (n:Nat) (all:Array Oper) (fuel:Nat) (listed:Array Bool) (k:List KI) (F:Fr):Sr :=
 match Region.noSelect all with
 | false=>.stop
 | true=>match Region.ready .any all listed with
   | []=>.go k F []
   | i::is=>match fuel with
     | 0=>.stop
     | fuel+1=>match o9 all listed (i::is) with
       | none=>.stop
       | some j=>match all[j]? with
         | none=>.stop
         | some o=>match qv P R H all F o with
           | none=>.stop
           | some (v,t,es)=>match DH H all F o,qm n F v t o.dst with
             | true,some F'=>.go (.sw all fuel (listed.setIfInBounds j true)::k) F' es
             | _,_=>.stop
def ik (P:Program) (dr:Bool) (k:List KI) (F:Fr):Go.Code->Sr
 | .skip=>.go k F []
 | .seq x y=>.go (.code x::.code y::k) F []
 | .cond c x y=>match kn F c with
   | false=>.stop
   | true=>match ev F c with
     | .bool true=>.go (.code x::k) F []
     | .bool false=>.go (.code y::k) F []
     | _=>.stop
 | .block id c=>.go (.code c::.blk id::k) F []
 | .exit id=>match ou id k with
   | some b=>.go b F []
   | none=>.stop
 | .ret=>.ret
 | .region _ a false=>.go (.ops a a.toList::k) F []
 | .region _ a true=>match dr&&P.follows .mixedOrders with
   | true=>.go (.sq a a.size (Array.replicate a.size false)::k) F []
   | false=>.stop
 | _=>.stop
def Pi (P:Program) {S J:World->Prop} (R:List Rw) (H:Hn P S J) (n:Nat) (dr:Bool) (k:List KI) (F:Fr):Sr :=
 match k with
 | []=>.stop
 | .blk _::k=>.go k F []
 | .fin _::_=>.stop
 | .ops _ []::k=>.go k F []
 | .ops all (o::rest)::k=>match Hu P R H n all F o with
   | some (F',es)=>.go (.ops all rest::k) F' es
   | none=>.stop
 | .sq all fuel listed::k=>xj P R H n all fuel listed k F
 | .sk all kk fuel listed::k=>xk P R H n all kk fuel listed k F
 | .sw all fuel listed::k=>xl P R H n all fuel listed k F
 | .code c::k=>ik P dr k F c
structure pd (P:Program) (S J:World->Prop) (R:List Rw) (dr:Bool) (Q:Exit->Act->World->Prop):Prop where
 sub:∀ w,J w->S w
 rows:∀ w,S w->∀ r ∈ R,ot r w
 drew:dr=true->∀ w,J w->J w.drew
 pan:∀ c a d v w,Q (.panic c) (Act.put a d v) w->Q (.panic c) a w
section
variable {P : Program} {S J : World -> Prop} {R : List Rw} {H : Hn P S J} {n : Nat} {dr : Bool} {Q : Exit -> Act -> World -> Prop}
theorem E7 (E:pd P S J R dr Q) {all:Array Oper} {fuel:Nat} {listed:Array Bool} {k C:List KI} {F x:Fr} {es:List (Oe × Oe)} (h:xj P R H n all fuel listed k F=.go C x es) (he:∀ e ∈ es,e.1=e.2) (b:∀ a w,bL x n a->J w->ij P S Q C .normal a w) (a:Act) (w:World) (hk:bL F n a) (hS:J w):wpAnyH P .any all (ij P S Q k) S fuel listed a w:=by
 unfold xj at h;cases d:Region.noSelect all with
 | false=>rw [d] at h;cases h
 | true =>
   rw [d] at h;dsimp only at h;cases l:Region.ready .any all listed with
   | nil =>rw [l] at h;cases h;exact wpAnyH_done l (b a w hk hS) fuel
   | cons i is =>
     rw [l] at h;dsimp only at h;cases fuel with
     | zero=>cases h
     | succ fuel =>
       dsimp only at h;cases s:o9 all listed (i::is) with
       | some j =>
         rw [s] at h;dsimp only at h;cases f:all[j]? with
         | none=>rw [f] at h;cases h
         | some o =>
           rw [f] at h;dsimp only at h;cases u:qv P R H all F o with
           | none=>rw [u] at h;cases h
           | some y =>
             obtain ⟨v,t,m⟩:=y;rw [u] at h;dsimp only at h;cases q:qm n F v t o.dst with
             | none=>rw [q] at h;cases h
             | some G =>rw [q] at h;simp only [Sr.go.injEq] at h;obtain ⟨rfl,rfl,rfl⟩:=h;have g:=nl s;refine wpAnyH_take f d g.2 (by rw [l];simpa using g.1) (λc a w B=>?_) (Hr hk u he E.rows) (E.sub _ hS) (b _ _ (jw q hk) hS);rw [lN] at B ⊢;exact E.pan c a _ _ w B
       | none =>
         rw [s] at h;cases is with
         | cons _ _=>cases h
         | nil =>
           dsimp only at h;cases r:all[i]? with
           | none=>rw [r] at h;cases h
           | some o =>
             rw [r] at h;dsimp only at h;cases p:Hu P R H n all F o with
             | none=>rw [p] at h;cases h
             | some y =>obtain ⟨G,m⟩:=y;rw [p] at h;simp only [Sr.go.injEq] at h;obtain ⟨rfl,rfl,rfl⟩:=h;refine wpAnyH_all l bc λj f=>?_;rw [List.mem_singleton] at f;subst f;refine wpOp_step r λL K=>?_;exact DG hk hS E.sub p he E.rows λz D I A=>K z D ⟨E.sub _ A,b z D I A⟩
theorem E8 (E:pd P S J R dr Q) {all:Array Oper} {kk fuel:Nat} {listed:Array Bool} {k z:List KI} {F m:Fr} {es:List (Oe × Oe)} (h:xk P R H n all kk fuel listed k F=.go z m es) (he:∀ e ∈ es,e.1=e.2) (b:∀ a w,bL m n a->J w->ij P S Q z .normal a w) (a:Act) (w:World) (hk:bL F n a) (hS:J w):gE P .any all (ij P S Q k) S kk fuel listed a w:=by
 unfold xk at h;split at h;·cases h
 ·rename_i i;split at h;·cases h
  ·rename_i fuel;split at h;·cases h
   ·rename_i j B;split at h
    ·rename_i o q u;split at h;·cases h
     ·rename_i v t A x;split at h
      ·rename_i C d r;simp only [Sr.go.injEq] at h;obtain ⟨rfl,rfl,rfl⟩:=h;have f:=nl B;have g:j≠kk:=λe=>by rw [e,Nat.beq_refl] at q;cases q
       have p:∀ c a w,ij P S Q k (.panic c) (a.put o.dst v) w->ij P S Q k (.panic c) a w:=λc a w s=>by rw [lN] at s ⊢;exact E.pan c a _ _ w s
       have y:(Region.ready .any all listed).contains j=true:=(by simpa using f.1);rcases Bool.or_eq_true _ _ ▸ d with l|l;·exact xh u i f.2 y g p (DI hk x he l) (E.sub _ hS) (b _ _ (jw r hk) hS)
       ·rw [Bool.and_eq_true] at l;exact xg u i f.2 y g l.1 l.2 p (Hr hk x he E.rows) (E.sub _ hS) (b _ _ (jw r hk) hS)
      ·cases h
    ·cases h
theorem E9 (E:pd P S J R dr Q) {all:Array Oper} {fuel:Nat} {listed:Array Bool} {k p:List KI} {F l:Fr} {es:List (Oe × Oe)} (h:xl P R H n all fuel listed k F=.go p l es) (he:∀ e ∈ es,e.1=e.2) (b:∀ a w,bL l n a->J w->ij P S Q p .normal a w) (a:Act) (w:World) (hk:bL F n a) (hS:J w):wpAny P .any all (ij P S Q k) fuel listed a w:=by
 unfold xl at h;split at h;·cases h
 ·rename_i f;split at h;·rename_i g;cases h;exact wpAny_done g (b a w hk hS) fuel
  ·rename_i i is g;split at h;·cases h
   ·rename_i fuel;split at h;·cases h
    ·rename_i j u;split at h;·cases h
     ·rename_i o s;split at h;·cases h
      ·rename_i v t q x;split at h;·rename_i z y r;simp only [Sr.go.injEq] at h;obtain ⟨rfl,rfl,rfl⟩:=h;have d:=nl u;refine wpAny_take s f d.2 (by rw [g];simpa using d.1) (λc a w m=>?_) (DI hk x he y) (b _ _ (jw r hk) hS);rw [lN] at m ⊢;exact E.pan c a _ _ w m
       ·cases h
theorem qX (E:pd P S J R dr Q) {c:Go.Code} {k i:List KI} {F g:Fr} {es:List (Oe × Oe)} (h:ik P dr k F c=.go i g es) (b:∀ a w,bL g n a->J w->ij P S Q i .normal a w) (a:Act) (w:World) (hk:bL F n a) (hS:J w):c.wp P (ij P S Q k) a w:=by
 unfold ik at h;split at h;·cases h;exact wp_skip (b a w hk hS)
 ·cases h;exact wp_seq (b a w hk hS)
 ·split at h;·cases h
  ·rename_i e;split at h;·rename_i d;cases h;exact wp_cond_true ((hk.eval e).trans d) (b a w hk hS)
   ·rename_i d;cases h;exact wp_cond_false ((hk.eval e).trans d) (b a w hk hS)
   ·cases h
 ·cases h;exact wp_block (b a w hk hS)
 ·split at h;·rename_i j;cases h;exact wp_exit (jE j (b a w hk hS))
  ·cases h
 ·cases h
 ·cases h;exact wp_region_list (b a w hk hS)
 ·split at h;·rename_i f;rw [Bool.and_eq_true] at f;cases h;exact wp_region_held f.2 (b a w.drew hk (E.drew f.1 w hS))
  ·cases h
 ·cases h
theorem NS (E:pd P S J R dr Q) {k f:List KI} {F c:Fr} {es:List (Oe × Oe)} (h:Pi P R H n dr k F=.go f c es) (he:∀ e ∈ es,e.1=e.2) (b:∀ a w,bL c n a->J w->ij P S Q f .normal a w) (a:Act) (w:World) (hk:bL F n a) (hS:J w):ij P S Q k .normal a w:=by
 unfold Pi at h;split at h;·cases h
 ·cases h;exact b a w hk hS
 ·cases h
 ·cases h;exact b a w hk hS
 ·split at h;·rename_i m;cases h;show wpList P _ _ (_::_) a w;exact wpList_step λK l=>DG hk hS E.sub m he E.rows λd g i j=>l d g (b d g i j)
  ·cases h
 ·exact E7 E h he b a w hk hS
 ·exact E8 E h he b a w hk hS
 ·exact E9 E h he b a w hk hS
 ·exact qX E h b a w hk hS
def aU (P:Program) {S J:World->Prop} (R:List Rw) (H:Hn P S J) (n:Nat) (dr:Bool):Nat->List KI->Fr->(Bool × List KI × Fr) × List (Oe × Oe)
 | 0,k,F=>((false,k,F),[])
 | m+1,k,F=>match Pi P R H n dr k F with
   | .stop=>((false,k,F),[])
   | .ret=>((true,k,F),[])
   | .go c a b=>match aU P R H n dr m c a with
     | (r,es')=>(r,b++es')
theorem xm (E:pd P S J R dr Q):∀ (m:Nat) (k:List KI) (F:Fr),(∀ e ∈ (aU P R H n dr m k F).2,e.1=e.2) ->
 (∀ a w,bL (aU P R H n dr m k F).1.2.2 n a->J w->if (aU P R H n dr m k F).1.1=true then Q .ret a w else ij P S Q (aU P R H n dr m k F).1.2.1 .normal a w)->∀ a w,bL F n a->J w->ij P S Q k .normal a w
 | 0,k,F,_,hf,a,w,hk,hS=>by simpa [aU] using hf a w hk hS
 | m+1,k,F,he,hf,a,w,hk,hS=>by
   cases d:Pi P R H n dr k F with
   | stop =>
     have e:aU P R H n dr (m+1) k F=((false,k,F),[]):=by simp only [aU,d]
     rw [e] at hf
     simpa using hf a w hk hS
   | ret =>
     have e:aU P R H n dr (m+1) k F=((true,k,F),[]):=by simp only [aU,d]
     rw [e] at hf
     have l:Q .ret a w:=by simpa using hf a w hk hS
     unfold Pi at d
     split at d
     ·cases d
     ·cases d
     ·cases d
     ·cases d
     ·split at d<;>cases d
     ·unfold xj at d
      repeat (split at d<;>try cases d)
     ·unfold xk at d
      repeat (split at d<;>try cases d)
     ·unfold xl at d
      repeat (split at d<;>try cases d)
     ·rename_i c f
      cases c with
      | ret=>exact wp_ret (by rw [xi];exact l)
      | region i o b=>cases b<;>simp only [ik] at d<;>(try split at d)<;>cases d
      | cond=>simp only [ik] at d;repeat (split at d<;>try cases d)
      | exit=>simp only [ik] at d;split at d<;>cases d
      | _=>cases d
   | go f g j =>
     have e:aU P R H n dr (m+1) k F=((aU P R H n dr m f g).1,j++(aU P R H n dr m f g).2):=by simp only [aU,d]
     rw [e] at he hf
     exact NS E d (λx h=>he x (by simp [h])) (xm E m f g (λx h=>he x (by simp [h])) hf) a w hk hS
def Wg (P:Program) (S:World->Prop) (Q:Exit->Act->World->Prop) (n:Nat) (k:List KI) (F:Fr) (w:World):Prop:=∀ a,bL F n a->ij P S Q k .normal a w
theorem af (E:pd P S J R dr Q) (H:Hn P S J) (m:Nat) {k:List KI} {F:Fr} {w:World} (hS:J w)
 (h:∀ b,J b->Wg P S Q n (aU P R H n dr m k F).1.2.1 (aU P R H n dr m k F).1.2.2 b) (hret:(aU P R H n dr m k F).1.1=false:=by kernel_rfl) (he:(aU P R H n dr m k F).2.map Prod.fst=(aU P R H n dr m k F).2.map Prod.snd:=by kernel_rfl):Wg P S Q n k F w:=λa d =>
 xm E m k F (λe f=>List.map_inj_left.1 he e f) (λa w c g=>by rw [hret,if_neg a5];exact h w g a c) a w d hS
theorem bm {fn:Func} {Rs:Ending->World->Prop} (E:pd P S J R dr (bodyPost P fn Rs)) (H:Hn P S J) (m:Nat) {k:List KI} {F:Fr} {w:World} {t:Nat} {v:Value} (hS:J w)
 (h:∀ f,J f->Rs (.returned v) f) (hv:((aU P R H n dr m k F).1.1,(lk (aU P R H n dr m k F).1.2.2 t).map Prod.fst)=(true,some v):=by kernel_rfl) (he:(aU P R H n dr m k F).2.map Prod.fst=(aU P R H n dr m k F).2.map Prod.snd:=by kernel_rfl) (hr:fn.results=#[.tmp t]:=by rfl):Wg P S (bodyPost P fn Rs) n k F w:=λa g =>
 xm E m k F (λe i=>List.map_inj_left.1 he e i) (λa w d j=>by
  simp only [Prod.mk.injEq] at hv
  rw [hv.1,if_pos rfl]
  obtain ⟨x,b,c⟩:=Option.map_eq_some_iff.1 hv.2
  have l:=d.at_ t x b
  exact bodyPost_ret (results_tmp hr _ _ _) d.nod (by rw [Array.getD_eq_getD_getElem?,l,c];exact h w j)) a w g hS
def Hv:Nat->List Value->Fr
 | _,[]=>[]
 | i,v::l=>(i,v,0)::Hv (i+1) l
theorem DJ:∀ (l:List Value) (i t:Nat) (x:Value × Nat),lk (Hv i l) t=some x->i<=t/\l[t-i]?=some x.1
 | [],_,_,_,h=>ow
 | v::l,i,t,x,h=>by
   unfold Hv lk at h
   cases a:Nat.beq i t with
   | true =>
     rw [a] at h
     cases h
     have:i=t:=Nat.eq_of_beq_eq_true a
     subst this
     simp
   | false =>
     rw [a] at h
     obtain ⟨c,b⟩:=DJ l (i+1) t x h
     refine ⟨al,?_⟩
     rw [show t-i=(t-(i+1))+1 by omega]
     simpa using b
theorem fD {f:Nat} {fn:Func} {c:Go.Code} {args:List Value} {w:World} {Rs:Ending->World->Prop} (S:World->Prop) (d:P.funcs[f]?=some fn) (h:Wg P S (bodyPost P fn Rs) fn.ntmps [.code c] (Hv 0 args) w) (hb:fn.body=some c:=by rfl) (hn:Nat.ble args.length fn.ntmps=true:=by kernel_rfl):Calls P f args.toArray w Rs :=
 calls_of_wp d hb (h _ ⟨by
  have:args.length<=fn.ntmps:=Nat.le_of_ble_eq_true hn
  simp;omega,rfl,λt x g=>by
  obtain ⟨_,a⟩:=DJ args 0 t x g
  have b:t<args.length:=by
   rw [Nat.sub_zero] at a
   exact (List.getElem?_eq_some_iff.1 a).1
  rw [Nat.sub_zero] at a
  have e:=(List.getElem?_eq_some_iff.1 a).2
  simp [Array.getElem?_append,b]
  simpa using e⟩)
def gP:List KI->Bool
 | []=>true
 | .sq _ _ _::_=>false
 | .code _::k=>gP k
 | .blk _::k=>gP k
 | .ops _ _::k=>gP k
 | .fin _::k=>gP k
 | .sk _ _ _ _::_=>false
 | .sw _ _ _::k=>gP k
theorem vJ {S':World->Prop}:∀ {k:List KI},gP k=true->ij P S' Q k=ij P S Q k
 | [],_=>rfl
 | .sq _ _ _::_,h=>ow
 | .code _::k,h=>by unfold ij;rw [vJ (k:=k) h]
 | .blk _::k,h=>by unfold ij;rw [vJ (k:=k) h]
 | .ops _ _::k,h=>by unfold ij;rw [vJ (k:=k) h]
 | .fin _::k,h=>by unfold ij;rw [vJ (k:=k) h]
 | .sk _ _ _ _::_,h=>ow
 | .sw _ _ _::k,h=>by unfold ij;rw [vJ (k:=k) h]
theorem aR {k:List KI} {F:Fr} {w:World} (S':World->Prop) (h:Wg P S' Q n k F w) (hn:gP k=true:=by kernel_rfl):Wg P S Q n k F w:=λa b=>by rw [<- vJ (S':=S') hn];exact h a b
def sY (P:Program) (n N:Nat):List Oper->Fr->List (Array Value × TypeId)->Option (Fr × List (Array Value × TypeId))
 | [],F,bs=>some (F,bs)
 | o::os,F,bs=>match o.guard,o.dst with
   | none,some d=>match Nat.blt d n with
     | false=>none
     | true=>match o.op with
       | .box t x=>match kn F x with
         | true=>sY P n N os ((d,.p (N+bs.length) 0,bs.length+1)::F) (bs++[((ev F x).cells,t)])
         | false=>none
       | .assign x=>match kn F x with
         | true=>sY P n N os ((d,ev F x,Hp F x)::F) bs
         | false=>none
       | .alloc t=>match P.info? t with
         | some i=>match i.zero with
           | some z=>sY P n N os ((d,.p (N+bs.length) 0,bs.length+1)::F) (bs++[(z.cells,t)])
           | none=>none
         | none=>none
       | _=>none
   | _,_=>none
def ew (w:World):List (Array Value × TypeId)->World
 | []=>w
 | x::l=>ew (w.alloc (.cells x.1 x.2)) l
theorem nn (x:Array Value × TypeId):∀ (l:List (Array Value × TypeId)) (w:World),ew w (l++[x])=(ew w l).alloc (.cells x.1 x.2)
 | [],_=>rfl
 | _::l,w=>nn x l _
theorem ns:∀ (l:List (Array Value × TypeId)) (w:World),(ew w l).heap.size=w.heap.size+l.length
 | [],_=>rfl
 | _::l,w=>by
   show (ew _ l).heap.size=_
   rw [ns l,World.size_alloc,List.length_cons]
   omega
theorem pe {all:Array Oper} {w:World}:∀ {l:List Oper} {F j:Fr} {b e:List (Array Value × TypeId)},sY P n w.heap.size l F b=some (j,e)->(∀ a,bL j n a->Q .normal a (ew w e))->∀ a,bL F n a->wpList P all Q l a (ew w b)
 | [],F,j,b,e,h,hQ,a,hk=>by
   simp only [sY,Option.some.injEq,Prod.mk.injEq] at h
   obtain ⟨rfl,rfl⟩:=h
   exact hQ a hk
 | o::os,F,j,b,e,h,hQ,a,hk=>by
   unfold sY at h
   split at h
   ·rename_i d m k
    split at h
    ·cases h
    ·rename_i p
     split at h
     ·rename_i t x c
      split at h
      ·rename_i f
       refine wpList_plain m λK g=>?_
       show o.upon P a K _ ((execOp a.eval o).run P (ew w b))
       have:(execOp a.eval o).run P (ew w b)=.ok (.value (.pointer (some ⟨(ew w b).heap.size,0,none⟩))) ((ew w b).alloc (.cells (ev F x).cells t)):=by
        unfold execOp
        rw [c]
        simp only [hk.eval f]
        rfl
       rw [this,ns]
       show K (a.put o.dst _) _
       rw [k,<- nn ((ev F x).cells,t)]
       exact g _ _ (pe h hQ _ (hk.put p _ _))
      ·cases h
     ·rename_i x c
      split at h
      ·rename_i f
       refine wpList_plain m λK g=>?_
       show o.upon P a K _ ((execOp a.eval o).run P (ew w b))
       have:(execOp a.eval o).run P (ew w b)=.ok (.value (ev F x)) (ew w b):=by
        unfold execOp
        rw [c]
        simp only [hk.eval f]
        rfl
       rw [this]
       show K (a.put o.dst _) _
       rw [k]
       exact g _ _ (pe h hQ _ (hk.put p _ _))
      ·cases h
     ·rename_i t c
      split at h
      ·rename_i i q
       split at h
       ·rename_i z r
        refine wpList_plain m λK g=>?_
        show o.upon P a K _ ((execOp a.eval o).run P (ew w b))
        have:(execOp a.eval o).run P (ew w b)=.ok (.value (.pointer (some ⟨(ew w b).heap.size,0,none⟩))) ((ew w b).alloc (.cells z.cells t)):=by
         unfold execOp
         rw [c]
         simp [Instr.alloc,zeroValue,typeInfo,q,r,newVar,newRow]
        rw [this,ns]
        show K (a.put o.dst _) _
        rw [k,<- nn (z.cells,t)]
        exact g _ _ (pe h hQ _ (hk.put p _ _))
       ·cases h
      ·cases h
     ·cases h
   ·cases h
def pf (P:Program) (n N:Nat) (c:Go.Code) (args:List Value):Option (List (Array Value × TypeId) × List KI × Fr):=match c with
 | .seq (.region _ ops false) rest=>match sY P n N ops.toList (Hv 0 args) [] with
   | some (F,bs)=>some (bs,[.code rest],F)
   | none=>none
 | _=>none
def Hy (P:Program) (n N:Nat) (c:Go.Code) (args:List Value):List KI:=match pf P n N c args with
 | some x=>x.2.1
 | none=>[]
def Hz (P:Program) (n N:Nat) (c:Go.Code) (args:List Value):Fr:=match pf P n N c args with
 | some x=>x.2.2
 | none=>[]
theorem cn {f:Nat} {fn:Func} {c:Go.Code} {args:List Value} {w:World} {Rs:Ending->World->Prop} (bs:List (Array Value × TypeId)) (j:P.funcs[f]?=some fn) (h:Wg P S (bodyPost P fn Rs) fn.ntmps (Hy P fn.ntmps w.heap.size c args) (Hz P fn.ntmps w.heap.size c args) (ew w bs)) (hb:fn.body=some c:=by rfl) (hn:Nat.ble args.length fn.ntmps=true:=by kernel_rfl) (hs:(pf P fn.ntmps w.heap.size c args).map Prod.fst=some bs:=by kernel_rfl):Calls P f args.toArray w Rs:=by
 refine fD S j (hb:=hb) (hn:=hn) λa k=>?_;unfold Hy Hz at h;cases b:pf P fn.ntmps w.heap.size c args with
 | none=>rw [b] at hs;cases hs
 | some y =>
   obtain ⟨e,o,m⟩:=y;rw [b] at hs h;simp only [Option.map_some,Option.some.injEq] at hs;subst hs;unfold pf at b;split at b
   ·rename_i id l rest;split at b;·rename_i n g d;simp only [Option.some.injEq,Prod.mk.injEq] at b;obtain ⟨rfl,rfl,rfl⟩:=b;refine wp_seq (wp_region_list ?_);exact pe (Q:=Exit.then (λa w=>rest.wp P (bodyPost P fn Rs) a w) (bodyPost P fn Rs)) d (λa i=>h a i) a k
    ·cases b
   ·cases b
def yV (F:Fr):List KI->Option (Oper × List KI × Bool)
 | .ops all (o::rest)::k=>match wn all F o with
   | some true=>some (o,.ops all rest::k,false)
   | _=>none
 | .sq all (m+1) listed::k=>match Region.ready .any all listed with
   | [i]=>match all[i]? with
     | some o=>match wn all F o with
       | some true=>some (o,.sq all m (listed.setIfInBounds i true)::k,true)
       | _=>none
     | none=>none
   | _=>none
 | .sk all kk (m+1) listed::k=>match Region.ready .any all listed with
   | [i]=>match all[i]? with
     | some o=>match wn all F o with
       | some true=>match Nat.beq i kk with
         | true=>some (o,.sw all m (listed.setIfInBounds i true)::k,false)
         | false=>some (o,.sk all kk m (listed.setIfInBounds i true)::k,true)
       | _=>none
     | none=>none
   | _=>none
 | .sw all (m+1) listed::k=>match Region.ready .any all listed with
   | [i]=>match all[i]? with
     | some o=>match wn all F o with
       | some true=>some (o,.sw all m (listed.setIfInBounds i true)::k,false)
       | _=>none
     | none=>none
   | _=>none
 | _=>none
def ox (F:Fr) (k:List KI):List KI:=match yV F k with
 | some x=>x.2.1
 | none=>[]
def xn (F:Fr) (k:List KI):Bool:=match yV F k with
 | some x=>x.2.2
 | none=>false
def DK (n:Nat) (F:Fr) (k:List KI):Option (Sem Next):=match yV F k with
 | some (o,_,_)=>match o.op.operands.all (kn F)&&yU o.op&&(match o.dst with | some d=>Nat.blt d n | none=>true) with
   | true=>some (execOp (ev F) o)
   | false=>none
 | none=>none
def qn (F:Fr) (k:List KI) (v:Value) (t:Nat):Fr:=match yV F k with
 | some (o,_,_)=>match o.dst with
   | some d=>(d,v,t)::F
   | none=>F
 | none=>F
def Lb (P:Program) (n:Nat) (F:Fr) (k:List KI):Option (Nat × Array Value):=match yV F k with
 | some (o,_,_)=>match (match o.dst with | some d=>Nat.blt d n | none=>true) with
   | true=>qk P F o
   | false=>none
 | none=>none
theorem xo {k z:List KI} {F:Fr} {o:Oper} {b:Bool} (h:yV F k=some (o,z,b)) {a:Act} {w:World} (hk:bL F n a) (t:∀ K:Act->World->Prop,(∀ f d,(b=true->S d)->ij P S Q z .normal f d->K f d)->o.wp P a w K (ij P S Q z)):ij P S Q k .normal a w:=by
 unfold yV at h;split at h
 ·rename_i all v rest p;split at h;·rename_i c;simp only [Option.some.injEq,Prod.mk.injEq] at h;obtain ⟨rfl,rfl,rfl⟩:=h;show wpList P all (ij P S Q p) (v::rest) a w;refine wpList_step λK g=>?_;rw [if_pos (jW hk c)];exact t K λf d _ l=>g f d l
  ·cases h
 ·rename_i all m listed p;split at h
  ·rename_i i s;split at h
   ·rename_i v r;split at h;·rename_i c;simp only [Option.some.injEq,Prod.mk.injEq] at h;obtain ⟨rfl,rfl,rfl⟩:=h;show wpAnyH P .any all (ij P S Q p) S (m+1) listed a w;refine wpAnyH_all s bc λj B=>?_;rw [List.mem_singleton] at B;subst B;refine wpOp_step r λq g=>?_;rw [if_pos (jW hk c)];exact t q λf d y l=>g f d ⟨y rfl,l⟩
    ·cases h
   ·cases h
  ·cases h
 ·rename_i all A m listed p;split at h
  ·rename_i i s;split at h
   ·rename_i v r;split at h
    ·rename_i c;split at h;·rename_i u;simp only [Option.some.injEq,Prod.mk.injEq] at h;obtain ⟨rfl,rfl,rfl⟩:=h;have e:i=A:=Nat.eq_of_beq_eq_true u;subst e;show gE P .any all (ij P S Q p) S i (m+1) listed a w;refine Bz r s λq g=>?_;rw [if_pos (jW hk c)];exact t q λf d _ l=>g f d l
     ·rename_i u;simp only [Option.some.injEq,Prod.mk.injEq] at h;obtain ⟨rfl,rfl,rfl⟩:=h;have x:i≠A:=λe=>by rw [e,Nat.beq_refl] at u;cases u
      show gE P .any all (ij P S Q p) S A (m+1) listed a w;refine Bv r s x λq g=>?_;rw [if_pos (jW hk c)];exact t q λf d y l=>g f d (y rfl) (λ_=>l)
    ·cases h
   ·cases h
  ·cases h
 ·rename_i all m listed p;split at h
  ·rename_i i s;split at h
   ·rename_i v r;split at h;·rename_i c;simp only [Option.some.injEq,Prod.mk.injEq] at h;obtain ⟨rfl,rfl,rfl⟩:=h;show wpAny P .any all (ij P S Q p) (m+1) listed a w;refine E6 r s λq g=>?_;rw [if_pos (jW hk c)];exact t q λf d _ l=>g f d l
    ·cases h
   ·cases h
  ·cases h
 ·cases h
theorem iQ {k:List KI} {F:Fr} {w w':World} {s:Sem Next} {v:Value} (t:Nat) (hr:s.run P w=.ok (.value v) w') (h:Wg P S Q n (ox F k) (qn F k v t) w') (hx:DK n F k=some s:=by kernel_rfl) (hS:xn F k=true->S w':=by exact gp a3):Wg P S Q n k F w:=λa f=>by
 unfold DK at hx;unfold xn at hS;unfold ox qn at h;cases i:yV F k with
 | none=>rw [i] at hx;cases hx
 | some y =>
   obtain ⟨o,p,b⟩:=y;rw [i] at hx hS h;dsimp only at hx hS h;split at hx
   ·rename_i c;cases hx;rw [Bool.and_eq_true,Bool.and_eq_true] at c;have g:execOp a.eval o=execOp (ev F) o:=execOp_congr o (λm b e=>by have:=c.1.2;rw [e] at this;cases this) λx hx=>f.eval (Array.all_eq_true_iff_forall_mem.1 c.1.1 x hx);refine xo i f λK j=>?_;show o.upon P a K _ _;rw [g,hr];refine j _ _ hS (h _ ?_);cases l:o.dst with
    | none=>exact f
    | some d=>rw [l] at c;exact f.put c.2 v t
   ·cases hx
theorem bM {k:List KI} {F:Fr} {w w':World} {s:Sem Next} (hr:s.run P w=.ok .skip w') (h:Wg P S Q n (ox F k) (qn F k undef 0) w') (hx:DK n F k=some s:=by kernel_rfl) (hS:xn F k=true->S w':=by exact gp a3):Wg P S Q n k F w:=λa f=>by
 unfold DK at hx;unfold xn at hS;unfold ox qn at h;cases i:yV F k with
 | none=>rw [i] at hx;cases hx
 | some y =>
   obtain ⟨o,p,b⟩:=y;rw [i] at hx hS h;dsimp only at hx hS h;split at hx
   ·rename_i c;cases hx;rw [Bool.and_eq_true,Bool.and_eq_true] at c;have g:execOp a.eval o=execOp (ev F) o:=execOp_congr o (λm b e=>by have:=c.1.2;rw [e] at this;cases this) λx hx=>f.eval (Array.all_eq_true_iff_forall_mem.1 c.1.1 x hx);refine xo i f λK j=>?_;show o.upon P a K _ _;rw [g,hr];refine j _ _ hS (h _ ?_);cases l:o.dst with
    | none=>exact f
    | some d=>rw [l] at c;exact f.put c.2 undef 0
   ·cases hx
theorem mr {k:List KI} {F:Fr} {w:World} {f:Nat} {args:Array Value} {Rc:Ending->World->Prop} (p:Calls P f args w Rc) (h:∀ e c,Rc e c->∃ v t,e=.returned v/\(xn F k=true->S c)/\Wg P S Q n (ox F k) (qn F k v t) c) (hx:Lb P n F k=some (f,args):=by kernel_rfl):Wg P S Q n k F w:=λa g=>by
 unfold Lb at hx;unfold ox qn xn at h;cases j:yV F k with
 | none=>rw [j] at hx;cases hx
 | some y =>
   obtain ⟨o,u,b⟩:=y;rw [j] at hx h;dsimp only at hx h;split at hx
   ·rename_i l;refine xo j g λK m=>?_;show o.upon P a K _ _;rw [ql g hx w];refine p.mono λe c q=>?_;obtain ⟨v,t,rfl,r,s⟩:=h e c q;refine m _ _ r (s _ ?_);cases i:o.dst with
    | none=>exact g
    | some d=>rw [i] at l;exact g.put l v t
   ·cases hx
theorem aW (E:pd P S J R dr Q) (H:Hn P S J) (m:Nat) {k:List KI} {F:Fr} {w:World} {f:Nat} {args:Array Value} {Rc:World->Ending->World->Prop} (hS:J w) (g:∀ b,J b->Calls P f args b (Rc b)) (h:∀ b e a,J b->Rc b e a->∃ v t,e=.returned v/\(xn (aU P R H n dr m k F).1.2.2 (aU P R H n dr m k F).1.2.1=true->S a)/\Wg P S Q n (ox (aU P R H n dr m k F).1.2.2 (aU P R H n dr m k F).1.2.1) (qn (aU P R H n dr m k F).1.2.2 (aU P R H n dr m k F).1.2.1 v t) a) (hx:((aU P R H n dr m k F).1.1,Lb P n (aU P R H n dr m k F).1.2.2 (aU P R H n dr m k F).1.2.1)=(false,some (f,args)):=by kernel_rfl) (he:(aU P R H n dr m k F).2.map Prod.fst=(aU P R H n dr m k F).2.map Prod.snd:=by kernel_rfl):Wg P S Q n k F w:=by simp only [Prod.mk.injEq] at hx;exact af E H m hS (hret:=hx.1) (he:=he) λb c=>mr (g b c) (hx:=hx.2) λe a d=>h b e a c d
theorem lm {fn:Func} {Rs:Ending->World->Prop} (E:pd P S J R dr (bodyPost P fn Rs)) (H:Hn P S J) (m:Nat) {k:List KI} {F:Fr} {w:World} (hS:J w)
 (h:∀ b a,J b->bL (aU P R H n dr m k F).1.2.2 n a->∃ v,(results fn a.tmps).run P b=.ok v b/\Rs (.returned v) b) (hv:(aU P R H n dr m k F).1.1=true:=by kernel_rfl) (he:(aU P R H n dr m k F).2.map Prod.fst=(aU P R H n dr m k F).2.map Prod.snd:=by kernel_rfl):Wg P S (bodyPost P fn Rs) n k F w:=λa g =>
 xm E m k F (λe i=>List.map_inj_left.1 he e i) (λa w c j=>by
  rw [hv,if_pos rfl]
  obtain ⟨v,d,f⟩:=h w a j c
  exact bodyPost_ret d c.nod f) a w g hS
theorem bL.slot {F:Fr} {n:Nat} {a:Act} (h:bL F n a) {t:Nat} {v:Value} (hl:(lk F t).map Prod.fst=some v):a.tmps.getD t undef=v:=by obtain ⟨x,b,c⟩:=Option.map_eq_some_iff.1 hl;rw [Array.getD_eq_getD_getElem?,h.at_ t x b,<- c];rfl
def au {c b:Bool} (h:c=b):Vq:=⟨.bool c,.bool b,0,by rw [h]⟩
theorem dA {fn:Func} {Rs:Ending->World->Prop} (c:List PanicEntry) (a:Act) (d:Option Nat) (v:Value) (w:World) (h:bodyPost P fn Rs (.panic c) (Act.put a d v) w):bodyPost P fn Rs (.panic c) a w:=by cases d<;>exact h
end
end Go.Proofs.YtjifdmoehfbihaaGreatDoor
