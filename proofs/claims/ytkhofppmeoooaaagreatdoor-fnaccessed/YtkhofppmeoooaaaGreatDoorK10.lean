/- Own lemmas. -/
import Derived.Test.YtkhofppmeoooaaaGreatDoorK01
import Derived.Test.YtkhofppmeoooaaaGreatDoorK02
import Derived.Test.YtkhofppmeoooaaaGreatDoorK03
import Derived.WalkKit
import Derived.Deep.RegionHeld3
namespace Go.Proofs.YtkhofppmeoooaaaGreatDoor
open Go.RowKit
set_option linter.unusedVariables false

structure Rw where
 b:Nat
 cs:Array Value
 tg:List (Nat × Nat)

abbrev Fr:=List (Nat × Value × Nat)

def lk {α:Type}:List (Nat × α)→Nat→Option α
 | [],_=>none
 | (t,x) :: F,s=>match Nat.beq t s with
  | true=>some x
  | false=>lk F s

def ev (F:Fr):Operand→Value
 | .tmp t=>match lk F t with
  | some x=>x.1
  | none=>undef
 | .const v=>v
 | .global g=>.pointer (some ⟨g,0,none⟩)
 | .func f=>.func (.func f) #[] #[]

def tgo (F:Fr):Operand→Nat
 | .tmp t=>match lk F t with
  | some x=>x.2
  | none=>0
 | _=>0

def kn (F:Fr):Operand→Bool
 | .tmp t=>(lk F t).isSome
 | _=>true

structure Knows (F:Fr) (n:Nat) (a:Act):Prop where
 size:a.tmps.size=n
 nod:a.defers=[]
 at_:∀ t x,lk F t=some x→a.tmps[t]?=some x.1

theorem Knows.eval {F:Fr} {n:Nat} {a:Act} (h:Knows F n a) {x:Operand} (hx:kn F x=true):a.eval x=ev F x:=by
 cases x with
 | tmp t =>
  simp only [kn,Option.isSome_iff_exists] at hx
  obtain ⟨y,hy⟩:=hx
  have:=h.at_ t y hy
  simp [Act.eval,ev,hy,Array.getD_eq_getD_getElem?,this]
 | const v=>rfl
 | global g=>rfl
 | func f=>rfl

theorem Knows.put {F:Fr} {n:Nat} {a:Act} (h:Knows F n a) {d:Nat} (hd:Nat.blt d n=true) (v:Value) (g:Nat):Knows ((d,v,g) :: F) n (a.put (some d) v):=by
 have hlt:d < n:=Nat.lt_of_succ_le (by simpa [Nat.blt] using hd)
 refine ⟨by simp [Act.put,h.size],h.nod,fun t x hx=>?_⟩
 unfold lk at hx
 have hs:=h.size
 cases hb:Nat.beq d t with
 | true =>
  rw [hb] at hx
  have hdt:d=t:=Nat.eq_of_beq_eq_true hb
  subst hdt
  cases hx
  simp [Act.put,hs,hlt]
 | false =>
  rw [hb] at hx
  have hdt:d≠t:=fun e=>by rw [e,Nat.beq_refl] at hb;cases hb
  have:=h.at_ t x hx
  simp only [Act.put]
  rw [Array.getElem?_setIfInBounds_ne hdt]
  exact this

def qrun {α:Type} (P:Program) (r:Option Rw):Sem α→Option (α × List (Addr × Addr))
 | .pure a=>some (a,[])
 | .load _ a k=>match r with
  | none=>none
  | some r=>match r.cs[a.off]? with
   | none=>none
   | some v=>match qrun P (some r) (k v) with
    | none=>none
    | some x=>some (x.1,(a,⟨r.b,a.off,none⟩) :: x.2)
 | .program k=>qrun P r (k P)
 | .mark _ k=>qrun P r k
 | _=>none

def rowIn (r:Rw) (w:World):Prop:=∃ t fr,w.heap[r.b]?=some (.cells r.cs t fr)

theorem qrun_ok {α:Type} {P:Program} {r:Option Rw} {w:World} (hr:∀ r',r=some r'→rowIn r' w):∀ (s:Sem α) (x:α) (es:List (Addr × Addr)),qrun P r s=some (x,es)→(∀ e ∈ es,e.1=e.2)→s.run P w=.ok x w:=by
 intro s
 induction s with
 | pure a=>intro x es h _;simp only [qrun,Option.some.injEq,Prod.mk.injEq] at h;rw [h.1];rfl
 | load m a k ih =>
  intro x es h he
  unfold qrun at h
  cases r with
  | none=>cases h
  | some r =>
   dsimp only at h
   cases hv:r.cs[a.off]? with
   | none=>rw [hv] at h;cases h
   | some v =>
    rw [hv] at h
    dsimp only at h
    cases hq:qrun P (some r) (k v) with
    | none=>rw [hq] at h;cases h
    | some y =>
     rw [hq] at h
     simp only [Option.some.injEq,Prod.mk.injEq] at h
     obtain ⟨h1,h2⟩:=h
     subst h2
     have ha:a=⟨r.b,a.off,none⟩:=he (a,⟨r.b,a.off,none⟩) (by simp)
     obtain ⟨t,fr,hrow⟩:=hr r rfl
     have hc:w.cell? a=some v:=by
      rw [ha]
      simp only [World.cell?,hrow]
      simpa using hv
     have:=ih v x y.2 (by rw [hq,← h1]) (fun e h=>he e (by simp [h]))
     simp only [Sem.run,hc]
     exact this
 | program k ih=>intro x es h he;exact ih P x es h he
 | mark m k ih=>intro x es h he;exact ih x es h he
 | store=>intro x es h;cases h
 | new=>intro x es h;cases h
 | shape=>intro x es h;cases h
 | freeze=>intro x es h;cases h
 | frozen=>intro x es h;cases h
 | getObj=>intro x es h;cases h
 | setObj=>intro x es h;cases h
 | choose=>intro x es h;cases h
 | sys=>intro x es h;cases h
 | halt=>intro x es h;cases h

structure Ov (P:Program) (S:World→Prop) where
 s:Sem Next
 v:Value
 t:Nat
 h:∀ w,S w→s.run P w=.ok (.value v) w

structure Cv (P:Program) (S:World→Prop) where
 f:Nat
 args:Array Value
 v:Value
 t:Nat
 h:∀ w,S w→Calls P f args w fun e w'=>e=.returned v∧S w'

structure Vq where
 u:Value
 v:Value
 t:Nat
 h:u=v

inductive Oe where
 | a (x:Addr)
 | v (x:Value)
 | s (x:Sem Next)
 | c (f:Nat) (args:Array Value)

def wn (ops:Array Oper) (F:Fr) (o:Oper):Option Bool :=
 match o.guard with
 | none=>some true
 | some (j,want)=>match ops[j]? with
  | none=>none
  | some oj=>match oj.dst with
   | none=>none
   | some d=>match lk F d with
    | none=>none
    | some x=>match x.1 with
     | .bool b=>some (b==want)
     | _=>some false

theorem wn_ok {ops:Array Oper} {F:Fr} {n:Nat} {a:Act} {o:Oper} {b:Bool} (h:Knows F n a) (hw:wn ops F o=some b):Region.wanted o (yielded ops a.tmps)=b:=by
 unfold wn at hw
 unfold Region.wanted
 cases hg:o.guard with
 | none=>rw [hg] at hw;simpa using hw
 | some g =>
  obtain ⟨j,want⟩:=g
  rw [hg] at hw
  dsimp only at hw ⊢
  unfold yielded
  cases hj:ops[j]? with
  | none=>rw [hj] at hw;cases hw
  | some oj =>
   rw [hj] at hw
   dsimp only at hw
   cases hd:oj.dst with
   | none=>rw [hd] at hw;cases hw
   | some d =>
    rw [hd] at hw
    dsimp only at hw
    cases hl:lk F d with
    | none=>rw [hl] at hw;cases hw
    | some x =>
     rw [hl] at hw
     dsimp only at hw
     have:=h.at_ d x hl
     simp only [Option.bind_some,hd,this]
     obtain ⟨v,g⟩:=x
     dsimp only at hw ⊢
     cases v<;>simp_all

def rowOf (R:List Rw) (F:Fr):Op→Option Rw
 | .load _ x=>match tgo F x with
  | 0=>none
  | k+1=>R[k]?
 | _=>none

def tagOf (R:List Rw) (F:Fr):Op→Nat
 | .move x=>tgo F x
 | .assign x=>tgo F x
 | .nilCheck x=>tgo F x
 | .fieldAddr _ x _=>tgo F x
 | .pick c x y=>match ev F c with
  | .bool true=>tgo F x
  | _=>tgo F y
 | .load _ x=>match tgo F x with
  | 0=>0
  | k+1=>match R[k]?,ev F x with
   | some r,.pointer (some p)=>(lk r.tg p.off).getD 0
   | _,_=>0
 | _=>0

def isEv:Op→Bool
 | .alloc _ | .box _ _ | .build _ _ | .buildSlice _ _ _ | .insert _ _ _ _ | .store _ _ _ | .ready _ | .waits _ | .makeFunc _ _ _ | .makeMap _ _ | .makeChan _ _ | .makeSlice _ _ _
 | .mapUpdate _ _ _ _ | .mapEntry _ _ _ | .entryStore _ _ _ _ | .range _ _ | .next _ _ | .entry _ | .go _ | .defer _ | .panic _ | .send _ _ | .recv _ _ _ | .select _ _=>true
 | .call c=>match c.callee with
  | .builtin .len=>false
  | _=>true
 | _=>false

def noSel:Op→Bool
 | .select _ _=>false
 | _=>true

def pl (P:Program) (f:Nat):Bool:=match P.funcs[f]? with
 | some fn=>match fn.body with
  | some _=>!(fn.name == "runtime.NumGoroutine")
  | none=>false
 | none=>false

theorem pl_ok {P:Program} {f:Nat} (h:pl P f=true) (args:Array Value) (w:World):(callFunc f args).run P w=.ok (.enter f args) w:=by
 unfold pl at h
 cases hf:P.funcs[f]? with
 | none=>rw [hf] at h;cases h
 | some fn =>
  rw [hf] at h
  dsimp only at h
  cases hb:fn.body with
  | none=>rw [hb] at h;cases h
  | some c =>
   rw [hb] at h
   have h1:fn.name≠ "runtime.NumGoroutine":=by simpa using h
   simp [callFunc,hf,h1,hb,mark]

def opv (P:Program) {S:World→Prop} (R:List Rw) (ov:List (Nat × Ov P S)) (eq:List (Nat × Vq)) (F:Fr) (o:Oper):Option (Value × Nat × List (Oe × Oe)) :=
 match o.op.operands.all (kn F)&&noSel o.op with
 | false=>none
 | true=>match o.dst.bind (lk ov) with
  | some e=>some (e.v,e.t,[(.s (execOp (ev F) o),.s e.s)])
  | none=>match qrun P (rowOf R F o.op) (execOp (ev F) o) with
   | some (.value v,es)=>match o.dst.bind (lk eq) with
    | some e=>some (e.v,e.t,(.v v,.v e.u) :: es.map fun e=>(.a e.1,.a e.2))
    | none=>some (v,tagOf R F o.op,es.map fun e=>(.a e.1,.a e.2))
   | _=>none

theorem opv_ok {P:Program} {S:World→Prop} {R:List Rw} {ov:List (Nat × Ov P S)} {eq:List (Nat × Vq)} {F:Fr} {n:Nat} {a:Act} {o:Oper} {v:Value} {t:Nat} {es:List (Oe × Oe)} (hk:Knows F n a) (h:opv P R ov eq F o=some (v,t,es)) (he:∀ e ∈ es,e.1=e.2) (hR:∀ w,S w→∀ r ∈ R,rowIn r w) :
 (∀ w,S w→(execOp a.eval o).run P w=.ok (.value v) w)∧∀ cs b,o.op≠.select cs b:=by
 unfold opv at h
 cases hc:o.op.operands.all (kn F)&&noSel o.op with
 | false=>rw [hc] at h;cases h
 | true =>
  rw [hc] at h
  dsimp only at h
  rw [Bool.and_eq_true] at hc
  have hs:∀ cs b,o.op≠.select cs b:=fun cs b e=>by have:=hc.2;rw [e] at this;cases this
  have hcg:execOp a.eval o=execOp (ev F) o:=execOp_congr o hs fun x hx=>hk.eval (Array.all_eq_true_iff_forall_mem.1 hc.1 x hx)
  refine ⟨fun w hS=>?_,hs⟩
  rw [hcg]
  cases hov:o.dst.bind (lk ov) with
  | some e =>
   rw [hov] at h
   simp only [Option.some.injEq,Prod.mk.injEq] at h
   obtain ⟨h1,h2,h3⟩:=h
   subst h3
   have:=he (.s (execOp (ev F) o),.s e.s) (by simp)
   simp only [Oe.s.injEq] at this
   rw [this,← h1]
   exact e.h w hS
  | none =>
   rw [hov] at h
   dsimp only at h
   cases hq:qrun P (rowOf R F o.op) (execOp (ev F) o) with
   | none=>rw [hq] at h;cases h
   | some y =>
    obtain ⟨nx,es'⟩:=y
    rw [hq] at h
    cases nx with
    | value u =>
     dsimp only at h
     have key:(∀ e ∈ es',e.1=e.2)→Sem.run P (execOp (ev F) o) w=.ok (.value u) w:=fun hes=>by
      refine qrun_ok (fun r' hr=>?_) _ _ es' hq hes
      refine hR w hS r' ?_
      unfold rowOf at hr
      split at hr
      ·split at hr
       ·cases hr
       ·exact List.mem_of_getElem? hr
      ·cases hr
     cases heq:o.dst.bind (lk eq) with
     | some e =>
      rw [heq] at h
      simp only [Option.some.injEq,Prod.mk.injEq] at h
      obtain ⟨h1,h2,h3⟩:=h
      subst h3
      have hu:=he (.v u,.v e.u) (by simp)
      simp only [Oe.v.injEq] at hu
      rw [key fun e' hm=>by have:=he (.a e'.1,.a e'.2) (by simp only [List.mem_cons,List.mem_map];exact .inr ⟨e',hm,rfl⟩);simpa using this,← h1,← e.h,hu]
     | none =>
      rw [heq] at h
      simp only [Option.some.injEq,Prod.mk.injEq] at h
      obtain ⟨h1,h2,h3⟩:=h
      subst h3
      rw [key fun e' hm=>by have:=he (.a e'.1,.a e'.2) (List.mem_map.2 ⟨e',hm,rfl⟩);simpa using this,← h1]
    | _=>cases h

def callOf (P:Program) (F:Fr) (o:Oper):Option (Nat × Array Value) :=
 match o.op.operands.all (kn F) with
 | false=>none
 | true=>match o.op with
  | .call c=>match c.callee with
   | .value x=>match ev F x with
    | .func (.func f) first cap=>match pl P f with
     | true=>some (f,first ++ c.args.map (ev F) ++ cap)
     | false=>none
    | _=>none
   | _=>none
  | _=>none

theorem callOf_ok {P:Program} {F:Fr} {n:Nat} {a:Act} {o:Oper} {f:Nat} {args:Array Value} (hk:Knows F n a) (h:callOf P F o=some (f,args)) (w:World):(execOp a.eval o).run P w=.ok (.enter f args) w:=by
 unfold callOf at h
 cases hc:o.op.operands.all (kn F) with
 | false=>rw [hc] at h;cases h
 | true =>
  rw [hc] at h
  dsimp only at h
  cases hop:o.op with
  | call c =>
   have hs:∀ cs b,o.op≠.select cs b:=fun cs b e=>by rw [hop] at e;cases e
   have hcg:execOp a.eval o=execOp (ev F) o:=execOp_congr o hs fun x hx=>hk.eval (Array.all_eq_true_iff_forall_mem.1 hc x hx)
   rw [hcg]
   rw [hop] at h
   dsimp only at h
   cases hcl:c.callee with
   | value x =>
    rw [hcl] at h
    dsimp only at h
    cases hx:ev F x with
    | func fn first cap =>
     rw [hx] at h
     cases fn with
     | func f' =>
      dsimp only at h
      cases hp:pl P f' with
      | false=>rw [hp] at h;cases h
      | true =>
       rw [hp] at h
       simp only [Option.some.injEq,Prod.mk.injEq] at h
       obtain ⟨rfl,rfl⟩:=h
       have:execOp (ev F) o=callFunc f' (first ++ c.args.map (ev F) ++ cap):=by
        unfold execOp
        rw [hop]
        simp only [resolve,hcl,hx,Deferred.ofValue]
        rfl
       rw [this]
       exact pl_ok hp _ _
     | _=>cases h
    | _=>rw [hx] at h;cases h
   | _=>rw [hcl] at h;cases h
  | _=>rw [hop] at h;cases h

inductive KI where
 | code (c:Code)
 | blk (id:Nat)
 | ops (all:Array Oper) (rest:List Oper)
 | sq (all:Array Oper) (fuel:Nat) (listed:Array Bool)
 | fin (R:Act→World→Prop)

def den (P:Program) (S:World→Prop) (Q:Exit→Act→World→Prop):List KI→Exit→Act→World→Prop
 | []=>Q
 | .code c :: k=>Exit.then (fun a w=>c.wp P (den P S Q k) a w) (den P S Q k)
 | .ops all rest :: k=>Exit.then (wpList P all (den P S Q k) rest) (den P S Q k)
 | .blk id :: k=>Exit.inBlock id (den P S Q k)
 | .sq all fuel listed :: k=>Exit.then (wpAnyH P .any all (den P S Q k) S fuel listed) (den P S Q k)
 | .fin R :: k=>Exit.then R (den P S Q k)

theorem den_panic {P:Program} {S:World→Prop} {Q:Exit→Act→World→Prop} {c:List PanicEntry} {a:Act} {w:World}:∀ k:List KI,den P S Q k (.panic c) a w=Q (.panic c) a w
 | []=>rfl
 | .code _ :: k | .ops _ _ :: k | .blk _ :: k | .sq _ _ _ :: k | .fin _ :: k=>den_panic k

theorem den_ret {P:Program} {S:World→Prop} {Q:Exit→Act→World→Prop} {a:Act} {w:World}:∀ k:List KI,den P S Q k .ret a w=Q .ret a w
 | []=>rfl
 | .code _ :: k | .ops _ _ :: k | .blk _ :: k | .sq _ _ _ :: k | .fin _ :: k=>den_ret k

def popTo (id:Nat):List KI→Option (List KI)
 | []=>none
 | .blk i :: k=>match Nat.beq id i with
  | true=>some k
  | false=>popTo id k
 | .code _ :: k=>popTo id k
 | .ops _ _ :: k=>popTo id k
 | .sq _ _ _ :: k=>popTo id k
 | .fin _ :: k=>popTo id k

theorem popTo_ok {P:Program} {S:World→Prop} {Q:Exit→Act→World→Prop} {id:Nat} {a:Act} {w:World}:∀ {k k':List KI},popTo id k=some k'→den P S Q k' .normal a w→den P S Q k (.exit id) a w
 | [],_,h,_=>by cases h
 | .blk i :: k,k',h,hd=>by
  unfold popTo at h
  show Exit.inBlock i (den P S Q k) (.exit id) a w
  unfold Exit.inBlock
  cases hb:Nat.beq id i with
  | true =>
   rw [hb] at h
   cases h
   have:id=i:=Nat.eq_of_beq_eq_true hb
   simp only [this,if_true]
   exact hd
  | false =>
   rw [hb] at h
   have:id≠i:=fun e=>by rw [e,Nat.beq_refl] at hb;cases hb
   simp only [this,if_false]
   exact popTo_ok (k:=k) h hd
 | .code _ :: k,k',h,hd=>popTo_ok (k:=k) h hd
 | .ops _ _ :: k,k',h,hd=>popTo_ok (k:=k) h hd
 | .sq _ _ _ :: k,k',h,hd=>popTo_ok (k:=k) h hd
 | .fin _ :: k,k',h,hd=>popTo_ok (k:=k) h hd

structure Hn (P:Program) (S J:World→Prop) where
 eq:List (Nat × Vq):=[]
 ov:List (Nat × Ov P S):=[]
 cv:List (Nat × Cv P J):=[]

def putF (n:Nat) (F:Fr) (v:Value) (t:Nat):Option Nat→Option Fr
 | none=>some F
 | some d=>match Nat.blt d n with
  | true=>some ((d,v,t) :: F)
  | false=>none

theorem putF_ok {n:Nat} {F F':Fr} {v:Value} {t:Nat} {d:Option Nat} {a:Act} (h:putF n F v t d=some F') (hk:Knows F n a):Knows F' n (a.put d v):=by
 cases d with
 | none=>cases h;exact hk
 | some d =>
  dsimp only [putF] at h
  cases hb:Nat.blt d n with
  | false=>rw [hb] at h;cases h
  | true=>rw [hb] at h;cases h;exact hk.put hb v t

def qv (P:Program) {S J:World→Prop} (R:List Rw) (H:Hn P S J) (all:Array Oper) (F:Fr) (o:Oper):Option (Value × Nat × List (Oe × Oe)) :=
 match wn all F o with
 | none=>none
 | some false=>some (undef,0,[])
 | some true=>opv P R H.ov H.eq F o

theorem qv_ok {P:Program} {S J:World→Prop} {R:List Rw} {H:Hn P S J} {all:Array Oper} {F:Fr} {n:Nat} {a:Act} {o:Oper} {v:Value} {t:Nat} {es:List (Oe × Oe)} (hk:Knows F n a) (h:qv P R H all F o=some (v,t,es)) (he:∀ e ∈ es,e.1=e.2) (hR:∀ w,S w→∀ r ∈ R,rowIn r w):YieldsIf P all S o v a:=by
 unfold qv at h
 cases hw:wn all F o with
 | none=>rw [hw] at h;cases h
 | some b =>
  rw [hw] at h
  cases b with
  | false=>simp only [Option.some.injEq,Prod.mk.injEq] at h;exact .inr ⟨wn_ok hk hw,h.1.symm⟩
  | true=>exact .inl ⟨wn_ok hk hw,(opv_ok hk h he hR).1⟩

def doOp (P:Program) {S J:World→Prop} (R:List Rw) (H:Hn P S J) (n:Nat) (all:Array Oper) (F:Fr) (o:Oper):Option (Fr × List (Oe × Oe)) :=
 match qv P R H all F o with
 | some (v,t,es)=>match putF n F v t o.dst with
  | some F'=>some (F',es)
  | none=>none
 | none=>match wn all F o,callOf P F o,o.dst.bind (lk H.cv) with
  | some true,some (f,args),some e=>match putF n F e.v e.t o.dst with
   | some F'=>some (F',[(.c f args,.c e.f e.args)])
   | none=>none
  | _,_,_=>none

theorem doOp_ok {P:Program} {S J:World→Prop} {R:List Rw} {H:Hn P S J} {n:Nat} {all:Array Oper} {F F':Fr} {a:Act} {w:World} {o:Oper} {es:List (Oe × Oe)} {K:Act→World→Prop} {Q:Exit→Act→World→Prop} (hk:Knows F n a) (hS:J w) (hJ:∀ w,J w→S w) (h:doOp P R H n all F o=some (F',es)) (he:∀ e ∈ es,e.1=e.2) (hR:∀ w,S w→∀ r ∈ R,rowIn r w) (hK:∀ a w,Knows F' n a→J w→K a w) :
 if Region.wanted o (yielded all a.tmps)=true then o.wp P a w K Q else K (a.put o.dst undef) w:=by
 unfold doOp at h
 cases hq:qv P R H all F o with
 | some y =>
  obtain ⟨v,t,es'⟩:=y
  rw [hq] at h
  dsimp only at h
  cases hp:putF n F v t o.dst with
  | none=>rw [hp] at h;cases h
  | some F2 =>
   rw [hp] at h
   simp only [Option.some.injEq,Prod.mk.injEq] at h
   obtain ⟨rfl,rfl⟩:=h
   rcases qv_ok hk hq he hR with ⟨h1,h2⟩ | ⟨h1,h2⟩
   ·rw [if_pos h1]
    show o.upon P a K Q _
    rw [h2 w (hJ w hS)]
    exact hK _ _ (putF_ok hp hk) hS
   ·subst h2
    rw [h1,if_neg (by decide)]
    exact hK _ _ (putF_ok hp hk) hS
 | none =>
  rw [hq] at h
  dsimp only at h
  cases hw:wn all F o with
  | none=>rw [hw] at h;cases h
  | some b =>
   rw [hw] at h
   cases b with
   | false=>cases h
   | true =>
    cases hc:callOf P F o with
    | none=>rw [hc] at h;cases h
    | some fa =>
     obtain ⟨f,args⟩:=fa
     rw [hc] at h
     cases hl:o.dst.bind (lk H.cv) with
     | none=>rw [hl] at h;cases h
     | some e =>
      rw [hl] at h
      dsimp only at h
      cases hp:putF n F e.v e.t o.dst with
      | none=>rw [hp] at h;cases h
      | some F2 =>
       rw [hp] at h
       simp only [Option.some.injEq,Prod.mk.injEq] at h
       obtain ⟨rfl,rfl⟩:=h
       have hcc:=he (.c f args,.c e.f e.args) (by simp)
       simp only [Oe.c.injEq] at hcc
       rw [if_pos (wn_ok hk hw)]
       show o.upon P a K Q _
       rw [callOf_ok hk hc w,hcc.1,hcc.2]
       refine (e.h w hS).mono fun x w' hx=>?_
       obtain ⟨rfl,hS'⟩:=hx
       exact hK _ _ (putF_ok hp hk) hS'

inductive Sr where
 | go (k:List KI) (F:Fr) (es:List (Oe × Oe))
 | ret
 | stop

def pickQ (all:Array Oper) (listed:Array Bool):List Nat→Option Nat
 | []=>none
 | i :: is=>match (match all[i]? with | some o=>!isEv o.op | none=>false)&&Region.free .any all listed i with
  | true=>some i
  | false=>pickQ all listed is

theorem pickQ_ok {all:Array Oper} {listed:Array Bool} {i:Nat}:∀ {l:List Nat},pickQ all listed l=some i→i ∈ l∧Region.free .any all listed i=true
 | [],h=>by cases h
 | j :: is,h=>by
  unfold pickQ at h
  split at h
  ·rename_i hb
   rw [Bool.and_eq_true] at hb
   cases h
   exact ⟨by simp,hb.2⟩
  ·have:=pickQ_ok (l:=is) h
   exact ⟨by simp [this.1],this.2⟩

def stepSq (P:Program) {S J:World→Prop} (R:List Rw) (H:Hn P S J) (n:Nat) (all:Array Oper) (fuel:Nat) (listed:Array Bool) (k:List KI) (F:Fr):Sr :=
 match Region.noSelect all with
 | false=>.stop
 | true=>match Region.ready .any all listed with
  | []=>.go k F []
  | i :: is=>match fuel with
   | 0=>.stop
   | fuel+1=>match pickQ all listed (i :: is) with
    | some j=>match all[j]? with
     | none=>.stop
     | some o=>match qv P R H all F o with
      | none=>.stop
      | some (v,t,es)=>match putF n F v t o.dst with
       | none=>.stop
       | some F'=>.go (.sq all fuel (listed.setIfInBounds j true) :: k) F' es
    | none=>match is with
     | []=>match all[i]? with
      | none=>.stop
      | some o=>match doOp P R H n all F o with
       | none=>.stop
       | some (F',es)=>.go (.sq all fuel (listed.setIfInBounds i true) :: k) F' es
     | _ :: _=>.stop

def stepCode (P:Program) (dr:Bool) (k:List KI) (F:Fr):Code→Sr
 | .skip=>.go k F []
 | .seq x y=>.go (.code x :: .code y :: k) F []
 | .cond c x y=>match kn F c with
  | false=>.stop
  | true=>match ev F c with
   | .bool true=>.go (.code x :: k) F []
   | .bool false=>.go (.code y :: k) F []
   | _=>.stop
 | .block id c=>.go (.code c :: .blk id :: k) F []
 | .exit id=>match popTo id k with
  | some k'=>.go k' F []
  | none=>.stop
 | .ret=>.ret
 | .region _ ops false=>.go (.ops ops ops.toList :: k) F []
 | .region _ ops true=>match dr&&P.follows .mixedOrders with
  | true=>.go (.sq ops ops.size (Array.replicate ops.size false) :: k) F []
  | false=>.stop
 | _=>.stop

def st1 (P:Program) {S J:World→Prop} (R:List Rw) (H:Hn P S J) (n:Nat) (dr:Bool) (k:List KI) (F:Fr):Sr :=
 match k with
 | []=>.stop
 | .blk _ :: k=>.go k F []
 | .fin _ :: _=>.stop
 | .ops _ [] :: k=>.go k F []
 | .ops all (o :: rest) :: k=>match doOp P R H n all F o with
  | some (F',es)=>.go (.ops all rest :: k) F' es
  | none=>.stop
 | .sq all fuel listed :: k=>stepSq P R H n all fuel listed k F
 | .code c :: k=>stepCode P dr k F c

structure Eng (P:Program) (S J:World→Prop) (R:List Rw) (dr:Bool) (Q:Exit→Act→World→Prop):Prop where
 sub:∀ w,J w→S w
 rows:∀ w,S w→∀ r ∈ R,rowIn r w
 drew:dr=true→∀ w,J w→J w.drew
 pan:∀ c a d v w,Q (.panic c) (Act.put a d v) w→Q (.panic c) a w

section
variable {P : Program} {S J : World → Prop} {R : List Rw} {H : Hn P S J} {n : Nat} {dr : Bool} {Q : Exit → Act → World → Prop}

theorem stepSq_ok (E:Eng P S J R dr Q) {all:Array Oper} {fuel:Nat} {listed:Array Bool} {k k':List KI} {F F':Fr} {es:List (Oe × Oe)} (h:stepSq P R H n all fuel listed k F=.go k' F' es) (he:∀ e ∈ es,e.1=e.2) (hnext:∀ a w,Knows F' n a→J w→den P S Q k' .normal a w) (a:Act) (w:World) (hk:Knows F n a) (hS:J w):wpAnyH P .any all (den P S Q k) S fuel listed a w:=by
 unfold stepSq at h
 cases hns:Region.noSelect all with
 | false=>rw [hns] at h;cases h
 | true =>
  rw [hns] at h
  dsimp only at h
  cases hr:Region.ready .any all listed with
  | nil =>
   rw [hr] at h
   cases h
   exact wpAnyH_done hr (hnext a w hk hS) fuel
  | cons i is =>
   rw [hr] at h
   dsimp only at h
   cases fuel with
   | zero=>cases h
   | succ fuel =>
    dsimp only at h
    cases hp:pickQ all listed (i :: is) with
    | some j =>
     rw [hp] at h
     dsimp only at h
     cases hj:all[j]? with
     | none=>rw [hj] at h;cases h
     | some o =>
      rw [hj] at h
      dsimp only at h
      cases hq:qv P R H all F o with
      | none=>rw [hq] at h;cases h
      | some y =>
       obtain ⟨v,t,es'⟩:=y
       rw [hq] at h
       dsimp only at h
       cases hf:putF n F v t o.dst with
       | none=>rw [hf] at h;cases h
       | some F2 =>
        rw [hf] at h
        simp only [Sr.go.injEq] at h
        obtain ⟨rfl,rfl,rfl⟩:=h
        have hpk:=pickQ_ok hp
        refine wpAnyH_take hj hns hpk.2 (by rw [hr];simpa using hpk.1) (fun c a w hh=>?_) (qv_ok hk hq he E.rows) (E.sub _ hS) (hnext _ _ (putF_ok hf hk) hS)
        rw [den_panic] at hh ⊢
        exact E.pan c a _ _ w hh
    | none =>
     rw [hp] at h
     cases is with
     | cons _ _=>cases h
     | nil =>
      dsimp only at h
      cases hi:all[i]? with
      | none=>rw [hi] at h;cases h
      | some o =>
       rw [hi] at h
       dsimp only at h
       cases hd:doOp P R H n all F o with
       | none=>rw [hd] at h;cases h
       | some y =>
        obtain ⟨F2,es'⟩:=y
        rw [hd] at h
        simp only [Sr.go.injEq] at h
        obtain ⟨rfl,rfl,rfl⟩:=h
        refine wpAnyH_all hr (by simp) fun j hj=>?_
        rw [List.mem_singleton] at hj
        subst hj
        refine wpOp_step hi fun K' hK=>?_
        exact doOp_ok hk hS E.sub hd he E.rows fun a' w' h1 h2=>hK a' w' ⟨E.sub _ h2,hnext a' w' h1 h2⟩

theorem stepCode_ok (E:Eng P S J R dr Q) {c:Code} {k k':List KI} {F F':Fr} {es:List (Oe × Oe)} (h:stepCode P dr k F c=.go k' F' es) (hnext:∀ a w,Knows F' n a→J w→den P S Q k' .normal a w) (a:Act) (w:World) (hk:Knows F n a) (hS:J w):c.wp P (den P S Q k) a w:=by
 unfold stepCode at h
 split at h
 ·cases h;exact wp_skip (hnext a w hk hS)
 ·cases h;exact wp_seq (hnext a w hk hS)
 ·split at h
  ·cases h
  ·rename_i hkn
   split at h
   ·rename_i hev
    cases h
    exact wp_cond_true ((hk.eval hkn).trans hev) (hnext a w hk hS)
   ·rename_i hev
    cases h
    exact wp_cond_false ((hk.eval hkn).trans hev) (hnext a w hk hS)
   ·cases h
 ·cases h;exact wp_block (hnext a w hk hS)
 ·split at h
  ·rename_i hp
   cases h
   exact wp_exit (popTo_ok hp (hnext a w hk hS))
  ·cases h
 ·cases h
 ·cases h;exact wp_region_list (hnext a w hk hS)
 ·split at h
  ·rename_i hb
   rw [Bool.and_eq_true] at hb
   cases h
   exact wp_region_held hb.2 (hnext a w.drew hk (E.drew hb.1 w hS))
  ·cases h
 ·cases h

theorem st1_ok (E:Eng P S J R dr Q) {k k':List KI} {F F':Fr} {es:List (Oe × Oe)} (h:st1 P R H n dr k F=.go k' F' es) (he:∀ e ∈ es,e.1=e.2) (hnext:∀ a w,Knows F' n a→J w→den P S Q k' .normal a w) (a:Act) (w:World) (hk:Knows F n a) (hS:J w):den P S Q k .normal a w:=by
 unfold st1 at h
 split at h
 ·cases h
 ·cases h;exact hnext a w hk hS
 ·cases h
 ·cases h;exact hnext a w hk hS
 ·split at h
  ·rename_i hd
   cases h
   show wpList P _ _ (_ :: _) a w
   exact wpList_step fun K hK=>doOp_ok hk hS E.sub hd he E.rows fun a' w' h1 h2=>hK a' w' (hnext a' w' h1 h2)
  ·cases h
 ·exact stepSq_ok E h he hnext a w hk hS
 ·exact stepCode_ok E h hnext a w hk hS

def adv (P:Program) {S J:World→Prop} (R:List Rw) (H:Hn P S J) (n:Nat) (dr:Bool):Nat→List KI→Fr→(Bool × List KI × Fr) × List (Oe × Oe)
 | 0,k,F=>((false,k,F),[])
 | m+1,k,F=>match st1 P R H n dr k F with
  | .stop=>((false,k,F),[])
  | .ret=>((true,k,F),[])
  | .go k' F' es=>match adv P R H n dr m k' F' with
   | (r,es')=>(r,es ++ es')

theorem adv_ok (E:Eng P S J R dr Q):∀ (m:Nat) (k:List KI) (F:Fr),(∀ e ∈ (adv P R H n dr m k F).2,e.1=e.2) →
 (∀ a w,Knows (adv P R H n dr m k F).1.2.2 n a→J w→if (adv P R H n dr m k F).1.1=true then Q .ret a w else den P S Q (adv P R H n dr m k F).1.2.1 .normal a w)→∀ a w,Knows F n a→J w→den P S Q k .normal a w
 | 0,k,F,_,hf,a,w,hk,hS=>by simpa [adv] using hf a w hk hS
 | m+1,k,F,he,hf,a,w,hk,hS=>by
  cases hs:st1 P R H n dr k F with
  | stop =>
   have e:adv P R H n dr (m+1) k F=((false,k,F),[]):=by simp only [adv,hs]
   rw [e] at hf
   simpa using hf a w hk hS
  | ret =>
   have e:adv P R H n dr (m+1) k F=((true,k,F),[]):=by simp only [adv,hs]
   rw [e] at hf
   have hq:Q .ret a w:=by simpa using hf a w hk hS
   unfold st1 at hs
   split at hs
   ·cases hs
   ·cases hs
   ·cases hs
   ·cases hs
   ·split at hs<;>cases hs
   ·unfold stepSq at hs
    repeat (split at hs<;>try cases hs)
   ·rename_i c k'
    cases c with
    | ret=>exact wp_ret (by rw [den_ret];exact hq)
    | region i ops b=>cases b<;>simp only [stepCode] at hs<;>(try split at hs)<;>cases hs
    | cond=>simp only [stepCode] at hs;repeat (split at hs<;>try cases hs)
    | exit=>simp only [stepCode] at hs;split at hs<;>cases hs
    | _=>cases hs
  | go k' F' es =>
   have e:adv P R H n dr (m+1) k F=((adv P R H n dr m k' F').1,es ++ (adv P R H n dr m k' F').2):=by simp only [adv,hs]
   rw [e] at he hf
   exact st1_ok E hs (fun x hx=>he x (by simp [hx])) (adv_ok E m k' F' (fun x hx=>he x (by simp [hx])) hf) a w hk hS

def Wg (P:Program) (S:World→Prop) (Q:Exit→Act→World→Prop) (n:Nat) (k:List KI) (F:Fr) (w:World):Prop:=∀ a,Knows F n a→den P S Q k .normal a w

theorem wk_adv (E:Eng P S J R dr Q) (H:Hn P S J) (m:Nat) {k:List KI} {F:Fr} {w:World} (hS:J w) (hret:(adv P R H n dr m k F).1.1=false) (he:(adv P R H n dr m k F).2.map Prod.fst=(adv P R H n dr m k F).2.map Prod.snd)
 (h:∀ w',J w'→Wg P S Q n (adv P R H n dr m k F).1.2.1 (adv P R H n dr m k F).1.2.2 w'):Wg P S Q n k F w:=fun a hk =>
 adv_ok E m k F (fun e hm=>List.map_inj_left.1 he e hm) (fun a w ha hs=>by rw [hret,if_neg (by decide)];exact h w hs a ha) a w hk hS

theorem wk_end {fn:Func} {Rs:Ending→World→Prop} (E:Eng P S J R dr (bodyPost P fn Rs)) (H:Hn P S J) (m:Nat) {k:List KI} {F:Fr} {w:World} {t:Nat} {v:Value} (hS:J w) (hv:((adv P R H n dr m k F).1.1,(lk (adv P R H n dr m k F).1.2.2 t).map Prod.fst)=(true,some v)) (he:(adv P R H n dr m k F).2.map Prod.fst=(adv P R H n dr m k F).2.map Prod.snd) (hr:fn.results=#[.tmp t])
 (h:∀ w',J w'→Rs (.returned v) w'):Wg P S (bodyPost P fn Rs) n k F w:=fun a hk =>
 adv_ok E m k F (fun e hm=>List.map_inj_left.1 he e hm) (fun a w ha hs=>by
  simp only [Prod.mk.injEq] at hv
  rw [hv.1,if_pos rfl]
  obtain ⟨x,hx1,hx2⟩:=Option.map_eq_some_iff.1 hv.2
  have hx:=ha.at_ t x hx1
  exact bodyPost_ret (results_tmp hr _ _ _) ha.nod (by rw [Array.getD_eq_getD_getElem?,hx,hx2];exact h w hs)) a w hk hS

def argF:Nat→List Value→Fr
 | _,[]=>[]
 | i,v :: l=>(i,v,0) :: argF (i+1) l

theorem argF_at:∀ (l:List Value) (i t:Nat) (x:Value × Nat),lk (argF i l) t=some x→i≤t∧l[t - i]?=some x.1
 | [],_,_,_,h=>by cases h
 | v :: l,i,t,x,h=>by
  unfold argF lk at h
  cases hb:Nat.beq i t with
  | true =>
   rw [hb] at h
   cases h
   have:i=t:=Nat.eq_of_beq_eq_true hb
   subst this
   simp
  | false =>
   rw [hb] at h
   obtain ⟨h1,h2⟩:=argF_at l (i+1) t x h
   refine ⟨by omega,?_⟩
   rw [show t - i=(t - (i+1))+1 by omega]
   simpa using h2

theorem wk_in {f:Nat} {fn:Func} {c:Code} {args:List Value} {w:World} {Rs:Ending→World→Prop} (S:World→Prop) (hf:P.funcs[f]?=some fn) (hb:fn.body=some c) (hn:Nat.ble args.length fn.ntmps=true) (h:Wg P S (bodyPost P fn Rs) fn.ntmps [.code c] (argF 0 args) w):Calls P f args.toArray w Rs :=
 calls_of_wp hf hb (h _ ⟨by
  have:args.length≤fn.ntmps:=Nat.le_of_ble_eq_true hn
  simp;omega,rfl,fun t x hx=>by
  obtain ⟨_,h2⟩:=argF_at args 0 t x hx
  have hlt:t < args.length:=by
   rw [Nat.sub_zero] at h2
   exact (List.getElem?_eq_some_iff.1 h2).1
  rw [Nat.sub_zero] at h2
  have hv:=(List.getElem?_eq_some_iff.1 h2).2
  simp [Array.getElem?_append,hlt]
  simpa using hv⟩)

def noSq:List KI→Bool
 | []=>true
 | .sq _ _ _ :: _=>false
 | .code _ :: k=>noSq k
 | .blk _ :: k=>noSq k
 | .ops _ _ :: k=>noSq k
 | .fin _ :: k=>noSq k

theorem den_S {S':World→Prop}:∀ {k:List KI},noSq k=true→den P S' Q k=den P S Q k
 | [],_=>rfl
 | .sq _ _ _ :: _,h=>by cases h
 | .code _ :: k,h=>by unfold den;rw [den_S (k:=k) h]
 | .blk _ :: k,h=>by unfold den;rw [den_S (k:=k) h]
 | .ops _ _ :: k,h=>by unfold den;rw [den_S (k:=k) h]
 | .fin _ :: k,h=>by unfold den;rw [den_S (k:=k) h]

theorem wk_S {k:List KI} {F:Fr} {w:World} (S':World→Prop) (hn:noSq k=true) (h:Wg P S' Q n k F w):Wg P S Q n k F w:=fun a hk=>by
 rw [← den_S (S':=S') hn];exact h a hk

def boxes (P:Program) (n N:Nat):List Oper→Fr→List (Array Value × TypeId)→Option (Fr × List (Array Value × TypeId))
 | [],F,bs=>some (F,bs)
 | o :: os,F,bs=>match o.guard,o.dst with
  | none,some d=>match Nat.blt d n with
   | false=>none
   | true=>match o.op with
    | .box t x=>match kn F x with
     | true=>boxes P n N os ((d,.pointer (some ⟨N+bs.length,0,none⟩),bs.length+1) :: F) (bs ++ [((ev F x).cells,t)])
     | false=>none
    | .assign x=>match kn F x with
     | true=>boxes P n N os ((d,ev F x,tgo F x) :: F) bs
     | false=>none
    | .alloc t=>match P.info? t with
     | some i=>match i.zero with
      | some z=>boxes P n N os ((d,.pointer (some ⟨N+bs.length,0,none⟩),bs.length+1) :: F) (bs ++ [(z.cells,t)])
      | none=>none
     | none=>none
    | _=>none
  | _,_=>none

def allocs (w:World):List (Array Value × TypeId)→World
 | []=>w
 | x :: l=>allocs (w.alloc (.cells x.1 x.2)) l

theorem allocs_snoc (x:Array Value × TypeId):∀ (l:List (Array Value × TypeId)) (w:World),allocs w (l ++ [x])=(allocs w l).alloc (.cells x.1 x.2)
 | [],_=>rfl
 | _ :: l,w=>allocs_snoc x l _

theorem allocs_size:∀ (l:List (Array Value × TypeId)) (w:World),(allocs w l).heap.size=w.heap.size+l.length
 | [],_=>rfl
 | _ :: l,w=>by
  show (allocs _ l).heap.size=_
  rw [allocs_size l,World.size_alloc,List.length_cons]
  omega

theorem boxes_ok {all:Array Oper} {w:World}:∀ {l:List Oper} {F F':Fr} {bs bs':List (Array Value × TypeId)},boxes P n w.heap.size l F bs=some (F',bs')→(∀ a,Knows F' n a→Q .normal a (allocs w bs'))→∀ a,Knows F n a→wpList P all Q l a (allocs w bs)
 | [],F,F',bs,bs',h,hQ,a,hk=>by
  simp only [boxes,Option.some.injEq,Prod.mk.injEq] at h
  obtain ⟨rfl,rfl⟩:=h
  exact hQ a hk
 | o :: os,F,F',bs,bs',h,hQ,a,hk=>by
  unfold boxes at h
  split at h
  ·rename_i d hg hd
   split at h
   ·cases h
   ·rename_i hn
    split at h
    ·rename_i t x hop
     split at h
     ·rename_i hkn
      refine wpList_plain hg fun K hK=>?_
      show o.upon P a K _ ((execOp a.eval o).run P (allocs w bs))
      have:(execOp a.eval o).run P (allocs w bs)=.ok (.value (.pointer (some ⟨(allocs w bs).heap.size,0,none⟩))) ((allocs w bs).alloc (.cells (ev F x).cells t)):=by
       unfold execOp
       rw [hop]
       simp only [hk.eval hkn]
       rfl
      rw [this,allocs_size]
      show K (a.put o.dst _) _
      rw [hd,← allocs_snoc ((ev F x).cells,t)]
      exact hK _ _ (boxes_ok h hQ _ (hk.put hn _ _))
     ·cases h
    ·rename_i x hop
     split at h
     ·rename_i hkn
      refine wpList_plain hg fun K hK=>?_
      show o.upon P a K _ ((execOp a.eval o).run P (allocs w bs))
      have:(execOp a.eval o).run P (allocs w bs)=.ok (.value (ev F x)) (allocs w bs):=by
       unfold execOp
       rw [hop]
       simp only [hk.eval hkn]
       rfl
      rw [this]
      show K (a.put o.dst _) _
      rw [hd]
      exact hK _ _ (boxes_ok h hQ _ (hk.put hn _ _))
     ·cases h
    ·rename_i t hop
     split at h
     ·rename_i i hi
      split at h
      ·rename_i z hz
       refine wpList_plain hg fun K hK=>?_
       show o.upon P a K _ ((execOp a.eval o).run P (allocs w bs))
       have:(execOp a.eval o).run P (allocs w bs)=.ok (.value (.pointer (some ⟨(allocs w bs).heap.size,0,none⟩))) ((allocs w bs).alloc (.cells z.cells t)):=by
        unfold execOp
        rw [hop]
        simp [Instr.alloc,zeroValue,typeInfo,hi,hz,newVar,newRow]
       rw [this,allocs_size]
       show K (a.put o.dst _) _
       rw [hd,← allocs_snoc (z.cells,t)]
       exact hK _ _ (boxes_ok h hQ _ (hk.put hn _ _))
      ·cases h
     ·cases h
    ·cases h
  ·cases h

def startOf (P:Program) (n N:Nat) (c:Code) (args:List Value):Option (List (Array Value × TypeId) × List KI × Fr):=match c with
 | .seq (.region _ ops false) rest=>match boxes P n N ops.toList (argF 0 args) [] with
  | some (F,bs)=>some (bs,[.code rest],F)
  | none=>none
 | _=>none

def startK (P:Program) (n N:Nat) (c:Code) (args:List Value):List KI:=match startOf P n N c args with
 | some x=>x.2.1
 | none=>[]

def startF (P:Program) (n N:Nat) (c:Code) (args:List Value):Fr:=match startOf P n N c args with
 | some x=>x.2.2
 | none=>[]

theorem wk_go {f:Nat} {fn:Func} {c:Code} {args:List Value} {w:World} {Rs:Ending→World→Prop} (bs:List (Array Value × TypeId)) (hf:P.funcs[f]?=some fn) (hb:fn.body=some c) (hn:Nat.ble args.length fn.ntmps=true) (hs:(startOf P fn.ntmps w.heap.size c args).map Prod.fst=some bs)
 (h:Wg P S (bodyPost P fn Rs) fn.ntmps (startK P fn.ntmps w.heap.size c args) (startF P fn.ntmps w.heap.size c args) (allocs w bs)):Calls P f args.toArray w Rs:=by
 refine wk_in S hf hb hn fun a hk=>?_
 unfold startK startF at h
 cases hso:startOf P fn.ntmps w.heap.size c args with
 | none=>rw [hso] at hs;cases hs
 | some y =>
  obtain ⟨bs',k',F'⟩:=y
  rw [hso] at hs h
  simp only [Option.map_some,Option.some.injEq] at hs
  subst hs
  unfold startOf at hso
  split at hso
  ·rename_i id ops rest
   split at hso
   ·rename_i F2 bs2 hbx
    simp only [Option.some.injEq,Prod.mk.injEq] at hso
    obtain ⟨rfl,rfl,rfl⟩:=hso
    refine wp_seq (wp_region_list ?_)
    exact boxes_ok (Q:=Exit.then (fun a w=>rest.wp P (bodyPost P fn Rs) a w) (bodyPost P fn Rs)) hbx (fun a ha=>h a ha) a hk
   ·cases hso
  ·cases hso

def nxo (F:Fr):List KI→Option (Oper × List KI × Bool)
 | .ops all (o :: rest) :: k=>match wn all F o with
  | some true=>some (o,.ops all rest :: k,false)
  | _=>none
 | .sq all (m+1) listed :: k=>match Region.ready .any all listed with
  | [i]=>match all[i]? with
   | some o=>match wn all F o with
    | some true=>some (o,.sq all m (listed.setIfInBounds i true) :: k,true)
    | _=>none
   | none=>none
  | _=>none
 | _=>none

def nxK (F:Fr) (k:List KI):List KI:=match nxo F k with
 | some x=>x.2.1
 | none=>[]

def nxB (F:Fr) (k:List KI):Bool:=match nxo F k with
 | some x=>x.2.2
 | none=>false

def nxS (n:Nat) (F:Fr) (k:List KI):Option (Sem Next):=match nxo F k with
 | some (o,_,_)=>match o.op.operands.all (kn F)&&noSel o.op&&(match o.dst with | some d=>Nat.blt d n | none=>true) with
  | true=>some (execOp (ev F) o)
  | false=>none
 | none=>none

def nxF (F:Fr) (k:List KI) (v:Value) (t:Nat):Fr:=match nxo F k with
 | some (o,_,_)=>match o.dst with
  | some d=>(d,v,t) :: F
  | none=>F
 | none=>F

def nxC (P:Program) (n:Nat) (F:Fr) (k:List KI):Option (Nat × Array Value):=match nxo F k with
 | some (o,_,_)=>match (match o.dst with | some d=>Nat.blt d n | none=>true) with
  | true=>callOf P F o
  | false=>none
 | none=>none

theorem nxo_ok {k k':List KI} {F:Fr} {o:Oper} {b:Bool} (h:nxo F k=some (o,k',b)) {a:Act} {w:World} (hk:Knows F n a) (hw:∀ K:Act→World→Prop,(∀ a' w',(b=true→S w')→den P S Q k' .normal a' w'→K a' w')→o.wp P a w K (den P S Q k')):den P S Q k .normal a w:=by
 unfold nxo at h
 split at h
 ·rename_i all o' rest k2
  split at h
  ·rename_i hwn
   simp only [Option.some.injEq,Prod.mk.injEq] at h
   obtain ⟨rfl,rfl,rfl⟩:=h
   show wpList P all (den P S Q k2) (o' :: rest) a w
   refine wpList_step fun K hK=>?_
   rw [if_pos (wn_ok hk hwn)]
   exact hw K fun a' w' _ hd=>hK a' w' hd
  ·cases h
 ·rename_i all m listed k2
  split at h
  ·rename_i i hr
   split at h
   ·rename_i o' hi
    split at h
    ·rename_i hwn
     simp only [Option.some.injEq,Prod.mk.injEq] at h
     obtain ⟨rfl,rfl,rfl⟩:=h
     show wpAnyH P .any all (den P S Q k2) S (m+1) listed a w
     refine wpAnyH_all hr (by simp) fun j hj=>?_
     rw [List.mem_singleton] at hj
     subst hj
     refine wpOp_step hi fun K' hK=>?_
     rw [if_pos (wn_ok hk hwn)]
     exact hw K' fun a' w' hs hd=>hK a' w' ⟨hs rfl,hd⟩
    ·cases h
   ·cases h
  ·cases h
 ·cases h

theorem wk_op {k:List KI} {F:Fr} {w w':World} {s:Sem Next} {v:Value} (t:Nat) (hx:nxS n F k=some s) (hr:s.run P w=.ok (.value v) w') (hS:nxB F k=true→S w') (h:Wg P S Q n (nxK F k) (nxF F k v t) w'):Wg P S Q n k F w:=fun a hk=>by
 unfold nxS at hx
 unfold nxB at hS
 unfold nxK nxF at h
 cases ho:nxo F k with
 | none=>rw [ho] at hx;cases hx
 | some y =>
  obtain ⟨o,k',b⟩:=y
  rw [ho] at hx hS h
  dsimp only at hx hS h
  split at hx
  ·rename_i hc
   cases hx
   rw [Bool.and_eq_true,Bool.and_eq_true] at hc
   have hcg:execOp a.eval o=execOp (ev F) o:=execOp_congr o (fun cs b e=>by have:=hc.1.2;rw [e] at this;cases this) fun x hx=>hk.eval (Array.all_eq_true_iff_forall_mem.1 hc.1.1 x hx)
   refine nxo_ok ho hk fun K hK=>?_
   show o.upon P a K _ _
   rw [hcg,hr]
   refine hK _ _ hS (h _ ?_)
   cases hd:o.dst with
   | none=>exact hk
   | some d=>rw [hd] at hc;exact hk.put hc.2 v t
  ·cases hx

theorem wk_sk {k:List KI} {F:Fr} {w w':World} {s:Sem Next} (hx:nxS n F k=some s) (hr:s.run P w=.ok .skip w') (hS:nxB F k=true→S w') (h:Wg P S Q n (nxK F k) (nxF F k undef 0) w'):Wg P S Q n k F w:=fun a hk=>by
 unfold nxS at hx
 unfold nxB at hS
 unfold nxK nxF at h
 cases ho:nxo F k with
 | none=>rw [ho] at hx;cases hx
 | some y =>
  obtain ⟨o,k',b⟩:=y
  rw [ho] at hx hS h
  dsimp only at hx hS h
  split at hx
  ·rename_i hc
   cases hx
   rw [Bool.and_eq_true,Bool.and_eq_true] at hc
   have hcg:execOp a.eval o=execOp (ev F) o:=execOp_congr o (fun cs b e=>by have:=hc.1.2;rw [e] at this;cases this) fun x hx=>hk.eval (Array.all_eq_true_iff_forall_mem.1 hc.1.1 x hx)
   refine nxo_ok ho hk fun K hK=>?_
   show o.upon P a K _ _
   rw [hcg,hr]
   refine hK _ _ hS (h _ ?_)
   cases hd:o.dst with
   | none=>exact hk
   | some d=>rw [hd] at hc;exact hk.put hc.2 undef 0
  ·cases hx

theorem wk_call {k:List KI} {F:Fr} {w:World} {f:Nat} {args:Array Value} {Rc:Ending→World→Prop} (hc:Calls P f args w Rc) (hx:nxC P n F k=some (f,args)) (h:∀ e w',Rc e w'→∃ v t,e=.returned v∧(nxB F k=true→S w')∧Wg P S Q n (nxK F k) (nxF F k v t) w'):Wg P S Q n k F w:=fun a hk=>by
 unfold nxC at hx
 unfold nxK nxF nxB at h
 cases ho:nxo F k with
 | none=>rw [ho] at hx;cases hx
 | some y =>
  obtain ⟨o,k',b⟩:=y
  rw [ho] at hx h
  dsimp only at hx h
  split at hx
  ·rename_i hd
   refine nxo_ok ho hk fun K hK=>?_
   show o.upon P a K _ _
   rw [callOf_ok hk hx w]
   refine hc.mono fun e w' hr=>?_
   obtain ⟨v,t,rfl,hs,hw⟩:=h e w' hr
   refine hK _ _ hs (hw _ ?_)
   cases hdd:o.dst with
   | none=>exact hk
   | some d=>rw [hdd] at hd;exact hk.put hd v t
  ·cases hx

theorem wk_ac (E:Eng P S J R dr Q) (H:Hn P S J) (m:Nat) {k:List KI} {F:Fr} {w:World} {f:Nat} {args:Array Value} {Rc:World→Ending→World→Prop} (hS:J w) (hc:∀ w',J w'→Calls P f args w' (Rc w')) (hx:((adv P R H n dr m k F).1.1,nxC P n (adv P R H n dr m k F).1.2.2 (adv P R H n dr m k F).1.2.1)=(false,some (f,args))) (he:(adv P R H n dr m k F).2.map Prod.fst=(adv P R H n dr m k F).2.map Prod.snd)
 (h:∀ w' e w'',J w'→Rc w' e w''→∃ v t,e=.returned v∧(nxB (adv P R H n dr m k F).1.2.2 (adv P R H n dr m k F).1.2.1=true→S w'')∧Wg P S Q n (nxK (adv P R H n dr m k F).1.2.2 (adv P R H n dr m k F).1.2.1) (nxF (adv P R H n dr m k F).1.2.2 (adv P R H n dr m k F).1.2.1 v t) w''):Wg P S Q n k F w:=by
 simp only [Prod.mk.injEq] at hx
 exact wk_adv E H m hS hx.1 he fun w' h1=>wk_call (hc w' h1) hx.2 fun e w'' h2=>h w' e w'' h1 h2

theorem wk_ret {fn:Func} {Rs:Ending→World→Prop} (E:Eng P S J R dr (bodyPost P fn Rs)) (H:Hn P S J) (m:Nat) {k:List KI} {F:Fr} {w:World} (hS:J w) (hv:(adv P R H n dr m k F).1.1=true) (he:(adv P R H n dr m k F).2.map Prod.fst=(adv P R H n dr m k F).2.map Prod.snd)
 (h:∀ w' a,J w'→Knows (adv P R H n dr m k F).1.2.2 n a→∃ v,(results fn a.tmps).run P w'=.ok v w'∧Rs (.returned v) w'):Wg P S (bodyPost P fn Rs) n k F w:=fun a hk =>
 adv_ok E m k F (fun e hm=>List.map_inj_left.1 he e hm) (fun a w ha hs=>by
  rw [hv,if_pos rfl]
  obtain ⟨v,h1,h2⟩:=h w a hs ha
  exact bodyPost_ret h1 ha.nod h2) a w hk hS

theorem Knows.slot {F:Fr} {n:Nat} {a:Act} (h:Knows F n a) {t:Nat} {v:Value} (hl:(lk F t).map Prod.fst=some v):a.tmps.getD t undef=v:=by
 obtain ⟨x,h1,h2⟩:=Option.map_eq_some_iff.1 hl
 rw [Array.getD_eq_getD_getElem?,h.at_ t x h1,← h2]
 rfl

def eqB {c b:Bool} (h:c=b):Vq:=⟨.bool c,.bool b,0,by rw [h]⟩

theorem pan_body {fn:Func} {Rs:Ending→World→Prop} (c:List PanicEntry) (a:Act) (d:Option Nat) (v:Value) (w:World) (h:bodyPost P fn Rs (.panic c) (Act.put a d v) w):bodyPost P fn Rs (.panic c) a w:=by
 cases d<;>exact h

end

def Bs (w:World) (bs:List (Array Value × TypeId)) (W:World):Prop:=(∀ i x,bs[i]?=some x→W.heap[w.heap.size+i]?=some (.cells x.1 x.2 (0,0)))∧Below w.heap.size w W

theorem Bs.below {w W W':World} {bs:List (Array Value × TypeId)} (h:Bs w bs W) (hb:Below W.heap.size W W'):Bs w bs W':=⟨fun i x hx=>dstays hb (h.1 i x hx),below_trans h.2 hb⟩

theorem Bs.start (w:World) (bs:List (Array Value × TypeId)):Bs w bs (allocs w bs):=by
 have key:∀ (l:List (Array Value × TypeId)) (v:World),Below w.heap.size w v→(∀ i x,l[i]?=some x→(allocs v l).heap[v.heap.size+i]?=some (.cells x.1 x.2 (0,0)))∧Below v.heap.size v (allocs v l):=by
  intro l
  induction l with
  | nil=>intro v _;exact ⟨fun i x h=>by simp at h,Below.refl _ _⟩
  | cons y l ih =>
   intro v hv
   have hb:=(Below.refl v.heap.size v).alloc (Nat.le_refl _) (.cells y.1 y.2)
   obtain ⟨h1,h2⟩:=ih (v.alloc (.cells y.1 y.2)) (below_trans hv hb)
   refine ⟨fun i x hx=>?_,below_trans hb h2⟩
   cases i with
   | zero =>
    simp only [List.getElem?_cons_zero,Option.some.injEq] at hx
    subst hx
    exact dstays h2 (heap_alloc_new _ _)
   | succ i =>
    have:=h1 i x (by simpa using hx)
    rw [World.size_alloc] at this
    rw [show v.heap.size+(i+1)=v.heap.size+1+i by omega]
    exact this
 exact ⟨(key bs w (Below.refl _ _)).1,(key bs w (Below.refl _ _)).2⟩

def rwsOf (N:Nat):List (Array Value × TypeId)→List Rw
 | []=>[]
 | x :: l=>⟨N,x.1,[]⟩ :: rwsOf (N+1) l

theorem rwsOf_mem {r:Rw}:∀ {l:List (Array Value × TypeId)} {N:Nat},r ∈ rwsOf N l→∃ i x,l[i]?=some x∧r.b=N+i∧r.cs=x.1
 | [],_,h=>by cases h
 | y :: l,N,h=>by
  rcases List.mem_cons.1 h with rfl | h
  ·exact ⟨0,y,rfl,rfl,rfl⟩
  ·obtain ⟨i,x,h1,h2,h3⟩:=rwsOf_mem h
   exact ⟨i+1,x,by simpa using h1,by omega,h3⟩

theorem Bs.eng {P:Program} {fn:Func} {Rs:Ending→World→Prop} {w:World} {bs:List (Array Value × TypeId)}:Eng P (Bs w bs) (Bs w bs) (rwsOf w.heap.size bs) true (bodyPost P fn Rs) :=
 ⟨fun _ h=>h,fun W h r hr=>by
  obtain ⟨i,x,h1,h2,h3⟩:=rwsOf_mem hr
  exact ⟨_,_,by rw [h2,h3];exact h.1 i x h1⟩,fun _ W h=>h.below (Below.refl _ _).drew,pan_body⟩

def cvW {P:Program} {w:World} {bs:List (Array Value × TypeId)} {f:Nat} {args:Array Value} {v:Value} (h:∀ W,Below w.heap.size w W→Calls P f args W fun e w'=>e=.returned v∧Below W.heap.size W w'):Cv P (Bs w bs):=⟨f,args,v,0,fun W hS=>(h W hS.2).mono fun e w' k=>⟨k.1,hS.below k.2⟩⟩

def cvE {P:Program} {w:World} {bs:List (Array Value × TypeId)} {f:Nat} {args:Array Value} {v:Value} (h:∀ W,Below w.heap.size w W→Calls P f args W fun e w'=>e=.returned v∧w'=W):Cv P (Bs w bs):=⟨f,args,v,0,fun W hS=>(h W hS.2).mono fun e w' k=>⟨k.1,by rw [k.2];exact hS⟩⟩

def ovL {P:Program} {S:World→Prop} {T:TypeId} {d:TypeDesc} (p:Addr) (v:Value) (hu:P.underlying T=some d) (hd:(match d with | .struct _ | .array _ _=>true | _=>false)=false) (h:∀ W,S W→W.cell? p=some v):Ov P S :=
 ⟨do pure (.value (← Instr.loadAt T (.pointer (some p)))),v,0,fun W hS=>by
  have hc:=h W hS
  cases d<;>simp_all [Instr.loadAt,Instr.sureAddr,loadVar,isAgg,underlying,program,load,Sem.run,Bind.bind,Sem.bind,Pure.pure]⟩

def ovX {P:Program} {S:World→Prop} {T E:TypeId} {a:Option Addr} {b o:Nat} (n c:Nat) (k:IntKind) (i:Int) (ha:a=some ⟨b,o,none⟩) (hi:0≤i∧i < n) (hu:P.underlying T=some (.slice E)) (hz:(P.info? E).map (·.size)=some 1):Ov P S :=
 ⟨do pure (.value (← Instr.indexAt T (.slice a n c) (.int k i))),.pointer (some ⟨b,o+i.toNat,none⟩),0,fun W hS=>by
  subst ha
  obtain ⟨info,h1,h2⟩:=Option.map_eq_some_iff.1 hz
  simp [Instr.indexAt,asIntOf,underlying,program,sizeOf,typeInfo,hu,h1,h2,hi,Addr.add,Sem.run,Bind.bind,Sem.bind,Pure.pure]⟩

def cvC {P:Program} {S:World→Prop} (hcl:∀ {W W'},S W→Below W.heap.size W W'→S W') {f:Nat} {args:Array Value} {v:Value} (h:∀ W,S W→Calls P f args W fun e w'=>e=.returned v∧Below W.heap.size W w'):Cv P S:=⟨f,args,v,0,fun W hS=>(h W hS).mono fun e w' k=>⟨k.1,hcl hS k.2⟩⟩

def cvS {P:Program} {S:World→Prop} {f:Nat} {args:Array Value} {v:Value} (h:∀ W,S W→Calls P f args W fun e w'=>e=.returned v∧w'=W):Cv P S:=⟨f,args,v,0,fun W hS=>(h W hS).mono fun e w' k=>⟨k.1,by rw [k.2];exact hS⟩⟩

def eqI (k:IntKind) {x y:Int} (h:x=y):Vq:=⟨.int k x,.int k y,0,by rw [h]⟩

def ovR {P:Program} {S:World→Prop} (k:IntKind) (x y:Int) (hy:y≠0):Ov P S:=⟨do pure (.value (← Op.intDiv .rem k x y)),.int k (x.tmod y),0,fun W _=>by
 simp [Op.intDiv,hy]⟩

def regsB (n:Nat) (x:List Int):Bool:=decide (n=32)&&(x.getD 0 0==0)

theorem l9Regs_any (a:Option Addr) (n c:Nat) (x:List Int) (w:World) (hx:x.length=n) (hs:Sl .u64 w a x) :
 Calls Tryz.prog 50 #[.slice a n c] w fun e w'=>e=.returned (.bool (regsB n x))∧w'=w:=by
 by_cases h:n=32
 ·subst h
  obtain ⟨b,off,rfl,hb,hc⟩:=hs 0 (by omega)
  have F:Hid (regsB 32 x=(x.getD 0 0==0)):=by show _=_;unfold regsB;simp
  have hc2:w.cell? ⟨b,off,none⟩=some (.int .u64 (x.getD 0 0)):=hc
  generalize regsB 32 x=V at *
  generalize x.getD 0 0=y at *
  clear hs hx hc
  go_enter Tryz.func50,Tryz.ntmps50
  go_wp2_with fail
  go_ret
  exact ⟨by rw [F.out];rfl,rfl⟩
 ·have F:Hid (regsB n x=false):=by show _=_;unfold regsB;rw [decide_eq_false h];rfl
  have d:((n:Int)==32)=false:=by simp;omega
  generalize regsB n x=V at *
  clear hs hx h
  go_enter Tryz.func50,Tryz.ntmps50
  go_wp2_with fail
  go_ret
  exact ⟨by rw [F.out];rfl,rfl⟩

def bellsB (M:MV):Bool:=bits .and .u64 (M.cs.getD 9 0) 2184==linesV M.d

def machB (M:MV):Bool:=(bits .and .u64 M.pc 3==0)&&regsB M.x.length M.x&&legalB M.cs.length M.cs M.pr&&ramOkB M.ram.length&&okD M.d.xs.length M.d.ys.length M.d.ir&&(M.hl||(M.hd==0))&&bellsB M

theorem legal_22 {n:Nat} {l:List Int} {p:Int} (h:legalB n l p=true):n=22:=by
 unfold legalB csrsOk at h
 simp only [Bool.and_eq_true,decide_eq_true_eq] at h
 exact h.1.1

set_option maxRecDepth 100000 in
set_option maxHeartbeats 6400000 in
theorem specMachineOk_any (M:MV) (A:MA) (w:World) (hl:MLen M) (hs:MSl w M A) :
 Calls Tryz.prog 22 #[.agg (mvc M A)] w fun e w'=>e=.returned (.bool (machB M))∧Below w.heap.size w w':=by
 have hR:=fun W hb=>l9Regs_any A.ax M.x.length A.cx _ W rfl (hs.x.below hb)
 have hL:=fun W hb=>specLegal_any A.ac M.cs.length A.cc _ M.pr W rfl (hs.cs.below hb)
 have hM:=fun W (_:Below w.heap.size w W)=>specRamOk_any A.ar M.ram.length A.cr W hl.ram
 have hD:=fun W (_:Below w.heap.size w W)=>specDevOk_any M.d.t M.d.cm M.d.so A.ai M.d.xs.length A.ci A.ao M.d.ys.length A.co M.d.ir W hl.xs hl.ys
 have hN:=fun W (_:Below w.heap.size w W)=>l8Lines_any M.d.t M.d.cm M.d.so A.ai M.d.xs.length A.ci A.ao M.d.ys.length A.co M.d.ir W hl.xs
 unfold machB bellsB
 generalize h1:(bits .and .u64 M.pc 3==0)=b1
 generalize regsB M.x.length M.x=b2 at *
 generalize h3:legalB M.cs.length M.cs M.pr=b3 at *
 generalize ramOkB M.ram.length=b4 at *
 generalize okD M.d.xs.length M.d.ys.length M.d.ir=b5 at *
 generalize h6:(M.hd==0)=b6
 generalize h7:(bits .and .u64 (M.cs.getD 9 0) 2184==linesV M.d)=b7
 cases b3 with
 | false =>
  refine wk_go (S:=Bs w [(mvc M A,29)]) [(mvc M A,29)] Tryz.func22 rfl (by kernel_rfl) (by kernel_rfl) ?_
  cases b1
  case' true=>cases b2
  all_goals exact wk_end (t:=2) (v:=.bool false) Bs.eng { eq:=[(6,eqB h1)],cv:=[(10,cvE hR),(17,cvE hL)] } 300 (Bs.start _ _) (by kernel_rfl) (by kernel_rfl) rfl (fun w' h=>⟨by simp,h.2⟩)
 | true =>
  have h22:=legal_22 h3
  obtain ⟨cb,co,hac,hcb,hcc⟩:=hs.cs 9 (by omega)
  obtain ⟨pc,x,pr,cs,ram,d,hd,hh,wt⟩:=M
  dsimp only at *
  refine wk_go (S:=Bs w [(mvc ⟨pc,x,pr,cs,ram,d,hd,hh,wt⟩ A,29)]) [(mvc ⟨pc,x,pr,cs,ram,d,hd,hh,wt⟩ A,29)] Tryz.func22 rfl (by kernel_rfl) (by kernel_rfl) ?_
  have c9:∀ W,Bs w [(mvc ⟨pc,x,pr,cs,ram,d,hd,hh,wt⟩ A,29)] W→W.cell? ⟨cb,co+9,none⟩=some (.int .u64 (cs.getD 9 0)):=fun W h=>(h.2.cell (by exact hcb)).trans hcc
  cases b1
  case' true =>
   cases b2
   case' true =>
    cases b4
    case' true =>
     cases b5
     case' true=>cases hh<;>cases b6<;>cases b7
  all_goals exact wk_end (t:=2) (v:=.bool _) Bs.eng { eq:=[(6,eqB h1),(35,eqB h6),(47,eqB h7)],ov:=[(41,ovX cs.length A.cc .i64 9 hac (by omega) Tryz.underlying25 (by kernel_rfl)),(42,ovL _ _ Tryz.underlying24 rfl c9)],cv:=[(10,cvE hR),(17,cvE hL),(22,cvE hM),(27,cvW hD),(46,cvW hN)] } 300 (Bs.start _ _) (by kernel_rfl) (by kernel_rfl) rfl (fun w' h=>⟨rfl,h.2⟩)

end Go.Proofs.YtkhofppmeoooaaaGreatDoor
