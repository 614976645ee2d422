/- Own lemmas. -/
import Derived.Test.YtjifdmoehfbihaaGreatDoorAut
import Derived.Test.YtjifdmoehfbihaaGreatDoorK07
namespace Go.Proofs.YtjifdmoehfbihaaGreatDoor
open Go.RowKit
set_option linter.unusedVariables false
def Cn (ops:Array Oper):Bool :=
 Nat.blt 0 ops.size&&(List.range (ops.size-1)).all (λi=>match ops[i]? with
  | none=>false
  | some o=>o.after.all (λe=>!Region.binds .any e||Nat.blt e.on i)&&(match o.guard with | none=>true | some g=>Nat.blt g.1 i)&&(match ops[ops.size-1]? with | none=>false | some l=>xc l i))&&(match ops[ops.size-1]? with | none=>false | some l=>l.after.all (λe=>!Region.binds .any e||Nat.blt e.on (ops.size-1)))
section
variable {P : Program} {ops : Array Oper} {Q : Exit -> Act -> World -> Prop} {S : World -> Prop}
structure qs (ops:Array Oper) (L:Nat) (l:Oper):Prop where
 size:ops.size=L+1
 last:ops[L]?=some l
 down:∀ (i:Nat) (o:Oper),i<L->ops[i]?=some o->∀ e ∈ o.after,Region.binds .any e=true->e.on<i
 gd:∀ (i:Nat) (o:Oper),i<L->ops[i]?=some o->∀ g,o.guard=some g->g.1<i
 all:∀ i,i<L->xc l i=true
 ldn:∀ e ∈ l.after,Region.binds .any e=true->e.on<L
theorem xJ {a b:Nat} (h:Nat.blt a b=true):a<b:=Nat.lt_of_succ_le (by simpa [Nat.blt] using h)
theorem zJ (h:Cn ops=true):∃ L l,qs ops L l:=by
 unfold Cn at h;simp only [Bool.and_eq_true] at h;obtain ⟨⟨n,c⟩,m⟩:=h;have q:=xJ n;have j:ops[ops.size-1]?=some ops[ops.size-1]:=Array.getElem?_eq_getElem al;refine ⟨ops.size-1,ops[ops.size-1],al,j,?_,?_,?_,?_⟩;·intro i o b k e f d;have:=List.all_eq_true.1 c i (List.mem_range.2 b);rw [k] at this;simp only [Bool.and_eq_true] at this;have a:=Array.all_eq_true_iff_forall_mem.1 this.1.1 e f;rw [d] at a;exact xJ ti
 ·intro i o b k g p;have:=List.all_eq_true.1 c i (List.mem_range.2 b);rw [k] at this;simp only [Bool.and_eq_true,p] at this;exact xJ this.1.2
 ·intro i b;have:=List.all_eq_true.1 c i (List.mem_range.2 b);rw [Array.getElem?_eq_getElem (show i<ops.size by omega),j] at this;simp only [Bool.and_eq_true] at this;exact this.2
 ·intro e f d;rw [j] at m;have a:=Array.all_eq_true_iff_forall_mem.1 m e f;rw [d] at a;exact xJ ti
variable {L : Nat} {l : Oper}
theorem lR {listed:Array Bool} (hs:listed.size=L) {j:Nat} (a:j<L) (d:Bool):(listed.push false).getD j d=listed.getD j d:=by simp [Array.getD,Array.getElem_push,hs,a,show j<L+1 by omega]
theorem IB {listed:Array Bool} (hs:listed.size=L) {i:Nat} (b:i<L):(listed.push false).setIfInBounds i true=(listed.setIfInBounds i true).push false:=by
 apply Array.ext_getElem?;intro j;by_cases a:i=j;·subst a;rw [Array.getElem?_setIfInBounds_self_of_lt a7,Array.getElem?_push_lt a7];simp
 ·rw [Array.getElem?_setIfInBounds_ne a];simp only [Array.getElem?_push,Array.size_setIfInBounds,Array.getElem?_setIfInBounds_ne a]
theorem su (T:qs ops L l) {i:Nat} (a:i<L):ops.pop[i]?=ops[i]?:=by have:=T.size;simp [show i<ops.size-1 by omega]
theorem qt (T:qs ops L l) {listed:Array Bool} (hs:listed.size=L) {i:Nat} (a:i<L):i ∈ Region.ready .any ops (listed.push false)↔i ∈ Region.ready .any ops.pop listed:=by rw [mem_ready,mem_ready,lR hs a,su T a];refine and_congr_right λ_=>exists_congr λo=>and_congr_right λd=>?_;refine forall_congr' λe=>forall_congr' λc=>forall_congr' λb=>?_;rw [lR hs (by have:=T.down i o a d e c b;omega)]
theorem Co (T:qs ops L l) {listed:Array Bool} (hs:listed.size=L) (hr:Region.ready .any ops.pop listed=[]):∀ i,i<L->listed.getD i false=true:=by
 intro i;induction i using Nat.strongRecOn with
 | _ i g =>
   intro a;cases d:listed.getD i true with
   | true=>simpa [Array.getD,hs,a] using d
   | false =>have b:ops[i]?=some (ops[i]' x7):=Array.getElem?_eq_getElem _;have:i ∈ Region.ready .any ops.pop listed:=mem_ready.2 ⟨d,_,(su T a).trans b,λe f c=>g e.on (T.down i _ a b e f c) (by have:=T.down i _ a b e f c;omega)⟩;rw [hr] at this;cases this
theorem IC (T:qs ops L l) {R:Act->World->Prop} {i:Nat} (k:i<L) {K f:Act->World->Prop} {a:Act} {w:World} (q:∀ a w,K a w->f a w) (h:wpOp P ops.pop (Exit.then R Q) i K a w):wpOp P ops Q i f a w:=by
 refine wpOp_mono q ?_;have m:ops[i]?=some (ops[i]' x7):=Array.getElem?_eq_getElem _;unfold wpOp at h ⊢;rw [su T k] at h;rw [m] at h ⊢;dsimp only at h ⊢;have t:Region.wanted (ops[i]' x7) (yielded ops.pop a.tmps)=Region.wanted (ops[i]' x7) (yielded ops a.tmps):=by
  unfold Region.wanted;cases s:(ops[i]' x7).guard with
  | none=>rfl
  | some g =>have j:=T.gd i _ k m g s;dsimp only;unfold yielded;rw [su T al]
 rw [t] at h;split
 ·rename_i b;rw [if_pos b] at h;rcases h with h|⟨j,o,d,p⟩
  ·refine .inl ?_;unfold Oper.wp at h ⊢;generalize (execOp a.eval (ops[i]' x7)).run P w=r at *;cases r with
   | ok n d =>
     cases n<;>simp only [Oper.upon] at h ⊢;all_goals first
      | exact h
      | exact Calls.mono h (λe u c=>by cases e<;>exact c)
      | exact Rows.mono h (λ_ _ c=>c)
   | halt x d=>cases x<;>simp only [Oper.upon] at h ⊢ <;> exact h
  ·exact .inr ⟨j,o,d,p⟩
 ·rename_i b;rw [if_neg b] at h;exact h
theorem Cp (T:qs ops L l):∀ (fuel:Nat) (listed:Array Bool) (a:Act) (w:World),listed.size=L->wpAny P .any ops.pop (Exit.then (λa w=>wpOp P ops Q L (λa w=>Q .normal a w) a w) Q) fuel listed a w->wpAny P .any ops Q (fuel+1) (listed.push false) a w:=by
 have g:∀ (m:Nat) (listed:Array Bool) (a:Act) (w:World),listed.size=L->Region.ready .any ops.pop listed=[]->wpOp P ops Q L (λa w=>Q .normal a w) a w->wpAny P .any ops Q (m+1) (listed.push false) a w:=by
  intro m listed a w b q h
  have f:=Co T b q
  have R:=T.size
  have I:L ∈ Region.ready .any ops (listed.push false):=mem_ready.2 ⟨by simp [Array.getD,Array.getElem_push,b],l,T.last,λe O N=>by
   have k:=T.ldn e O N
   rw [lR b k]
   exact f _ k⟩
  refine ⟨λB=>(by rw [B] at I;cases I),λi t=>?_⟩
  by_cases c:i=L
  ·subst c
   refine wpOp_mono (λG K v=>?_) h
   have J:Region.ready .any ops ((listed.push false).setIfInBounds i true)=[]:=by
    rw [List.eq_nil_iff_forall_not_mem]
    intro j A
    obtain ⟨k,o,d,_⟩:=mem_ready.1 A
    have y:j<ops.size:=(Array.getElem?_eq_some_iff.1 d).1
    by_cases u:j=i
    ·subst u
     simp [Array.getD,b] at k
    ·have z:=f j al
     have H:((listed.push false).setIfInBounds i true).getD j true=listed.getD j true:=by
      rw [<- lR b (show j<i by omega)]
      simp only [Array.getD_eq_getD_getElem?,Array.getElem?_setIfInBounds_ne (Ne.symm u)]
     rw [H] at k
     have r:j<listed.size:=al
     simp [Array.getD,r] at k z
     rw [k] at z
     cases z
   cases m with
   | zero=>exact ⟨J,v⟩
   | succ m=>exact ⟨λ_=>v,λj A=>by rw [J] at A;cases A⟩
  ·have E:i<L:=by
    obtain ⟨_,o,d,_⟩:=mem_ready.1 t
    have:=(Array.getElem?_eq_some_iff.1 d).1
    omega
   have:=(qt T b E).1 t
   rw [q] at this
   cases this
 intro fuel
 induction fuel with
 | zero=>intro listed a w b h;exact g 0 listed a w b h.1 h.2
 | succ fuel S =>
   intro listed a w b h
   by_cases q:Region.ready .any ops.pop listed=[]
   ·exact g _ listed a w b q (h.1 q)
   ·obtain ⟨x,F⟩:=List.exists_mem_of_ne_nil _ q
    have p:x<L:=by
     obtain ⟨_,o,d,_⟩:=mem_ready.1 F
     have y:=(Array.getElem?_eq_some_iff.1 d).1
     rw [Array.size_pop] at y
     have:=T.size
     omega
    refine ⟨λB=>(by have:=(qt T b p).2 F;rw [B] at this;cases this),λi t=>?_⟩
    have c:i<L:=by
     obtain ⟨_,o,d,y⟩:=mem_ready.1 t
     have z:=(Array.getElem?_eq_some_iff.1 d).1
     have H:=T.size
     by_cases e:i=L
     ·subst e
      rw [T.last] at d
      cases d
      have r:=T.all x p
      unfold xc at r
      rw [<- Array.any_toList] at r
      obtain ⟨e,s,n⟩:=List.any_eq_true.1 r
      rw [Array.mem_toList_iff] at s
      rw [Bool.and_eq_true,beq_iff_eq] at n
      have C:=y e s n.1
      rw [n.2,lR b p] at C
      have D:=(mem_ready.1 F).1
      have M:x<listed.size:=al
      simp [Array.getD,M] at C D
      rw [C] at D
      cases D
     ·omega
    refine IC T c (λG K v=>?_) (h.2 i ((qt T b c).1 t))
    rw [IB b c]
    exact S _ G K (by simp [b]) v
def DW:Nat->Array Oper->List KI->Option (List KI)
 | 0,ops,k=>some (.sq ops ops.size (Array.replicate ops.size false)::k)
 | j+1,ops,k=>match Cn ops,ops[ops.size-1]? with
   | true,some l=>DW j ops.pop (.ops ops [l]::k)
   | _,_=>none
theorem ID:∀ (j:Nat) (ops:Array Oper) (k b:List KI) (a:Act) (w:World),DW j ops k=some b->ij P S Q b .normal a w->wpAny P .any ops (ij P S Q k) ops.size (Array.replicate ops.size false) a w:=by
 intro j;induction j with
 | zero =>intro ops k b a w h c;cases h;exact wpAny_of_held (S:=S) _ _ _ _ c
 | succ j p =>
   intro ops k b a w h c;unfold DW at h;split at h;·rename_i l d n;obtain ⟨L,q,T⟩:=zJ d;have f:=T.size;have m:ops.size-1=L:=al;rw [m,T.last] at n;cases n;have g:=p ops.pop _ b a w h c;rw [Array.size_pop,m] at g;have e:(λa w=>wpOp P ops (ij P S Q k) L (λa w=>ij P S Q k .normal a w) a w)=wpList P ops (ij P S Q k) [l]:=(by funext a w;unfold wpOp wpList;rw [T.last];rfl);have i:wpAny P .any ops (ij P S Q k) (L+1) ((Array.replicate L false).push false) a w:=(by refine Cp T L _ a w bc ?_;rw [e];exact g);have o:(Array.replicate L false).push false=Array.replicate (L+1) false:=(by rw [Array.replicate_succ]);rw [o] at i;rw [f];exact i
   ·cases h
def zK (j:Nat) (k:List KI):Option (List KI):=match k with
 | .code (.region _ ops true)::k'=>DW j ops k'
 | _=>none
theorem zL (j:Nat) {n:Nat} {F:Fr} {w:World} {k:List KI} (h:Wg P S Q n ((zK j k).getD []) F w.drew) (hm:P.follows .mixedOrders=true:=by kernel_rfl) (hk:(zK j k).isSome=true:=by kernel_rfl):Wg P S Q n k F w:=λa c=>by
 obtain ⟨e,b⟩:=Option.isSome_iff_exists.1 hk;clear hk;rw [b,Option.getD_some] at h;unfold zK at b;split at b;·rename_i id ops d;show (Go.Code.region id ops true).wp P (ij P S Q d) a w;exact wp_region_any hm (ID j ops d e a w.drew b (h a c))
 ·cases b
theorem xK {n:Nat} {F:Fr} {w:World} {k:List KI} (h:Wg P S Q n ((zK 1 k).getD []) F w.drew) (hm:P.follows .mixedOrders=true:=by kernel_rfl) (hk:(zK 1 k).isSome=true:=by kernel_rfl):Wg P S Q n k F w:=zL 1 (hm:=hm) (hk:=hk) h
def N9 (kk:Nat) (k:List KI):Option (List KI):=match k with
 | .code (.region _ ops true)::k'=>some (.sk ops kk ops.size (Array.replicate ops.size false)::k')
 | _=>none
theorem lS (kk:Nat) {n:Nat} {F:Fr} {w:World} {k:List KI} (h:Wg P S Q n ((N9 kk k).getD []) F w.drew) (hm:P.follows .mixedOrders=true:=by kernel_rfl) (hk:(N9 kk k).isSome=true:=by kernel_rfl):Wg P S Q n k F w:=λa b=>by
 unfold N9 at hk h;split at hk;·rename_i id ops c;show (Go.Code.region id ops true).wp P (ij P S Q c) a w;exact wp_region_any hm (sW _ _ _ _ (h a b))
 ·cases hk
def aG:Nat->Go.Code->Go.Code
 | 0,c=>c
 | n+1,.seq _ y=>aG n y
 | _+1,c=>c
def je:Go.Code->Go.Code
 | .seq x _=>x
 | c=>c
def Nk:Go.Code->Go.Code
 | .cond _ x _=>x
 | c=>c
def bD (fn:Func):Go.Code:=fn.body.getD .skip
theorem aE {n:Nat} {F:Fr} {w:World} {k:List KI} (k1:List KI) (b:Fr) (h:Wg P S Q n k1 b w) (hk:k=k1:=by kernel_rfl) (hF:b.map (λy=>some y.2.1)=b.map λy=>(lk F y.1).map Prod.fst:=by kernel_rfl):Wg P S Q n k F w:=by subst hk;exact λa c=>h a (c.less hF)
end
def Nl:List KI->Option (List Nat)
 | .sq all (_+1) listed::_=>some (Region.ready .any all listed)
 | _=>none
def zM (F:Fr) (i:Nat):List KI->Option (Oper × List KI)
 | .sq all (m+1) listed::k=>match all[i]? with
   | some o=>match wn all F o with
     | some true=>some (o,.sq all m (listed.setIfInBounds i true)::k)
     | _=>none
   | none=>none
 | _=>none
def Lo (F:Fr) (i:Nat) (k:List KI):List KI:=match zM F i k with
 | some x=>x.2
 | none=>[]
def Pu (n:Nat) (F:Fr) (i:Nat) (k:List KI):Option (Sem Next):=match zM F i k with
 | some (o,_)=>match o.op.operands.all (kn F)&&yU o.op&&(match o.dst with | some d=>Nat.blt d n | none=>true) with
   | true=>some (execOp (ev F) o)
   | false=>none
 | none=>none
def Lp (F:Fr) (i:Nat) (k:List KI) (v:Value) (t:Nat):Fr:=match zM F i k with
 | some (o,_)=>match o.dst with
   | some d=>(d,v,t)::F
   | none=>F
 | none=>F
def Pv (P:Program) (n:Nat) (F:Fr) (i:Nat) (k:List KI):Option (Nat × Array Value):=match zM F i k with
 | some (o,_)=>match (match o.dst with | some d=>Nat.blt d n | none=>true) with
   | true=>qk P F o
   | false=>none
 | none=>none
section
variable {P : Program} {S : World -> Prop} {n : Nat} {Q : Exit -> Act -> World -> Prop} {k : List KI} {F : Fr} {w : World}
def Qa (P:Program) (S:World->Prop) (Q:Exit->Act->World->Prop) (i:Nat) (a:Act) (w:World):List KI->Prop
 | .sq all (m+1) listed::k'=>wpOp P all (ij P S Q k') i (λc b=>S b/\wpAnyH P .any all (ij P S Q k') S m (listed.setIfInBounds i true) c b) a w
 | _=>False
def Br (P:Program) (S:World->Prop) (Q:Exit->Act->World->Prop) (n:Nat) (k:List KI) (F:Fr) (w:World) (i:Nat):Prop:=∀ a,bL F n a->Qa P S Q i a w k
theorem tG {i j:Nat} (f:Br P S Q n k F w i) (g:Br P S Q n k F w j) (hr:Nl k=some [i,j]:=by kernel_rfl):Wg P S Q n k F w:=λa d=>by
 have b:=f a d;have c:=g a d;unfold Qa at b c;unfold Nl at hr;split at hr
 ·rename_i all m listed h;simp only [Option.some.injEq] at hr;show wpAnyH P .any all (ij P S Q h) S (m+1) listed a w;refine wpAnyH_all hr bc λq e=>?_;simp only [List.mem_cons,List.not_mem_nil,or_false] at e;rcases e with rfl | rfl;·exact b
  ·exact c
 ·cases hr
theorem DX {i:Nat} {o:Oper} {e:List KI} (h:zM F i k=some (o,e)) {a:Act} (hk:bL F n a) (q:∀ K:Act->World->Prop,(∀ c b,S b->ij P S Q e .normal c b->K c b)->o.wp P a w K (ij P S Q e)):Qa P S Q i a w k:=by
 unfold zM at h;split at h
 ·rename_i all m listed r;split at h
  ·rename_i s l;split at h;·rename_i d;simp only [Option.some.injEq,Prod.mk.injEq] at h;obtain ⟨rfl,rfl⟩:=h;simp only [Qa];refine wpOp_step l λf g=>?_;rw [if_pos (jW hk d)];exact q f λc b p j=>g c b ⟨p,j⟩
   ·cases h
  ·cases h
 ·cases h
theorem vZ {i:Nat} {w':World} {s:Sem Next} {v:Value} (t:Nat) (hr:s.run P w=.ok (.value v) w') (hS:S w') (h:Wg P S Q n (Lo F i k) (Lp F i k v t) w') (hx:Pu n F i k=some s:=by kernel_rfl):Br P S Q n k F w i:=λa f=>by
 unfold Pu at hx;unfold Lo Lp at h;cases j:zM F i k with
 | none=>rw [j] at hx;cases hx
 | some y =>
   obtain ⟨o,q⟩:=y;rw [j] at hx h;dsimp only at hx h;split at hx
   ·rename_i c;cases hx;rw [Bool.and_eq_true,Bool.and_eq_true] at c;have g:execOp a.eval o=execOp (ev F) o:=execOp_congr o (λp b e=>by have:=c.1.2;rw [e] at this;cases this) λx hx=>f.eval (Array.all_eq_true_iff_forall_mem.1 c.1.1 x hx);refine DX j f λK l=>?_;show o.upon P a K _ _;rw [g,hr];refine l _ _ hS (h _ ?_);cases m:o.dst with
    | none=>exact f
    | some d=>rw [m] at c;exact f.put c.2 v t
   ·cases hx
theorem sx {i:Nat} {f:Nat} {args:Array Value} {Rc:Ending->World->Prop} (p:Calls P f args w Rc) (h:∀ e b,Rc e b->∃ v t,e=.returned v/\S b/\Wg P S Q n (Lo F i k) (Lp F i k v t) b) (hx:Pv P n F i k=some (f,args):=by kernel_rfl):Br P S Q n k F w i:=λa c=>by
 unfold Pv at hx;unfold Lo Lp at h;cases j:zM F i k with
 | none=>rw [j] at hx;cases hx
 | some y =>
   obtain ⟨o,u⟩:=y;rw [j] at hx h;dsimp only at hx h;split at hx
   ·rename_i l;refine DX j c λK m=>?_;show o.upon P a K _ _;rw [ql c hx w];refine p.mono λe b q=>?_;obtain ⟨v,t,rfl,r,s⟩:=h e b q;refine m _ _ r (s _ ?_);cases g:o.dst with
    | none=>exact c
    | some d=>rw [g] at l;exact c.put l v t
   ·cases hx
end
end Go.Proofs.YtjifdmoehfbihaaGreatDoor
