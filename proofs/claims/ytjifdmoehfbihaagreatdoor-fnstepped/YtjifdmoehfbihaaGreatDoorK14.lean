/- Own lemmas. -/
import Derived.Test.YtjifdmoehfbihaaGreatDoorAut
import Derived.Test.YtjifdmoehfbihaaGreatDoorK06
namespace Go.Proofs.YtjifdmoehfbihaaGreatDoor
open Go.RowKit Tryz
set_option linter.unusedVariables false
def g8 (r:Rw) (w:World):Prop:=∃ t,w.heap[r.b]?=some (.cells r.cs t (0,0))
structure Ag (bs:List Nat) (w W:World):Prop where
 os:W.os=w.os
 tape:W.tape=w.tape
 output:W.output=w.output
 size:w.heap.size<=W.heap.size
 block:∀ k,k<w.heap.size->k ∉ bs->W.heap[k]?=w.heap[k]?
theorem Ag.refl (bs:List Nat) (w:World):Ag bs w w:=⟨rfl,rfl,rfl,Nat.le_refl _,λ_ _ _=>rfl⟩
theorem Ag.trans {bs:List Nat} {a b c:World} (h:Ag bs a b) (k:Ag bs b c):Ag bs a c:=⟨k.os.trans h.os,k.tape.trans h.tape,k.output.trans h.output,Nat.le_trans h.size k.size,λi e d=>(k.block i (Nat.lt_of_lt_of_le e h.size) d).trans (h.block i e d)⟩
theorem Ag.below {bs:List Nat} {a b c:World} (h:Ag bs a b) (k:Bw b c):Ag bs a c:=h.trans ⟨k.os,k.tape,k.output,k.size,λi d _=>k.block i d⟩
theorem Ag.drew {bs:List Nat} {a b:World} (h:Ag bs a b):Ag bs a b.drew:=⟨h.os,h.tape,h.output,h.size,h.block⟩
theorem Kk {bs:List Nat} {g:Nat} (a:g ∈ bs) (w:World) (i:Nat) (v:Value):Ag bs w (w.setCell ⟨g,i,none⟩ v):=⟨rfl,rfl,rfl,cp,λk _ b=>Below.heap_setCell w _ v k (λe=>b (by rw [e];exact a))⟩
def tl {α:Type} (P:Program):Sem α->Rw->Option (α × Rw × List (Addr × Addr))
 | .pure a,r=>some (a,r,[])
 | .load _ a k,r=>match r.cs[a.off]? with
   | none=>none
   | some v=>match tl P (k v) r with
     | none=>none
     | some x=>some (x.1,x.2.1,(a,⟨r.b,a.off,none⟩)::x.2.2)
 | .store _ a v k,r=>match v.oneCell' with
   | false=>none
   | true=>match r.cs[a.off]? with
     | none=>none
     | some _=>match tl P k {r with cs:=r.cs.setIfInBounds a.off v} with
       | none=>none
       | some x=>some (x.1,x.2.1,(a,⟨r.b,a.off,none⟩)::x.2.2)
 | .program k,r=>tl P (k P) r
 | .mark _ k,r=>tl P k r
 | _,_=>none
theorem NZ {α:Type} {P:Program} {bs:List Nat}:∀ (s:Sem α) (r b:Rw) (x:α) (d:List (Addr × Addr)) (w:World),tl P s r=some (x,b,d)->(∀ e ∈ d,e.1=e.2)->r.b ∈ bs->g8 r w->∃ z,s.run P w=.ok x z/\g8 b z/\b.b=r.b/\b.tg=r.tg/\Ag [r.b] w z:=by
 intro s;induction s with
 | pure a =>intro r b x d w h _ _ i;simp only [tl,Option.some.injEq,Prod.mk.injEq] at h;obtain ⟨rfl,rfl,_⟩:=h;exact ⟨w,rfl,i,rfl,rfl,Ag.refl _ _⟩
 | load m a k l =>
   intro r b x d w h g p i;unfold tl at h;cases q:r.cs[a.off]? with
   | none=>rw [q] at h;cases h
   | some v =>
     rw [q] at h;dsimp only at h;cases j:tl P (k v) r with
     | none=>rw [j] at h;cases h
     | some y =>rw [j] at h;simp only [Option.some.injEq,Prod.mk.injEq] at h;obtain ⟨A,B,C⟩:=h;subst C;have o:a=⟨r.b,a.off,none⟩:=g (a,⟨r.b,a.off,none⟩) cp;obtain ⟨t,c⟩:=i;have D:w.cell? a=some v:=(by rw [o];simp only [World.cell?,c];simpa using q);simp only [Sem.run,D];exact l v r b x y.2.2 w (by rw [j,<- A,<- B]) (λe h=>g e (by simp [h])) p ⟨t,c⟩
 | store m a v k l =>
   intro r b x d w h g p i;unfold tl at h;cases n:v.oneCell' with
   | false=>rw [n] at h;cases h
   | true =>
     rw [n] at h;dsimp only at h;cases q:r.cs[a.off]? with
     | none=>rw [q] at h;cases h
     | some u =>
       rw [q] at h;dsimp only at h;cases j:tl P k {r with cs:=r.cs.setIfInBounds a.off v} with
       | none=>rw [j] at h;cases h
       | some y =>
         rw [j] at h;simp only [Option.some.injEq,Prod.mk.injEq] at h;obtain ⟨A,B,C⟩:=h;subst C;have o:a=⟨r.b,a.off,none⟩:=g (a,⟨r.b,a.off,none⟩) cp;obtain ⟨t,c⟩:=i;have D:w.cell? a=some u:=(by rw [o];simp only [World.cell?,c];simpa using q);have L:w.frozen? a=false:=(by rw [o];simp [World.frozen?,c]);have f:(w.setCell a v).heap[r.b]?=some (.cells (r.cs.setIfInBounds a.off v) t (0,0)):=(by rw [o];exact bD c a.off v);obtain ⟨z,F,G,I,J,H⟩:=l {r with cs:=r.cs.setIfInBounds a.off v} b x y.2.2 (w.setCell a v) (by rw [j,<- A,<- B]) (λe h=>g e (by simp [h])) p ⟨t,f⟩;refine ⟨z,?_,G,I,J,?_⟩
         ·have E:(Sem.store m a v k).run P w=k.run P (w.setCell a v):=by clear o g l F G H f j;cases v<;>first | (simp only [Sem.run,D,L,Bool.false_eq_true,if_false];done) | (cases n;done)
          rw [E];exact F
         ·have K:Ag [r.b] w (w.setCell a v):=(by rw [o];exact Kk cp w _ v);exact K.trans H
 | program k l=>intro r b x d w h g p i;exact l P r b x d w h g p i
 | mark m k l=>intro r b x d w h g p i;exact l r b x d w h g p i
 | new=>intro r b x d w h;cases h
 | shape=>intro r b x d w h;cases h
 | freeze=>intro r b x d w h;cases h
 | frozen=>intro r b x d w h;cases h
 | getObj=>intro r b x d w h;cases h
 | setObj=>intro r b x d w h;cases h
 | choose=>intro r b x d w h;cases h
 | sys=>intro r b x d w h;cases h
 | halt=>intro r b x d w h;cases h
structure Hw (P:Program) (T:World->Prop) where
 eq:List (Nat × Vq):=[]
 ov:List (Nat × Ov P T):=[]
def Qb (R:List Rw) (w:World):Prop:=∀ r ∈ R,g8 r w
theorem g8.in_ {r:Rw} {w:World} (h:g8 r w):o9 r w:=let ⟨t,h⟩:=h;⟨t,_,h⟩
theorem Kl {α a:Type} (f:α->a):∀ (l:List (Nat × α)) (d:Nat),lk (l.map λx=>(x.1,f x.2)) d=(lk l d).map f
 | [],_=>rfl
 | (q,y)::l,d=>by
   simp only [List.map_cons,lk]
   cases Nat.beq q d
   ·exact Kl f l d
   ·rfl
theorem Km {P:Program} {T:World->Prop} {R:List Rw} {ov:List (Nat × Ov P T)} {eq:List (Nat × Vq)} {F:Fr} {n:Nat} {a:Act} {o:Oper} {v:Value} {t:Nat} {es:List (Oe × Oe)} (hk:bP F n a) (h:JX P R ov eq F o=some (v,t,es)) (he:∀ e ∈ es,e.1=e.2) {w:World} (c:T w) (g:∀ r ∈ R,o9 r w):(execOp a.eval o).run P w=.ok (.value v) w:=by
 have f:JX P R (ov.map λx=>(x.1,(⟨x.2.s,x.2.v,x.2.t,λW b=>by subst b;exact x.2.h _ c⟩:Ov P λW=>W=w))) eq F o=some (v,t,es):=by
  rw [<- h];unfold JX;split;·rfl
  ·have i:=λd=>Kl (λy:Ov P T=>(⟨y.s,y.v,y.t,λW b=>by subst b;exact y.h _ c⟩:Ov P λW=>W=w)) ov d;cases j:o.dst with
   | none=>rfl
   | some d =>simp only [Option.bind_some,i];cases lk ov d<;>rfl
 exact (C9 hk f he λW b=>by subst b;exact g).1 w rfl
def xJ (P:Program) {T:World->Prop} (R:List Rw) (H:Hw P T) (n:Nat) (all:Array Oper):Nat->Array Bool->Fr->Option (Fr × List (Oe × Oe))
 | m,listed,F=>match Region.ready .any all listed with
   | []=>some (F,[])
   | i::is=>match m with
     | 0=>none
     | m+1=>match pM all listed (i::is) with
       | none=>none
       | some j=>match all[j]? with
         | none=>none
         | some o=>match (match wn all F o with | none=>none | some false=>some (undef,0,[]) | some true=>JX P R H.ov H.eq F o) with
           | none=>none
           | some (v,t,es)=>match rh n F v t o.dst with
             | none=>none
             | some a=>match xJ P R H n all m (listed.setIfInBounds j true) a with
               | none=>none
               | some (F2,es2)=>some (F2,es++es2)
theorem Kn {P:Program} {T:World->Prop} {R:List Rw} {H:Hw P T} {n:Nat} {all:Array Oper} {Q:Exit->Act->World->Prop} {w:World} (N:T w) (M:Qb R w) (C:Region.noSelect all=true) (L:∀ c a d v w,Q (.panic c) (Act.put a d v) w->Q (.panic c) a w):∀ (m:Nat) (listed:Array Bool) (F p:Fr) (q:List (Oe × Oe)) (a:Act),xJ P R H n all m listed F=some (p,q)->(∀ e ∈ q,e.1=e.2)->bP F n a->(∀ G,bP p n G->Q .normal G w)->wpAnyH P .any all Q (λW=>W=w) m listed a w:=by
 intro m;induction m with
 | zero =>
   intro listed F p q a h x k s;unfold xJ at h;cases g:Region.ready .any all listed with
   | nil=>rw [g] at h;cases h;exact wpAnyH_done g (s a k) 0
   | cons i is=>rw [g] at h;cases h
 | succ m V =>
   intro listed F p q a h x k s;unfold xJ at h;cases g:Region.ready .any all listed with
   | nil=>rw [g] at h;cases h;exact wpAnyH_done g (s a k) _
   | cons i is =>
     rw [g] at h;dsimp only at h;cases D:pM all listed (i::is) with
     | none=>rw [D] at h;cases h
     | some j =>
       rw [D] at h;dsimp only at h;cases A:all[j]? with
       | none=>rw [A] at h;cases h
       | some o =>
         rw [A] at h;dsimp only at h;split at h;·cases h
         ·rename_i v t J f;cases z:rh n F v t o.dst with
          | none=>rw [z] at h;cases h
          | some I =>
            rw [z] at h;dsimp only at h;cases E:xJ P R H n all m (listed.setIfInBounds j true) I with
            | none=>rw [E] at h;cases h
            | some y =>
              obtain ⟨X,K⟩:=y;rw [E] at h;simp only [Option.some.injEq,Prod.mk.injEq] at h;obtain ⟨rfl,rfl⟩:=h;have l:=nN D;have U:YieldsIf P all (λW=>W=w) o v a:=by
               cases u:wn all F o with
               | none=>rw [u] at f;cases f
               | some b =>
                 rw [u] at f;cases b with
                 | false=>simp only [Option.some.injEq,Prod.mk.injEq] at f;exact .inr ⟨kA k u,f.1.symm⟩
                 | true=>exact .inl ⟨kA k u,λW O=>by subst O;exact Km k f (λe B=>x e (by simp [B])) N λr g=>(M r g).in_⟩
              exact wpAnyH_take A C l.2 (by rw [g];simpa using l.1) (λc a w S=>L c a _ _ w S) U rfl (V _ _ _ _ _ E (λe B=>x e (by simp [B])) (jR z k) s)
inductive Sv where
 | go (k:List KI) (F:Fr) (R:List Rw) (es:List (Oe × Oe))
 | ret
 | stop
def Uc (P:Program) (R:List Rw) (F:Fr) (o:Oper):Option (List Rw × List (Oe × Oe)):=match o.op with
 | .store _ x _=>match o.op.operands.all (kn F) with
   | false=>none
   | true=>match JW F x with
     | 0=>none
     | j+1=>match R[j]? with
       | none=>none
       | some r=>match tl P (execOp (ev F) o) r with
         | some (.skip,r',es)=>some (R.set j r',es.map λe=>(.a e.1,.a e.2))
         | _=>none
 | _=>none
def AU (P:Program) {T:World->Prop} (H:Hw P T) (n:Nat) (k:List KI) (F:Fr) (R:List Rw):Sv :=
 match k with
 | .ops _ []::k=>.go k F R []
 | .ops all (o::rest)::k=>match (match wn all F o with | none=>none | some false=>some (undef,0,[]) | some true=>JX P R H.ov H.eq F o) with
   | some (v,t,a)=>match rh n F v t o.dst with
     | some b=>.go (.ops all rest::k) b R a
     | none=>.stop
   | none=>match wn all F o,o.dst with
     | some true,none=>match Uc P R F o with
       | some (R',a)=>.go (.ops all rest::k) F R' a
       | none=>.stop
     | _,_=>.stop
 | .blk _::k=>.go k F R []
 | .code (.region _ ops true)::k=>match Region.noSelect ops&&P.follows .mixedOrders with
   | true=>match xJ P R H n ops ops.size (Array.replicate ops.size false) F with
     | some (b,a)=>.go k b R a
     | none=>.stop
   | false=>.stop
 | .code c::k=>match iE P false k F c with
   | .go d b a=>.go d b R a
   | .ret=>.ret
   | .stop=>.stop
 | _=>.stop
theorem AV {α:Type}:∀ {l:List α} {j:Nat} {x:α},l[j]?=some x->l.set j x=l
 | [],_,_,h=>l0
 | y::l,0,x,h=>by simp at h;simp [h]
 | y::l,j+1,x,h=>by simp only [List.set_cons_succ];rw [AV (l:=l) ej]
structure Iv (bs:List Nat) (w:World) (R:List Rw) (W:World):Prop where
 rows:Qb R W
 ag:Ag bs w W
 sub:∀ r ∈ R,r.b ∈ bs
 nd:(R.map Rw.b).Nodup
theorem Iv.below {bs:List Nat} {w W W':World} {R:List Rw} (h:Iv bs w R W) (k:Bw W W'):Iv bs w R W' :=
 ⟨λr b=>let ⟨t,a⟩:=h.rows r b;⟨t,(k.block r.b (Array.getElem?_eq_some_iff.1 a).1).trans a⟩,h.ag.below k,h.sub,h.nd⟩
theorem QZ {P:Program} {R L:List Rw} {F:Fr} {n:Nat} {a:Act} {o:Oper} {es:List (Oe × Oe)} {bs:List Nat} {w W:World} (hk:bP F n a) (h:Uc P R F o=some (L,es)) (he:∀ e ∈ es,e.1=e.2) (c:Iv bs w R W):∃ u,(execOp a.eval o).run P W=.ok .skip u/\Iv bs w L u:=by
 unfold Uc at h
 split at h
 ·rename_i t x y H
  cases C:o.op.operands.all (kn F) with
  | false=>rw [C] at h;cases h
  | true =>
    rw [C] at h
    dsimp only at h
    have D:execOp a.eval o=execOp (ev F) o:=execOp_congr o (λX b e=>by rw [H] at e;cases e) λx T=>hk.eval (Array.all_eq_true_iff_forall_mem.1 C x T)
    rw [D]
    cases M:JW F x with
    | zero=>rw [M] at h;cases h
    | succ j =>
      rw [M] at h
      dsimp only at h
      cases p:R[j]? with
      | none=>rw [p] at h;cases h
      | some r =>
        rw [p] at h
        dsimp only at h
        cases J:tl P (execOp (ev F) o) r with
        | none=>rw [J] at h;cases h
        | some z =>
          obtain ⟨U,K,A⟩:=z
          rw [J] at h
          cases U with
          | skip =>
            simp only [Option.some.injEq,Prod.mk.injEq] at h
            obtain ⟨rfl,rfl⟩:=h
            have s:=List.mem_of_getElem? p
            obtain ⟨u,N,O,Q,Y,l⟩:=NZ (bs:=bs) _ r K _ A W J (λe s=>by have:=he (.a e.1,.a e.2) (List.mem_map.2 ⟨e,s,rfl⟩);simpa using this) (c.sub r s) (c.rows r s)
            have E:j<R.length:=(List.getElem?_eq_some_iff.1 p).1
            have d:(R.set j K).map Rw.b=R.map Rw.b:=by
             rw [List.map_set,Q]
             have:(R.map Rw.b)[j]?=some r.b:=by simp [p]
             exact AV this
            refine ⟨u,N,⟨λq I=>?_,c.ag.trans ⟨l.os,l.tape,l.output,l.size,λk S hk=>l.block k S (by simp only [List.mem_singleton];exact λe=>hk (by rw [e];exact c.sub r s))⟩,λq I=>?_,by rw [d];exact c.nd⟩⟩
            ·obtain ⟨i,m⟩:=List.mem_iff_getElem?.1 I
             by_cases g:i=j
             ·subst g
              rw [List.getElem?_set_self E] at m
              cases m
              exact O
             ·rw [List.getElem?_set_ne (Ne.symm g)] at m
              obtain ⟨t,f⟩:=c.rows q (List.mem_of_getElem? m)
              have G:q.b≠r.b:=λe=>g (by
               have B:(R.map Rw.b)[i]?=some q.b:=by simp [m]
               have v:(R.map Rw.b)[j]?=some r.b:=by simp [p]
               rw [<- e] at v
               exact (List.getElem?_inj (by simpa using (List.getElem?_eq_some_iff.1 m).1) c.nd).1 (B.trans v.symm))
              exact ⟨t,(l.block q.b (Array.getElem?_eq_some_iff.1 f).1 (by simpa using G)).trans f⟩
            ·have:q.b ∈ (R.set j K).map Rw.b:=List.mem_map.2 ⟨q,I,rfl⟩
             rw [d] at this
             obtain ⟨V,B,v⟩:=List.mem_map.1 this
             rw [<- v]
             exact c.sub V B
          | _=>cases h
 ·cases h
section
variable {P : Program} {T : World -> Prop} {H : Hw P T} {n : Nat} {bs : List Nat} {w : World} {Q : Exit -> Act -> World -> Prop}
theorem Ko (D:∀ W,Ag bs w W->T W) (C:∀ c a d v w,Q (.panic c) (Act.put a d v) w->Q (.panic c) a w) {k G:List KI} {F A:Fr} {R B:List Rw} {es:List (Oe × Oe)} (h:AU P H n k F R=.go G A B es) (he:∀ e ∈ es,e.1=e.2) (f:∀ a W,bP A n a->Iv bs w B W->iD P (λ_=>True) Q G .normal a W) (a:Act) (W:World) (hk:bP F n a) (i:Iv bs w R W):iD P (λ_=>True) Q k .normal a W:=by
 unfold AU at h;split at h;·cases h;exact f a W hk i
 ·rename_i all o rest I;show wpList P all _ (o::rest) a W;split at h
  ·rename_i v t m g;split at h
   ·rename_i L E;simp only [Sv.go.injEq] at h;obtain ⟨rfl,rfl,rfl,rfl⟩:=h;refine wpList_step λK q=>?_;cases l:wn all F o with
    | none=>rw [l] at g;cases g
    | some b =>
      rw [l] at g;cases b with
      | false =>simp only [Option.some.injEq,Prod.mk.injEq] at g;obtain ⟨rfl,rfl,rfl⟩:=g;rw [kA hk l,if_neg bb];exact q _ _ (f _ _ (jR E hk) i)
      | true =>rw [if_pos (kA hk l)];show o.upon P a K _ _;rw [Km hk g he (D W i.ag) λr p=>(i.rows r p).in_];exact q _ _ (f _ _ (jR E hk) i)
   ·cases h
  ·split at h
   ·rename_i l Y;split at h;·rename_i R2 m z;simp only [Sv.go.injEq] at h;obtain ⟨rfl,rfl,rfl,rfl⟩:=h;obtain ⟨M,U,X⟩:=QZ hk z he i;refine wpList_step λK q=>?_;rw [if_pos (kA hk l)];show o.upon P a K _ _;rw [U];show K (a.put o.dst undef) M;rw [Y];exact q _ _ (f _ _ hk X)
    ·cases h
   ·cases h
 ·cases h;exact f a W hk i
 ·rename_i ops I;split at h
  ·rename_i u;rw [Bool.and_eq_true] at u;split at h;·rename_i L m y;simp only [Sv.go.injEq] at h;obtain ⟨rfl,rfl,rfl,rfl⟩:=h;have j:Iv bs w R W.drew:=⟨λr p=>i.rows r p,i.ag.drew,i.sub,i.nd⟩;refine wp_region_held (S:=λV=>V=W.drew) u.2 ?_;exact Kn (D _ j.ag) j.rows u.1 (λc a d v w s=>by rw [mu] at s ⊢;exact C c a d v w s) _ _ _ _ _ a y he hk λN x=>f N _ x j
   ·cases h
  ·cases h
 ·rename_i c I _;split at h;·rename_i k3 Z O y;simp only [Sv.go.injEq] at h;obtain ⟨rfl,rfl,rfl,rfl⟩:=h;exact se (J:=λV=>Iv bs w R V) (R:=[]) ⟨λ_ _=>trivial,λ_ _ r p=>(nomatch p),(λs=>by cases s),C⟩ y f a W hk i
  ·cases h
  ·cases h
 ·cases h
def ch (P:Program) {T:World->Prop} (H:Hw P T) (n:Nat):Nat->List KI->Fr->List Rw->(Bool × List KI × Fr × List Rw) × List (Oe × Oe)
 | 0,k,F,R=>((false,k,F,R),[])
 | m+1,k,F,R=>match AU P H n k F R with
   | .stop=>((false,k,F,R),[])
   | .ret=>((true,k,F,R),[])
   | .go d a b c=>match ch P H n m d a b with
     | (r,es')=>(r,c++es')
theorem yZ (q:∀ W,Ag bs w W->T W) (p:∀ c a d v w,Q (.panic c) (Act.put a d v) w->Q (.panic c) a w):∀ (m:Nat) (k:List KI) (F:Fr) (R:List Rw),(∀ e ∈ (ch P H n m k F R).2,e.1=e.2) ->
 (∀ a W,bP (ch P H n m k F R).1.2.2.1 n a->Iv bs w (ch P H n m k F R).1.2.2.2 W->if (ch P H n m k F R).1.1=true then Q .ret a W else iD P (λ_=>True) Q (ch P H n m k F R).1.2.1 .normal a W)->∀ a W,bP F n a->Iv bs w R W->iD P (λ_=>True) Q k .normal a W
 | 0,k,F,R,_,hf,a,W,hk,hI=>by simpa [ch] using hf a W hk hI
 | m+1,k,F,R,he,hf,a,W,hk,hI=>by
   cases f:AU P H n k F R with
   | stop =>
     have e:ch P H n (m+1) k F R=((false,k,F,R),[]):=by simp only [ch,f]
     rw [e] at hf
     simpa using hf a W hk hI
   | ret =>
     have e:ch P H n (m+1) k F R=((true,k,F,R),[]):=by simp only [ch,f]
     rw [e] at hf
     have s:Q .ret a W:=by simpa using hf a W hk hI
     unfold AU at f
     split at f
     ·cases f
     ·repeat (split at f<;>try cases f)
     ·cases f
     ·repeat (split at f<;>try cases f)
     ·rename_i c u t
      split at f
      ·cases f
      ·rename_i g
       cases c with
       | ret=>exact wp_ret (by rw [yE];exact s)
       | region i ops b=>cases b<;>simp only [iE] at g<;>(try split at g)<;>cases g
       | cond=>simp only [iE] at g;repeat (split at g<;>try cases g)
       | exit=>simp only [iE] at g;split at g<;>cases g
       | _=>cases g
      ·cases f
     ·cases f
   | go o h j r =>
     have e:ch P H n (m+1) k F R=((ch P H n m o h j).1,r++(ch P H n m o h j).2):=by simp only [ch,f]
     rw [e] at he hf
     exact Ko q p f (λx l=>he x (by simp [l])) (yZ q p m o h j (λx l=>he x (by simp [l])) hf) a W hk hI
end
section
variable {P : Program} {n : Nat} {bs : List Nat} {w : World} {fn : Func} {Rs : Ending -> World -> Prop} {k : List KI} {F : Fr} {R : List Rw}
theorem nZ (d:Iv bs w R w) (H:Hw P (Ag bs w)) (m:Nat) {R1:List Rw}
 (h:∀ W,Iv bs w R1 W->Wg P (λ_=>True) (bodyPost P fn Rs) n (ch P H n m k F R).1.2.1 (ch P H n m k F R).1.2.2.1 W) (hx:((ch P H n m k F R).1.1,(ch P H n m k F R).1.2.2.2)=(false,R1):=by kernel_rfl) (he:(ch P H n m k F R).2.map Prod.fst=(ch P H n m k F R).2.map Prod.snd:=by kernel_rfl):Wg P (λ_=>True) (bodyPost P fn Rs) n k F w:=λa f=>by
 simp only [Prod.mk.injEq] at hx
 refine yZ (λ_ h=>h) ct m k F R (λe g=>List.map_inj_left.1 he e g) (λa W c b=>?_) a w f d
 rw [hx.2] at b
 rw [hx.1,if_neg bb]
 exact h W b a c
theorem fx (g:Iv bs w R w) (H:Hw P (Ag bs w)) (m:Nat) {R1:List Rw} {f:Nat} {args:Array Value} {Rc:World->Ending->World->Prop} (i:∀ W,Iv bs w R1 W->Calls P f args W (Rc W)) (h:∀ W e a,Iv bs w R1 W->Rc W e a->∃ v t,e=.returned v/\Wg P (λ_=>True) (bodyPost P fn Rs) n (oI (ch P H n m k F R).1.2.2.1 (ch P H n m k F R).1.2.1) (pP (ch P H n m k F R).1.2.2.1 (ch P H n m k F R).1.2.1 v t) a) (hx:((ch P H n m k F R).1.1,(ch P H n m k F R).1.2.2.2,NB P n (ch P H n m k F R).1.2.2.1 (ch P H n m k F R).1.2.1)=(false,R1,some (f,args)):=by kernel_rfl) (he:(ch P H n m k F R).2.map Prod.fst=(ch P H n m k F R).2.map Prod.snd:=by kernel_rfl):Wg P (λ_=>True) (bodyPost P fn Rs) n k F w:=by simp only [Prod.mk.injEq] at hx;refine nZ g H m (hx:=t5) (he:=he) λW b=>lQ (i W b) (hx:=hx.2.2) λe a j=>?_;obtain ⟨v,t,c,d⟩:=h W e a b j;exact ⟨v,t,c,λ_=>trivial,d⟩
theorem SZ (b:Iv bs w R w) (H:Hw P (Ag bs w)) (m:Nat) {R1:List Rw} {s:Sem Next} {v:World->Value} (t:Nat) (f:World->World) (hr:∀ W,Iv bs w R1 W->s.run P W=.ok (.value (v W)) (f W)) (h:∀ W,Iv bs w R1 W->Wg P (λ_=>True) (bodyPost P fn Rs) n (oI (ch P H n m k F R).1.2.2.1 (ch P H n m k F R).1.2.1) (pP (ch P H n m k F R).1.2.2.1 (ch P H n m k F R).1.2.1 (v W) t) (f W)) (hx:((ch P H n m k F R).1.1,(ch P H n m k F R).1.2.2.2,Da n (ch P H n m k F R).1.2.2.1 (ch P H n m k F R).1.2.1)=(false,R1,some s):=by kernel_rfl) (he:(ch P H n m k F R).2.map Prod.fst=(ch P H n m k F R).2.map Prod.snd:=by kernel_rfl):Wg P (λ_=>True) (bodyPost P fn Rs) n k F w:=by simp only [Prod.mk.injEq] at hx;exact nZ b H m (hx:=t5) (he:=he) λW a=>dU t (hx:=hx.2.2) (hr W a) (hS:=λ_=>trivial) (h W a)
theorem iw (g:Iv bs w R w) (H:Hw P (Ag bs w)) (m:Nat) {R1:List Rw}
 (h:∀ W a,Iv bs w R1 W->bP (ch P H n m k F R).1.2.2.1 n a->∃ v,(results fn a.tmps).run P W=.ok v W/\Rs (.returned v) W) (hx:((ch P H n m k F R).1.1,(ch P H n m k F R).1.2.2.2)=(true,R1):=by kernel_rfl) (he:(ch P H n m k F R).2.map Prod.fst=(ch P H n m k F R).2.map Prod.snd:=by kernel_rfl):Wg P (λ_=>True) (bodyPost P fn Rs) n k F w:=λa i=>by
 simp only [Prod.mk.injEq] at hx
 refine yZ (λ_ h=>h) ct m k F R (λe j=>List.map_inj_left.1 he e j) (λa W b c=>?_) a w i g
 rw [hx.2] at c
 rw [hx.1,if_pos rfl]
 obtain ⟨v,d,f⟩:=h W a c b
 exact bodyPost_ret d b.nod f
theorem uR (b:Iv bs w R w) (H:Hw P (Ag bs w)) (m:Nat) {R1:List Rw} {t:Nat} {v:Value} (h:∀ W,Iv bs w R1 W->Rs (.returned v) W) (hx:((ch P H n m k F R).1.1,(ch P H n m k F R).1.2.2.2,(lk (ch P H n m k F R).1.2.2.1 t).map Prod.fst)=(true,R1,some v):=by kernel_rfl) (he:(ch P H n m k F R).2.map Prod.fst=(ch P H n m k F R).2.map Prod.snd:=by kernel_rfl) (hr:fn.results=#[.tmp t]:=by rfl):Wg P (λ_=>True) (bodyPost P fn Rs) n k F w:=by simp only [Prod.mk.injEq] at hx;exact iw b H m (hx:=t5) (he:=he) λW a c d=>⟨v,by rw [results_tmp hr,d.slot hx.2.2],h W c⟩
theorem oL (b:Iv bs w R w) (H:Hw P (Ag bs w)) (m:Nat) {R1:List Rw}
 (h:∀ W,Iv bs w R1 W->Rs (.returned (.tuple #[])) W) (hx:((ch P H n m k F R).1.1,(ch P H n m k F R).1.2.2.2)=(true,R1):=by kernel_rfl) (he:(ch P H n m k F R).2.map Prod.fst=(ch P H n m k F R).2.map Prod.snd:=by kernel_rfl) (hr:fn.results=#[]:=by rfl):Wg P (λ_=>True) (bodyPost P fn Rs) n k F w :=
 iw b H m (hx:=hx) (he:=he) λW a c _=>⟨_,results_none hr _ _ _,h W c⟩
theorem fY (b:Iv bs w R w) (H:Hw P (Ag bs w)) (m:Nat) {R1:List Rw}
 (h:∀ W,Iv bs w R1 W->Rs (.returned (.tuple #[])) W) (hx:((ch P H n m k F R).1.1,(ch P H n m k F R).1.2.2.2)=(false,R1):=by kernel_rfl) (hz:(ch P H n m k F R).1.2.1.isEmpty=true:=by kernel_rfl) (he:(ch P H n m k F R).2.map Prod.fst=(ch P H n m k F R).2.map Prod.snd:=by kernel_rfl) (hr:fn.results=#[]:=by rfl):Wg P (λ_=>True) (bodyPost P fn Rs) n k F w :=
 nZ b H m (hx:=hx) (he:=he) λW c a d=>by
  rw [List.isEmpty_iff.1 hz]
  exact bodyPost_end (results_none hr _ _ _) d.nod (h W c)
theorem Iv.eng:nE P (Iv bs w R) (Iv bs w R) R true (bodyPost P fn Rs):=⟨λ_ h=>h,λ_ h r a=>(h.rows r a).in_,λ_ _ h=>⟨λr a=>h.rows r a,h.ag.drew,h.sub,h.nd⟩,ct⟩
end
def wO (s j:Nat):Fr->Fr
 | []=>[]
 | x::F=>(match Nat.beq x.1 s with | true=>(x.1,x.2.1,j) | false=>x)::wO s j F
theorem za (s j t:Nat):∀ (F:Fr) (x:Value × Nat),lk (wO s j F) t=some x->∃ y,lk F t=some y/\y.1=x.1
 | [],_,h=>l0
 | (d,v,g)::F,x,h=>by
   unfold wO at h
   cases b:Nat.beq d s with
   | true =>
     simp only [b,lk] at h ⊢
     cases a:Nat.beq d t with
     | true=>rw [a] at h;cases h;exact ⟨_,rfl,rfl⟩
     | false=>rw [a] at h;exact za s j t F x h
   | false =>
     simp only [b,lk] at h ⊢
     cases a:Nat.beq d t with
     | true=>rw [a] at h;cases h;exact ⟨_,rfl,rfl⟩
     | false=>rw [a] at h;exact za s j t F x h
theorem bP.tag {F:Fr} {n:Nat} {a:Act} (h:bP F n a) (s j:Nat):bP (wO s j F) n a:=⟨h.size,h.nod,λt x d=>by
 obtain ⟨y,b,c⟩:=za s j t F x d
 rw [<- c]
 exact h.at_ t y b⟩
theorem aL {P:Program} {S:World->Prop} {Q:Exit->Act->World->Prop} {n:Nat} {k:List KI} {F:Fr} {w:World} (s j:Nat) (h:Wg P S Q n k (wO s j F) w):Wg P S Q n k F w:=λa b=>h a (b.tag s j)
theorem n0 {P:Program} {S:World->Prop} {Q:Exit->Act->World->Prop} {n:Nat} {k:List KI} {F:Fr} {w:World} {f:Nat} {args:Array Value} {Rc:Ending->World->Prop} (z:Calls P f args w Rc) (hx:(Da n F k).map (λs=>s.run P w)=some (.ok (.enter f args) w)) (h:∀ e g,Rc e g->∃ v t,e=.returned v/\(yJ F k=true->S g)/\Wg P S Q n (oI F k) (pP F k v t) g):Wg P S Q n k F w:=λa j=>by
 obtain ⟨s,c,r⟩:=Option.map_eq_some_iff.1 hx;unfold Da at c;unfold oI pP yJ at h;cases p:Ar F k with
 | none=>rw [p] at c;cases c
 | some y =>
   obtain ⟨o,E,b⟩:=y;rw [p] at c h;dsimp only at c h;split at c
   ·rename_i i;cases c;rw [Bool.and_eq_true,Bool.and_eq_true] at i;have l:execOp a.eval o=execOp (ev F) o:=execOp_congr o (λD b e=>by have:=i.1.2;rw [e] at this;cases this) λx hx=>j.eval (Array.all_eq_true_iff_forall_mem.1 i.1.1 x hx);refine yK p j λK u=>?_;show o.upon P a K _ _;rw [l,r];refine z.mono λe g A=>?_;obtain ⟨v,t,rfl,B,C⟩:=h e g A;refine u _ _ B (C _ ?_);cases m:o.dst with
    | none=>exact j
    | some d=>have q:=i.2;rw [m] at q;exact j.put q v t
   ·cases c
def DJ (ops:Array Oper):Bool :=
 Nat.blt 0 ops.size&&(List.range (ops.size-1)).all (λi=>match ops[i]? with
  | none=>false
  | some o=>o.after.all (λe=>!Region.binds .any e||Nat.blt e.on i)&&(match o.guard with | none=>true | some g=>Nat.blt g.1 i)&&(match ops[ops.size-1]? with | none=>false | some l=>jP l i))&&(match ops[ops.size-1]? with | none=>false | some l=>l.after.all (λe=>!Region.binds .any e||Nat.blt e.on (ops.size-1)))
section
variable {P : Program} {ops : Array Oper} {Q : Exit -> Act -> World -> Prop} {S : World -> Prop}
structure rt (ops:Array Oper) (L:Nat) (l:Oper):Prop where
 size:ops.size=L+1
 last:ops[L]?=some l
 down:∀ (i:Nat) (o:Oper),i<L->ops[i]?=some o->∀ e ∈ o.after,Region.binds .any e=true->e.on<i
 gd:∀ (i:Nat) (o:Oper),i<L->ops[i]?=some o->∀ g,o.guard=some g->g.1<i
 all:∀ i,i<L->jP l i=true
 ldn:∀ e ∈ l.after,Region.binds .any e=true->e.on<L
theorem zd {a b:Nat} (h:Nat.blt a b=true):a<b:=Nat.lt_of_succ_le (by simpa [Nat.blt] using h)
theorem AW (h:DJ ops=true):∃ L l,rt ops L l:=by
 unfold DJ at h;simp only [Bool.and_eq_true] at h;obtain ⟨⟨n,c⟩,m⟩:=h;have q:=zd n;have j:ops[ops.size-1]?=some ops[ops.size-1]:=Array.getElem?_eq_getElem ab;refine ⟨ops.size-1,ops[ops.size-1],ab,j,?_,?_,?_,?_⟩;·intro i o b k e f d;have:=List.all_eq_true.1 c i (List.mem_range.2 b);rw [k] at this;simp only [Bool.and_eq_true] at this;have a:=Array.all_eq_true_iff_forall_mem.1 this.1.1 e f;rw [d] at a;exact zd pp
 ·intro i o b k g p;have:=List.all_eq_true.1 c i (List.mem_range.2 b);rw [k] at this;simp only [Bool.and_eq_true,p] at this;exact zd this.1.2
 ·intro i b;have:=List.all_eq_true.1 c i (List.mem_range.2 b);rw [Array.getElem?_eq_getElem (show i<ops.size by omega),j] at this;simp only [Bool.and_eq_true] at this;exact this.2
 ·intro e f d;rw [j] at m;have a:=Array.all_eq_true_iff_forall_mem.1 m e f;rw [d] at a;exact zd pp
variable {L : Nat} {l : Oper}
theorem mA {listed:Array Bool} (hs:listed.size=L) {j:Nat} (a:j<L) (d:Bool):(listed.push false).getD j d=listed.getD j d:=by simp [Array.getD,Array.getElem_push,hs,a,show j<L+1 by omega]
theorem Kp {listed:Array Bool} (hs:listed.size=L) {i:Nat} (b:i<L):(listed.push false).setIfInBounds i true=(listed.setIfInBounds i true).push false:=by
 apply Array.ext_getElem?;intro j;by_cases a:i=j;·subst a;rw [Array.getElem?_setIfInBounds_self_of_lt bh,Array.getElem?_push_lt bh];simp
 ·rw [Array.getElem?_setIfInBounds_ne a];simp only [Array.getElem?_push,Array.size_setIfInBounds,Array.getElem?_setIfInBounds_ne a]
theorem tJ (T:rt ops L l) {i:Nat} (a:i<L):ops.pop[i]?=ops[i]?:=by have:=T.size;simp [show i<ops.size-1 by omega]
theorem ru (T:rt ops L l) {listed:Array Bool} (hs:listed.size=L) {i:Nat} (a:i<L):i ∈ Region.ready .any ops (listed.push false)↔i ∈ Region.ready .any ops.pop listed:=by rw [mem_ready,mem_ready,mA hs a,tJ T a];refine and_congr_right λ_=>exists_congr λo=>and_congr_right λd=>?_;refine forall_congr' λe=>forall_congr' λc=>forall_congr' λb=>?_;rw [mA hs (by have:=T.down i o a d e c b;omega)]
theorem DK (T:rt ops L l) {listed:Array Bool} (hs:listed.size=L) (hr:Region.ready .any ops.pop listed=[]):∀ i,i<L->listed.getD i false=true:=by
 intro i;induction i using Nat.strongRecOn with
 | _ i g =>
   intro a;cases d:listed.getD i true with
   | true=>simpa [Array.getD,hs,a] using d
   | false =>have b:ops[i]?=some (ops[i]' sv):=Array.getElem?_eq_getElem _;have:i ∈ Region.ready .any ops.pop listed:=mem_ready.2 ⟨d,_,(tJ T a).trans b,λe f c=>g e.on (T.down i _ a b e f c) (by have:=T.down i _ a b e f c;omega)⟩;rw [hr] at this;cases this
theorem Kq (T:rt ops L l) {R:Act->World->Prop} {i:Nat} (k:i<L) {K f:Act->World->Prop} {a:Act} {w:World} (q:∀ a w,K a w->f a w) (h:wpOp P ops.pop (Exit.then R Q) i K a w):wpOp P ops Q i f a w:=by
 refine wpOp_mono q ?_;have m:ops[i]?=some (ops[i]' sv):=Array.getElem?_eq_getElem _;unfold wpOp at h ⊢;rw [tJ T k] at h;rw [m] at h ⊢;dsimp only at h ⊢;have t:Region.wanted (ops[i]' sv) (yielded ops.pop a.tmps)=Region.wanted (ops[i]' sv) (yielded ops a.tmps):=by
  unfold Region.wanted;cases s:(ops[i]' sv).guard with
  | none=>rfl
  | some g =>have j:=T.gd i _ k m g s;dsimp only;unfold yielded;rw [tJ T ab]
 rw [t] at h;split
 ·rename_i b;rw [if_pos b] at h;rcases h with h|⟨j,o,d,p⟩
  ·refine .inl ?_;unfold Oper.wp at h ⊢;generalize (execOp a.eval (ops[i]' sv)).run P w=r at *;cases r with
   | ok n d =>
     cases n<;>simp only [Oper.upon] at h ⊢;all_goals first
      | exact h
      | exact Calls.mono h (λe u c=>by cases e<;>exact c)
      | exact Rows.mono h (λ_ _ c=>c)
   | halt x d=>cases x<;>simp only [Oper.upon] at h ⊢ <;> exact h
  ·exact .inr ⟨j,o,d,p⟩
 ·rename_i b;rw [if_neg b] at h;exact h
theorem DL (T:rt ops L l):∀ (fuel:Nat) (listed:Array Bool) (a:Act) (w:World),listed.size=L->wpAny P .any ops.pop (Exit.then (λa w=>wpOp P ops Q L (λa w=>Q .normal a w) a w) Q) fuel listed a w->wpAny P .any ops Q (fuel+1) (listed.push false) a w:=by
 have g:∀ (m:Nat) (listed:Array Bool) (a:Act) (w:World),listed.size=L->Region.ready .any ops.pop listed=[]->wpOp P ops Q L (λa w=>Q .normal a w) a w->wpAny P .any ops Q (m+1) (listed.push false) a w:=by
  intro m listed a w b q h
  have f:=DK T b q
  have R:=T.size
  have I:L ∈ Region.ready .any ops (listed.push false):=mem_ready.2 ⟨by simp [Array.getD,Array.getElem_push,b],l,T.last,λe O N=>by
   have k:=T.ldn e O N
   rw [mA b k]
   exact f _ k⟩
  refine ⟨λB=>(by rw [B] at I;cases I),λi t=>?_⟩
  by_cases c:i=L
  ·subst c
   refine wpOp_mono (λG K v=>?_) h
   have J:Region.ready .any ops ((listed.push false).setIfInBounds i true)=[]:=by
    rw [List.eq_nil_iff_forall_not_mem]
    intro j A
    obtain ⟨k,o,d,_⟩:=mem_ready.1 A
    have y:j<ops.size:=(Array.getElem?_eq_some_iff.1 d).1
    by_cases u:j=i
    ·subst u
     simp [Array.getD,b] at k
    ·have z:=f j ab
     have H:((listed.push false).setIfInBounds i true).getD j true=listed.getD j true:=by
      rw [<- mA b (show j<i by omega)]
      simp only [Array.getD_eq_getD_getElem?,Array.getElem?_setIfInBounds_ne (Ne.symm u)]
     rw [H] at k
     have r:j<listed.size:=ab
     simp [Array.getD,r] at k z
     rw [k] at z
     cases z
   cases m with
   | zero=>exact ⟨J,v⟩
   | succ m=>exact ⟨λ_=>v,λj A=>by rw [J] at A;cases A⟩
  ·have E:i<L:=by
    obtain ⟨_,o,d,_⟩:=mem_ready.1 t
    have:=(Array.getElem?_eq_some_iff.1 d).1
    omega
   have:=(ru T b E).1 t
   rw [q] at this
   cases this
 intro fuel
 induction fuel with
 | zero=>intro listed a w b h;exact g 0 listed a w b h.1 h.2
 | succ fuel S =>
   intro listed a w b h
   by_cases q:Region.ready .any ops.pop listed=[]
   ·exact g _ listed a w b q (h.1 q)
   ·obtain ⟨x,F⟩:=List.exists_mem_of_ne_nil _ q
    have p:x<L:=by
     obtain ⟨_,o,d,_⟩:=mem_ready.1 F
     have y:=(Array.getElem?_eq_some_iff.1 d).1
     rw [Array.size_pop] at y
     have:=T.size
     omega
    refine ⟨λB=>(by have:=(ru T b p).2 F;rw [B] at this;cases this),λi t=>?_⟩
    have c:i<L:=by
     obtain ⟨_,o,d,y⟩:=mem_ready.1 t
     have z:=(Array.getElem?_eq_some_iff.1 d).1
     have H:=T.size
     by_cases e:i=L
     ·subst e
      rw [T.last] at d
      cases d
      have r:=T.all x p
      unfold jP at r
      rw [<- Array.any_toList] at r
      obtain ⟨e,s,n⟩:=List.any_eq_true.1 r
      rw [Array.mem_toList_iff] at s
      rw [Bool.and_eq_true,beq_iff_eq] at n
      have C:=y e s n.1
      rw [n.2,mA b p] at C
      have D:=(mem_ready.1 F).1
      have M:x<listed.size:=ab
      simp [Array.getD,M] at C D
      rw [C] at D
      cases D
     ·omega
    refine Kq T c (λG K v=>?_) (h.2 i ((ru T b c).1 t))
    rw [Kp b c]
    exact S _ G K (by simp [b]) v
def Fy:Nat->Array Oper->List KI->Option (List KI)
 | 0,ops,k=>some (.sq ops ops.size (Array.replicate ops.size false)::k)
 | j+1,ops,k=>match DJ ops,ops[ops.size-1]? with
   | true,some l=>Fy j ops.pop (.ops ops [l]::k)
   | _,_=>none
theorem Ks:∀ (j:Nat) (ops:Array Oper) (k b:List KI) (a:Act) (w:World),Fy j ops k=some b->iD P S Q b .normal a w->wpAny P .any ops (iD P S Q k) ops.size (Array.replicate ops.size false) a w:=by
 intro j;induction j with
 | zero =>intro ops k b a w h c;cases h;exact wpAny_of_held (S:=S) _ _ _ _ c
 | succ j o =>
   intro ops k b a w h c;unfold Fy at h;split at h;·rename_i l d n;obtain ⟨L,p,T⟩:=AW d;have f:=T.size;have m:ops.size-1=L:=ab;rw [m,T.last] at n;cases n;have g:=o ops.pop _ b a w h c;rw [Array.size_pop,m] at g;have e:(λa w=>wpOp P ops (iD P S Q k) L (λa w=>iD P S Q k .normal a w) a w)=wpList P ops (iD P S Q k) [l]:=(by funext a w;unfold wpOp wpList;rw [T.last];rfl);have i:wpAny P .any ops (iD P S Q k) (L+1) ((Array.replicate L false).push false) a w:=(by refine DL T L _ a w cp ?_;rw [e];exact g);have e2:(Array.replicate L false).push false=Array.replicate (L+1) false:=(by rw [Array.replicate_succ]);rw [e2] at i;rw [f];exact i
   ·cases h
def AX (j:Nat) (k:List KI):Option (List KI):=match k with
 | .code (.region _ ops true)::k'=>Fy j ops k'
 | _=>none
theorem iH (j:Nat) {n:Nat} {F:Fr} {w:World} {k:List KI} (h:Wg P S Q n ((AX j k).getD []) F w.drew) (hm:P.follows .mixedOrders=true:=by kernel_rfl) (hk:(AX j k).isSome=true:=by kernel_rfl):Wg P S Q n k F w:=λa c=>by
 obtain ⟨e,b⟩:=Option.isSome_iff_exists.1 hk;clear hk;rw [b,Option.getD_some] at h;unfold AX at b;split at b;·rename_i id ops d;show (Go.Code.region id ops true).wp P (iD P S Q d) a w;exact wp_region_any hm (Ks j ops d e a w.drew b (h a c))
 ·cases b
theorem ze {n:Nat} {F:Fr} {w:World} {k:List KI} (h:Wg P S Q n ((AX 1 k).getD []) F w.drew) (hm:P.follows .mixedOrders=true:=by kernel_rfl) (hk:(AX 1 k).isSome=true:=by kernel_rfl):Wg P S Q n k F w:=iH 1 (hm:=hm) (hk:=hk) h
def Q5 (kk:Nat) (k:List KI):Option (List KI):=match k with
 | .code (.region _ ops true)::k'=>some (.sk ops kk ops.size (Array.replicate ops.size false)::k')
 | _=>none
theorem lg (kk:Nat) {n:Nat} {F:Fr} {w:World} {k:List KI} (h:Wg P S Q n ((Q5 kk k).getD []) F w.drew) (hm:P.follows .mixedOrders=true:=by kernel_rfl) (hk:(Q5 kk k).isSome=true:=by kernel_rfl):Wg P S Q n k F w:=λa b=>by
 unfold Q5 at hk h;split at hk;·rename_i id ops c;show (Go.Code.region id ops true).wp P (iD P S Q c) a w;exact wp_region_any hm (ur _ _ _ _ (h a b))
 ·cases hk
def Ue (k:List KI):Option (List KI):=match k with
 | .sw all m listed::k'=>some (.sq all m listed::k')
 | _=>none
theorem S7 {n:Nat} {F:Fr} {w:World} {k:List KI} (h:Wg P S Q n ((Ue k).getD []) F w) (hk:(Ue k).isSome=true:=by kernel_rfl):Wg P S Q n k F w:=λa b=>by
 unfold Ue at hk h;split at hk;·exact wpAny_of_held (S:=S) _ _ _ _ (h a b)
 ·cases hk
def az:Nat->Go.Code->Go.Code
 | 0,c=>c
 | n+1,.seq _ y=>az n y
 | _+1,c=>c
def i8:Go.Code->Go.Code
 | .seq x _=>x
 | c=>c
def Fz:Go.Code->Go.Code
 | .cond _ x _=>x
 | c=>c
def aW (fn:Func):Go.Code:=fn.body.getD .skip
theorem ah {n:Nat} {F:Fr} {w:World} {k:List KI} (k1:List KI) (b:Fr) (h:Wg P S Q n k1 b w) (hk:k=k1:=by kernel_rfl) (hF:b.map (λy=>some y.2.1)=b.map λy=>(lk F y.1).map Prod.fst:=by kernel_rfl):Wg P S Q n k F w:=by subst hk;exact λa c=>h a (c.less hF)
end
structure TV where
 ld:Value
 wd:Int
 op:Int
 rd:Int
 ra:Int
 rb:Int
 im:Int
 fm:Value
 rs:Int
 nx:Int
 wr:Bool
 up:Bool
 cz:Int
 vl:Int
def bH (M:MV) (A:MA) (t:TV):Array Value:=#[.u M.pc,.slice A.ax M.x.length A.cx,.i M.pr,.slice A.ac M.cs.length A.cc,.slice A.ar M.ram.length A.cr,.u M.d.t,.u M.d.cm,.bool M.d.so,.slice A.ai M.d.xs.length A.ci,.slice A.ao M.d.ys.length A.co,.i M.d.ir,.u M.hd,.bool M.hl,.bool M.wt,t.ld,.u t.wd,.i t.op,.i t.rd,.i t.ra,.i t.rb,.i t.im,t.fm,.u t.rs,.u t.nx,.bool t.wr,.bool t.up,.i t.cz,.u t.vl]
theorem Iv.one {g:Nat} {w:World} {cs:Array Value} (h:g8 ⟨g,cs,[]⟩ w):Iv [g] w [⟨g,cs,[]⟩] w:=⟨λr a=>by rw [List.mem_singleton] at a;subst a;exact h,Ag.refl _ _,λr a=>by rw [List.mem_singleton] at a;subst a;simp,cp⟩
theorem jT {w:World} {g:Nat} {M:MV} {A:MA} {t:TV} (c v:Int) (h:g8 ⟨g,bH M A t,[]⟩ w):Calls prog 201 #[.p g 0,.i c,.u v] w λe b=>e=.returned (.tuple #[])/\Iv [g] w [⟨g,bH M A {t with up:=true,cz:=c,vl:=v},[]⟩] b:=by refine fT (args:=[.p g 0,.i c,.u v]) (λ_=>True) func201 ?_;refine aL 0 1 ?_;exact fY (Iv.one h) {} 40 λW a=>⟨rfl,a⟩
theorem Iv.then1 {bs:List Nat} {g:Nat} {w W w':World} {cs a:Array Value} (h:Iv bs w [⟨g,cs,[]⟩] W) (k:Iv [g] W [⟨g,a,[]⟩] w'):Iv bs w [⟨g,a,[]⟩] w' :=
 ⟨k.rows,h.ag.trans ⟨k.ag.os,k.ag.tape,k.ag.output,k.ag.size,λi d c=>k.ag.block i d (by rw [List.mem_singleton];exact λe=>c (by rw [e];exact h.sub _ (List.mem_singleton.2 rfl)))⟩,λr b=>by rw [List.mem_singleton] at b;subst b;exact h.sub ⟨g,cs,[]⟩ (List.mem_singleton.2 rfl),cp⟩
theorem Iv.row1 {bs:List Nat} {g:Nat} {w W:World} {cs:Array Value} (h:Iv bs w [⟨g,cs,[]⟩] W):g8 ⟨g,cs,[]⟩ W:=h.rows _ (List.mem_singleton.2 rfl)
def wk {P:Program} {bs:List Nat} {g:Nat} {w:World} {cs:Array Value} {f:Nat} {args:Array Value} {v:Value} (h:∀ W,Iv bs w [⟨g,cs,[]⟩] W->Calls P f args W λe b=>e=.returned v/\Iv [g] W [⟨g,cs,[]⟩] b):Cv P (Iv bs w [⟨g,cs,[]⟩]):=⟨f,args,v,0,λW a=>(h W a).mono λe b k=>⟨k.1,a.then1 k.2⟩⟩
theorem lj {w:World} {p:Addr} {v:Value} (h:w.cell? p=some v):p.block<w.heap.size:=by
 unfold World.cell? at h;split at h;·rename_i a;exact (Array.getElem?_eq_some_iff.1 a).1
 ·cases h
section
variable {w : World} {g : Nat} {M : MV} {A : MA} {t : TV}
theorem sD (h:g8 ⟨g,bH M A t,[]⟩ w):Calls prog 157 #[.p g 0] w λe b=>e=.returned (.u (IntKind.u64.wrap t.im))/\Iv [g] w [⟨g,bH M A t,[]⟩] b:=by refine fT (args:=[.p g 0]) (λ_=>True) func157 ?_;refine aL 0 1 ?_;exact uR (t:=2) (v:=.u (IntKind.u64.wrap t.im)) (Iv.one h) {} 40 λW a=>⟨rfl,a⟩
theorem oM (h:g8 ⟨g,bH M A t,[]⟩ w):Calls prog 151 #[.p g 0] w λe d=>e=.returned (.tuple #[])/\Iv [g] w [⟨g,bH M A {t with up:=true,cz:=2,vl:=t.wd},[]⟩] d:=by refine fT (args:=[.p g 0]) (λ_=>True) func151 ?_;refine aL 0 1 ?_;refine fx (Iv.one h) {} 40 (R1:=[⟨g,bH M A t,[]⟩]) (λW a=>jT 2 t.wd a.row1) λW e d a c=>⟨_,0,c.1,?_⟩;exact fY (Iv.one c.2.row1) {} 40 λf b=>⟨rfl,(a.then1 c.2).then1 b⟩
theorem Kt {b o:Nat} {x:Int} (h:g8 ⟨g,bH M A t,[]⟩ w) (c:A.ax=some ⟨b,o,none⟩) (f:0<=t.ra/\t.ra<M.x.length) (hb:b≠g) (hx:w.cell? ⟨b,o+t.ra.toNat,none⟩=some (.u x)):Calls prog 156 #[.p g 0] w λe i=>e=.returned (.u x)/\Iv [g] w [⟨g,bH M A t,[]⟩] i:=by
 have d:∀ W,Ag [g] w W->W.cell? ⟨b,o+t.ra.toNat,none⟩=some (.u x):=λW a=>by rw [<- hx];simp only [World.cell?,a.block b (lj hx) (by simpa using hb)]
 refine fT (args:=[.p g 0]) (λ_=>True) func156 ?_;refine aL 0 1 ?_;exact uR (t:=2) (v:=.u x) (Iv.one h) {ov:=[(13,kN M.x.length A.cx .i64 t.ra c f underlying23 al),(14,iR _ _ underlying22 rfl d)]} 40 λW a=>⟨rfl,a⟩
theorem TO {b o:Nat} {x:Int} (h:g8 ⟨g,bH M A t,[]⟩ w) (c:A.ax=some ⟨b,o,none⟩) (f:0<=t.rb/\t.rb<M.x.length) (hb:b≠g) (hx:w.cell? ⟨b,o+t.rb.toNat,none⟩=some (.u x)):Calls prog 159 #[.p g 0] w λe i=>e=.returned (.u x)/\Iv [g] w [⟨g,bH M A t,[]⟩] i:=by
 have d:∀ W,Ag [g] w W->W.cell? ⟨b,o+t.rb.toNat,none⟩=some (.u x):=λW a=>by rw [<- hx];simp only [World.cell?,a.block b (lj hx) (by simpa using hb)]
 refine fT (args:=[.p g 0]) (λ_=>True) func159 ?_;refine aL 0 1 ?_;exact uR (t:=2) (v:=.u x) (Iv.one h) {ov:=[(13,kN M.x.length A.cx .i64 t.rb c f underlying23 al),(14,iR _ _ underlying22 rfl d)]} 40 λW a=>⟨rfl,a⟩
end
def Qc:List KI->Option (List Nat)
 | .sq all (_+1) listed::_=>some (Region.ready .any all listed)
 | _=>none
def AY (F:Fr) (i:Nat):List KI->Option (Oper × List KI)
 | .sq all (m+1) listed::k=>match all[i]? with
   | some o=>match wn all F o with
     | some true=>some (o,.sq all m (listed.setIfInBounds i true)::k)
     | _=>none
   | none=>none
 | _=>none
def N0 (F:Fr) (i:Nat) (k:List KI):List KI:=match AY F i k with
 | some x=>x.2
 | none=>[]
def S8 (n:Nat) (F:Fr) (i:Nat) (k:List KI):Option (Sem Next):=match AY F i k with
 | some (o,_)=>match o.op.operands.all (kn F)&&Aq o.op&&(match o.dst with | some d=>Nat.blt d n | none=>true) with
   | true=>some (execOp (ev F) o)
   | false=>none
 | none=>none
def N5 (F:Fr) (i:Nat) (k:List KI) (v:Value) (t:Nat):Fr:=match AY F i k with
 | some (o,_)=>match o.dst with
   | some d=>(d,v,t)::F
   | none=>F
 | none=>F
def S9 (P:Program) (n:Nat) (F:Fr) (i:Nat) (k:List KI):Option (Nat × Array Value):=match AY F i k with
 | some (o,_)=>match (match o.dst with | some d=>Nat.blt d n | none=>true) with
   | true=>rf P F o
   | false=>none
 | none=>none
section
variable {P : Program} {S : World -> Prop} {n : Nat} {Q : Exit -> Act -> World -> Prop} {k : List KI} {F : Fr} {w : World}
def TP (P:Program) (S:World->Prop) (Q:Exit->Act->World->Prop) (i:Nat) (a:Act) (w:World):List KI->Prop
 | .sq all (m+1) listed::k'=>wpOp P all (iD P S Q k') i (λc b=>S b/\wpAnyH P .any all (iD P S Q k') S m (listed.setIfInBounds i true) c b) a w
 | _=>False
def Br (P:Program) (S:World->Prop) (Q:Exit->Act->World->Prop) (n:Nat) (k:List KI) (F:Fr) (w:World) (i:Nat):Prop:=∀ a,bP F n a->TP P S Q i a w k
theorem rv {i j:Nat} (f:Br P S Q n k F w i) (g:Br P S Q n k F w j) (hr:Qc k=some [i,j]:=by kernel_rfl):Wg P S Q n k F w:=λa d=>by
 have b:=f a d;have c:=g a d;unfold TP at b c;unfold Qc at hr;split at hr
 ·rename_i all m listed h;simp only [Option.some.injEq] at hr;show wpAnyH P .any all (iD P S Q h) S (m+1) listed a w;refine wpAnyH_all hr cp λq e=>?_;simp only [List.mem_cons,List.not_mem_nil,or_false] at e;rcases e with rfl | rfl;·exact b
  ·exact c
 ·cases hr
theorem FA {i:Nat} {o:Oper} {e:List KI} (h:AY F i k=some (o,e)) {a:Act} (hk:bP F n a) (q:∀ K:Act->World->Prop,(∀ c b,S b->iD P S Q e .normal c b->K c b)->o.wp P a w K (iD P S Q e)):TP P S Q i a w k:=by
 unfold AY at h;split at h
 ·rename_i all m listed r;split at h
  ·rename_i s l;split at h;·rename_i d;simp only [Option.some.injEq,Prod.mk.injEq] at h;obtain ⟨rfl,rfl⟩:=h;simp only [TP];refine wpOp_step l λf g=>?_;rw [if_pos (kA hk d)];exact q f λc b p j=>g c b ⟨p,j⟩
   ·cases h
  ·cases h
 ·cases h
theorem uS {i:Nat} {w':World} {s:Sem Next} {v:Value} (t:Nat) (hr:s.run P w=.ok (.value v) w') (hS:S w') (h:Wg P S Q n (N0 F i k) (N5 F i k v t) w') (hx:S8 n F i k=some s:=by kernel_rfl):Br P S Q n k F w i:=λa f=>by
 unfold S8 at hx;unfold N0 N5 at h;cases j:AY F i k with
 | none=>rw [j] at hx;cases hx
 | some y =>
   obtain ⟨o,q⟩:=y;rw [j] at hx h;dsimp only at hx h;split at hx
   ·rename_i c;cases hx;rw [Bool.and_eq_true,Bool.and_eq_true] at c;have g:execOp a.eval o=execOp (ev F) o:=execOp_congr o (λp b e=>by have:=c.1.2;rw [e] at this;cases this) λx hx=>f.eval (Array.all_eq_true_iff_forall_mem.1 c.1.1 x hx);refine FA j f λK l=>?_;show o.upon P a K _ _;rw [g,hr];refine l _ _ hS (h _ ?_);cases m:o.dst with
    | none=>exact f
    | some d=>rw [m] at c;exact f.put c.2 v t
   ·cases hx
theorem qb {i:Nat} {f:Nat} {args:Array Value} {Rc:Ending->World->Prop} (p:Calls P f args w Rc) (h:∀ e b,Rc e b->∃ v t,e=.returned v/\S b/\Wg P S Q n (N0 F i k) (N5 F i k v t) b) (hx:S9 P n F i k=some (f,args):=by kernel_rfl):Br P S Q n k F w i:=λa c=>by
 unfold S9 at hx;unfold N0 N5 at h;cases j:AY F i k with
 | none=>rw [j] at hx;cases hx
 | some y =>
   obtain ⟨o,u⟩:=y;rw [j] at hx h;dsimp only at hx h;split at hx
   ·rename_i l;refine FA j c λK m=>?_;show o.upon P a K _ _;rw [rg c hx w];refine p.mono λe b q=>?_;obtain ⟨v,t,rfl,r,s⟩:=h e b q;refine m _ _ r (s _ ?_);cases g:o.dst with
    | none=>exact c
    | some d=>rw [g] at l;exact c.put l v t
   ·cases hx
end
end Go.Proofs.YtjifdmoehfbihaaGreatDoor
