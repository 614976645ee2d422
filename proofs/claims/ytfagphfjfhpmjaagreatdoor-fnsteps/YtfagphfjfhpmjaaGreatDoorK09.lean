/- Own lemmas. -/
import Derived.Test.YtfagphfjfhpmjaaGreatDoorAut
import Derived.Test.YtfagphfjfhpmjaaGreatDoorK03
import Derived.Test.YtfagphfjfhpmjaaGreatDoorK06
set_option maxRecDepth 100000
namespace Go.Proofs.YtfagphfjfhpmjaaGreatDoor
open Go.RowKit Tryz
open IntKind renaming u64->Uz
set_option linter.unusedVariables false
variable {w a n:World} {P:Nat} {b:List Nat} {g:Program} {F:Fr} {W:World->Prop} {c:List Rw} {R:Array Value} {v:Act} {D:Exit->Act->World->Prop} {Q:Oper} {f:Value} {k:List (Oe × Oe)} {o:List KI} (t:DV) (T j:Nat) (p r:Int) (x:World)
def iq (r:Rw) (w:World):Prop:=∃ t,w.heap[r.b]?=some (.cells r.cs t (0,0))
structure Ag (bs:List Nat) (w W:World):Prop where
 os:W.os=w.os
 tape:W.tape=w.tape
 output:W.output=w.output
 size:w.heap.size<=W.heap.size
 block:∀ k,k<w.heap.size->k ∉ bs->W.heap[k]?=w.heap[k]?
theorem Ag.refl (bs:List Nat) (w:World):Ag bs w w:=⟨rfl,rfl,rfl,Nat.le_refl _,λ_ _ _=>rfl⟩
theorem Ag.trans (h:Ag b a w) (k:Ag b w n):Ag b a n:=⟨k.os.trans h.os,k.tape.trans h.tape,k.output.trans h.output,Nat.le_trans h.size k.size,λi e d=>(k.block i (Nat.lt_of_lt_of_le e h.size) d).trans (h.block i e d)⟩
theorem Ag.below (h:Ag b a w) (k:Bw w n):Ag b a n:=h.trans ⟨k.os,k.tape,k.output,k.size,λi d _=>k.block i d⟩
theorem Ag.drew (h:Ag b a w):Ag b a w.drew:=⟨h.os,h.tape,h.output,h.size,h.block⟩
theorem Lo (a:P ∈ b) (w:World) (i:Nat) (v:Value):Ag b w (w.setCell ⟨P,i,none⟩ v):=⟨rfl,rfl,rfl,cp,λk _ bs=>Below.heap_setCell w _ v k (λe=>bs (by rw [e];exact a))⟩
def ug {α:Type} (P:Program):Sem α->Rw->Option (α × Rw × List (Addr × Addr))
 | .pure a,r=>some (a,r,[])
 | .load _ a k,r=>match r.cs[a.off]? with
   | none=>none
   | some v=>match ug P (k v) r with
     | none=>none
     | some x=>some (x.1,x.2.1,(a,⟨r.b,a.off,none⟩)::x.2.2)
 | .store _ a v k,r=>match v.oneCell' with
   | false=>none
   | true=>match r.cs[a.off]? with
     | none=>none
     | some _=>match ug P k {r with cs:=r.cs.setIfInBounds a.off v} with
       | none=>none
       | some x=>some (x.1,x.2.1,(a,⟨r.b,a.off,none⟩)::x.2.2)
 | .program k,r=>ug P (k P) r
 | .mark _ k,r=>ug P k r
 | _,_=>none
theorem O6 {α:Type} {bs:List Nat}:∀ (s:Sem α) (r b:Rw) (x:α) (d:List (Addr × Addr)) (w:World),ug g s r=some (x,b,d)->(∀ e ∈ d,e.1=e.2)->r.b ∈ bs->iq r w->∃ z,s.run g w=.ok x z/\iq b z/\b.b=r.b/\b.tg=r.tg/\Ag [r.b] w z:=by
 intro s;induction s with
 | pure a =>intro r b x d w h _ _ i;simp only [ug,Option.some.injEq,Prod.mk.injEq] at h;obtain ⟨rfl,rfl,_⟩:=h;exact ⟨w,rfl,i,rfl,rfl,Ag.refl _ _⟩
 | load m a k l =>
   intro r b x d w h P p i;unfold ug at h;cases q:r.cs[a.off]? with
   | none=>rw [q] at h;cases h
   | some v =>
     rw [q] at h;dsimp only at h;cases j:ug g (k v) r with
     | none=>rw [j] at h;cases h
     | some y =>rw [j] at h;simp only [Option.some.injEq,Prod.mk.injEq] at h;obtain ⟨A,B,C⟩:=h;subst C;have o:a=⟨r.b,a.off,none⟩:=P (a,⟨r.b,a.off,none⟩) cp;obtain ⟨t,c⟩:=i;have D:w.cell? a=some v:=(by rw [o];simp only [World.cell?,c];simpa using q);simp only [Sem.run,D];exact l v r b x y.2.2 w (by rw [j,<- A,<- B]) (λe h=>P e (by simp [h])) p ⟨t,c⟩
 | store m a v k l =>
   intro r b x d w h P p i;unfold ug at h;cases n:v.oneCell' with
   | false=>rw [n] at h;cases h
   | true =>
     rw [n] at h;dsimp only at h;cases q:r.cs[a.off]? with
     | none=>rw [q] at h;cases h
     | some u =>
       rw [q] at h;dsimp only at h;cases j:ug g k {r with cs:=r.cs.setIfInBounds a.off v} with
       | none=>rw [j] at h;cases h
       | some y =>
         rw [j] at h;simp only [Option.some.injEq,Prod.mk.injEq] at h;obtain ⟨A,B,C⟩:=h;subst C;have o:a=⟨r.b,a.off,none⟩:=P (a,⟨r.b,a.off,none⟩) cp;obtain ⟨t,c⟩:=i;have D:w.cell? a=some u:=(by rw [o];simp only [World.cell?,c];simpa using q);have L:w.frozen? a=false:=(by rw [o];simp [World.frozen?,c]);have f:(w.setCell a v).heap[r.b]?=some (.cells (r.cs.setIfInBounds a.off v) t (0,0)):=(by rw [o];exact bI c a.off v);obtain ⟨z,F,G,I,J,H⟩:=l {r with cs:=r.cs.setIfInBounds a.off v} b x y.2.2 (w.setCell a v) (by rw [j,<- A,<- B]) (λe h=>P e (by simp [h])) p ⟨t,f⟩;refine ⟨z,?_,G,I,J,?_⟩
         ·have E:(Sem.store m a v k).run g w=k.run g (w.setCell a v):=by clear o P l F G H f j;cases v<;>first | (simp only [Sem.run,D,L,Bool.false_eq_true,if_false];done) | (cases n;done)
          rw [E];exact F
         ·have K:Ag [r.b] w (w.setCell a v):=(by rw [o];exact Lo cp w _ v);exact K.trans H
 | program k l=>intro r b x d w h P p i;exact l g r b x d w h P p i
 | mark m k l=>intro r b x d w h P p i;exact l r b x d w h P p i
 | new=>intro r b x d w h;cases h
 | shape=>intro r b x d w h;cases h
 | freeze=>intro r b x d w h;cases h
 | frozen=>intro r b x d w h;cases h
 | getObj=>intro r b x d w h;cases h
 | setObj=>intro r b x d w h;cases h
 | choose=>intro r b x d w h;cases h
 | sys=>intro r b x d w h;cases h
 | halt=>intro r b x d w h;cases h
structure Hw (P:Program) (T:World->Prop) where
 eq:List (Nat × Vq):=[]
 ov:List (Nat × Ov P T):=[]
def QZ (R:List Rw) (w:World):Prop:=∀ r ∈ R,iq r w
theorem iq.in_ {r:Rw} (h:iq r w):pO r w:=let ⟨t,h⟩:=h;⟨t,_,h⟩
theorem Lr {α a:Type} (f:α->a):∀ (l:List (Nat × α)) (d:Nat),lk (l.map λx=>(x.1,f x.2)) d=(lk l d).map f
 | [],_=>rfl
 | (q,y)::l,d=>by
   simp only [List.map_cons,lk]
   cases Nat.beq q d
   ·exact Lr f l d
   ·rfl
theorem Lt {ov:List (Nat × Ov g W)} {eq:List (Nat × Vq)} {t:Nat} (hk:cg F P v) (h:KN g c ov eq F Q=some (f,t,k)) (he:∀ e ∈ k,e.1=e.2) (n:W w) (T:∀ r ∈ c,pO r w): (execOp v.eval Q).run g w=.ok (.value f) w:=by
 have o:KN g c (ov.map λx=>(x.1,(⟨x.2.s,x.2.v,x.2.t,λR b=>by subst b;exact x.2.h _ n⟩:Ov g λR=>R=w))) eq F Q=some (f,t,k):=by
  rw [<- h];unfold KN;split;·rfl
  ·have i:=λd=>Lr (λy:Ov g W=>(⟨y.s,y.v,y.t,λR b=>by subst b;exact y.h _ n⟩:Ov g λR=>R=w)) ov d;cases j:Q.dst with
   | none=>rfl
   | some d =>simp only [Option.bind_some,i];cases lk ov d<;>rfl
 exact (Ea hk o he λR b=>by subst b;exact T).1 w rfl
def yD (P:Program) {T:World->Prop} (R:List Rw) (H:Hw P T) (n:Nat) (all:Array Oper):Nat->Array Bool->Fr->Option (Fr × List (Oe × Oe))
 | m,listed,F=>match Region.ready .any all listed with
   | []=>some (F,[])
   | i::is=>match m with
     | 0=>none
     | m+1=>match qx all listed (i::is) with
       | none=>none
       | some j=>match all[j]? with
         | none=>none
         | some o=>match (match wn all F o with | none=>none | some false=>some (undef,0,[]) | some true=>KN P R H.ov H.eq F o) with
           | none=>none
           | some (v,t,es)=>match rS n F v t o.dst with
             | none=>none
             | some a=>match yD P R H n all m (listed.setIfInBounds j true) a with
               | none=>none
               | some (F2,es2)=>some (F2,es++es2)
theorem Lu {H:Hw g W} {all:Array Oper} {Q:Exit->Act->World->Prop} (N:W w) (M:QZ c w) (C:Region.noSelect all=true) (L:∀ n a d v w,Q (.panic n) (Act.put a d v) w->Q (.panic n) a w):∀ (m:Nat) (listed:Array Bool) (F p:Fr) (q:List (Oe × Oe)) (a:Act),yD g c H P all m listed F=some (p,q)->(∀ e ∈ q,e.1=e.2)->cg F P a->(∀ G,cg p P G->Q .normal G w)->wpAnyH g .any all Q (λR=>R=w) m listed a w:=by
 intro m;induction m with
 | zero =>
   intro listed F p q a h x k s;unfold yD at h;cases T:Region.ready .any all listed with
   | nil=>rw [T] at h;cases h;exact wpAnyH_done T (s a k) 0
   | cons i is=>rw [T] at h;cases h
 | succ m V =>
   intro listed F p q a h x k s;unfold yD at h;cases T:Region.ready .any all listed with
   | nil=>rw [T] at h;cases h;exact wpAnyH_done T (s a k) _
   | cons i is =>
     rw [T] at h;dsimp only at h;cases D:qx all listed (i::is) with
     | none=>rw [D] at h;cases h
     | some j =>
       rw [D] at h;dsimp only at h;cases A:all[j]? with
       | none=>rw [A] at h;cases h
       | some o =>
         rw [A] at h;dsimp only at h;split at h;·cases h
         ·rename_i v t J f;cases z:rS P F v t o.dst with
          | none=>rw [z] at h;cases h
          | some I =>
            rw [z] at h;dsimp only at h;cases E:yD g c H P all m (listed.setIfInBounds j true) I with
            | none=>rw [E] at h;cases h
            | some y =>
              obtain ⟨X,K⟩:=y;rw [E] at h;simp only [Option.some.injEq,Prod.mk.injEq] at h;obtain ⟨rfl,rfl⟩:=h;have l:=og D;have U:YieldsIf g all (λR=>R=w) o v a:=by
               cases u:wn all F o with
               | none=>rw [u] at f;cases f
               | some b =>
                 rw [u] at f;cases b with
                 | false=>simp only [Option.some.injEq,Prod.mk.injEq] at f;exact .inr ⟨kP k u,f.1.symm⟩
                 | true=>exact .inl ⟨kP k u,λR O=>by subst O;exact Lt k f (λe B=>x e (by simp [B])) N λr T=>(M r T).in_⟩
              exact wpAnyH_take A C l.2 (by rw [T];simpa using l.1) (λn a w S=>L n a _ _ w S) U rfl (V _ _ _ _ _ E (λe B=>x e (by simp [B])) (j9 z k) s)
inductive Sv where
 | go (k:List KI) (F:Fr) (R:List Rw) (es:List (Oe × Oe))
 | ret
 | stop
def U8 (P:Program) (R:List Rw) (F:Fr) (o:Oper):Option (List Rw × List (Oe × Oe)):=match o.op with
 | .store _ x _=>match o.op.operands.all (kn F) with
   | false=>none
   | true=>match KM F x with
     | 0=>none
     | j+1=>match R[j]? with
       | none=>none
       | some r=>match ug P (execOp (ev F) o) r with
         | some (.skip,r',es)=>some (R.set j r',es.map λe=>(.a e.1,.a e.2))
         | _=>none
 | _=>none
def B6 (P:Program) {T:World->Prop} (H:Hw P T) (n:Nat) (k:List KI) (F:Fr) (R:List Rw):Sv :=
 match k with
 | .ops _ []::k=>.go k F R []
 | .ops all (o::rest)::k=>match (match wn all F o with | none=>none | some false=>some (undef,0,[]) | some true=>KN P R H.ov H.eq F o) with
   | some (v,t,a)=>match rS n F v t o.dst with
     | some b=>.go (.ops all rest::k) b R a
     | none=>.stop
   | none=>match wn all F o,o.dst with
     | some true,none=>match U8 P R F o with
       | some (R',a)=>.go (.ops all rest::k) F R' a
       | none=>.stop
     | _,_=>.stop
 | .blk _::k=>.go k F R []
 | .code (.region _ ops true)::k=>match Region.noSelect ops&&P.follows .mixedOrders with
   | true=>match yD P R H n ops ops.size (Array.replicate ops.size false) F with
     | some (b,a)=>.go k b R a
     | none=>.stop
   | false=>.stop
 | .code c::k=>match iP P false k F c with
   | .go d b a=>.go d b R a
   | .ret=>.ret
   | .stop=>.stop
 | _=>.stop
theorem B7 {α:Type}:∀ {l:List α} {j:Nat} {x:α},l[j]?=some x->l.set j x=l
 | [],_,_,h=>ni
 | y::l,0,x,h=>by simp at h;simp [h]
 | y::l,j+1,x,h=>by simp only [List.set_cons_succ];rw [B7 (l:=l) el]
structure Iv (bs:List Nat) (w:World) (R:List Rw) (W:World):Prop where
 rows:QZ R W
 ag:Ag bs w W
 sub:∀ r ∈ R,r.b ∈ bs
 nd:(R.map Rw.b).Nodup
theorem Iv.below (h:Iv b w c a) (k:Bw a n):Iv b w c n :=
 ⟨λr bs=>let ⟨t,W⟩:=h.rows r bs;⟨t,(k.block r.b (Array.getElem?_eq_some_iff.1 W).1).trans W⟩,h.ag.below k,h.sub,h.nd⟩
theorem Su {n:Program} {L:List Rw} (hk:cg F P v) (h:U8 n c F Q=some (L,k)) (he:∀ e ∈ k,e.1=e.2) (R:Iv b w c a):∃ u,(execOp v.eval Q).run n a=.ok .skip u/\Iv b w L u:=by
 unfold U8 at h
 split at h
 ·rename_i t x y H
  cases C:Q.op.operands.all (kn F) with
  | false=>rw [C] at h;cases h
  | true =>
    rw [C] at h
    dsimp only at h
    have D:execOp v.eval Q=execOp (ev F) Q:=execOp_congr Q (λcs W e=>by rw [H] at e;cases e) λx T=>hk.eval (Array.all_eq_true_iff_forall_mem.1 C x T)
    rw [D]
    cases M:KM F x with
    | zero=>rw [M] at h;cases h
    | succ j =>
      rw [M] at h
      dsimp only at h
      cases p:c[j]? with
      | none=>rw [p] at h;cases h
      | some r =>
        rw [p] at h
        dsimp only at h
        cases J:ug n (execOp (ev F) Q) r with
        | none=>rw [J] at h;cases h
        | some z =>
          obtain ⟨U,K,A⟩:=z
          rw [J] at h
          cases U with
          | skip =>
            simp only [Option.some.injEq,Prod.mk.injEq] at h
            obtain ⟨rfl,rfl⟩:=h
            have s:=List.mem_of_getElem? p
            obtain ⟨u,N,O,es,X,l⟩:=O6 (bs:=b) _ r K _ A a J (λe s=>by have:=he (.a e.1,.a e.2) (List.mem_map.2 ⟨e,s,rfl⟩);simpa using this) (R.sub r s) (R.rows r s)
            have E:j<c.length:=(List.getElem?_eq_some_iff.1 p).1
            have d:(c.set j K).map Rw.b=c.map Rw.b:=by
             rw [List.map_set,es]
             have:(c.map Rw.b)[j]?=some r.b:=by simp [p]
             exact B7 this
            refine ⟨u,N,⟨λq I=>?_,R.ag.trans ⟨l.os,l.tape,l.output,l.size,λbs S hk=>l.block bs S (by simp only [List.mem_singleton];exact λe=>hk (by rw [e];exact R.sub r s))⟩,λq I=>?_,by rw [d];exact R.nd⟩⟩
            ·obtain ⟨i,m⟩:=List.mem_iff_getElem?.1 I
             by_cases g:i=j
             ·subst g
              rw [List.getElem?_set_self E] at m
              cases m
              exact O
             ·rw [List.getElem?_set_ne (Ne.symm g)] at m
              obtain ⟨t,f⟩:=R.rows q (List.mem_of_getElem? m)
              have G:q.b≠r.b:=λe=>g (by
               have B:(c.map Rw.b)[i]?=some q.b:=by simp [m]
               have o:(c.map Rw.b)[j]?=some r.b:=by simp [p]
               rw [<- e] at o
               exact (List.getElem?_inj (by simpa using (List.getElem?_eq_some_iff.1 m).1) R.nd).1 (B.trans o.symm))
              exact ⟨t,(l.block q.b (Array.getElem?_eq_some_iff.1 f).1 (by simpa using G)).trans f⟩
            ·have:q.b ∈ (c.set j K).map Rw.b:=List.mem_map.2 ⟨q,I,rfl⟩
             rw [d] at this
             obtain ⟨V,B,o⟩:=List.mem_map.1 this
             rw [<- o]
             exact R.sub V B
          | _=>cases h
 ·cases h
section
variable {P : Program} {T : World -> Prop} {H : Hw P T} {n : Nat} {bs : List Nat} {w : World} {Q : Exit -> Act -> World -> Prop}
theorem Lw (D:∀ W,Ag bs w W->T W) (C:∀ c a d v w,Q (.panic c) (Act.put a d v) w->Q (.panic c) a w) {k G:List KI} {F A:Fr} {R B:List Rw} {es:List (Oe × Oe)} (h:B6 P H n k F R=.go G A B es) (he:∀ e ∈ es,e.1=e.2) (f:∀ a W,cg A n a->Iv bs w B W->iO P (λ_=>True) Q G .normal a W) (a:Act) (W:World) (hk:cg F n a) (i:Iv bs w R W):iO P (λ_=>True) Q k .normal a W:=by
 unfold B6 at h;split at h;·cases h;exact f a W hk i
 ·rename_i all o rest I;show wpList P all _ (o::rest) a W;split at h
  ·rename_i v t m g;split at h
   ·rename_i L E;simp only [Sv.go.injEq] at h;obtain ⟨rfl,rfl,rfl,rfl⟩:=h;refine wpList_step λK q=>?_;cases l:wn all F o with
    | none=>rw [l] at g;cases g
    | some b =>
      rw [l] at g;cases b with
      | false =>simp only [Option.some.injEq,Prod.mk.injEq] at g;obtain ⟨rfl,rfl,rfl⟩:=g;rw [kP hk l,if_neg bc];exact q _ _ (f _ _ (j9 E hk) i)
      | true =>rw [if_pos (kP hk l)];show o.upon P a K _ _;rw [Lt hk g he (D W i.ag) λr p=>(i.rows r p).in_];exact q _ _ (f _ _ (j9 E hk) i)
   ·cases h
  ·split at h
   ·rename_i l Y;split at h;·rename_i R2 m z;simp only [Sv.go.injEq] at h;obtain ⟨rfl,rfl,rfl,rfl⟩:=h;obtain ⟨M,U,X⟩:=Su hk z he i;refine wpList_step λK q=>?_;rw [if_pos (kP hk l)];show o.upon P a K _ _;rw [U];show K (a.put o.dst undef) M;rw [Y];exact q _ _ (f _ _ hk X)
    ·cases h
   ·cases h
 ·cases h;exact f a W hk i
 ·rename_i ops I;split at h
  ·rename_i u;rw [Bool.and_eq_true] at u;split at h;·rename_i L m y;simp only [Sv.go.injEq] at h;obtain ⟨rfl,rfl,rfl,rfl⟩:=h;have j:Iv bs w R W.drew:=⟨λr p=>i.rows r p,i.ag.drew,i.sub,i.nd⟩;refine wp_region_held (S:=λV=>V=W.drew) u.2 ?_;exact Lu (D _ j.ag) j.rows u.1 (λc a d v w s=>by rw [mO] at s ⊢;exact C c a d v w s) _ _ _ _ _ a y he hk λN x=>f N _ x j
   ·cases h
  ·cases h
 ·rename_i c I _;split at h;·rename_i k3 Z O y;simp only [Sv.go.injEq] at h;obtain ⟨rfl,rfl,rfl,rfl⟩:=h;exact sZ (J:=λV=>Iv bs w R V) (R:=[]) ⟨λ_ _=>trivial,λ_ _ r p=>(nomatch p),(λs=>by cases s),C⟩ y f a W hk i
  ·cases h
  ·cases h
 ·cases h
def cC (P:Program) {T:World->Prop} (H:Hw P T) (n:Nat):Nat->List KI->Fr->List Rw->(Bool × List KI × Fr × List Rw) × List (Oe × Oe)
 | 0,k,F,R=>((false,k,F,R),[])
 | m+1,k,F,R=>match B6 P H n k F R with
   | .stop=>((false,k,F,R),[])
   | .ret=>((true,k,F,R),[])
   | .go d a b c=>match cC P H n m d a b with
     | (r,es')=>(r,c++es')
theorem zQ (q:∀ W,Ag bs w W->T W) (p:∀ c a d v w,Q (.panic c) (Act.put a d v) w->Q (.panic c) a w):∀ (m:Nat) (k:List KI) (F:Fr) (R:List Rw),(∀ e ∈ (cC P H n m k F R).2,e.1=e.2) ->
 (∀ a W,cg (cC P H n m k F R).1.2.2.1 n a->Iv bs w (cC P H n m k F R).1.2.2.2 W->if (cC P H n m k F R).1.1=true then Q .ret a W else iO P (λ_=>True) Q (cC P H n m k F R).1.2.1 .normal a W)->∀ a W,cg F n a->Iv bs w R W->iO P (λ_=>True) Q k .normal a W
 | 0,k,F,R,_,hf,a,W,hk,hI=>by simpa [cC] using hf a W hk hI
 | m+1,k,F,R,he,hf,a,W,hk,hI=>by
   cases f:B6 P H n k F R with
   | stop =>
     have e:cC P H n (m+1) k F R=((false,k,F,R),[]):=by simp only [cC,f]
     rw [e] at hf
     simpa using hf a W hk hI
   | ret =>
     have e:cC P H n (m+1) k F R=((true,k,F,R),[]):=by simp only [cC,f]
     rw [e] at hf
     have s:Q .ret a W:=by simpa using hf a W hk hI
     unfold B6 at f
     split at f
     ·cases f
     ·repeat (split at f<;>try cases f)
     ·cases f
     ·repeat (split at f<;>try cases f)
     ·rename_i c u t
      split at f
      ·cases f
      ·rename_i g
       cases c with
       | ret=>exact wp_ret (by rw [zv];exact s)
       | region i ops b=>cases b<;>simp only [iP] at g<;>(try split at g)<;>cases g
       | cond=>simp only [iP] at g;repeat (split at g<;>try cases g)
       | exit=>simp only [iP] at g;split at g<;>cases g
       | _=>cases g
      ·cases f
     ·cases f
   | go o h j r =>
     have e:cC P H n (m+1) k F R=((cC P H n m o h j).1,r++(cC P H n m o h j).2):=by simp only [cC,f]
     rw [e] at he hf
     exact Lw q p f (λx l=>he x (by simp [l])) (zQ q p m o h j (λx l=>he x (by simp [l])) hf) a W hk hI
end
section
variable {P : Program} {n : Nat} {bs : List Nat} {w : World} {fn : Func} {Rs : Ending -> World -> Prop} {k : List KI} {F : Fr} {R : List Rw}
theorem oC (d:Iv bs w R w) (H:Hw P (Ag bs w)) (m:Nat) {R1:List Rw}
 (h:∀ W,Iv bs w R1 W->Wg P (λ_=>True) (bodyPost P fn Rs) n (cC P H n m k F R).1.2.1 (cC P H n m k F R).1.2.2.1 W) (hx:((cC P H n m k F R).1.1,(cC P H n m k F R).1.2.2.2)=(false,R1):=by kernel_rfl) (he:(cC P H n m k F R).2.map Prod.fst=(cC P H n m k F R).2.map Prod.snd:=by kernel_rfl):Wg P (λ_=>True) (bodyPost P fn Rs) n k F w:=λa f=>by
 simp only [Prod.mk.injEq] at hx
 refine zQ (λ_ h=>h) cH m k F R (λe g=>List.map_inj_left.1 he e g) (λa W c b=>?_) a w f d
 rw [hx.2] at b
 rw [hx.1,if_neg bc]
 exact h W b a c
theorem fH (g:Iv bs w R w) (H:Hw P (Ag bs w)) (m:Nat) {R1:List Rw} {f:Nat} {args:Array Value} {Rc:World->Ending->World->Prop} (i:∀ W,Iv bs w R1 W->Calls P f args W (Rc W)) (h:∀ W e a,Iv bs w R1 W->Rc W e a->∃ v t,e=.returned v/\Wg P (λ_=>True) (bodyPost P fn Rs) n (po (cC P H n m k F R).1.2.2.1 (cC P H n m k F R).1.2.1) (qA (cC P H n m k F R).1.2.2.1 (cC P H n m k F R).1.2.1 v t) a) (hx:((cC P H n m k F R).1.1,(cC P H n m k F R).1.2.2.2,OA P n (cC P H n m k F R).1.2.2.1 (cC P H n m k F R).1.2.1)=(false,R1,some (f,args)):=by kernel_rfl) (he:(cC P H n m k F R).2.map Prod.fst=(cC P H n m k F R).2.map Prod.snd:=by kernel_rfl):Wg P (λ_=>True) (bodyPost P fn Rs) n k F w:=by simp only [Prod.mk.injEq] at hx;refine oC g H m (hx:=vw) (he:=he) λW b=>ju (i W b) (hx:=hx.2.2) λe a j=>?_;obtain ⟨v,t,c,d⟩:=h W e a b j;exact ⟨v,t,c,λ_=>trivial,d⟩
theorem T0 (b:Iv bs w R w) (H:Hw P (Ag bs w)) (m:Nat) {R1:List Rw} {s:Sem Next} {v:World->Value} (t:Nat) (f:World->World) (hr:∀ W,Iv bs w R1 W->s.run P W=.ok (.value (v W)) (f W)) (h:∀ W,Iv bs w R1 W->Wg P (λ_=>True) (bodyPost P fn Rs) n (po (cC P H n m k F R).1.2.2.1 (cC P H n m k F R).1.2.1) (qA (cC P H n m k F R).1.2.2.1 (cC P H n m k F R).1.2.1 (v W) t) (f W)) (hx:((cC P H n m k F R).1.1,(cC P H n m k F R).1.2.2.2,Eb n (cC P H n m k F R).1.2.2.1 (cC P H n m k F R).1.2.1)=(false,R1,some s):=by kernel_rfl) (he:(cC P H n m k F R).2.map Prod.fst=(cC P H n m k F R).2.map Prod.snd:=by kernel_rfl):Wg P (λ_=>True) (bodyPost P fn Rs) n k F w:=by simp only [Prod.mk.injEq] at hx;exact oC b H m (hx:=vw) (he:=he) λW a=>dF t (hx:=hx.2.2) (hr W a) (hS:=λ_=>trivial) (h W a)
theorem iH (g:Iv bs w R w) (H:Hw P (Ag bs w)) (m:Nat) {R1:List Rw}
 (h:∀ W a,Iv bs w R1 W->cg (cC P H n m k F R).1.2.2.1 n a->∃ v,(results fn a.tmps).run P W=.ok v W/\Rs (.returned v) W) (hx:((cC P H n m k F R).1.1,(cC P H n m k F R).1.2.2.2)=(true,R1):=by kernel_rfl) (he:(cC P H n m k F R).2.map Prod.fst=(cC P H n m k F R).2.map Prod.snd:=by kernel_rfl):Wg P (λ_=>True) (bodyPost P fn Rs) n k F w:=λa i=>by
 simp only [Prod.mk.injEq] at hx
 refine zQ (λ_ h=>h) cH m k F R (λe j=>List.map_inj_left.1 he e j) (λa W b c=>?_) a w i g
 rw [hx.2] at c
 rw [hx.1,if_pos rfl]
 obtain ⟨v,d,f⟩:=h W a c b
 exact bodyPost_ret d b.nod f
theorem vK (b:Iv bs w R w) (H:Hw P (Ag bs w)) (m:Nat) {R1:List Rw} {t:Nat} {v:Value} (h:∀ W,Iv bs w R1 W->Rs (.returned v) W) (hx:((cC P H n m k F R).1.1,(cC P H n m k F R).1.2.2.2,(lk (cC P H n m k F R).1.2.2.1 t).map Prod.fst)=(true,R1,some v):=by kernel_rfl) (he:(cC P H n m k F R).2.map Prod.fst=(cC P H n m k F R).2.map Prod.snd:=by kernel_rfl) (hr:fn.results=#[.tmp t]:=by rfl):Wg P (λ_=>True) (bodyPost P fn Rs) n k F w:=by simp only [Prod.mk.injEq] at hx;exact iH b H m (hx:=vw) (he:=he) λW a c d=>⟨v,by rw [results_tmp hr,d.slot hx.2.2],h W c⟩
theorem pw (b:Iv bs w R w) (H:Hw P (Ag bs w)) (m:Nat) {R1:List Rw}
 (h:∀ W,Iv bs w R1 W->Rs (.returned (.tuple #[])) W) (hx:((cC P H n m k F R).1.1,(cC P H n m k F R).1.2.2.2)=(true,R1):=by kernel_rfl) (he:(cC P H n m k F R).2.map Prod.fst=(cC P H n m k F R).2.map Prod.snd:=by kernel_rfl) (hr:fn.results=#[]:=by rfl):Wg P (λ_=>True) (bodyPost P fn Rs) n k F w :=
 iH b H m (hx:=hx) (he:=he) λW a c _=>⟨_,results_none hr _ _ _,h W c⟩
theorem gp (b:Iv bs w R w) (H:Hw P (Ag bs w)) (m:Nat) {R1:List Rw}
 (h:∀ W,Iv bs w R1 W->Rs (.returned (.tuple #[])) W) (hx:((cC P H n m k F R).1.1,(cC P H n m k F R).1.2.2.2)=(false,R1):=by kernel_rfl) (hz:(cC P H n m k F R).1.2.1.isEmpty=true:=by kernel_rfl) (he:(cC P H n m k F R).2.map Prod.fst=(cC P H n m k F R).2.map Prod.snd:=by kernel_rfl) (hr:fn.results=#[]:=by rfl):Wg P (λ_=>True) (bodyPost P fn Rs) n k F w :=
 oC b H m (hx:=hx) (he:=he) λW c a d=>by
  rw [List.isEmpty_iff.1 hz]
  exact bodyPost_end (results_none hr _ _ _) d.nod (h W c)
theorem Iv.eng:nZ P (Iv bs w R) (Iv bs w R) R true (bodyPost P fn Rs):=⟨λ_ h=>h,λ_ h r a=>(h.rows r a).in_,λ_ _ h=>⟨λr a=>h.rows r a,h.ag.drew,h.sub,h.nd⟩,cH⟩
end
def xE (s j:Nat):Fr->Fr
 | []=>[]
 | x::F=>(match Nat.beq x.1 s with | true=>(x.1,x.2.1,j) | false=>x)::xE s j F
theorem zR (s j t:Nat):∀ (F:Fr) (x:Value × Nat),lk (xE s j F) t=some x->∃ y,lk F t=some y/\y.1=x.1
 | [],_,h=>ni
 | (d,v,g)::F,x,h=>by
   unfold xE at h
   cases b:Nat.beq d s with
   | true =>
     simp only [b,lk] at h ⊢
     cases a:Nat.beq d t with
     | true=>rw [a] at h;cases h;exact ⟨_,rfl,rfl⟩
     | false=>rw [a] at h;exact zR s j t F x h
   | false =>
     simp only [b,lk] at h ⊢
     cases a:Nat.beq d t with
     | true=>rw [a] at h;cases h;exact ⟨_,rfl,rfl⟩
     | false=>rw [a] at h;exact zR s j t F x h
theorem cg.tag (h:cg F P v) (s j:Nat):cg (xE s j F) P v:=⟨h.size,h.nod,λt x d=>by
 obtain ⟨y,b,c⟩:=zR s j t F x d
 rw [<- c]
 exact h.at_ t y b⟩
theorem aK (h:Wg g W D P o (xE T j F) w):Wg g W D P o F w:=λa b=>h a (b.tag T j)
theorem oD {f:Nat} {Rc:Ending->World->Prop} (z:Calls g f R w Rc) (hx:(Eb P F o).map (λs=>s.run g w)=some (.ok (.enter f R) w)) (h:∀ e S,Rc e S->∃ v t,e=.returned v/\(zB F o=true->W S)/\Wg g W D P (po F o) (qA F o v t) S):Wg g W D P o F w:=λa j=>by
 obtain ⟨s,c,r⟩:=Option.map_eq_some_iff.1 hx;unfold Eb at c;unfold po qA zB at h;cases p:Bl F o with
 | none=>rw [p] at c;cases c
 | some y =>
   obtain ⟨k,n,b⟩:=y;rw [p] at c h;dsimp only at c h;split at c
   ·rename_i i;cases c;rw [Bool.and_eq_true,Bool.and_eq_true] at i;have l:execOp a.eval k=execOp (ev F) k:=execOp_congr k (λcs b e=>by have:=i.1.2;rw [e] at this;cases this) λx hx=>j.eval (Array.all_eq_true_iff_forall_mem.1 i.1.1 x hx);refine zC p j λK u=>?_;show k.upon g a K _ _;rw [l,r];refine z.mono λe S A=>?_;obtain ⟨v,t,rfl,B,C⟩:=h e S A;refine u _ _ B (C _ ?_);cases m:k.dst with
    | none=>exact j
    | some d=>have q:=i.2;rw [m] at q;exact j.put q v t
   ·cases c
def EI (ops:Array Oper):Bool :=
 Nat.blt 0 ops.size&&(List.range (ops.size-1)).all (λi=>match ops[i]? with
  | none=>false
  | some o=>o.after.all (λe=>!Region.binds .any e||Nat.blt e.on i)&&(match o.guard with | none=>true | some g=>Nat.blt g.1 i)&&(match ops[ops.size-1]? with | none=>false | some l=>j7 l i))&&(match ops[ops.size-1]? with | none=>false | some l=>l.after.all (λe=>!Region.binds .any e||Nat.blt e.on (ops.size-1)))
section
variable {P : Program} {ops : Array Oper} {Q : Exit -> Act -> World -> Prop} {S : World -> Prop}
structure sa (ops:Array Oper) (L:Nat) (l:Oper):Prop where
 size:ops.size=L+1
 last:ops[L]?=some l
 down:∀ (i:Nat) (o:Oper),i<L->ops[i]?=some o->∀ e ∈ o.after,Region.binds .any e=true->e.on<i
 gd:∀ (i:Nat) (o:Oper),i<L->ops[i]?=some o->∀ g,o.guard=some g->g.1<i
 all:∀ i,i<L->j7 l i=true
 ldn:∀ e ∈ l.after,Region.binds .any e=true->e.on<L
theorem zS {a b:Nat} (h:Nat.blt a b=true):a<b:=Nat.lt_of_succ_le (by simpa [Nat.blt] using h)
theorem B8 (h:EI ops=true):∃ L l,sa ops L l:=by
 unfold EI at h;simp only [Bool.and_eq_true] at h;obtain ⟨⟨n,c⟩,m⟩:=h;have q:=zS n;have j:ops[ops.size-1]?=some ops[ops.size-1]:=Array.getElem?_eq_getElem ab;refine ⟨ops.size-1,ops[ops.size-1],ab,j,?_,?_,?_,?_⟩;·intro i o b k e f d;have:=List.all_eq_true.1 c i (List.mem_range.2 b);rw [k] at this;simp only [Bool.and_eq_true] at this;have a:=Array.all_eq_true_iff_forall_mem.1 this.1.1 e f;rw [d] at a;exact zS ri
 ·intro i o b k g p;have:=List.all_eq_true.1 c i (List.mem_range.2 b);rw [k] at this;simp only [Bool.and_eq_true,p] at this;exact zS this.1.2
 ·intro i b;have:=List.all_eq_true.1 c i (List.mem_range.2 b);rw [Array.getElem?_eq_getElem (show i<ops.size by omega),j] at this;simp only [Bool.and_eq_true] at this;exact this.2
 ·intro e f d;rw [j] at m;have a:=Array.all_eq_true_iff_forall_mem.1 m e f;rw [d] at a;exact zS ri
variable {L : Nat} {l : Oper}
theorem mT {listed:Array Bool} (hs:listed.size=L) {j:Nat} (a:j<L) (d:Bool):(listed.push false).getD j d=listed.getD j d:=by simp [Array.getD,Array.getElem_push,hs,a,show j<L+1 by omega]
theorem Lx {listed:Array Bool} (hs:listed.size=L) {i:Nat} (b:i<L):(listed.push false).setIfInBounds i true=(listed.setIfInBounds i true).push false:=by
 apply Array.ext_getElem?;intro j;by_cases a:i=j;·subst a;rw [Array.getElem?_setIfInBounds_self_of_lt bv,Array.getElem?_push_lt bv];simp
 ·rw [Array.getElem?_setIfInBounds_ne a];simp only [Array.getElem?_push,Array.size_setIfInBounds,Array.getElem?_setIfInBounds_ne a]
theorem uC (T:sa ops L l) {i:Nat} (a:i<L):ops.pop[i]?=ops[i]?:=by have:=T.size;simp [show i<ops.size-1 by omega]
theorem sd (T:sa ops L l) {listed:Array Bool} (hs:listed.size=L) {i:Nat} (a:i<L):i ∈ Region.ready .any ops (listed.push false)↔i ∈ Region.ready .any ops.pop listed:=by rw [mem_ready,mem_ready,mT hs a,uC T a];refine and_congr_right λ_=>exists_congr λo=>and_congr_right λd=>?_;refine forall_congr' λe=>forall_congr' λc=>forall_congr' λb=>?_;rw [mT hs (by have:=T.down i o a d e c b;omega)]
theorem EJ (T:sa ops L l) {listed:Array Bool} (hs:listed.size=L) (hr:Region.ready .any ops.pop listed=[]):∀ i,i<L->listed.getD i false=true:=by
 intro i;induction i using Nat.strongRecOn with
 | _ i g =>
   intro a;cases d:listed.getD i true with
   | true=>simpa [Array.getD,hs,a] using d
   | false =>have b:ops[i]?=some (ops[i]' ta):=Array.getElem?_eq_getElem _;have:i ∈ Region.ready .any ops.pop listed:=mem_ready.2 ⟨d,_,(uC T a).trans b,λe f c=>g e.on (T.down i _ a b e f c) (by have:=T.down i _ a b e f c;omega)⟩;rw [hr] at this;cases this
theorem Ly (T:sa ops L l) {R:Act->World->Prop} {i:Nat} (k:i<L) {K f:Act->World->Prop} {a:Act} {w:World} (q:∀ a w,K a w->f a w) (h:wpOp P ops.pop (Exit.then R Q) i K a w):wpOp P ops Q i f a w:=by
 refine wpOp_mono q ?_;have m:ops[i]?=some (ops[i]' ta):=Array.getElem?_eq_getElem _;unfold wpOp at h ⊢;rw [uC T k] at h;rw [m] at h ⊢;dsimp only at h ⊢;have t:Region.wanted (ops[i]' ta) (yielded ops.pop a.tmps)=Region.wanted (ops[i]' ta) (yielded ops a.tmps):=by
  unfold Region.wanted;cases s:(ops[i]' ta).guard with
  | none=>rfl
  | some g =>have j:=T.gd i _ k m g s;dsimp only;unfold yielded;rw [uC T ab]
 rw [t] at h;split
 ·rename_i b;rw [if_pos b] at h;rcases h with h|⟨j,o,d,p⟩
  ·refine .inl ?_;unfold Oper.wp at h ⊢;generalize (execOp a.eval (ops[i]' ta)).run P w=r at *;cases r with
   | ok n d =>
     cases n<;>simp only [Oper.upon] at h ⊢;all_goals first
      | exact h
      | exact Calls.mono h (λe u c=>by cases e<;>exact c)
      | exact Rows.mono h (λ_ _ c=>c)
   | halt x d=>cases x<;>simp only [Oper.upon] at h ⊢ <;> exact h
  ·exact .inr ⟨j,o,d,p⟩
 ·rename_i b;rw [if_neg b] at h;exact h
theorem EK (T:sa ops L l):∀ (fuel:Nat) (listed:Array Bool) (a:Act) (w:World),listed.size=L->wpAny P .any ops.pop (Exit.then (λa w=>wpOp P ops Q L (λa w=>Q .normal a w) a w) Q) fuel listed a w->wpAny P .any ops Q (fuel+1) (listed.push false) a w:=by
 have g:∀ (m:Nat) (listed:Array Bool) (a:Act) (w:World),listed.size=L->Region.ready .any ops.pop listed=[]->wpOp P ops Q L (λa w=>Q .normal a w) a w->wpAny P .any ops Q (m+1) (listed.push false) a w:=by
  intro m listed a w b q h
  have f:=EJ T b q
  have R:=T.size
  have I:L ∈ Region.ready .any ops (listed.push false):=mem_ready.2 ⟨by simp [Array.getD,Array.getElem_push,b],l,T.last,λe O N=>by
   have k:=T.ldn e O N
   rw [mT b k]
   exact f _ k⟩
  refine ⟨λB=>(by rw [B] at I;cases I),λi t=>?_⟩
  by_cases c:i=L
  ·subst c
   refine wpOp_mono (λG K v=>?_) h
   have J:Region.ready .any ops ((listed.push false).setIfInBounds i true)=[]:=by
    rw [List.eq_nil_iff_forall_not_mem]
    intro j A
    obtain ⟨k,o,d,_⟩:=mem_ready.1 A
    have y:j<ops.size:=(Array.getElem?_eq_some_iff.1 d).1
    by_cases u:j=i
    ·subst u
     simp [Array.getD,b] at k
    ·have z:=f j ab
     have H:((listed.push false).setIfInBounds i true).getD j true=listed.getD j true:=by
      rw [<- mT b (show j<i by omega)]
      simp only [Array.getD_eq_getD_getElem?,Array.getElem?_setIfInBounds_ne (Ne.symm u)]
     rw [H] at k
     have r:j<listed.size:=ab
     simp [Array.getD,r] at k z
     rw [k] at z
     cases z
   cases m with
   | zero=>exact ⟨J,v⟩
   | succ m=>exact ⟨λ_=>v,λj A=>by rw [J] at A;cases A⟩
  ·have E:i<L:=by
    obtain ⟨_,o,d,_⟩:=mem_ready.1 t
    have:=(Array.getElem?_eq_some_iff.1 d).1
    omega
   have:=(sd T b E).1 t
   rw [q] at this
   cases this
 intro fuel
 induction fuel with
 | zero=>intro listed a w b h;exact g 0 listed a w b h.1 h.2
 | succ fuel S =>
   intro listed a w b h
   by_cases q:Region.ready .any ops.pop listed=[]
   ·exact g _ listed a w b q (h.1 q)
   ·obtain ⟨x,F⟩:=List.exists_mem_of_ne_nil _ q
    have p:x<L:=by
     obtain ⟨_,o,d,_⟩:=mem_ready.1 F
     have y:=(Array.getElem?_eq_some_iff.1 d).1
     rw [Array.size_pop] at y
     have:=T.size
     omega
    refine ⟨λB=>(by have:=(sd T b p).2 F;rw [B] at this;cases this),λi t=>?_⟩
    have c:i<L:=by
     obtain ⟨_,o,d,y⟩:=mem_ready.1 t
     have z:=(Array.getElem?_eq_some_iff.1 d).1
     have H:=T.size
     by_cases e:i=L
     ·subst e
      rw [T.last] at d
      cases d
      have r:=T.all x p
      unfold j7 at r
      rw [<- Array.any_toList] at r
      obtain ⟨e,s,n⟩:=List.any_eq_true.1 r
      rw [Array.mem_toList_iff] at s
      rw [Bool.and_eq_true,beq_iff_eq] at n
      have C:=y e s n.1
      rw [n.2,mT b p] at C
      have D:=(mem_ready.1 F).1
      have M:x<listed.size:=ab
      simp [Array.getD,M] at C D
      rw [C] at D
      cases D
     ·omega
    refine Ly T c (λG K v=>?_) (h.2 i ((sd T b c).1 t))
    rw [Lx b c]
    exact S _ G K (by simp [b]) v
def GE:Nat->Array Oper->List KI->Option (List KI)
 | 0,ops,k=>some (.sq ops ops.size (Array.replicate ops.size false)::k)
 | j+1,ops,k=>match EI ops,ops[ops.size-1]? with
   | true,some l=>GE j ops.pop (.ops ops [l]::k)
   | _,_=>none
theorem Lz:∀ (j:Nat) (ops:Array Oper) (k b:List KI) (a:Act) (w:World),GE j ops k=some b->iO P S Q b .normal a w->wpAny P .any ops (iO P S Q k) ops.size (Array.replicate ops.size false) a w:=by
 intro j;induction j with
 | zero =>intro ops k b a w h c;cases h;exact wpAny_of_held (S:=S) _ _ _ _ c
 | succ j o =>
   intro ops k b a w h c;unfold GE at h;split at h;·rename_i l d n;obtain ⟨L,p,T⟩:=B8 d;have f:=T.size;have m:ops.size-1=L:=ab;rw [m,T.last] at n;cases n;have g:=o ops.pop _ b a w h c;rw [Array.size_pop,m] at g;have e:(λa w=>wpOp P ops (iO P S Q k) L (λa w=>iO P S Q k .normal a w) a w)=wpList P ops (iO P S Q k) [l]:=(by funext a w;unfold wpOp wpList;rw [T.last];rfl);have i:wpAny P .any ops (iO P S Q k) (L+1) ((Array.replicate L false).push false) a w:=(by refine EK T L _ a w cp ?_;rw [e];exact g);have e2:(Array.replicate L false).push false=Array.replicate (L+1) false:=(by rw [Array.replicate_succ]);rw [e2] at i;rw [f];exact i
   ·cases h
def B9 (j:Nat) (k:List KI):Option (List KI):=match k with
 | .code (.region _ ops true)::k'=>GE j ops k'
 | _=>none
theorem it (j:Nat) {n:Nat} {F:Fr} {w:World} {k:List KI} (h:Wg P S Q n ((B9 j k).getD []) F w.drew) (hm:P.follows .mixedOrders=true:=by kernel_rfl) (hk:(B9 j k).isSome=true:=by kernel_rfl):Wg P S Q n k F w:=λa c=>by
 obtain ⟨e,b⟩:=Option.isSome_iff_exists.1 hk;clear hk;rw [b,Option.getD_some] at h;unfold B9 at b;split at b;·rename_i id ops d;show (Go.Code.region id ops true).wp P (iO P S Q d) a w;exact wp_region_any hm (Lz j ops d e a w.drew b (h a c))
 ·cases b
theorem zT {n:Nat} {F:Fr} {w:World} {k:List KI} (h:Wg P S Q n ((B9 1 k).getD []) F w.drew) (hm:P.follows .mixedOrders=true:=by kernel_rfl) (hk:(B9 1 k).isSome=true:=by kernel_rfl):Wg P S Q n k F w:=it 1 (hm:=hm) (hk:=hk) h
def Sw (kk:Nat) (k:List KI):Option (List KI):=match k with
 | .code (.region _ ops true)::k'=>some (.sk ops kk ops.size (Array.replicate ops.size false)::k')
 | _=>none
theorem lG (kk:Nat) {n:Nat} {F:Fr} {w:World} {k:List KI} (h:Wg P S Q n ((Sw kk k).getD []) F w.drew) (hm:P.follows .mixedOrders=true:=by kernel_rfl) (hk:(Sw kk k).isSome=true:=by kernel_rfl):Wg P S Q n k F w:=λa b=>by
 unfold Sw at hk h;split at hk;·rename_i id ops c;show (Go.Code.region id ops true).wp P (iO P S Q c) a w;exact wp_region_any hm (vj _ _ _ _ (h a b))
 ·cases hk
def Va (k:List KI):Option (List KI):=match k with
 | .sw all m listed::k'=>some (.sq all m listed::k')
 | _=>none
theorem T2 {n:Nat} {F:Fr} {w:World} {k:List KI} (h:Wg P S Q n ((Va k).getD []) F w) (hk:(Va k).isSome=true:=by kernel_rfl):Wg P S Q n k F w:=λa b=>by
 unfold Va at hk h;split at hk;·exact wpAny_of_held (S:=S) _ _ _ _ (h a b)
 ·cases hk
def aq:Nat->Go.Code->Go.Code
 | 0,c=>c
 | n+1,.seq _ y=>aq n y
 | _+1,c=>c
def iF:Go.Code->Go.Code
 | .seq x _=>x
 | c=>c
def Ca:Go.Code->Go.Code
 | .cond _ x _=>x
 | c=>c
def aL (fn:Func):Go.Code:=fn.body.getD .skip
theorem af {n:Nat} {F:Fr} {w:World} {k:List KI} (k1:List KI) (b:Fr) (h:Wg P S Q n k1 b w) (hk:k=k1:=by kernel_rfl) (hF:b.map (λy=>some y.2.1)=b.map λy=>(lk F y.1).map Prod.fst:=by kernel_rfl):Wg P S Q n k F w:=by subst hk;exact λa c=>h a (c.less hF)
end
theorem kf (d:Bool) (a1:Option Addr) (b c1:Nat) (a2:Option Addr) (c c2:Nat) (a:Int) (w:World) (k:b<=1048576) (l:c<=1048576): CB 80 #[.agg #[.u p,.u r,.bool d,.slice a1 b c1,.slice a2 c c2,.i a]] w (.bool (nY b c a)):=by
 have e:nY b c a=(decide ((b:Int)<=16)&&decide ((c:Int)<=4096)&&((a==0)||(a==1))):=by unfold nY;rw [decide_eq_decide.2 (show b<=16↔(b:Int)<=16 by omega),decide_eq_decide.2 (show c<=4096↔(c:Int)<=4096 by omega),show decide (0<=a/\a<=1)=((a==0)||(a==1)) by rw [Bool.eq_iff_iff];simp;omega]
 rw [e];refine bC (S:=Bs w [(#[.u p,.u r,.bool d,.slice a1 b c1,.slice a2 c c2,.i a],30)]) (args:=[.agg #[.u p,.u r,.bool d,.slice a1 b c1,.slice a2 c c2,.i a]]) [(#[.u p,.u r,.bool d,.slice a1 b c1,.slice a2 c c2,.i a],30)] func80 ?_;cases g:decide ((b:Int)<=16)<;>cases i:decide ((c:Int)<=4096)<;>cases j:(a==0)<;>cases d4:(a==1)<;>exact bm (t:=2) Bs.eng {eq:=[(6,ak g),(11,ak i),(16,ak j),(20,ak d4)]} 60 (Bs.start _ _) (λf h=>⟨rfl,h.2⟩)
theorem LA (m:p=33554432->¬ r=4) (k1:p=33570816->¬ r=8) (k2:p=33603576->¬ r=8) (n:p=268435456->¬ r=1) (o:p=268435457->¬ r=1) (addr:p=268435461->¬ r=1) (w:World): CE 313 #[.u p,.i r] w (.bool false):=by
 have g:∀ {c d:Int},(p=c->¬ r=d)->(p==c)=true->(r==d)=false:=λh k=>by simpa using h (by simpa using k)
 refine bC (S:=λx=>x=w) (args:=[.u p,.i r]) [] func313 ?_;cases a:(p==33554432);case true=>exact i8 (R:=[]) trivial {eq:=[(7,ak a),(9,ak (g m a))]} 99 (t:=4) ⟨rfl,rfl⟩
 cases b:(p==33570816);case true=>exact i8 (R:=[]) trivial {eq:=[(7,ak a),(11,ak b),(14,ak (g k1 b))]} 99 (t:=4) ⟨rfl,rfl⟩
 cases f:(p==33603576);case true=>exact i8 (R:=[]) trivial {eq:=[(7,ak a),(11,ak b),(12,ak f),(14,ak (g k2 f))]} 99 (t:=4) ⟨rfl,rfl⟩
 cases i:(p==268435456);case true=>exact i8 (R:=[]) trivial {eq:=[(7,ak a),(11,ak b),(12,ak f),(16,ak i),(20,ak (g n i))]} 99 (t:=4) ⟨rfl,rfl⟩
 cases j:(p==268435457);case true=>exact i8 (R:=[]) trivial {eq:=[(7,ak a),(11,ak b),(12,ak f),(16,ak i),(17,ak j),(20,ak (g o j))]} 99 (t:=4) ⟨rfl,rfl⟩
 cases l:(p==268435461);case true=>exact i8 (R:=[]) trivial {eq:=[(7,ak a),(11,ak b),(12,ak f),(16,ak i),(17,ak j),(18,ak l),(20,ak (g addr l))]} 99 (t:=4) ⟨rfl,rfl⟩
 exact i8 (R:=[]) trivial {eq:=[(7,ak a),(11,ak b),(12,ak f),(16,ak i),(17,ak j),(18,ak l)]} 99 (t:=4) ⟨rfl,rfl⟩
theorem xF (a1:Option Addr) (c1:Nat) (a2:Option Addr) (c2:Nat) (w:World) (f:t.xs.length<=1048576) (g:t.ys.length<=1048576): CB 126 #[.agg #[.u t.t,.u t.cm,.bool t.so,.slice a1 t.xs.length c1,.slice a2 t.ys.length c2,.i t.ir]] w (.u (i7 t)):=by obtain ⟨D,b,c,d,i,a⟩:=t;have k:=λW (_:Bw w W)=>kf D b c a1 d.length c1 a2 i.length c2 a W f g;have e3:decide ((d.length:Int)>0)=decide (0<d.length):=decide_eq_decide.2 ab;unfold i7 dP;dsimp only;generalize nY d.length i.length a=p at *;generalize d.length=n at *;generalize i.length=m at *;refine bC (S:=Bs w [(#[.u D,.u b,.bool c,.slice a1 n c1,.slice a2 m c2,.i a],30)]) (args:=[.agg #[.u D,.u b,.bool c,.slice a1 n c1,.slice a2 m c2,.i a]]) [(#[.u D,.u b,.bool c,.slice a1 n c1,.slice a2 m c2,.i a],30)] func126 ?_;cases p<;>cases c<;>cases l:decide (b<=D)<;>cases o:(a==1)<;>cases d4:decide (0<n)<;>rw [d4] at e3<;>exact bm (t:=2) Bs.eng {eq:=[(15,ak l),(20,ak o),(25,ak e3)],cv:=[(5,fQ k)]} 90 (Bs.start _ _) (λj h=>⟨rfl,h.2⟩)
def Q5:List KI->Option (List Nat)
 | .sq all (_+1) listed::_=>some (Region.ready .any all listed)
 | _=>none
def Cb (F:Fr) (i:Nat):List KI->Option (Oper × List KI)
 | .sq all (m+1) listed::k=>match all[i]? with
   | some o=>match wn all F o with
     | some true=>some (o,.sq all m (listed.setIfInBounds i true)::k)
     | _=>none
   | none=>none
 | _=>none
def O7 (F:Fr) (i:Nat) (k:List KI):List KI:=match Cb F i k with
 | some x=>x.2
 | none=>[]
def T7 (n:Nat) (F:Fr) (i:Nat) (k:List KI):Option (Sem Next):=match Cb F i k with
 | some (o,_)=>match o.op.operands.all (kn F)&&Bk o.op&&(match o.dst with | some d=>Nat.blt d n | none=>true) with
   | true=>some (execOp (ev F) o)
   | false=>none
 | none=>none
def O8 (F:Fr) (i:Nat) (k:List KI) (v:Value) (t:Nat):Fr:=match Cb F i k with
 | some (o,_)=>match o.dst with
   | some d=>(d,v,t)::F
   | none=>F
 | none=>F
def T8 (P:Program) (n:Nat) (F:Fr) (i:Nat) (k:List KI):Option (Nat × Array Value):=match Cb F i k with
 | some (o,_)=>match (match o.dst with | some d=>Nat.blt d n | none=>true) with
   | true=>rQ P F o
   | false=>none
 | none=>none
section
variable {P : Program} {S : World -> Prop} {n : Nat} {Q : Exit -> Act -> World -> Prop} {k : List KI} {F : Fr} {w : World}
def UJ (P:Program) (S:World->Prop) (Q:Exit->Act->World->Prop) (i:Nat) (a:Act) (w:World):List KI->Prop
 | .sq all (m+1) listed::k'=>wpOp P all (iO P S Q k') i (λc b=>S b/\wpAnyH P .any all (iO P S Q k') S m (listed.setIfInBounds i true) c b) a w
 | _=>False
def Br (P:Program) (S:World->Prop) (Q:Exit->Act->World->Prop) (n:Nat) (k:List KI) (F:Fr) (w:World) (i:Nat):Prop:=∀ a,cg F n a->UJ P S Q i a w k
theorem oE {i j:Nat} (f:Br P S Q n k F w i) (g:Br P S Q n k F w j) (hr:Q5 k=some [i,j]:=by kernel_rfl):Wg P S Q n k F w:=λa d=>by
 have b:=f a d;have c:=g a d;unfold UJ at b c;unfold Q5 at hr;split at hr
 ·rename_i all m listed h;simp only [Option.some.injEq] at hr;show wpAnyH P .any all (iO P S Q h) S (m+1) listed a w;refine wpAnyH_all hr cp λq e=>?_;simp only [List.mem_cons,List.not_mem_nil,or_false] at e;rcases e with rfl | rfl;·exact b
  ·exact c
 ·cases hr
theorem GF {i:Nat} {o:Oper} {e:List KI} (h:Cb F i k=some (o,e)) {a:Act} (hk:cg F n a) (q:∀ K:Act->World->Prop,(∀ c b,S b->iO P S Q e .normal c b->K c b)->o.wp P a w K (iO P S Q e)):UJ P S Q i a w k:=by
 unfold Cb at h;split at h
 ·rename_i all m listed r;split at h
  ·rename_i s l;split at h;·rename_i d;simp only [Option.some.injEq,Prod.mk.injEq] at h;obtain ⟨rfl,rfl⟩:=h;simp only [UJ];refine wpOp_step l λf g=>?_;rw [if_pos (kP hk d)];exact q f λc b p j=>g c b ⟨p,j⟩
   ·cases h
  ·cases h
 ·cases h
theorem qN {i:Nat} {w':World} {s:Sem Next} {v:Value} (t:Nat) (hr:s.run P w=.ok (.value v) w') (hS:S w') (h:Wg P S Q n (O7 F i k) (O8 F i k v t) w') (hx:T7 n F i k=some s:=by kernel_rfl):Br P S Q n k F w i:=λa f=>by
 unfold T7 at hx;unfold O7 O8 at h;cases j:Cb F i k with
 | none=>rw [j] at hx;cases hx
 | some y =>
   obtain ⟨o,p⟩:=y;rw [j] at hx h;dsimp only at hx h;split at hx
   ·rename_i c;cases hx;rw [Bool.and_eq_true,Bool.and_eq_true] at c;have g:execOp a.eval o=execOp (ev F) o:=execOp_congr o (λcs b e=>by have:=c.1.2;rw [e] at this;cases this) λx hx=>f.eval (Array.all_eq_true_iff_forall_mem.1 c.1.1 x hx);refine GF j f λK l=>?_;show o.upon P a K _ _;rw [g,hr];refine l _ _ hS (h _ ?_);cases m:o.dst with
    | none=>exact f
    | some d=>rw [m] at c;exact f.put c.2 v t
   ·cases hx
theorem nz {i:Nat} {f:Nat} {args:Array Value} {Rc:Ending->World->Prop} (p:Calls P f args w Rc) (h:∀ e b,Rc e b->∃ v t,e=.returned v/\S b/\Wg P S Q n (O7 F i k) (O8 F i k v t) b) (hx:T8 P n F i k=some (f,args):=by kernel_rfl):Br P S Q n k F w i:=λa c=>by
 unfold T8 at hx;unfold O7 O8 at h;cases j:Cb F i k with
 | none=>rw [j] at hx;cases hx
 | some y =>
   obtain ⟨o,u⟩:=y;rw [j] at hx h;dsimp only at hx h;split at hx
   ·rename_i l;refine GF j c λK m=>?_;show o.upon P a K _ _;rw [rR c hx w];refine p.mono λe b q=>?_;obtain ⟨v,t,rfl,r,s⟩:=h e b q;refine m _ _ r (s _ ?_);cases g:o.dst with
    | none=>exact c
    | some d=>rw [g] at l;exact c.put l v t
   ·cases hx
end
structure TV where
 ld:Value
 wd:Int
 op:Int
 rd:Int
 ra:Int
 rb:Int
 im:Int
 fm:Value
 rs:Int
 nx:Int
 wr:Bool
 up:Bool
 cz:Int
 vl:Int
def bL (M:MV) (A:MA) (t:TV):Array Value:=#[.u M.pc,.slice A.ax M.x.length A.cx,.i M.pr,.slice A.ac M.cs.length A.cc,.slice A.ar M.ram.length A.cr,.u M.d.t,.u M.d.cm,.bool M.d.so,.slice A.ai M.d.xs.length A.ci,.slice A.ao M.d.ys.length A.co,.i M.d.ir,.u M.hd,.bool M.hl,.bool M.wt,t.ld,.u t.wd,.i t.op,.i t.rd,.i t.ra,.i t.rb,.i t.im,t.fm,.u t.rs,.u t.nx,.bool t.wr,.bool t.up,.i t.cz,.u t.vl]
theorem Iv.one (h:iq ⟨P,R,[]⟩ w):Iv [P] w [⟨P,R,[]⟩] w:=⟨λr a=>by rw [List.mem_singleton] at a;subst a;exact h,Ag.refl _ _,λr a=>by rw [List.mem_singleton] at a;subst a;simp,cp⟩
theorem kg {M:MV} {A:MA} {t:TV} (h:iq ⟨P,bL M A t,[]⟩ w):Calls prog 221 #[.p P 0,.i p,.u r] w λe b=>e=.returned (.tuple #[])/\Iv [P] w [⟨P,bL M A {t with up:=true,cz:=p,vl:=r},[]⟩] b:=by refine gg (args:=[.p P 0,.i p,.u r]) (λ_=>True) func221 ?_;refine aK 0 1 ?_;exact gp (Iv.one h) {} 40 λW a=>⟨rfl,a⟩
theorem Iv.then1 {W:Array Value} (h:Iv b w [⟨P,R,[]⟩] a) (k:Iv [P] a [⟨P,W,[]⟩] n):Iv b w [⟨P,W,[]⟩] n :=
 ⟨k.rows,h.ag.trans ⟨k.ag.os,k.ag.tape,k.ag.output,k.ag.size,λi d c=>k.ag.block i d (by rw [List.mem_singleton];exact λe=>c (by rw [e];exact h.sub _ (List.mem_singleton.2 rfl)))⟩,λr bs=>by rw [List.mem_singleton] at bs;subst bs;exact h.sub ⟨P,R,[]⟩ (List.mem_singleton.2 rfl),cp⟩
theorem Iv.row1 (h:Iv b w [⟨P,R,[]⟩] a):iq ⟨P,R,[]⟩ a:=h.rows _ (List.mem_singleton.2 rfl)
def xq {P:Program} {bs:List Nat} {g:Nat} {w:World} {cs:Array Value} {f:Nat} {args:Array Value} {v:Value} (h:∀ W,Iv bs w [⟨g,cs,[]⟩] W->Calls P f args W λe b=>e=.returned v/\Iv [g] W [⟨g,cs,[]⟩] b):Cv P (Iv bs w [⟨g,cs,[]⟩]):=⟨f,args,v,0,λW a=>(h W a).mono λe b k=>⟨k.1,a.then1 k.2⟩⟩
theorem lH {p:Addr} (h:w.cell? p=some f):p.block<w.heap.size:=by
 unfold World.cell? at h;split at h;·rename_i a;exact (Array.getElem?_eq_some_iff.1 a).1
 ·cases h
section
variable {w : World} {g : Nat} {M : MV} {A : MA} {t : TV}
theorem tC (h:iq ⟨g,bL M A t,[]⟩ w):Calls prog 174 #[.p g 0] w λe b=>e=.returned (.u (Uz.wrap t.im))/\Iv [g] w [⟨g,bL M A t,[]⟩] b:=by refine gg (args:=[.p g 0]) (λ_=>True) func174 ?_;refine aK 0 1 ?_;exact vK (t:=2) (v:=.u (Uz.wrap t.im)) (Iv.one h) {} 40 λW a=>⟨rfl,a⟩
theorem px (h:iq ⟨g,bL M A t,[]⟩ w):Calls prog 168 #[.p g 0] w λe d=>e=.returned (.tuple #[])/\Iv [g] w [⟨g,bL M A {t with up:=true,cz:=2,vl:=t.wd},[]⟩] d:=by refine gg (args:=[.p g 0]) (λ_=>True) func168 ?_;refine aK 0 1 ?_;refine fH (Iv.one h) {} 40 (R1:=[⟨g,bL M A t,[]⟩]) (λW a=>kg 2 t.wd a.row1) λW e d a c=>⟨_,0,c.1,?_⟩;exact gp (Iv.one c.2.row1) {} 40 λf b=>⟨rfl,(a.then1 c.2).then1 b⟩
theorem LC {b o:Nat} {x:Int} (h:iq ⟨g,bL M A t,[]⟩ w) (c:A.ax=some ⟨b,o,none⟩) (f:0<=t.ra/\t.ra<M.x.length) (hb:b≠g) (hx:w.cell? ⟨b,o+t.ra.toNat,none⟩=some (.u x)):Calls prog 173 #[.p g 0] w λe i=>e=.returned (.u x)/\Iv [g] w [⟨g,bL M A t,[]⟩] i:=by
 have d:∀ W,Ag [g] w W->W.cell? ⟨b,o+t.ra.toNat,none⟩=some (.u x):=λW a=>by rw [<- hx];simp only [World.cell?,a.block b (lH hx) (by simpa using hb)]
 refine gg (args:=[.p g 0]) (λ_=>True) func173 ?_;refine aK 0 1 ?_;exact vK (t:=2) (v:=.u x) (Iv.one h) {ov:=[(13,kF M.x.length A.cx .i64 t.ra c f underlying23 ba),(14,iL _ _ underlying22 rfl d)]} 40 λW a=>⟨rfl,a⟩
theorem UK {b o:Nat} {x:Int} (h:iq ⟨g,bL M A t,[]⟩ w) (c:A.ax=some ⟨b,o,none⟩) (f:0<=t.rb/\t.rb<M.x.length) (hb:b≠g) (hx:w.cell? ⟨b,o+t.rb.toNat,none⟩=some (.u x)):Calls prog 176 #[.p g 0] w λe i=>e=.returned (.u x)/\Iv [g] w [⟨g,bL M A t,[]⟩] i:=by
 have d:∀ W,Ag [g] w W->W.cell? ⟨b,o+t.rb.toNat,none⟩=some (.u x):=λW a=>by rw [<- hx];simp only [World.cell?,a.block b (lH hx) (by simpa using hb)]
 refine gg (args:=[.p g 0]) (λ_=>True) func176 ?_;refine aK 0 1 ?_;exact vK (t:=2) (v:=.u x) (Iv.one h) {ov:=[(13,kF M.x.length A.cx .i64 t.rb c f underlying23 ba),(14,iL _ _ underlying22 rfl d)]} 40 λW a=>⟨rfl,a⟩
end
theorem vL:Calls prog 313 #[.u p,.i r] x λe a=>e=.returned (.bool (decide (gA p r<6)))/\a=x :=
 jQ p r (λk=>CE 313 #[.u p,.i r] x (.bool (decide (k<6)))) (by rintro rfl rfl;exact K4 x) (by rintro rfl rfl;exact K5 x) (by rintro rfl rfl;exact K6 x) (by rintro rfl rfl;exact K7 x) (by rintro rfl rfl;exact K8 x) (by rintro rfl rfl;exact K9 x) λb c d f g h=>LA p r b c d f g h x
theorem se:(p=33554432/\gA p r=0)\/(p=33570816/\gA p r=1)\/(p=33603576/\gA p r=2)\/(p=268435456/\gA p r=3)\/(p=268435457/\gA p r=4)\/(p=268435461/\gA p r=5)\/gA p r=6 :=
 jQ p r (λk=>(p=33554432/\k=0)\/(p=33570816/\k=1)\/(p=33603576/\k=2)\/(p=268435456/\k=3)\/(p=268435457/\k=4)\/(p=268435461/\k=5)\/k=6) (by simp_all) (by simp_all) (by simp_all) (by simp_all) (by simp_all) (by simp_all) cp
structure Dv (w:World) (D0:Array Value) (g B:Nat) (cs:Array Value) (L:List FRow) (W:World):Prop where
 inp:W.heap[w.heap.size]?=some (.cells D0 30 (0,0))
 out:∃ o:Array Value,o.size=6/\W.heap[w.heap.size+1]?=some (.cells o 30 (0,0))
 row:W.heap[g]?=some (.cells cs 30 (0,0))
 fam:bA B W.heap.size W L
 far:∀ q ∈ L,q.v.ownBlock≠some g
 lo:w.heap.size+2<=B/\B<=g
 bl:Bw w W
section
variable {w : World} {D0 : Array Value} {g B : Nat} {cs : Array Value} {L : List FRow} {W : World}
theorem Dv.below (h:Dv w D0 g B cs L W) {W':World} (k:Bw W W'):Dv w D0 g B cs L W':=⟨bq k h.inp,let ⟨o,a,b⟩:=h.out;⟨o,a,bq k b⟩,bq k h.row,(h.fam.below k).low (Nat.le_refl _) k.size,h.far,h.lo,aa h.bl k⟩
theorem Dv.set (h:Dv w D0 g B cs L W) (i:Nat) (v:Value):Dv w D0 g B (cs.setIfInBounds i v) L (W.setCell ⟨g,i,none⟩ v):=by have:=h.lo;refine ⟨gH h.inp _ _ di,let ⟨o,b,c⟩:=h.out;⟨o,b,gH c _ _ di⟩,bI h.row i v,?_,h.far,h.lo,h.bl.setCell (p:=⟨g,i,none⟩) di _⟩;rw [aT];exact ⟨λr a=>eg (h.fam.own r a) λk e=>Below.heap_setCell W _ v k λe2=>h.far r a (e.trans (congrArg some e2)),h.fam.hi,h.fam.ne⟩
theorem Dv.put (h:Dv w D0 g B cs L W) (d:Array Value) (hd:d.size=6):Dv w D0 g B cs L (W.setRow (w.heap.size+1) d):=by have:=h.lo;obtain ⟨o,b,a⟩:=h.out;refine ⟨(setRow_other _ _ _ _ ab).trans h.inp,⟨d,hd,setRow_heap _ _ _ _ _ _ a⟩,(setRow_other _ _ _ _ ab).trans h.row,?_,h.far,h.lo,aR h.bl ab _⟩;rw [setRow_size];exact h.fam.mono λk c e f=>setRow_other _ _ _ _ ab
theorem Dv.fin (h:Dv w D0 g B cs L W):bA w.heap.size W.heap.size W L/\Bw w W:=⟨h.fam.low (by have:=h.lo;omega) (Nat.le_refl _),h.bl⟩
theorem Dv.st {P:Program} (h:Dv w D0 g B cs L W) (T:TypeId) (i:Nat) (v:Value) (hs:cs.size=6:=by rfl) (b:i<6:=by decide) (a:(P.info? T).map (·.size)=some 1:=by kernel_rfl) (hv:v.cells=#[v]:=by rfl) (c:v.oneCell'=true:=by rfl):(do Instr.storeAt T (.p g i) v;pure Next.skip:Sem Next).run P W=.ok .skip (W.setCell ⟨g,i,none⟩ v):=
 jw (old:=cs[i]) ⟨by simp [World.cell?,h.row,hs,b],hO h.row i⟩ a hv c
theorem Dv.rows (h:Dv w D0 g B cs L W):ik W [⟨w.heap.size,D0,[]⟩,⟨w.heap.size,D0,[]⟩,⟨g,cs,[]⟩]:=⟨⟨_,_,h.inp⟩,⟨_,_,h.inp⟩,⟨_,_,h.row⟩,trivial⟩
theorem Dv.start {D:DV} {a1 a a2 b2:Option Addr} {c1 b c2 c:Nat} {W1 W2:World} (h:Bs w [(fU D a1 c1 a2 c2,30),(fU zeroD none 0 none 0,30)] W1) (g:bA W1.heap.size W2.heap.size W2 (vg D a b b2 c)) (k2:Bw W1 W2):Dv w (fU D a1 c1 a2 c2) W2.heap.size W1.heap.size (fU D a b b2 c) (vg D a b b2 c) ((W2.alloc (.cells (Value.agg (fU zeroD none 0 none 0)).cells 30)).setRow W2.heap.size (fU D a b b2 c)):=by have d:Bw W2 ((W2.alloc (.cells (Value.agg (fU zeroD none 0 none 0)).cells 30)).setRow W2.heap.size (fU D a b b2 c)):=aR (bal _ _) (Nat.le_refl _) _;have f:=(h.below k2).below d;have k:=(Array.getElem?_eq_some_iff.1 (h.1 1 _ rfl)).1;have j:=k2.size;exact ⟨f.1 0 _ rfl,⟨_,rfl,f.1 1 _ rfl⟩,setRow_heap _ _ _ _ _ _ (heap_alloc_new _ _),(g.below d).low (Nat.le_refl _) d.size,λq i e=>by have:=g.hi q i _ e;omega,⟨ab,j⟩,f.2⟩
end
theorem sf (D:DV) (a1:Option Addr) (c1:Nat) (a2:Option Addr) (c2:Nat) (addr size x:Int) (w:World) (y:D.xs.length<=1048576) (A:D.ys.length<=1048576) (hb:dU D) (H:Sl .u8 w a1 D.xs) (B:Sl .u8 w a2 D.ys):Calls prog 312 #[.agg #[.u D.t,.u D.cm,.bool D.so,.slice a1 D.xs.length c1,.slice a2 D.ys.length c2,.i D.ir],.u addr,.i size,.u x] w λe K=>∃ (b:Option Addr) (c:Nat) (f:Option Addr) (i:Nat),e=.returned (.tuple #[.agg (fU (rN D addr size x).1 b c f i),.bool (rN D addr size x).2]) /\ bA w.heap.size K.heap.size K (vg (rN D addr size x).1 b c f i)/\Bw w K:=by
 have n:=λW (_:Bw w W)=>kf D.t D.cm D.so a1 D.xs.length c1 a2 D.ys.length c2 D.ir W y A
 have C:=λW (_:Bw w W)=>vL addr size W
 unfold rN
 refine bC (S:=Bs w [(fU D a1 c1 a2 c2,30),(fU zeroD none 0 none 0,30)]) (args:=[.agg (fU D a1 c1 a2 c2),.u addr,.i size,.u x]) [(fU D a1 c1 a2 c2,30),(fU zeroD none 0 none 0,30)] func312 ?_
 cases J:nY D.xs.length D.ys.length D.ir with
 | false =>
   rw [J] at n
   rw [if_neg bc]
   refine ae Bs.eng {cv:=[(12,fQ n)]} 40 (Bs.start _ _) λp l=>?_
   exact jx (R:=[]) trivial {} 40 (l.1 1 _ rfl) rfl (fG _ _ _ _ _) underlying30 ⟨none,0,none,0,rfl,lA _ _ _,aR l.2 ab _⟩
 | true =>
   rw [J] at n
   rw [if_pos rfl]
   by_cases L:gA addr size=6
   ·rw [L] at C ⊢
    refine ae Bs.eng {cv:=[(12,fQ n),(17,mI C)]} 40 (Bs.start _ _) λp l=>?_
    exact jx (R:=[]) trivial {} 40 (l.1 1 _ rfl) rfl (fG _ _ _ _ _) underlying30 ⟨none,0,none,0,rfl,lA _ _ _,aR l.2 ab _⟩
   ·rw [decide_eq_true (by rcases se addr size with h|h|h|h|h|h|h<;>omega)] at C
    refine aS Bs.eng {cv:=[(12,fQ n),(17,mI C)]} 60 (Bs.start _ _) (λp l=>qe D.t D.cm D.so a1 D.xs.length c1 a2 D.ys.length c2 D.ir D.xs D.ys p rfl rfl y A (H.below l.2) (B.below l.2)) ?_
    rintro p e s l ⟨b,c,f,i,rfl,N,O⟩
    refine ⟨_,0,rfl,gh ba,?_⟩
    refine dF 3 (dD (T:=30) (z:=.agg (fU zeroD none 0 none 0)) ba s) ?_
    refine bM (az (g:=s.heap.size) (t:=30) (ty:=30) (old:=fU zeroD none 0 none 0) (cells:=fU D b c f i) (heap_alloc_new _ _) ba rfl (fG _ _ _ _ _)) ?_
    have q:=Dv.start l N O
    generalize (s.alloc (.cells (Value.agg (fU zeroD none 0 none 0)).cells 30)).setRow s.heap.size (fU D b c f i)=m at q ⊢
    generalize s.heap.size=g at q ⊢
    rcases se addr size with ⟨rfl,e⟩|⟨rfl,e⟩|⟨rfl,e⟩|⟨rfl,e⟩|⟨rfl,e⟩|⟨rfl,e⟩|e<;>rw [e]
    ·refine aN (R:=[]) trivial {} 40 (yx x m) ?_
     rintro e E ⟨rfl,F⟩
     refine ⟨_,0,rfl,?_⟩
     have d:=q.below (Below.refl m.heap.size m).drew
     rw [<- F] at d
     have a:=d.set 2 (.bool (bits .and .u64 x 1==1))
     refine cq (R:=[]) trivial {} 40 (d.st 4 2 (.bool (bits .and .u64 x 1==1))) ?_
     obtain ⟨o,j,k⟩:=a.out
     exact jx a.rows {} 40 k (by exact j) (fG _ _ _ _ _) underlying30 ⟨b,c,f,i,rfl,(a.put _ rfl).fin⟩
    ·have a:=q.set 1 (.u x)
     refine cq (R:=[]) trivial {} 40 (q.st 22 1 (.u x)) ?_
     obtain ⟨o,j,k⟩:=a.out
     exact jx a.rows {} 40 k (by exact j) (fG _ _ _ _ _) underlying30 ⟨b,c,f,i,rfl,(a.put _ rfl).fin⟩
    ·have a:=q.set 0 (.u x)
     refine cq (R:=[]) trivial {} 40 (q.st 22 0 (.u x)) ?_
     obtain ⟨o,j,k⟩:=a.out
     exact jx a.rows {} 40 k (by exact j) (fG _ _ _ _ _) underlying30 ⟨b,c,f,i,rfl,(a.put _ rfl).fin⟩
    ·refine aN q.rows {} 40 (vD a2 _ c2 4096 D.ys (IntKind.u8.wrap x) m rfl ab (Gz J).2.1 (B.below q.bl)) ?_
     rintro e E ⟨u,v,rfl,M,I⟩
     refine ⟨_,0,rfl,?_⟩
     have d:=q.below I
     have Q:=(Array.getElem?_eq_some_iff.1 q.row).1
     have U:=q.lo
     have P:Dv w (fU D a1 c1 a2 c2) g p.heap.size (fU D b c f i) (vg ⟨D.t,D.cm,D.so,D.xs,il D.ys (IntKind.u8.wrap x) 4096,D.ir⟩ b c u v) E:=⟨d.inp,d.out,d.row,((q.fam.below I).newOut u _ v _ _ E.heap.size M (Nat.le_refl _) ab (Nat.le_refl _) I.size),λr G e=>by
      rcases List.mem_cons.1 G with rfl|G
      ·exact q.far _ (List.mem_cons_self ..) e
      ·rw [List.mem_singleton.1 G] at e
       have:=(M.lt g e).1
       omega,d.lo,d.bl⟩
     have a:=P.set 4 (.slice u (il D.ys (IntKind.u8.wrap x) 4096).length v)
     refine cq (R:=[]) trivial {} 40 (d.st 24 4 (.slice u (il D.ys (IntKind.u8.wrap x) 4096).length v)) ?_
     obtain ⟨o,j,k⟩:=a.out
     exact jx a.rows {} 40 k (by exact j) (fG ⟨D.t,D.cm,D.so,D.xs,il D.ys (IntKind.u8.wrap x) 4096,D.ir⟩ _ _ _ _) underlying30 ⟨b,c,u,v,rfl,(a.put _ rfl).fin⟩
    ·rw [show fP D x 4=(⟨D.t,D.cm,D.so,D.xs,D.ys,IntKind.i64.wrap (bits .and .u64 x 1)⟩,true) by simp only [fP,IntKind.wrap_i64,wrap64]]
     refine aN (R:=[]) trivial {} 40 (yx x m) ?_
     rintro e E ⟨rfl,F⟩
     refine ⟨_,0,rfl,?_⟩
     have d:=q.below (Below.refl m.heap.size m).drew
     rw [<- F] at d
     have a:=d.set 5 (.i (IntKind.i64.wrap (bits .and .u64 x 1)))
     refine cq (R:=[]) trivial {} 40 (d.st 2 5 (.i (IntKind.i64.wrap (bits .and .u64 x 1)))) ?_
     obtain ⟨o,j,k⟩:=a.out
     exact jx a.rows {} 40 k (by exact j) (fG _ _ _ _ _) underlying30 ⟨b,c,f,i,rfl,(a.put _ rfl).fin⟩
    ·obtain ⟨o,j,k⟩:=q.out
     exact jx (cs:=fU D b c f i) q.rows {} 90 k j (fG _ _ _ _ _) underlying30 ⟨b,c,f,i,rfl,(q.put _ rfl).fin⟩
    ·exact absurd e L
section
variable {w : World} {D0 : Array Value} {g B : Nat} {cs : Array Value} {L : List FRow} {W V : World}
theorem Dv.dw (h:Dv w D0 g B cs L W) (k:Dw W V):Dv w D0 g B cs L V:=h.below (k.below (Below.refl _ _))
theorem Dv.ez:Ez (Dv w D0 g B cs L) [⟨w.heap.size,D0,[]⟩,⟨w.heap.size,D0,[]⟩,⟨g,cs,[]⟩]:=⟨λW h=>λr a=>qb h.rows a,λW h=>h.below (Below.refl _ _).drew⟩
theorem LD (D:DV) (a1:Option Addr) (c1:Nat) (a2:Option Addr) (c2:Nat) (addr size:Int) (b:gA addr size≠6) (a:addr≠268435456) (W:World):CB 315 #[.agg (fU D a1 c1 a2 c2),.u addr] W (.u (jn D (gA addr size)).1):=by
 rcases se addr size with ⟨rfl,e⟩|⟨rfl,e⟩|⟨rfl,e⟩|⟨rfl,e⟩|⟨rfl,e⟩|⟨rfl,e⟩|e<;>rw [e];·exact Se _ _ _ _ _ _ _ _ _ _ W
 ·exact Sf _ _ _ _ _ _ _ _ _ _ W
 ·exact Sg _ _ _ _ _ _ _ _ _ _ W
 ·exact absurd rfl a
 ·exact Sh _ _ _ _ _ _ _ _ _ _ W
 ·exact Si _ _ _ _ _ _ _ _ _ _ W
 ·exact absurd e b
end
theorem uh (D:DV) (a1:Option Addr) (c1:Nat) (a2:Option Addr) (c2:Nat) (addr size:Int) (w:World) (C:D.xs.length<=1048576) (E:D.ys.length<=1048576) (hb:dU D) (F:Sl .u8 w a1 D.xs) (M:Sl .u8 w a2 D.ys):Calls prog 309 #[.agg #[.u D.t,.u D.cm,.bool D.so,.slice a1 D.xs.length c1,.slice a2 D.ys.length c2,.i D.ir],.u addr,.i size] w λe O=>∃ (f:Option Addr) (i:Nat) (b:Option Addr) (c:Nat),e=.returned (.tuple #[.u (vh D addr size).1,.agg (fU (vh D addr size).2.1 f i b c),.bool (vh D addr size).2.2]) /\ bA w.heap.size O.heap.size O (vg (vh D addr size).2.1 f i b c)/\Bw w O:=by
 have A:=λW (_:Bw w W)=>kf D.t D.cm D.so a1 D.xs.length c1 a2 D.ys.length c2 D.ir W C E
 have H:=λW (_:Bw w W)=>vL addr size W
 unfold vh
 refine bC (S:=Bs w [(fU D a1 c1 a2 c2,30),(fU zeroD none 0 none 0,30)]) (args:=[.agg (fU D a1 c1 a2 c2),.u addr,.i size]) [(fU D a1 c1 a2 c2,30),(fU zeroD none 0 none 0,30)] func309 ?_
 cases N:nY D.xs.length D.ys.length D.ir with
 | false =>
   rw [N] at A
   rw [if_neg bc]
   refine ae Bs.eng {cv:=[(13,fQ A)]} 40 (Bs.start _ _) λn d=>?_
   refine bM (az (t:=30) (ty:=30) (cells:=fU zeroD none 0 none 0) (d.1 1 _ rfl) ba rfl (fG _ _ _ _ _)) ?_
   refine gu (R:=[]) trivial {} 40 λa y=>⟨.tuple #[.u 0,.agg (fU zeroD none 0 none 0),.bool false],?_,none,0,none,0,rfl,lA _ _ _,aR d.2 ab _⟩
   rw [bT results309 a.tmps _ _ _ _ (0,0) _ (y.slot ba) (setRow_heap _ _ _ _ _ _ (d.1 1 _ rfl)) underlying30 rfl ba,y.slot (v:=.u 0) ba,y.slot (v:=.bool false) ba]
 | true =>
   rw [N] at A
   rw [if_pos rfl]
   by_cases K:gA addr size=6
   ·rw [K] at H ⊢
    refine ae Bs.eng {cv:=[(13,fQ A),(18,mI H)]} 40 (Bs.start _ _) λn d=>?_
    refine bM (az (t:=30) (ty:=30) (cells:=fU zeroD none 0 none 0) (d.1 1 _ rfl) ba rfl (fG _ _ _ _ _)) ?_
    refine gu (R:=[]) trivial {} 40 λa y=>⟨.tuple #[.u 0,.agg (fU zeroD none 0 none 0),.bool false],?_,none,0,none,0,rfl,lA _ _ _,aR d.2 ab _⟩
    rw [bT results309 a.tmps _ _ _ _ (0,0) _ (y.slot ba) (setRow_heap _ _ _ _ _ _ (d.1 1 _ rfl)) underlying30 rfl ba,y.slot (v:=.u 0) ba,y.slot (v:=.bool false) ba]
   ·rw [decide_eq_true (by rcases se addr size with h|h|h|h|h|h|h<;>omega)] at H
    refine aS Bs.eng {cv:=[(13,fQ A),(18,mI H)]} 60 (Bs.start _ _) (λn d=>qe D.t D.cm D.so a1 D.xs.length c1 a2 D.ys.length c2 D.ir D.xs D.ys n rfl rfl C E (F.below d.2) (M.below d.2)) ?_
    rintro n e B d ⟨f,i,b,c,rfl,X,k2⟩
    refine ⟨_,0,rfl,gh ba,?_⟩
    refine dF 3 (dD (T:=30) (z:=.agg (fU zeroD none 0 none 0)) ba B) ?_
    refine bM (az (g:=B.heap.size) (t:=30) (ty:=30) (old:=fU zeroD none 0 none 0) (cells:=fU D f i b c) (heap_alloc_new _ _) ba rfl (fG _ _ _ _ _)) ?_
    have q:=Dv.start d X k2
    generalize (B.alloc (.cells (Value.agg (fU zeroD none 0 none 0)).cells 30)).setRow B.heap.size (fU D f i b c)=Y at q ⊢
    generalize B.heap.size=g at q ⊢
    cases I:(addr==268435456) with
    | false =>
      have P:=LD D a1 c1 a2 c2 addr size K (by simpa using I)
      have e2:jn D (gA addr size)=((jn D (gA addr size)).1,D,true):=by
       rcases se addr size with ⟨rfl,e⟩ | ⟨rfl,e⟩ | ⟨rfl,e⟩ | ⟨rfl,e⟩ | ⟨rfl,e⟩ | ⟨rfl,e⟩ | e<;>first | exact absurd e K | simp at I;done | (rw [e];rfl)
      rw [e2]
      generalize (jn D (gA addr size)).1=v at P ⊢
      refine aH (Dv w (fU D a1 c1 a2 c2) g n.heap.size (fU D f i b c) (vg D f i b c)) ?_
      refine uA Dv.ez q {eq:=[(25,ak I)]} 60 (λW _=>P W) ?_
      rintro W e J k ⟨rfl,G⟩
      have j:=(q.dw k).below G
      refine ⟨_,0,rfl,j,?_⟩
      exact mi (s:=6) (p:=7) (u:=8) (T:=30) (cs:=fU D f i b c) (v1:=.u v) (v2:=.bool true) Dv.ez j {} 60 (λW h=>h.put _ rfl) (λW h=>let ⟨o,k,x⟩:=h.out;⟨o,_,k,x⟩) ba (fG _ _ _ _ _) underlying30 rfl rfl ba ba ba λW V k x=>⟨f,i,b,c,rfl,(((j.dw k).put _ rfl).dw x).fin⟩
    | true =>
      have e3:addr=268435456:=by simpa using I
      subst e3
      have e4:gA 268435456 size=3:=by rcases se 268435456 size with h|h|h|h|h|h|h<;>omega
      rw [e4]
      have Z:Uz.wrap (D.xs.getD 0 0)=D.xs.getD 0 0:=La _ (iW hb.1 0).1 (iW hb.1 0).2
      refine aN q.rows {} 60 (rV a1 _ c1 D.xs Y rfl (by have:=(Gz N).1;omega) (F.below q.bl)) ?_
      rintro e J ⟨l,m,rfl,Q,G⟩
      refine ⟨_,0,rfl,?_⟩
      have j:=q.below G
      have s3:=(Array.getElem?_eq_some_iff.1 q.row).1
      have s4:=q.lo
      have q6:Dv w (fU D a1 c1 a2 c2) g n.heap.size (fU D f i b c) (vg ⟨D.t,D.cm,D.so,D.xs.drop 1,D.ys,D.ir⟩ l m b c) J:=⟨j.inp,j.out,j.row,((q.fam.below G).newIn l _ m _ _ J.heap.size Q (Nat.le_refl _) ab (Nat.le_refl _) G.size),λr L e=>by
       rcases List.mem_cons.1 L with rfl|L
       ·have:=(Q.lt g e).1
        omega
       ·exact q.far _ (List.mem_cons_of_mem _ L) e,j.lo,j.bl⟩
      have U:=q6.set 3 (.slice l (D.xs.drop 1).length m)
      refine cq (R:=[]) trivial {} 40 (j.st 24 3 (.slice l (D.xs.drop 1).length m)) ?_
      refine aH (Dv w (fU D a1 c1 a2 c2) g n.heap.size (fU ⟨D.t,D.cm,D.so,D.xs.drop 1,D.ys,D.ir⟩ l m b c) (vg ⟨D.t,D.cm,D.so,D.xs.drop 1,D.ys,D.ir⟩ l m b c)) ?_
      exact mi (s:=6) (p:=7) (u:=8) (T:=30) (cs:=fU ⟨D.t,D.cm,D.so,D.xs.drop 1,D.ys,D.ir⟩ l m b c) (v1:=.u (Uz.wrap (D.xs.getD 0 0))) (v2:=.bool true) Dv.ez U {} 60 (λW h=>h.put _ rfl) (λW h=>let ⟨o,k,x⟩:=h.out;⟨o,_,k,x⟩) ba (fG _ _ _ _ _) underlying30 rfl rfl ba ba ba λW V k x=>⟨l,m,b,c,by rw [Z];rfl,(((Dv.dw U k).put _ rfl).dw x).fin⟩
theorem pT (a b:Option Addr) (n ca f:Nat) (xs:List Int) (w:World) (hx:xs.length=n) (hn:n<=1048576) (hs:Sl .i64 w a xs) (F:Sl .i64 w b xs):CB 27 #[.slice a n ca,.slice b n f] w (.bool true):=by
 refine bC (S:=Bs w []) (args:=[.slice a n ca,.slice b n f]) [] func27 ?_;have d:((n:Int) != (n:Int))=false:=cp
 refine ae Bs.eng {eq:=[(10,ak d)]} 20 (Bs.start w []) λI B=>?_;refine kS (λi:Nat=>[(0,.slice a n ca,0),(1,.slice b n f,0),(5,.i i,0)]) (λj i W=>i+j=n/\Bs w [] W) n 0 ba ba ⟨ab,B⟩ ?_;rintro j i W ⟨J,r⟩ R C;cases j with
 | zero =>have q:decide ((i:Int)<(n:Int))=false:=ck;exact bm (t:=4) (v:=.bool true) Bs.eng {eq:=[(14,ak q)]} 60 r λW h=>⟨rfl,h.2⟩
 | succ j =>have q:decide ((i:Int)<(n:Int))=true:=ef;obtain ⟨o,s,A,g,l⟩:=hs i ab;obtain ⟨p,u,e2,k,m⟩:=F i ab;have y:∀ V,Bs w [] V->V.cell? ⟨o,s+i,none⟩=some (.i (xs.getD i 0)):=λV h=>(h.2.cell (by exact g)).trans l;have z:∀ V,Bs w [] V->V.cell? ⟨p,u+i,none⟩=some (.i (xs.getD i 0)):=λV h=>(h.2.cell (by exact k)).trans m;have d:(xs.getD i 0 != xs.getD i 0)=false:=cp;have G:IntKind.i64.wrap ((i:Nat)+1:Int)=((i+1:Nat):Int):=i6;generalize xs.getD i 0=x at *;exact zD Bs.eng {eq:=[(14,ak q),(25,ak d),(16,dG .i64 G)],ov:=[(19,kF n ca .i64 (i:Int) A ⟨ab,ab⟩ underlying39 ba),(20,iL ⟨o,s+(i:Int).toNat,none⟩ (.i x) underlying2 rfl y),(23,kF n f .i64 (i:Int) e2 ⟨ab,ab⟩ underlying39 ba),(24,iL ⟨p,u+(i:Int).toNat,none⟩ (.i x) underlying2 rfl z)]} 60 r λc V D E=>C c V j (i+1) ab (E.less ba) ⟨ab,D⟩
end Go.Proofs.YtfagphfjfhpmjaaGreatDoor
