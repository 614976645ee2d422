/- Own lemmas. -/
import Derived.Test.YtjifdmoehfbihaaGreatDoorAuj
import Derived.Test.YtjifdmoehfbihaaGreatDoorJ03
import Derived.Test.YtjifdmoehfbihaaGreatDoorJ06
set_option maxRecDepth 100000
namespace Go.Proofs.YtjifdmoehfbihaaGreatDoor
open Go.RowKit Tryz
open IntKind renaming u64->Uz
set_option linter.unusedVariables false
variable {w n P:World} {F k R g:Nat} {W:Program} {a:Fr} {B bs:List Nat} {L:List KI} {b Q:Array Value} {S c R1:List Rw} {o:World->Prop} {A:Ending->World->Prop} {D:Exit->Act->World->Prop} {f:List FRow} {M:Func} {s:Act} {t:MV} {T:MA} {d:Oper} {e:List (Oe × Oe)} {j v:Value} {p:Sem Next} {x:Int} (r:DV) (G:Option Addr) (V:Nat) (l:Option Addr) (m:Nat) (q y:Int) (C:World)
def ix (r:Rw) (w:World):Prop:=∃ t,w.heap[r.b]?=some (.cells r.cs t (0,0))
structure Ag (bs:List Nat) (w W:World):Prop where
 os:W.os=w.os
 tape:W.tape=w.tape
 output:W.output=w.output
 size:w.heap.size<=W.heap.size
 block:∀ k,k<w.heap.size->k ∉ bs->W.heap[k]?=w.heap[k]?
theorem Ag.refl (bs:List Nat) (w:World):Ag bs w w:=⟨rfl,rfl,rfl,Nat.le_refl _,λ_ _ _=>rfl⟩
theorem Ag.trans (h:Ag B w n) (k:Ag B n P):Ag B w P:=⟨k.os.trans h.os,k.tape.trans h.tape,k.output.trans h.output,Nat.le_trans h.size k.size,λi e d=>(k.block i (Nat.lt_of_lt_of_le e h.size) d).trans (h.block i e d)⟩
theorem Ag.below (h:Ag B w n) (k:Bw n P):Ag B w P:=h.trans ⟨k.os,k.tape,k.output,k.size,λi d _=>k.block i d⟩
theorem Ag.drew (h:Ag B w n):Ag B w n.drew:=⟨h.os,h.tape,h.output,h.size,h.block⟩
theorem LT (a:F ∈ B) (w:World) (i:Nat) (v:Value):Ag B w (w.setCell ⟨F,i,none⟩ v):=⟨rfl,rfl,rfl,cp,λk _ b=>Below.heap_setCell w _ v k (λe=>b (by rw [e];exact a))⟩
def uo {α:Type} (P:Program):Sem α->Rw->Option (α × Rw × List (Addr × Addr))
 | .pure a,r=>some (a,r,[])
 | .load _ a k,r=>match r.cs[a.off]? with
   | none=>none
   | some v=>match uo P (k v) r with
     | none=>none
     | some x=>some (x.1,x.2.1,(a,⟨r.b,a.off,none⟩)::x.2.2)
 | .store _ a v k,r=>match v.oneCell' with
   | false=>none
   | true=>match r.cs[a.off]? with
     | none=>none
     | some _=>match uo P k {r with cs:=r.cs.setIfInBounds a.off v} with
       | none=>none
       | some x=>some (x.1,x.2.1,(a,⟨r.b,a.off,none⟩)::x.2.2)
 | .program k,r=>uo P (k P) r
 | .mark _ k,r=>uo P k r
 | _,_=>none
theorem PL {α:Type}:∀ (s:Sem α) (r b:Rw) (x:α) (d:List (Addr × Addr)) (w:World),uo W s r=some (x,b,d)->(∀ e ∈ d,e.1=e.2)->r.b ∈ bs->ix r w->∃ z,s.run W w=.ok x z/\ix b z/\b.b=r.b/\b.tg=r.tg/\Ag [r.b] w z:=by
 intro s;induction s with
 | pure a =>intro r b x d w h _ _ i;simp only [uo,Option.some.injEq,Prod.mk.injEq] at h;obtain ⟨rfl,rfl,_⟩:=h;exact ⟨w,rfl,i,rfl,rfl,Ag.refl _ _⟩
 | load m a k l =>
   intro r b x d w h g p i;unfold uo at h;cases q:r.cs[a.off]? with
   | none=>rw [q] at h;cases h
   | some v =>
     rw [q] at h;dsimp only at h;cases j:uo W (k v) r with
     | none=>rw [j] at h;cases h
     | some y =>rw [j] at h;simp only [Option.some.injEq,Prod.mk.injEq] at h;obtain ⟨A,B,C⟩:=h;subst C;have o:a=⟨r.b,a.off,none⟩:=g (a,⟨r.b,a.off,none⟩) cp;obtain ⟨t,c⟩:=i;have D:w.cell? a=some v:=(by rw [o];simp only [World.cell?,c];simpa using q);simp only [Sem.run,D];exact l v r b x y.2.2 w (by rw [j,<- A,<- B]) (λe h=>g e (by simp [h])) p ⟨t,c⟩
 | store m a v k l =>
   intro r b x d w h g p i;unfold uo at h;cases n:v.oneCell' with
   | false=>rw [n] at h;cases h
   | true =>
     rw [n] at h;dsimp only at h;cases q:r.cs[a.off]? with
     | none=>rw [q] at h;cases h
     | some u =>
       rw [q] at h;dsimp only at h;cases j:uo W k {r with cs:=r.cs.setIfInBounds a.off v} with
       | none=>rw [j] at h;cases h
       | some y =>
         rw [j] at h;simp only [Option.some.injEq,Prod.mk.injEq] at h;obtain ⟨A,B,C⟩:=h;subst C;have o:a=⟨r.b,a.off,none⟩:=g (a,⟨r.b,a.off,none⟩) cp;obtain ⟨t,c⟩:=i;have D:w.cell? a=some u:=(by rw [o];simp only [World.cell?,c];simpa using q);have L:w.frozen? a=false:=(by rw [o];simp [World.frozen?,c]);have f:(w.setCell a v).heap[r.b]?=some (.cells (r.cs.setIfInBounds a.off v) t (0,0)):=(by rw [o];exact bH c a.off v);obtain ⟨z,F,G,I,J,H⟩:=l {r with cs:=r.cs.setIfInBounds a.off v} b x y.2.2 (w.setCell a v) (by rw [j,<- A,<- B]) (λe h=>g e (by simp [h])) p ⟨t,f⟩;refine ⟨z,?_,G,I,J,?_⟩
         ·have E:(Sem.store m a v k).run W w=k.run W (w.setCell a v):=by clear o g l F G H f j;cases v<;>first | (simp only [Sem.run,D,L,Bool.false_eq_true,if_false];done) | (cases n;done)
          rw [E];exact F
         ·have K:Ag [r.b] w (w.setCell a v):=(by rw [o];exact LT cp w _ v);exact K.trans H
 | program k l=>intro r b x d w h g p i;exact l W r b x d w h g p i
 | mark m k l=>intro r b x d w h g p i;exact l r b x d w h g p i
 | new=>intro r b x d w h;cases h
 | shape=>intro r b x d w h;cases h
 | freeze=>intro r b x d w h;cases h
 | frozen=>intro r b x d w h;cases h
 | getObj=>intro r b x d w h;cases h
 | setObj=>intro r b x d w h;cases h
 | choose=>intro r b x d w h;cases h
 | sys=>intro r b x d w h;cases h
 | halt=>intro r b x d w h;cases h
structure Hw (P:Program) (T:World->Prop) where
 eq:List (Nat × Vq):=[]
 ov:List (Nat × Ov P T):=[]
def R9 (R:List Rw) (w:World):Prop:=∀ r ∈ R,ix r w
theorem ix.in_ {r:Rw} (h:ix r w):pO r w:=let ⟨t,h⟩:=h;⟨t,_,h⟩
theorem LU {α a:Type} (f:α->a):∀ (l:List (Nat × α)) (d:Nat),lk (l.map λx=>(x.1,f x.2)) d=(lk l d).map f
 | [],_=>rfl
 | (q,y)::l,d=>by
   simp only [List.map_cons,lk]
   cases Nat.beq q d
   ·exact LU f l d
   ·rfl
theorem LV {ov:List (Nat × Ov W o)} {eq:List (Nat × Vq)} {v:Value} {es:List (Oe × Oe)} (hk:ch a F s) (h:Lb W S ov eq a d=some (v,k,es)) (he:∀ e ∈ es,e.1=e.2) (c:o w) (g:∀ r ∈ S,pO r w): (execOp s.eval d).run W w=.ok (.value v) w:=by
 have f:Lb W S (ov.map λx=>(x.1,(⟨x.2.s,x.2.v,x.2.t,λP b=>by subst b;exact x.2.h _ c⟩:Ov W λP=>P=w))) eq a d=some (v,k,es):=by
  rw [<- h];unfold Lb;split;·rfl
  ·have i:=λt=>LU (λy:Ov W o=>(⟨y.s,y.v,y.t,λP b=>by subst b;exact y.h _ c⟩:Ov W λP=>P=w)) ov t;cases j:d.dst with
   | none=>rfl
   | some t =>simp only [Option.bind_some,i];cases lk ov t<;>rfl
 exact (En hk f he λP b=>by subst b;exact g).1 w rfl
def yM (P:Program) {T:World->Prop} (R:List Rw) (H:Hw P T) (n:Nat) (all:Array Oper):Nat->Array Bool->Fr->Option (Fr × List (Oe × Oe))
 | m,listed,F=>match Region.ready .any all listed with
   | []=>some (F,[])
   | i::is=>match m with
     | 0=>none
     | m+1=>match qx all listed (i::is) with
       | none=>none
       | some j=>match all[j]? with
         | none=>none
         | some o=>match (match wn all F o with | none=>none | some false=>some (undef,0,[]) | some true=>Lb P R H.ov H.eq F o) with
           | none=>none
           | some (v,t,es)=>match rU n F v t o.dst with
             | none=>none
             | some a=>match yM P R H n all m (listed.setIfInBounds j true) a with
               | none=>none
               | some (F2,es2)=>some (F2,es++es2)
theorem LW {H:Hw W o} {all:Array Oper} {Q:Exit->Act->World->Prop} (N:o w) (M:R9 S w) (C:Region.noSelect all=true) (L:∀ c a d v w,Q (.panic c) (Act.put a d v) w->Q (.panic c) a w):∀ (m:Nat) (listed:Array Bool) (n p:Fr) (q:List (Oe × Oe)) (a:Act),yM W S H F all m listed n=some (p,q)->(∀ e ∈ q,e.1=e.2)->ch n F a->(∀ G,ch p F G->Q .normal G w)->wpAnyH W .any all Q (λP=>P=w) m listed a w:=by
 intro m;induction m with
 | zero =>
   intro listed n p q a h x k s;unfold yM at h;cases g:Region.ready .any all listed with
   | nil=>rw [g] at h;cases h;exact wpAnyH_done g (s a k) 0
   | cons i is=>rw [g] at h;cases h
 | succ m V =>
   intro listed n p q a h x k s;unfold yM at h;cases g:Region.ready .any all listed with
   | nil=>rw [g] at h;cases h;exact wpAnyH_done g (s a k) _
   | cons i is =>
     rw [g] at h;dsimp only at h;cases D:qx all listed (i::is) with
     | none=>rw [D] at h;cases h
     | some j =>
       rw [D] at h;dsimp only at h;cases A:all[j]? with
       | none=>rw [A] at h;cases h
       | some T =>
         rw [A] at h;dsimp only at h;split at h;·cases h
         ·rename_i v t J f;cases z:rU F n v t T.dst with
          | none=>rw [z] at h;cases h
          | some I =>
            rw [z] at h;dsimp only at h;cases E:yM W S H F all m (listed.setIfInBounds j true) I with
            | none=>rw [E] at h;cases h
            | some y =>
              obtain ⟨X,K⟩:=y;rw [E] at h;simp only [Option.some.injEq,Prod.mk.injEq] at h;obtain ⟨rfl,rfl⟩:=h;have l:=oo D;have U:YieldsIf W all (λP=>P=w) T v a:=by
               cases u:wn all n T with
               | none=>rw [u] at f;cases f
               | some b =>
                 rw [u] at f;cases b with
                 | false=>simp only [Option.some.injEq,Prod.mk.injEq] at f;exact .inr ⟨kS k u,f.1.symm⟩
                 | true=>exact .inl ⟨kS k u,λP O=>by subst O;exact LV k f (λe B=>x e (by simp [B])) N λr g=>(M r g).in_⟩
              exact wpAnyH_take A C l.2 (by rw [g];simpa using l.1) (λc a w R=>L c a _ _ w R) U rfl (V _ _ _ _ _ E (λe B=>x e (by simp [B])) (kh z k) s)
inductive Sv where
 | go (k:List KI) (F:Fr) (R:List Rw) (es:List (Oe × Oe))
 | ret
 | stop
def VV (P:Program) (R:List Rw) (F:Fr) (o:Oper):Option (List Rw × List (Oe × Oe)):=match o.op with
 | .store _ x _=>match o.op.operands.all (kn F) with
   | false=>none
   | true=>match La F x with
     | 0=>none
     | j+1=>match R[j]? with
       | none=>none
       | some r=>match uo P (execOp (ev F) o) r with
         | some (.skip,r',es)=>some (R.set j r',es.map λe=>(.a e.1,.a e.2))
         | _=>none
 | _=>none
def Cf (P:Program) {T:World->Prop} (H:Hw P T) (n:Nat) (k:List KI) (F:Fr) (R:List Rw):Sv :=
 match k with
 | .ops _ []::k=>.go k F R []
 | .ops all (o::rest)::k=>match (match wn all F o with | none=>none | some false=>some (undef,0,[]) | some true=>Lb P R H.ov H.eq F o) with
   | some (v,t,a)=>match rU n F v t o.dst with
     | some b=>.go (.ops all rest::k) b R a
     | none=>.stop
   | none=>match wn all F o,o.dst with
     | some true,none=>match VV P R F o with
       | some (R',a)=>.go (.ops all rest::k) F R' a
       | none=>.stop
     | _,_=>.stop
 | .blk _::k=>.go k F R []
 | .code (.region _ ops true)::k=>match Region.noSelect ops&&P.follows .mixedOrders with
   | true=>match yM P R H n ops ops.size (Array.replicate ops.size false) F with
     | some (b,a)=>.go k b R a
     | none=>.stop
   | false=>.stop
 | .code c::k=>match iW P false k F c with
   | .go d b a=>.go d b R a
   | .ret=>.ret
   | .stop=>.stop
 | _=>.stop
theorem Cg {α:Type}:∀ {l:List α} {j:Nat} {x:α},l[j]?=some x->l.set j x=l
 | [],_,_,h=>l7
 | y::l,0,x,h=>by simp at h;simp [h]
 | y::l,j+1,x,h=>by simp only [List.set_cons_succ];rw [Cg (l:=l) eo]
structure Iv (bs:List Nat) (w:World) (R:List Rw) (W:World):Prop where
 rows:R9 R W
 ag:Ag bs w W
 sub:∀ r ∈ R,r.b ∈ bs
 nd:(R.map Rw.b).Nodup
theorem Iv.below (h:Iv B w S n) (k:Bw n P):Iv B w S P :=
 ⟨λr b=>let ⟨t,a⟩:=h.rows r b;⟨t,(k.block r.b (Array.getElem?_eq_some_iff.1 a).1).trans a⟩,h.ag.below k,h.sub,h.nd⟩
theorem Tl (hk:ch a F s) (h:VV W S a d=some (c,e)) (he:∀ es ∈ e,es.1=es.2) (R:Iv B w S n):∃ u,(execOp s.eval d).run W n=.ok .skip u/\Iv B w c u:=by
 unfold VV at h
 split at h
 ·rename_i t x y H
  cases C:d.op.operands.all (kn a) with
  | false=>rw [C] at h;cases h
  | true =>
    rw [C] at h
    dsimp only at h
    have D:execOp s.eval d=execOp (ev a) d:=execOp_congr d (λcs b es=>by rw [H] at es;cases es) λx T=>hk.eval (Array.all_eq_true_iff_forall_mem.1 C x T)
    rw [D]
    cases M:La a x with
    | zero=>rw [M] at h;cases h
    | succ j =>
      rw [M] at h
      dsimp only at h
      cases p:S[j]? with
      | none=>rw [p] at h;cases h
      | some r =>
        rw [p] at h
        dsimp only at h
        cases J:uo W (execOp (ev a) d) r with
        | none=>rw [J] at h;cases h
        | some z =>
          obtain ⟨U,K,A⟩:=z
          rw [J] at h
          cases U with
          | skip =>
            simp only [Option.some.injEq,Prod.mk.injEq] at h
            obtain ⟨rfl,rfl⟩:=h
            have L:=List.mem_of_getElem? p
            obtain ⟨u,N,O,Q,X,l⟩:=PL (bs:=B) _ r K _ A n J (λes L=>by have:=he (.a es.1,.a es.2) (List.mem_map.2 ⟨es,L,rfl⟩);simpa using this) (R.sub r L) (R.rows r L)
            have E:j<S.length:=(List.getElem?_eq_some_iff.1 p).1
            have o:(S.set j K).map Rw.b=S.map Rw.b:=by
             rw [List.map_set,Q]
             have:(S.map Rw.b)[j]?=some r.b:=by simp [p]
             exact Cg this
            refine ⟨u,N,⟨λq I=>?_,R.ag.trans ⟨l.os,l.tape,l.output,l.size,λk P hk=>l.block k P (by simp only [List.mem_singleton];exact λes=>hk (by rw [es];exact R.sub r L))⟩,λq I=>?_,by rw [o];exact R.nd⟩⟩
            ·obtain ⟨i,m⟩:=List.mem_iff_getElem?.1 I
             by_cases g:i=j
             ·subst g
              rw [List.getElem?_set_self E] at m
              cases m
              exact O
             ·rw [List.getElem?_set_ne (Ne.symm g)] at m
              obtain ⟨t,f⟩:=R.rows q (List.mem_of_getElem? m)
              have G:q.b≠r.b:=λes=>g (by
               have bs:(S.map Rw.b)[i]?=some q.b:=by simp [m]
               have v:(S.map Rw.b)[j]?=some r.b:=by simp [p]
               rw [<- es] at v
               exact (List.getElem?_inj (by simpa using (List.getElem?_eq_some_iff.1 m).1) R.nd).1 (bs.trans v.symm))
              exact ⟨t,(l.block q.b (Array.getElem?_eq_some_iff.1 f).1 (by simpa using G)).trans f⟩
            ·have:q.b ∈ (S.set j K).map Rw.b:=List.mem_map.2 ⟨q,I,rfl⟩
             rw [o] at this
             obtain ⟨V,bs,v⟩:=List.mem_map.1 this
             rw [<- v]
             exact R.sub V bs
          | _=>cases h
 ·cases h
theorem LX {H:Hw W o} (bs:∀ P,Ag B w P->o P) (C:∀ R k d v w,D (.panic R) (Act.put k d v) w->D (.panic R) k w) {G:List KI} {A:Fr} {n:List Rw} {es:List (Oe × Oe)} (h:Cf W H F L a c=.go G A n es) (he:∀ e ∈ es,e.1=e.2) (f:∀ k P,ch A F k->Iv B w n P->iV W (λ_=>True) D G .normal k P) (k:Act) (P:World) (hk:ch a F k) (i:Iv B w c P):iV W (λ_=>True) D L .normal k P:=by
 unfold Cf at h;split at h;·cases h;exact f k P hk i
 ·rename_i all T rest I;show wpList W all _ (T::rest) k P;split at h
  ·rename_i v t m g;split at h
   ·rename_i Q E;simp only [Sv.go.injEq] at h;obtain ⟨rfl,rfl,rfl,rfl⟩:=h;refine wpList_step λK q=>?_;cases l:wn all a T with
    | none=>rw [l] at g;cases g
    | some b =>
      rw [l] at g;cases b with
      | false =>simp only [Option.some.injEq,Prod.mk.injEq] at g;obtain ⟨rfl,rfl,rfl⟩:=g;rw [kS hk l,if_neg bc];exact q _ _ (f _ _ (kh E hk) i)
      | true =>rw [if_pos (kS hk l)];show T.upon W k K _ _;rw [LV hk g he (bs P i.ag) λr p=>(i.rows r p).in_];exact q _ _ (f _ _ (kh E hk) i)
   ·cases h
  ·split at h
   ·rename_i l Y;split at h;·rename_i R2 m z;simp only [Sv.go.injEq] at h;obtain ⟨rfl,rfl,rfl,rfl⟩:=h;obtain ⟨M,U,X⟩:=Tl hk z he i;refine wpList_step λK q=>?_;rw [if_pos (kS hk l)];show T.upon W k K _ _;rw [U];show K (k.put T.dst undef) M;rw [Y];exact q _ _ (f _ _ hk X)
    ·cases h
   ·cases h
 ·cases h;exact f k P hk i
 ·rename_i ops I;split at h
  ·rename_i u;rw [Bool.and_eq_true] at u;split at h;·rename_i Q m y;simp only [Sv.go.injEq] at h;obtain ⟨rfl,rfl,rfl,rfl⟩:=h;have j:Iv B w c P.drew:=⟨λr p=>i.rows r p,i.ag.drew,i.sub,i.nd⟩;refine wp_region_held (S:=λV=>V=P.drew) u.2 ?_;exact LW (bs _ j.ag) j.rows u.1 (λR k d v w s=>by rw [mR] at s ⊢;exact C R k d v w s) _ _ _ _ _ k y he hk λN x=>f N _ x j
   ·cases h
  ·cases h
 ·rename_i R I _;split at h;·rename_i k3 Z O y;simp only [Sv.go.injEq] at h;obtain ⟨rfl,rfl,rfl,rfl⟩:=h;exact tu (J:=λV=>Iv B w c V) (R:=[]) ⟨λ_ _=>trivial,λ_ _ r p=>(nomatch p),(λs=>by cases s),C⟩ y f k P hk i
  ·cases h
  ·cases h
 ·cases h
def cy (P:Program) {T:World->Prop} (H:Hw P T) (n:Nat):Nat->List KI->Fr->List Rw->(Bool × List KI × Fr × List Rw) × List (Oe × Oe)
 | 0,k,F,R=>((false,k,F,R),[])
 | m+1,k,F,R=>match Cf P H n k F R with
   | .stop=>((false,k,F,R),[])
   | .ret=>((true,k,F,R),[])
   | .go d a b c=>match cy P H n m d a b with
     | (r,es')=>(r,c++es')
theorem zZ {P:Program} {T:World->Prop} {H:Hw P T} {n:Nat} {bs:List Nat} {w:World} {Q:Exit->Act->World->Prop} (q:∀ W,Ag bs w W->T W) (p:∀ c a d v w,Q (.panic c) (Act.put a d v) w->Q (.panic c) a w):∀ (m:Nat) (k:List KI) (F:Fr) (R:List Rw),(∀ e ∈ (cy P H n m k F R).2,e.1=e.2) ->
 (∀ a W,ch (cy P H n m k F R).1.2.2.1 n a->Iv bs w (cy P H n m k F R).1.2.2.2 W->if (cy P H n m k F R).1.1=true then Q .ret a W else iV P (λ_=>True) Q (cy P H n m k F R).1.2.1 .normal a W)->∀ a W,ch F n a->Iv bs w R W->iV P (λ_=>True) Q k .normal a W
 | 0,k,F,R,_,hf,a,W,hk,hI=>by simpa [cy] using hf a W hk hI
 | m+1,k,F,R,he,hf,a,W,hk,hI=>by
   cases f:Cf P H n k F R with
   | stop =>
     have e:cy P H n (m+1) k F R=((false,k,F,R),[]):=by simp only [cy,f]
     rw [e] at hf
     simpa using hf a W hk hI
   | ret =>
     have e:cy P H n (m+1) k F R=((true,k,F,R),[]):=by simp only [cy,f]
     rw [e] at hf
     have s:Q .ret a W:=by simpa using hf a W hk hI
     unfold Cf at f
     split at f
     ·cases f
     ·repeat (split at f<;>try cases f)
     ·cases f
     ·repeat (split at f<;>try cases f)
     ·rename_i c u t
      split at f
      ·cases f
      ·rename_i g
       cases c with
       | ret=>exact wp_ret (by rw [zG];exact s)
       | region i ops b=>cases b<;>simp only [iW] at g<;>(try split at g)<;>cases g
       | cond=>simp only [iW] at g;repeat (split at g<;>try cases g)
       | exit=>simp only [iW] at g;split at g<;>cases g
       | _=>cases g
      ·cases f
     ·cases f
   | go o h j r =>
     have e:cy P H n (m+1) k F R=((cy P H n m o h j).1,r++(cy P H n m o h j).2):=by simp only [cy,f]
     rw [e] at he hf
     exact LX q p f (λx l=>he x (by simp [l])) (zZ q p m o h j (λx l=>he x (by simp [l])) hf) a W hk hI
theorem oG (d:Iv B w S w) (H:Hw W (Ag B w)) (m:Nat) (h:∀ P,Iv B w R1 P->Wg W (λ_=>True) (bodyPost W M A) F (cy W H F m L a S).1.2.1 (cy W H F m L a S).1.2.2.1 P) (hx:((cy W H F m L a S).1.1,(cy W H F m L a S).1.2.2.2)=(false,R1):=by kernel_rfl) (he:(cy W H F m L a S).2.map Prod.fst=(cy W H F m L a S).2.map Prod.snd:=by kernel_rfl):Wg W (λ_=>True) (bodyPost W M A) F L a w:=λk f=>by
 simp only [Prod.mk.injEq] at hx
 refine zZ (λ_ h=>h) cJ m L a S (λe g=>List.map_inj_left.1 he e g) (λk P c b=>?_) k w f d
 rw [hx.2] at b
 rw [hx.1,if_neg bc]
 exact h P b k c
theorem fN (g:Iv B w S w) (H:Hw W (Ag B w)) (m:Nat) {Rc:World->Ending->World->Prop} (i:∀ P,Iv B w R1 P->Calls W k b P (Rc P)) (h:∀ P e Rs,Iv B w R1 P->Rc P e Rs->∃ v t,e=.returned v/\Wg W (λ_=>True) (bodyPost W M A) F (pq (cy W H F m L a S).1.2.2.1 (cy W H F m L a S).1.2.1) (qA (cy W H F m L a S).1.2.2.1 (cy W H F m L a S).1.2.1 v t) Rs) (hx:((cy W H F m L a S).1.1,(cy W H F m L a S).1.2.2.2,Pa W F (cy W H F m L a S).1.2.2.1 (cy W H F m L a S).1.2.1)=(false,R1,some (k,b)):=by kernel_rfl) (he:(cy W H F m L a S).2.map Prod.fst=(cy W H F m L a S).2.map Prod.snd:=by kernel_rfl):Wg W (λ_=>True) (bodyPost W M A) F L a w:=by simp only [Prod.mk.injEq] at hx;refine oG g H m (hx:=vw) (he:=he) λP args=>jy (i P args) (hx:=hx.2.2) λe Rs j=>?_;obtain ⟨v,t,c,d⟩:=h P e Rs args j;exact ⟨v,t,c,λ_=>trivial,d⟩
theorem UO (b:Iv B w S w) (H:Hw W (Ag B w)) (m:Nat) {v:World->Value} (t:Nat) (f:World->World) (hr:∀ P,Iv B w R1 P->p.run W P=.ok (.value (v P)) (f P)) (h:∀ P,Iv B w R1 P->Wg W (λ_=>True) (bodyPost W M A) F (pq (cy W H F m L a S).1.2.2.1 (cy W H F m L a S).1.2.1) (qA (cy W H F m L a S).1.2.2.1 (cy W H F m L a S).1.2.1 (v P) t) (f P)) (hx:((cy W H F m L a S).1.1,(cy W H F m L a S).1.2.2.2,Eo F (cy W H F m L a S).1.2.2.1 (cy W H F m L a S).1.2.1)=(false,R1,some p):=by kernel_rfl) (he:(cy W H F m L a S).2.map Prod.fst=(cy W H F m L a S).2.map Prod.snd:=by kernel_rfl):Wg W (λ_=>True) (bodyPost W M A) F L a w:=by simp only [Prod.mk.injEq] at hx;exact oG b H m (hx:=vw) (he:=he) λP k=>dM t (hx:=hx.2.2) (hr P k) (hS:=λ_=>trivial) (h P k)
theorem iO {R:List Rw} (g:Iv bs w R w) (H:Hw W (Ag bs w)) (m:Nat) (h:∀ P k,Iv bs w R1 P->ch (cy W H F m L a R).1.2.2.1 F k->∃ v,(results M k.tmps).run W P=.ok v P/\A (.returned v) P) (hx:((cy W H F m L a R).1.1,(cy W H F m L a R).1.2.2.2)=(true,R1):=by kernel_rfl) (he:(cy W H F m L a R).2.map Prod.fst=(cy W H F m L a R).2.map Prod.snd:=by kernel_rfl):Wg W (λ_=>True) (bodyPost W M A) F L a w:=λk i=>by
 simp only [Prod.mk.injEq] at hx
 refine zZ (λ_ h=>h) cJ m L a R (λe j=>List.map_inj_left.1 he e j) (λk P b c=>?_) k w i g
 rw [hx.2] at c
 rw [hx.1,if_pos rfl]
 obtain ⟨v,d,f⟩:=h P k c b
 exact bodyPost_ret d b.nod f
theorem vS (b:Iv B w S w) (H:Hw W (Ag B w)) (m:Nat) {t:Nat} (h:∀ P,Iv B w c P->A (.returned v) P) (hx:((cy W H F m L a S).1.1,(cy W H F m L a S).1.2.2.2,(lk (cy W H F m L a S).1.2.2.1 t).map Prod.fst)=(true,c,some v):=by kernel_rfl) (he:(cy W H F m L a S).2.map Prod.fst=(cy W H F m L a S).2.map Prod.snd:=by kernel_rfl) (hr:M.results=#[.tmp t]:=by rfl):Wg W (λ_=>True) (bodyPost W M A) F L a w:=by simp only [Prod.mk.injEq] at hx;exact iO b H m (hx:=vw) (he:=he) λP k R1 d=>⟨v,by rw [results_tmp hr,d.slot hx.2.2],h P R1⟩
theorem px (b:Iv B w S w) (H:Hw W (Ag B w)) (m:Nat) (h:∀ P,Iv B w R1 P->A (.returned (.tuple #[])) P) (hx:((cy W H F m L a S).1.1,(cy W H F m L a S).1.2.2.2)=(true,R1):=by kernel_rfl) (he:(cy W H F m L a S).2.map Prod.fst=(cy W H F m L a S).2.map Prod.snd:=by kernel_rfl) (hr:M.results=#[]:=by rfl):Wg W (λ_=>True) (bodyPost W M A) F L a w :=
 iO b H m (hx:=hx) (he:=he) λP k c _=>⟨_,results_none hr _ _ _,h P c⟩
theorem gx (b:Iv B w S w) (H:Hw W (Ag B w)) (m:Nat) (h:∀ P,Iv B w R1 P->A (.returned (.tuple #[])) P) (hx:((cy W H F m L a S).1.1,(cy W H F m L a S).1.2.2.2)=(false,R1):=by kernel_rfl) (hz:(cy W H F m L a S).1.2.1.isEmpty=true:=by kernel_rfl) (he:(cy W H F m L a S).2.map Prod.fst=(cy W H F m L a S).2.map Prod.snd:=by kernel_rfl) (hr:M.results=#[]:=by rfl):Wg W (λ_=>True) (bodyPost W M A) F L a w :=
 oG b H m (hx:=hx) (he:=he) λP c k d=>by
  rw [List.isEmpty_iff.1 hz]
  exact bodyPost_end (results_none hr _ _ _) d.nod (h P c)
theorem Iv.eng {P:Program} {fn:Func} {Rs:Ending->World->Prop}:n6 P (Iv B w S) (Iv B w S) S true (bodyPost P fn Rs):=⟨λ_ h=>h,λ_ h r a=>(h.rows r a).in_,λ_ _ h=>⟨λr a=>h.rows r a,h.ag.drew,h.sub,h.nd⟩,cJ⟩
def xN (s j:Nat):Fr->Fr
 | []=>[]
 | x::F=>(match Nat.beq x.1 s with | true=>(x.1,x.2.1,j) | false=>x)::xN s j F
theorem Aa (s j t:Nat):∀ (F:Fr) (x:Value × Nat),lk (xN s j F) t=some x->∃ y,lk F t=some y/\y.1=x.1
 | [],_,h=>l7
 | (d,v,g)::F,x,h=>by
   unfold xN at h
   cases b:Nat.beq d s with
   | true =>
     simp only [b,lk] at h ⊢
     cases a:Nat.beq d t with
     | true=>rw [a] at h;cases h;exact ⟨_,rfl,rfl⟩
     | false=>rw [a] at h;exact Aa s j t F x h
   | false =>
     simp only [b,lk] at h ⊢
     cases a:Nat.beq d t with
     | true=>rw [a] at h;cases h;exact ⟨_,rfl,rfl⟩
     | false=>rw [a] at h;exact Aa s j t F x h
theorem ch.tag (h:ch a F s) (n j:Nat):ch (xN n j a) F s:=⟨h.size,h.nod,λt x d=>by
 obtain ⟨y,b,c⟩:=Aa n j t a x d
 rw [<- c]
 exact h.at_ t y b⟩
theorem aN (h:Wg W o D F L (xN V m a) w):Wg W o D F L a w:=λk b=>h k (b.tag V m)
theorem oH (z:Calls W k b w A) (hx:(Eo F a L).map (λs=>s.run W w)=some (.ok (.enter k b) w)) (h:∀ e g,A e g->∃ v t,e=.returned v/\(zL a L=true->o g)/\Wg W o D F (pq a L) (qA a L v t) g):Wg W o D F L a w:=λf j=>by
 obtain ⟨s,c,r⟩:=Option.map_eq_some_iff.1 hx;unfold Eo at c;unfold pq qA zL at h;cases p:Bz a L with
 | none=>rw [p] at c;cases c
 | some y =>
   obtain ⟨S,Q,args⟩:=y;rw [p] at c h;dsimp only at c h;split at c
   ·rename_i i;cases c;rw [Bool.and_eq_true,Bool.and_eq_true] at i;have l:execOp f.eval S=execOp (ev a) S:=execOp_congr S (λcs args e=>by have:=i.1.2;rw [e] at this;cases this) λx hx=>j.eval (Array.all_eq_true_iff_forall_mem.1 i.1.1 x hx);refine zM p j λK u=>?_;show S.upon W f K _ _;rw [l,r];refine z.mono λe g Rc=>?_;obtain ⟨v,t,rfl,B,C⟩:=h e g Rc;refine u _ _ B (C _ ?_);cases m:S.dst with
    | none=>exact j
    | some d=>have q:=i.2;rw [m] at q;exact j.put q v t
   ·cases c
def EV (ops:Array Oper):Bool :=
 Nat.blt 0 ops.size&&(List.range (ops.size-1)).all (λi=>match ops[i]? with
  | none=>false
  | some o=>o.after.all (λe=>!Region.binds .any e||Nat.blt e.on i)&&(match o.guard with | none=>true | some g=>Nat.blt g.1 i)&&(match ops[ops.size-1]? with | none=>false | some l=>kf l i))&&(match ops[ops.size-1]? with | none=>false | some l=>l.after.all (λe=>!Region.binds .any e||Nat.blt e.on (ops.size-1)))
section
variable {P : Program} {ops : Array Oper} {Q : Exit -> Act -> World -> Prop} {S : World -> Prop}
structure sd (ops:Array Oper) (L:Nat) (l:Oper):Prop where
 size:ops.size=L+1
 last:ops[L]?=some l
 down:∀ (i:Nat) (o:Oper),i<L->ops[i]?=some o->∀ e ∈ o.after,Region.binds .any e=true->e.on<i
 gd:∀ (i:Nat) (o:Oper),i<L->ops[i]?=some o->∀ g,o.guard=some g->g.1<i
 all:∀ i,i<L->kf l i=true
 ldn:∀ e ∈ l.after,Region.binds .any e=true->e.on<L
theorem Ab {a b:Nat} (h:Nat.blt a b=true):a<b:=Nat.lt_of_succ_le (by simpa [Nat.blt] using h)
theorem Ch (h:EV ops=true):∃ L l,sd ops L l:=by
 unfold EV at h;simp only [Bool.and_eq_true] at h;obtain ⟨⟨n,c⟩,m⟩:=h;have q:=Ab n;have j:ops[ops.size-1]?=some ops[ops.size-1]:=Array.getElem?_eq_getElem ab;refine ⟨ops.size-1,ops[ops.size-1],ab,j,?_,?_,?_,?_⟩;·intro i o b k e f d;have:=List.all_eq_true.1 c i (List.mem_range.2 b);rw [k] at this;simp only [Bool.and_eq_true] at this;have a:=Array.all_eq_true_iff_forall_mem.1 this.1.1 e f;rw [d] at a;exact Ab oi
 ·intro i o b k g p;have:=List.all_eq_true.1 c i (List.mem_range.2 b);rw [k] at this;simp only [Bool.and_eq_true,p] at this;exact Ab this.1.2
 ·intro i b;have:=List.all_eq_true.1 c i (List.mem_range.2 b);rw [Array.getElem?_eq_getElem (show i<ops.size by omega),j] at this;simp only [Bool.and_eq_true] at this;exact this.2
 ·intro e f d;rw [j] at m;have a:=Array.all_eq_true_iff_forall_mem.1 m e f;rw [d] at a;exact Ab oi
variable {L : Nat} {l : Oper}
theorem mV {listed:Array Bool} (hs:listed.size=L) {j:Nat} (a:j<L) (d:Bool):(listed.push false).getD j d=listed.getD j d:=by simp [Array.getD,Array.getElem_push,hs,a,show j<L+1 by omega]
theorem LY {listed:Array Bool} (hs:listed.size=L) {i:Nat} (b:i<L):(listed.push false).setIfInBounds i true=(listed.setIfInBounds i true).push false:=by
 apply Array.ext_getElem?;intro j;by_cases a:i=j;·subst a;rw [Array.getElem?_setIfInBounds_self_of_lt bv,Array.getElem?_push_lt bv];simp
 ·rw [Array.getElem?_setIfInBounds_ne a];simp only [Array.getElem?_push,Array.size_setIfInBounds,Array.getElem?_setIfInBounds_ne a]
theorem uH (T:sd ops L l) {i:Nat} (a:i<L):ops.pop[i]?=ops[i]?:=by have:=T.size;simp [show i<ops.size-1 by omega]
theorem sf (T:sd ops L l) {listed:Array Bool} (hs:listed.size=L) {i:Nat} (a:i<L):i ∈ Region.ready .any ops (listed.push false)↔i ∈ Region.ready .any ops.pop listed:=by rw [mem_ready,mem_ready,mV hs a,uH T a];refine and_congr_right λ_=>exists_congr λo=>and_congr_right λd=>?_;refine forall_congr' λe=>forall_congr' λc=>forall_congr' λb=>?_;rw [mV hs (by have:=T.down i o a d e c b;omega)]
theorem EW (T:sd ops L l) {listed:Array Bool} (hs:listed.size=L) (hr:Region.ready .any ops.pop listed=[]):∀ i,i<L->listed.getD i false=true:=by
 intro i;induction i using Nat.strongRecOn with
 | _ i g =>
   intro a;cases d:listed.getD i true with
   | true=>simpa [Array.getD,hs,a] using d
   | false =>have b:ops[i]?=some (ops[i]' ta):=Array.getElem?_eq_getElem _;have:i ∈ Region.ready .any ops.pop listed:=mem_ready.2 ⟨d,_,(uH T a).trans b,λe f c=>g e.on (T.down i _ a b e f c) (by have:=T.down i _ a b e f c;omega)⟩;rw [hr] at this;cases this
theorem LZ (T:sd ops L l) {R:Act->World->Prop} {i:Nat} (k:i<L) {K f:Act->World->Prop} {a:Act} {w:World} (q:∀ a w,K a w->f a w) (h:wpOp P ops.pop (Exit.then R Q) i K a w):wpOp P ops Q i f a w:=by
 refine wpOp_mono q ?_;have m:ops[i]?=some (ops[i]' ta):=Array.getElem?_eq_getElem _;unfold wpOp at h ⊢;rw [uH T k] at h;rw [m] at h ⊢;dsimp only at h ⊢;have t:Region.wanted (ops[i]' ta) (yielded ops.pop a.tmps)=Region.wanted (ops[i]' ta) (yielded ops a.tmps):=by
  unfold Region.wanted;cases s:(ops[i]' ta).guard with
  | none=>rfl
  | some g =>have j:=T.gd i _ k m g s;dsimp only;unfold yielded;rw [uH T ab]
 rw [t] at h;split
 ·rename_i b;rw [if_pos b] at h;rcases h with h|⟨j,o,d,p⟩
  ·refine .inl ?_;unfold Oper.wp at h ⊢;generalize (execOp a.eval (ops[i]' ta)).run P w=r at *;cases r with
   | ok n d =>
     cases n<;>simp only [Oper.upon] at h ⊢;all_goals first
      | exact h
      | exact Calls.mono h (λe u c=>by cases e<;>exact c)
      | exact Rows.mono h (λ_ _ c=>c)
   | halt x d=>cases x<;>simp only [Oper.upon] at h ⊢ <;> exact h
  ·exact .inr ⟨j,o,d,p⟩
 ·rename_i b;rw [if_neg b] at h;exact h
theorem EX (T:sd ops L l):∀ (fuel:Nat) (listed:Array Bool) (a:Act) (w:World),listed.size=L->wpAny P .any ops.pop (Exit.then (λa w=>wpOp P ops Q L (λa w=>Q .normal a w) a w) Q) fuel listed a w->wpAny P .any ops Q (fuel+1) (listed.push false) a w:=by
 have g:∀ (m:Nat) (listed:Array Bool) (a:Act) (w:World),listed.size=L->Region.ready .any ops.pop listed=[]->wpOp P ops Q L (λa w=>Q .normal a w) a w->wpAny P .any ops Q (m+1) (listed.push false) a w:=by
  intro m listed a w b q h
  have f:=EW T b q
  have R:=T.size
  have I:L ∈ Region.ready .any ops (listed.push false):=mem_ready.2 ⟨by simp [Array.getD,Array.getElem_push,b],l,T.last,λe O N=>by
   have k:=T.ldn e O N
   rw [mV b k]
   exact f _ k⟩
  refine ⟨λB=>(by rw [B] at I;cases I),λi t=>?_⟩
  by_cases c:i=L
  ·subst c
   refine wpOp_mono (λG K v=>?_) h
   have J:Region.ready .any ops ((listed.push false).setIfInBounds i true)=[]:=by
    rw [List.eq_nil_iff_forall_not_mem]
    intro j A
    obtain ⟨k,o,d,_⟩:=mem_ready.1 A
    have y:j<ops.size:=(Array.getElem?_eq_some_iff.1 d).1
    by_cases u:j=i
    ·subst u
     simp [Array.getD,b] at k
    ·have z:=f j ab
     have H:((listed.push false).setIfInBounds i true).getD j true=listed.getD j true:=by
      rw [<- mV b (show j<i by omega)]
      simp only [Array.getD_eq_getD_getElem?,Array.getElem?_setIfInBounds_ne (Ne.symm u)]
     rw [H] at k
     have r:j<listed.size:=ab
     simp [Array.getD,r] at k z
     rw [k] at z
     cases z
   cases m with
   | zero=>exact ⟨J,v⟩
   | succ m=>exact ⟨λ_=>v,λj A=>by rw [J] at A;cases A⟩
  ·have E:i<L:=by
    obtain ⟨_,o,d,_⟩:=mem_ready.1 t
    have:=(Array.getElem?_eq_some_iff.1 d).1
    omega
   have:=(sf T b E).1 t
   rw [q] at this
   cases this
 intro fuel
 induction fuel with
 | zero=>intro listed a w b h;exact g 0 listed a w b h.1 h.2
 | succ fuel S =>
   intro listed a w b h
   by_cases q:Region.ready .any ops.pop listed=[]
   ·exact g _ listed a w b q (h.1 q)
   ·obtain ⟨x,F⟩:=List.exists_mem_of_ne_nil _ q
    have p:x<L:=by
     obtain ⟨_,o,d,_⟩:=mem_ready.1 F
     have y:=(Array.getElem?_eq_some_iff.1 d).1
     rw [Array.size_pop] at y
     have:=T.size
     omega
    refine ⟨λB=>(by have:=(sf T b p).2 F;rw [B] at this;cases this),λi t=>?_⟩
    have c:i<L:=by
     obtain ⟨_,o,d,y⟩:=mem_ready.1 t
     have z:=(Array.getElem?_eq_some_iff.1 d).1
     have H:=T.size
     by_cases e:i=L
     ·subst e
      rw [T.last] at d
      cases d
      have r:=T.all x p
      unfold kf at r
      rw [<- Array.any_toList] at r
      obtain ⟨e,s,n⟩:=List.any_eq_true.1 r
      rw [Array.mem_toList_iff] at s
      rw [Bool.and_eq_true,beq_iff_eq] at n
      have C:=y e s n.1
      rw [n.2,mV b p] at C
      have D:=(mem_ready.1 F).1
      have M:x<listed.size:=ab
      simp [Array.getD,M] at C D
      rw [C] at D
      cases D
     ·omega
    refine LZ T c (λG K v=>?_) (h.2 i ((sf T b c).1 t))
    rw [LY b c]
    exact S _ G K (by simp [b]) v
def GS:Nat->Array Oper->List KI->Option (List KI)
 | 0,ops,k=>some (.sq ops ops.size (Array.replicate ops.size false)::k)
 | j+1,ops,k=>match EV ops,ops[ops.size-1]? with
   | true,some l=>GS j ops.pop (.ops ops [l]::k)
   | _,_=>none
theorem L4:∀ (j:Nat) (ops:Array Oper) (k b:List KI) (a:Act) (w:World),GS j ops k=some b->iV P S Q b .normal a w->wpAny P .any ops (iV P S Q k) ops.size (Array.replicate ops.size false) a w:=by
 intro j;induction j with
 | zero =>intro ops k b a w h c;cases h;exact wpAny_of_held (S:=S) _ _ _ _ c
 | succ j o =>
   intro ops k b a w h c;unfold GS at h;split at h;·rename_i l d n;obtain ⟨L,p,T⟩:=Ch d;have f:=T.size;have m:ops.size-1=L:=ab;rw [m,T.last] at n;cases n;have g:=o ops.pop _ b a w h c;rw [Array.size_pop,m] at g;have e:(λa w=>wpOp P ops (iV P S Q k) L (λa w=>iV P S Q k .normal a w) a w)=wpList P ops (iV P S Q k) [l]:=(by funext a w;unfold wpOp wpList;rw [T.last];rfl);have i:wpAny P .any ops (iV P S Q k) (L+1) ((Array.replicate L false).push false) a w:=(by refine EX T L _ a w cp ?_;rw [e];exact g);have e2:(Array.replicate L false).push false=Array.replicate (L+1) false:=(by rw [Array.replicate_succ]);rw [e2] at i;rw [f];exact i
   ·cases h
def Ci (j:Nat) (k:List KI):Option (List KI):=match k with
 | .code (.region _ ops true)::k'=>GS j ops k'
 | _=>none
theorem iy (j:Nat) {n:Nat} {F:Fr} {w:World} {k:List KI} (h:Wg P S Q n ((Ci j k).getD []) F w.drew) (hm:P.follows .mixedOrders=true:=by kernel_rfl) (hk:(Ci j k).isSome=true:=by kernel_rfl):Wg P S Q n k F w:=λa c=>by
 obtain ⟨e,b⟩:=Option.isSome_iff_exists.1 hk;clear hk;rw [b,Option.getD_some] at h;unfold Ci at b;split at b;·rename_i id ops d;show (Go.Code.region id ops true).wp P (iV P S Q d) a w;exact wp_region_any hm (L4 j ops d e a w.drew b (h a c))
 ·cases b
theorem uI {n:Nat} {F:Fr} {w:World} {k:List KI} (h:Wg P S Q n ((Ci 1 k).getD []) F w.drew) (hm:P.follows .mixedOrders=true:=by kernel_rfl) (hk:(Ci 1 k).isSome=true:=by kernel_rfl):Wg P S Q n k F w:=iy 1 (hm:=hm) (hk:=hk) h
def Tm (kk:Nat) (k:List KI):Option (List KI):=match k with
 | .code (.region _ ops true)::k'=>some (.sk ops kk ops.size (Array.replicate ops.size false)::k')
 | _=>none
theorem lJ (kk:Nat) {n:Nat} {F:Fr} {w:World} {k:List KI} (h:Wg P S Q n ((Tm kk k).getD []) F w.drew) (hm:P.follows .mixedOrders=true:=by kernel_rfl) (hk:(Tm kk k).isSome=true:=by kernel_rfl):Wg P S Q n k F w:=λa b=>by
 unfold Tm at hk h;split at hk;·rename_i id ops c;show (Go.Code.region id ops true).wp P (iV P S Q c) a w;exact wp_region_any hm (vu _ _ _ _ (h a b))
 ·cases hk
def VW (k:List KI):Option (List KI):=match k with
 | .sw all m listed::k'=>some (.sq all m listed::k')
 | _=>none
theorem UP {n:Nat} {F:Fr} {w:World} {k:List KI} (h:Wg P S Q n ((VW k).getD []) F w) (hk:(VW k).isSome=true:=by kernel_rfl):Wg P S Q n k F w:=λa b=>by
 unfold VW at hk h;split at hk;·exact wpAny_of_held (S:=S) _ _ _ _ (h a b)
 ·cases hk
def aw:Nat->Go.Code->Go.Code
 | 0,c=>c
 | n+1,.seq _ y=>aw n y
 | _+1,c=>c
def iM:Go.Code->Go.Code
 | .seq x _=>x
 | c=>c
def Cj:Go.Code->Go.Code
 | .cond _ x _=>x
 | c=>c
def aM (fn:Func):Go.Code:=fn.body.getD .skip
theorem af {n:Nat} {F:Fr} {w:World} {k:List KI} (k1:List KI) (b:Fr) (h:Wg P S Q n k1 b w) (hk:k=k1:=by kernel_rfl) (hF:b.map (λy=>some y.2.1)=b.map λy=>(lk F y.1).map Prod.fst:=by kernel_rfl):Wg P S Q n k F w:=by subst hk;exact λa c=>h a (c.less hF)
end
theorem kl (d:Bool) (a1:Option Addr) (b c1:Nat) (a2:Option Addr) (c c2:Nat) (a:Int) (w:World) (k:b<=1048576) (l:c<=1048576): CB 70 #[.agg #[.u q,.u y,.bool d,.slice a1 b c1,.slice a2 c c2,.i a]] w (.bool (nZ b c a)):=by
 have e:nZ b c a=(decide ((b:Int)<=16)&&decide ((c:Int)<=4096)&&((a==0)||(a==1))):=by unfold nZ;rw [decide_eq_decide.2 (show b<=16↔(b:Int)<=16 by omega),decide_eq_decide.2 (show c<=4096↔(c:Int)<=4096 by omega),show decide (0<=a/\a<=1)=((a==0)||(a==1)) by rw [Bool.eq_iff_iff];simp;omega]
 rw [e];refine bD (S:=Bs w [(#[.u q,.u y,.bool d,.slice a1 b c1,.slice a2 c c2,.i a],30)]) (args:=[.agg #[.u q,.u y,.bool d,.slice a1 b c1,.slice a2 c c2,.i a]]) [(#[.u q,.u y,.bool d,.slice a1 b c1,.slice a2 c c2,.i a],30)] func70 ?_;cases g:decide ((b:Int)<=16)<;>cases i:decide ((c:Int)<=4096)<;>cases j:(a==0)<;>cases d4:(a==1)<;>exact bm (t:=2) Bs.eng {eq:=[(6,ak g),(11,ak i),(16,ak j),(20,ak d4)]} 60 (Bs.start _ _) (λf h=>⟨rfl,h.2⟩)
theorem L5 (m:q=33554432->¬ y=4) (k1:q=33570816->¬ y=8) (k2:q=33603576->¬ y=8) (n:q=268435456->¬ y=1) (o:q=268435457->¬ y=1) (p:q=268435461->¬ y=1) (w:World): CE 289 #[.u q,.i y] w (.bool false):=by
 have g:∀ {c d:Int},(q=c->¬ y=d)->(q==c)=true->(y==d)=false:=λh k=>by simpa using h (by simpa using k)
 refine bD (S:=λx=>x=w) (args:=[.u q,.i y]) [] func289 ?_;cases a:(q==33554432);case true=>exact jk (R:=[]) trivial {eq:=[(7,ak a),(9,ak (g m a))]} 99 (t:=4) ⟨rfl,rfl⟩
 cases b:(q==33570816);case true=>exact jk (R:=[]) trivial {eq:=[(7,ak a),(11,ak b),(14,ak (g k1 b))]} 99 (t:=4) ⟨rfl,rfl⟩
 cases f:(q==33603576);case true=>exact jk (R:=[]) trivial {eq:=[(7,ak a),(11,ak b),(12,ak f),(14,ak (g k2 f))]} 99 (t:=4) ⟨rfl,rfl⟩
 cases i:(q==268435456);case true=>exact jk (R:=[]) trivial {eq:=[(7,ak a),(11,ak b),(12,ak f),(16,ak i),(20,ak (g n i))]} 99 (t:=4) ⟨rfl,rfl⟩
 cases j:(q==268435457);case true=>exact jk (R:=[]) trivial {eq:=[(7,ak a),(11,ak b),(12,ak f),(16,ak i),(17,ak j),(20,ak (g o j))]} 99 (t:=4) ⟨rfl,rfl⟩
 cases l:(q==268435461);case true=>exact jk (R:=[]) trivial {eq:=[(7,ak a),(11,ak b),(12,ak f),(16,ak i),(17,ak j),(18,ak l),(20,ak (g p l))]} 99 (t:=4) ⟨rfl,rfl⟩
 exact jk (R:=[]) trivial {eq:=[(7,ak a),(11,ak b),(12,ak f),(16,ak i),(17,ak j),(18,ak l)]} 99 (t:=4) ⟨rfl,rfl⟩
theorem xO (a2:Option Addr) (c2:Nat) (w:World) (f:r.xs.length<=1048576) (g:r.ys.length<=1048576): CB 110 #[.agg #[.u r.t,.u r.cm,.bool r.so,.slice G r.xs.length V,.slice a2 r.ys.length c2,.i r.ir]] w (.u (jj r)):=by obtain ⟨t,b,c,d,i,a⟩:=r;have k:=λW (_:Bw w W)=>kl t b c G d.length V a2 i.length c2 a W f g;have e3:decide ((d.length:Int)>0)=decide (0<d.length):=decide_eq_decide.2 ab;unfold jj dO;dsimp only;generalize nZ d.length i.length a=p at *;generalize d.length=n at *;generalize i.length=m at *;refine bD (S:=Bs w [(#[.u t,.u b,.bool c,.slice G n V,.slice a2 m c2,.i a],30)]) (args:=[.agg #[.u t,.u b,.bool c,.slice G n V,.slice a2 m c2,.i a]]) [(#[.u t,.u b,.bool c,.slice G n V,.slice a2 m c2,.i a],30)] func110 ?_;cases p<;>cases c<;>cases l:decide (b<=t)<;>cases o:(a==1)<;>cases d4:decide (0<n)<;>rw [d4] at e3<;>exact bm (t:=2) Bs.eng {eq:=[(15,ak l),(20,ak o),(25,ak e3)],cv:=[(5,fY k)]} 90 (Bs.start _ _) (λj h=>⟨rfl,h.2⟩)
def Sb:List KI->Option (List Nat)
 | .sq all (_+1) listed::_=>some (Region.ready .any all listed)
 | _=>none
def Ck (F:Fr) (i:Nat):List KI->Option (Oper × List KI)
 | .sq all (m+1) listed::k=>match all[i]? with
   | some o=>match wn all F o with
     | some true=>some (o,.sq all m (listed.setIfInBounds i true)::k)
     | _=>none
   | none=>none
 | _=>none
def PN (F:Fr) (i:Nat) (k:List KI):List KI:=match Ck F i k with
 | some x=>x.2
 | none=>[]
def UQ (n:Nat) (F:Fr) (i:Nat) (k:List KI):Option (Sem Next):=match Ck F i k with
 | some (o,_)=>match o.op.operands.all (kn F)&&Bv o.op&&(match o.dst with | some d=>Nat.blt d n | none=>true) with
   | true=>some (execOp (ev F) o)
   | false=>none
 | none=>none
def PO (F:Fr) (i:Nat) (k:List KI) (v:Value) (t:Nat):Fr:=match Ck F i k with
 | some (o,_)=>match o.dst with
   | some d=>(d,v,t)::F
   | none=>F
 | none=>F
def UR (P:Program) (n:Nat) (F:Fr) (i:Nat) (k:List KI):Option (Nat × Array Value):=match Ck F i k with
 | some (o,_)=>match (match o.dst with | some d=>Nat.blt d n | none=>true) with
   | true=>rS P F o
   | false=>none
 | none=>none
def VB (P:Program) (S:World->Prop) (Q:Exit->Act->World->Prop) (i:Nat) (a:Act) (w:World):List KI->Prop
 | .sq all (m+1) listed::k'=>wpOp P all (iV P S Q k') i (λc b=>S b/\wpAnyH P .any all (iV P S Q k') S m (listed.setIfInBounds i true) c b) a w
 | _=>False
def Br (P:Program) (S:World->Prop) (Q:Exit->Act->World->Prop) (n:Nat) (k:List KI) (F:Fr) (w:World) (i:Nat):Prop:=∀ a,ch F n a->VB P S Q i a w k
theorem oI {i j:Nat} (f:Br W o D F L a w i) (g:Br W o D F L a w j) (hr:Sb L=some [i,j]:=by kernel_rfl):Wg W o D F L a w:=λk d=>by
 have b:=f k d;have c:=g k d;unfold VB at b c;unfold Sb at hr;split at hr
 ·rename_i all m listed h;simp only [Option.some.injEq] at hr;show wpAnyH W .any all (iV W o D h) o (m+1) listed k w;refine wpAnyH_all hr cp λq e=>?_;simp only [List.mem_cons,List.not_mem_nil,or_false] at e;rcases e with rfl | rfl;·exact b
  ·exact c
 ·cases hr
theorem GT {e:List KI} (h:Ck a k L=some (d,e)) (hk:ch a F s) (q:∀ K:Act->World->Prop,(∀ c b,o b->iV W o D e .normal c b->K c b)->d.wp W s w K (iV W o D e)):VB W o D k s w L:=by
 unfold Ck at h;split at h
 ·rename_i all m listed r;split at h
  ·rename_i Q l;split at h;·rename_i i;simp only [Option.some.injEq,Prod.mk.injEq] at h;obtain ⟨rfl,rfl⟩:=h;simp only [VB];refine wpOp_step l λf g=>?_;rw [if_pos (kS hk i)];exact q f λc b p j=>g c b ⟨p,j⟩
   ·cases h
  ·cases h
 ·cases h
theorem qL (hr:p.run W w=.ok (.value v) n) (hS:o n) (h:Wg W o D F (PN a k L) (PO a k L v V) n) (hx:UQ F a k L=some p:=by kernel_rfl):Br W o D F L a w k:=λw' f=>by
 unfold UQ at hx;unfold PN PO at h;cases j:Ck a k L with
 | none=>rw [j] at hx;cases hx
 | some y =>
   obtain ⟨S,s⟩:=y;rw [j] at hx h;dsimp only at hx h;split at hx
   ·rename_i c;cases hx;rw [Bool.and_eq_true,Bool.and_eq_true] at c;have g:execOp w'.eval S=execOp (ev a) S:=execOp_congr S (λcs b e=>by have:=c.1.2;rw [e] at this;cases this) λx hx=>f.eval (Array.all_eq_true_iff_forall_mem.1 c.1.1 x hx);refine GT j f λK l=>?_;show S.upon W w' K _ _;rw [g,hr];refine l _ _ hS (h _ ?_);cases m:S.dst with
    | none=>exact f
    | some d=>rw [m] at c;exact f.put c.2 v V
   ·cases hx
theorem nE (p:Calls W R b w A) (h:∀ e args,A e args->∃ v t,e=.returned v/\o args/\Wg W o D F (PN a k L) (PO a k L v t) args) (hx:UR W F a k L=some (R,b):=by kernel_rfl):Br W o D F L a w k:=λQ c=>by
 unfold UR at hx;unfold PN PO at h;cases j:Ck a k L with
 | none=>rw [j] at hx;cases hx
 | some y =>
   obtain ⟨S,u⟩:=y;rw [j] at hx h;dsimp only at hx h;split at hx
   ·rename_i l;refine GT j c λK m=>?_;show S.upon W Q K _ _;rw [rT c hx w];refine p.mono λe args q=>?_;obtain ⟨v,t,rfl,r,s⟩:=h e args q;refine m _ _ r (s _ ?_);cases g:S.dst with
    | none=>exact c
    | some d=>rw [g] at l;exact c.put l v t
   ·cases hx
structure TV where
 ld:Value
 wd:Int
 op:Int
 rd:Int
 ra:Int
 rb:Int
 im:Int
 fm:Value
 rs:Int
 nx:Int
 wr:Bool
 up:Bool
 cz:Int
 vl:Int
def bL (M:MV) (A:MA) (t:TV):Array Value:=#[.u M.pc,.slice A.ax M.x.length A.cx,.i M.pr,.slice A.ac M.cs.length A.cc,.slice A.ar M.ram.length A.cr,.u M.d.t,.u M.d.cm,.bool M.d.so,.slice A.ai M.d.xs.length A.ci,.slice A.ao M.d.ys.length A.co,.i M.d.ir,.u M.hd,.bool M.hl,.bool M.wt,t.ld,.u t.wd,.i t.op,.i t.rd,.i t.ra,.i t.rb,.i t.im,t.fm,.u t.rs,.u t.nx,.bool t.wr,.bool t.up,.i t.cz,.u t.vl]
theorem Iv.one (h:ix ⟨F,b,[]⟩ w):Iv [F] w [⟨F,b,[]⟩] w:=⟨λr a=>by rw [List.mem_singleton] at a;subst a;exact h,Ag.refl _ _,λr a=>by rw [List.mem_singleton] at a;subst a;simp,cp⟩
theorem km {M:MV} {A:MA} {t:TV} (h:ix ⟨F,bL M A t,[]⟩ w):Calls prog 201 #[.p F 0,.i q,.u y] w λe b=>e=.returned (.tuple #[])/\Iv [F] w [⟨F,bL M A {t with up:=true,cz:=q,vl:=y},[]⟩] b:=by refine gq (args:=[.p F 0,.i q,.u y]) (λ_=>True) func201 ?_;refine aN 0 1 ?_;exact gx (Iv.one h) {} 40 λW a=>⟨rfl,a⟩
theorem Iv.then1 (h:Iv B w [⟨F,b,[]⟩] n) (k:Iv [F] n [⟨F,Q,[]⟩] P):Iv B w [⟨F,Q,[]⟩] P :=
 ⟨k.rows,h.ag.trans ⟨k.ag.os,k.ag.tape,k.ag.output,k.ag.size,λi d c=>k.ag.block i d (by rw [List.mem_singleton];exact λe=>c (by rw [e];exact h.sub _ (List.mem_singleton.2 rfl)))⟩,λr cs=>by rw [List.mem_singleton] at cs;subst cs;exact h.sub ⟨F,b,[]⟩ (List.mem_singleton.2 rfl),cp⟩
theorem Iv.row1 (h:Iv B w [⟨F,b,[]⟩] n):ix ⟨F,b,[]⟩ n:=h.rows _ (List.mem_singleton.2 rfl)
def xA {P:Program} {bs:List Nat} {g:Nat} {w:World} {cs:Array Value} {f:Nat} {args:Array Value} {v:Value} (h:∀ W,Iv bs w [⟨g,cs,[]⟩] W->Calls P f args W λe b=>e=.returned v/\Iv [g] W [⟨g,cs,[]⟩] b):Cv P (Iv bs w [⟨g,cs,[]⟩]):=⟨f,args,v,0,λW a=>(h W a).mono λe b k=>⟨k.1,a.then1 k.2⟩⟩
theorem lK {p:Addr} (h:w.cell? p=some j):p.block<w.heap.size:=by
 unfold World.cell? at h;split at h;·rename_i a;exact (Array.getElem?_eq_some_iff.1 a).1
 ·cases h
theorem tI {M:TV} (h:ix ⟨F,bL t T M,[]⟩ w):Calls prog 157 #[.p F 0] w λe b=>e=.returned (.u (Uz.wrap M.im))/\Iv [F] w [⟨F,bL t T M,[]⟩] b:=by refine gq (args:=[.p F 0]) (λ_=>True) func157 ?_;refine aN 0 1 ?_;exact vS (t:=2) (v:=.u (Uz.wrap M.im)) (Iv.one h) {} 40 λW a=>⟨rfl,a⟩
theorem pz {M:TV} (h:ix ⟨F,bL t T M,[]⟩ w):Calls prog 151 #[.p F 0] w λe d=>e=.returned (.tuple #[])/\Iv [F] w [⟨F,bL t T {M with up:=true,cz:=2,vl:=M.wd},[]⟩] d:=by refine gq (args:=[.p F 0]) (λ_=>True) func151 ?_;refine aN 0 1 ?_;refine fN (Iv.one h) {} 40 (R1:=[⟨F,bL t T M,[]⟩]) (λW a=>km 2 M.wd a.row1) λW e d a c=>⟨_,0,c.1,?_⟩;exact gx (Iv.one c.2.row1) {} 40 λf b=>⟨rfl,(a.then1 c.2).then1 b⟩
theorem L7 {M:TV} (h:ix ⟨F,bL t T M,[]⟩ w) (c:T.ax=some ⟨k,R,none⟩) (f:0<=M.ra/\M.ra<t.x.length) (hb:k≠F) (hx:w.cell? ⟨k,R+M.ra.toNat,none⟩=some (.u x)):Calls prog 156 #[.p F 0] w λe i=>e=.returned (.u x)/\Iv [F] w [⟨F,bL t T M,[]⟩] i:=by
 have d:∀ W,Ag [F] w W->W.cell? ⟨k,R+M.ra.toNat,none⟩=some (.u x):=λW a=>by rw [<- hx];simp only [World.cell?,a.block k (lK hx) (by simpa using hb)]
 refine gq (args:=[.p F 0]) (λ_=>True) func156 ?_;refine aN 0 1 ?_;exact vS (t:=2) (v:=.u x) (Iv.one h) {ov:=[(13,kJ t.x.length T.cx .i64 M.ra c f underlying23 ba),(14,je _ _ underlying22 rfl d)]} 40 λW a=>⟨rfl,a⟩
theorem VC {M:TV} (h:ix ⟨F,bL t T M,[]⟩ w) (c:T.ax=some ⟨k,R,none⟩) (f:0<=M.rb/\M.rb<t.x.length) (hb:k≠F) (hx:w.cell? ⟨k,R+M.rb.toNat,none⟩=some (.u x)):Calls prog 159 #[.p F 0] w λe i=>e=.returned (.u x)/\Iv [F] w [⟨F,bL t T M,[]⟩] i:=by
 have d:∀ W,Ag [F] w W->W.cell? ⟨k,R+M.rb.toNat,none⟩=some (.u x):=λW a=>by rw [<- hx];simp only [World.cell?,a.block k (lK hx) (by simpa using hb)]
 refine gq (args:=[.p F 0]) (λ_=>True) func159 ?_;refine aN 0 1 ?_;exact vS (t:=2) (v:=.u x) (Iv.one h) {ov:=[(13,kJ t.x.length T.cx .i64 M.rb c f underlying23 ba),(14,je _ _ underlying22 rfl d)]} 40 λW a=>⟨rfl,a⟩
theorem vT:Calls prog 289 #[.u q,.i y] C λe a=>e=.returned (.bool (decide (gD q y<6)))/\a=C :=
 jW q y (λk=>CE 289 #[.u q,.i y] C (.bool (decide (k<6)))) (by rintro rfl rfl;exact Lo C) (by rintro rfl rfl;exact Lr C) (by rintro rfl rfl;exact Lt C) (by rintro rfl rfl;exact Lu C) (by rintro rfl rfl;exact Lw C) (by rintro rfl rfl;exact Lx C) λb c d f g h=>L5 q y b c d f g h C
theorem sg:(q=33554432/\gD q y=0)\/(q=33570816/\gD q y=1)\/(q=33603576/\gD q y=2)\/(q=268435456/\gD q y=3)\/(q=268435457/\gD q y=4)\/(q=268435461/\gD q y=5)\/gD q y=6 :=
 jW q y (λk=>(q=33554432/\k=0)\/(q=33570816/\k=1)\/(q=33603576/\k=2)\/(q=268435456/\k=3)\/(q=268435457/\k=4)\/(q=268435461/\k=5)\/k=6) (by simp_all) (by simp_all) (by simp_all) (by simp_all) (by simp_all) (by simp_all) cp
structure Dv (w:World) (D0:Array Value) (g B:Nat) (cs:Array Value) (L:List FRow) (W:World):Prop where
 inp:W.heap[w.heap.size]?=some (.cells D0 30 (0,0))
 out:∃ o:Array Value,o.size=6/\W.heap[w.heap.size+1]?=some (.cells o 30 (0,0))
 row:W.heap[g]?=some (.cells cs 30 (0,0))
 fam:bz B W.heap.size W L
 far:∀ q ∈ L,q.v.ownBlock≠some g
 lo:w.heap.size+2<=B/\B<=g
 bl:Bw w W
theorem Dv.below (h:Dv w b g F Q f n) (k:Bw n P):Dv w b g F Q f P:=⟨br k h.inp,let ⟨o,a,D0⟩:=h.out;⟨o,a,br k D0⟩,br k h.row,(h.fam.below k).low (Nat.le_refl _) k.size,h.far,h.lo,aa h.bl k⟩
theorem Dv.set (h:Dv w b F k Q f n) (i:Nat) (v:Value):Dv w b F k (Q.setIfInBounds i v) f (n.setCell ⟨F,i,none⟩ v):=by have:=h.lo;refine ⟨gL h.inp _ _ di,let ⟨o,D0,c⟩:=h.out;⟨o,D0,gL c _ _ di⟩,bH h.row i v,?_,h.far,h.lo,h.bl.setCell (p:=⟨F,i,none⟩) di _⟩;rw [aX];exact ⟨λr a=>eu (h.fam.own r a) λB e=>Below.heap_setCell n _ v B λe2=>h.far r a (e.trans (congrArg some e2)),h.fam.hi,h.fam.ne⟩
theorem Dv.put (h:Dv w b F k Q f n) (d:Array Value) (hd:d.size=6):Dv w b F k Q f (n.setRow (w.heap.size+1) d):=by have:=h.lo;obtain ⟨o,D0,a⟩:=h.out;refine ⟨(setRow_other _ _ _ _ ab).trans h.inp,⟨d,hd,setRow_heap _ _ _ _ _ _ a⟩,(setRow_other _ _ _ _ ab).trans h.row,?_,h.far,h.lo,aS h.bl ab _⟩;rw [setRow_size];exact h.fam.mono λB c e L=>setRow_other _ _ _ _ ab
theorem Dv.fin (h:Dv w b F k Q f n):bz w.heap.size n.heap.size n f/\Bw w n:=⟨h.fam.low (by have:=h.lo;omega) (Nat.le_refl _),h.bl⟩
theorem Dv.st (h:Dv w b F k Q f n) (T:TypeId) (i:Nat) (v:Value) (hs:Q.size=6:=by rfl) (cs:i<6:=by decide) (a:(W.info? T).map (·.size)=some 1:=by kernel_rfl) (hv:v.cells=#[v]:=by rfl) (c:v.oneCell'=true:=by rfl):(do Instr.storeAt T (.p F i) v;pure Next.skip:Sem Next).run W n=.ok .skip (n.setCell ⟨F,i,none⟩ v):=
 iD (old:=Q[i]) ⟨by simp [World.cell?,h.row,hs,cs],ic h.row i⟩ a hv c
theorem Dv.rows (h:Dv w b F k Q f n):iq n [⟨w.heap.size,b,[]⟩,⟨w.heap.size,b,[]⟩,⟨F,Q,[]⟩]:=⟨⟨_,_,h.inp⟩,⟨_,_,h.inp⟩,⟨_,_,h.row⟩,trivial⟩
theorem Dv.start {D:DV} {a1 a a2 b2:Option Addr} {c:Nat} (h:Bs w [(gh D a1 F a2 R,30),(gh zeroD none 0 none 0,30)] n) (g:bz n.heap.size P.heap.size P (vm D a k b2 c)) (k2:Bw n P):Dv w (gh D a1 F a2 R) P.heap.size n.heap.size (gh D a k b2 c) (vm D a k b2 c) ((P.alloc (.cells (Value.agg (gh zeroD none 0 none 0)).cells 30)).setRow P.heap.size (gh D a k b2 c)):=by have d:Bw P ((P.alloc (.cells (Value.agg (gh zeroD none 0 none 0)).cells 30)).setRow P.heap.size (gh D a k b2 c)):=aS (bal _ _) (Nat.le_refl _) _;have f:=(h.below k2).below d;have b:=(Array.getElem?_eq_some_iff.1 (h.1 1 _ rfl)).1;have j:=k2.size;exact ⟨f.1 0 _ rfl,⟨_,rfl,f.1 1 _ rfl⟩,setRow_heap _ _ _ _ _ _ (heap_alloc_new _ _),(g.below d).low (Nat.le_refl _) d.size,λq i e=>by have:=g.hi q i _ e;omega,⟨ab,j⟩,f.2⟩
theorem si (c2:Nat) (addr size x:Int) (w:World) (y:r.xs.length<=1048576) (A:r.ys.length<=1048576) (hb:dW r) (H:Sl .u8 w G r.xs) (B:Sl .u8 w l r.ys): Calls prog 288 #[.agg #[.u r.t,.u r.cm,.bool r.so,.slice G r.xs.length V,.slice l r.ys.length c2,.i r.ir],.u addr,.i size,.u x] w λe K=>∃ (b:Option Addr) (c:Nat) (f:Option Addr) (i:Nat),e=.returned (.tuple #[.agg (gh (rP r addr size x).1 b c f i),.bool (rP r addr size x).2]) /\ bz w.heap.size K.heap.size K (vm (rP r addr size x).1 b c f i)/\Bw w K:=by
 have n:=λW (_:Bw w W)=>kl r.t r.cm r.so G r.xs.length V l r.ys.length c2 r.ir W y A
 have C:=λW (_:Bw w W)=>vT addr size W
 unfold rP
 refine bD (S:=Bs w [(gh r G V l c2,30),(gh zeroD none 0 none 0,30)]) (args:=[.agg (gh r G V l c2),.u addr,.i size,.u x]) [(gh r G V l c2,30),(gh zeroD none 0 none 0,30)] func288 ?_
 cases J:nZ r.xs.length r.ys.length r.ir with
 | false =>
   rw [J] at n
   rw [if_neg bc]
   refine ae Bs.eng {cv:=[(12,fY n)]} 40 (Bs.start _ _) λp a2=>?_
   exact jA (R:=[]) trivial {} 40 (a2.1 1 _ rfl) rfl (fM _ _ _ _ _) underlying30 ⟨none,0,none,0,rfl,lD _ _ _,aS a2.2 ab _⟩
 | true =>
   rw [J] at n
   rw [if_pos rfl]
   by_cases L:gD addr size=6
   ·rw [L] at C ⊢
    refine ae Bs.eng {cv:=[(12,fY n),(17,mL C)]} 40 (Bs.start _ _) λp a2=>?_
    exact jA (R:=[]) trivial {} 40 (a2.1 1 _ rfl) rfl (fM _ _ _ _ _) underlying30 ⟨none,0,none,0,rfl,lD _ _ _,aS a2.2 ab _⟩
   ·rw [decide_eq_true (by rcases sg addr size with h|h|h|h|h|h|h<;>omega)] at C
    refine aW Bs.eng {cv:=[(12,fY n),(17,mL C)]} 60 (Bs.start _ _) (λp a2=>qf r.t r.cm r.so G r.xs.length V l r.ys.length c2 r.ir r.xs r.ys p rfl rfl y A (H.below a2.2) (B.below a2.2)) ?_
    rintro p e s a2 ⟨b,c,f,i,rfl,N,O⟩
    refine ⟨_,0,rfl,gE ba,?_⟩
    refine dM 3 (dQ (T:=30) (z:=.agg (gh zeroD none 0 none 0)) ba s) ?_
    refine bM (aD (g:=s.heap.size) (t:=30) (ty:=30) (old:=gh zeroD none 0 none 0) (cells:=gh r b c f i) (heap_alloc_new _ _) ba rfl (fM _ _ _ _ _)) ?_
    have q:=Dv.start a2 N O
    generalize (s.alloc (.cells (Value.agg (gh zeroD none 0 none 0)).cells 30)).setRow s.heap.size (gh r b c f i)=m at q ⊢
    generalize s.heap.size=g at q ⊢
    rcases sg addr size with ⟨rfl,e⟩|⟨rfl,e⟩|⟨rfl,e⟩|⟨rfl,e⟩|⟨rfl,e⟩|⟨rfl,e⟩|e<;>rw [e]
    ·refine aO (R:=[]) trivial {} 40 (yH x m) ?_
     rintro e E ⟨rfl,F⟩
     refine ⟨_,0,rfl,?_⟩
     have d:=q.below (Below.refl m.heap.size m).drew
     rw [<- F] at d
     have a:=d.set 2 (.bool (bits .and .u64 x 1==1))
     refine ct (R:=[]) trivial {} 40 (d.st 4 2 (.bool (bits .and .u64 x 1==1))) ?_
     obtain ⟨o,j,k⟩:=a.out
     exact jA a.rows {} 40 k (by exact j) (fM _ _ _ _ _) underlying30 ⟨b,c,f,i,rfl,(a.put _ rfl).fin⟩
    ·have a:=q.set 1 (.u x)
     refine ct (R:=[]) trivial {} 40 (q.st 22 1 (.u x)) ?_
     obtain ⟨o,j,k⟩:=a.out
     exact jA a.rows {} 40 k (by exact j) (fM _ _ _ _ _) underlying30 ⟨b,c,f,i,rfl,(a.put _ rfl).fin⟩
    ·have a:=q.set 0 (.u x)
     refine ct (R:=[]) trivial {} 40 (q.st 22 0 (.u x)) ?_
     obtain ⟨o,j,k⟩:=a.out
     exact jA a.rows {} 40 k (by exact j) (fM _ _ _ _ _) underlying30 ⟨b,c,f,i,rfl,(a.put _ rfl).fin⟩
    ·refine aO q.rows {} 40 (vI l _ c2 4096 r.ys (IntKind.u8.wrap x) m rfl ab (GM J).2.1 (B.below q.bl)) ?_
     rintro e E ⟨u,v,rfl,M,I⟩
     refine ⟨_,0,rfl,?_⟩
     have d:=q.below I
     have Q:=(Array.getElem?_eq_some_iff.1 q.row).1
     have U:=q.lo
     have P:Dv w (gh r G V l c2) g p.heap.size (gh r b c f i) (vm ⟨r.t,r.cm,r.so,r.xs,iu r.ys (IntKind.u8.wrap x) 4096,r.ir⟩ b c u v) E:=⟨d.inp,d.out,d.row,((q.fam.below I).newOut u _ v _ _ E.heap.size M (Nat.le_refl _) ab (Nat.le_refl _) I.size),λD a1 e=>by
      rcases List.mem_cons.1 a1 with rfl|a1
      ·exact q.far _ (List.mem_cons_self ..) e
      ·rw [List.mem_singleton.1 a1] at e
       have:=(M.lt g e).1
       omega,d.lo,d.bl⟩
     have a:=P.set 4 (.slice u (iu r.ys (IntKind.u8.wrap x) 4096).length v)
     refine ct (R:=[]) trivial {} 40 (d.st 24 4 (.slice u (iu r.ys (IntKind.u8.wrap x) 4096).length v)) ?_
     obtain ⟨o,j,k⟩:=a.out
     exact jA a.rows {} 40 k (by exact j) (fM ⟨r.t,r.cm,r.so,r.xs,iu r.ys (IntKind.u8.wrap x) 4096,r.ir⟩ _ _ _ _) underlying30 ⟨b,c,u,v,rfl,(a.put _ rfl).fin⟩
    ·rw [show fX r x 4=(⟨r.t,r.cm,r.so,r.xs,r.ys,IntKind.i64.wrap (bits .and .u64 x 1)⟩,true) by simp only [fX,IntKind.wrap_i64,wrap64]]
     refine aO (R:=[]) trivial {} 40 (yH x m) ?_
     rintro e E ⟨rfl,F⟩
     refine ⟨_,0,rfl,?_⟩
     have d:=q.below (Below.refl m.heap.size m).drew
     rw [<- F] at d
     have a:=d.set 5 (.i (IntKind.i64.wrap (bits .and .u64 x 1)))
     refine ct (R:=[]) trivial {} 40 (d.st 2 5 (.i (IntKind.i64.wrap (bits .and .u64 x 1)))) ?_
     obtain ⟨o,j,k⟩:=a.out
     exact jA a.rows {} 40 k (by exact j) (fM _ _ _ _ _) underlying30 ⟨b,c,f,i,rfl,(a.put _ rfl).fin⟩
    ·obtain ⟨o,j,k⟩:=q.out
     exact jA (cs:=gh r b c f i) q.rows {} 90 k j (fM _ _ _ _ _) underlying30 ⟨b,c,f,i,rfl,(q.put _ rfl).fin⟩
    ·exact absurd e L
theorem Dv.dw (h:Dv w b g F Q f n) (k:Dw n P):Dv w b g F Q f P:=h.below (k.below (Below.refl _ _))
theorem Dv.ez:Ez (Dv w b F k Q f) [⟨w.heap.size,b,[]⟩,⟨w.heap.size,b,[]⟩,⟨F,Q,[]⟩]:=⟨λW h=>λr a=>qd h.rows a,λW h=>h.below (Below.refl _ _).drew⟩
theorem L8 (b:gD q y≠6) (a:q≠268435456) (W:World):CB 291 #[.agg (gh r G V l m),.u q] W (.u (jw r (gD q y)).1):=by
 rcases sg q y with ⟨rfl,e⟩|⟨rfl,e⟩|⟨rfl,e⟩|⟨rfl,e⟩|⟨rfl,e⟩|⟨rfl,e⟩|e<;>rw [e];·exact S8 _ _ _ _ _ _ _ _ _ _ W
 ·exact S9 _ _ _ _ _ _ _ _ _ _ W
 ·exact Ta _ _ _ _ _ _ _ _ _ _ W
 ·exact absurd rfl a
 ·exact Tb _ _ _ _ _ _ _ _ _ _ W
 ·exact Tc _ _ _ _ _ _ _ _ _ _ W
 ·exact absurd e b
theorem uq (w:r.xs.length<=1048576) (E:r.ys.length<=1048576) (hb:dW r) (F:Sl .u8 C G r.xs) (M:Sl .u8 C l r.ys): Calls prog 285 #[.agg #[.u r.t,.u r.cm,.bool r.so,.slice G r.xs.length V,.slice l r.ys.length m,.i r.ir],.u q,.i y] C λe O=>∃ (f:Option Addr) (i:Nat) (b:Option Addr) (c:Nat),e=.returned (.tuple #[.u (vq r q y).1,.agg (gh (vq r q y).2.1 f i b c),.bool (vq r q y).2.2]) /\ bz C.heap.size O.heap.size O (vm (vq r q y).2.1 f i b c)/\Bw C O:=by
 have A:=λW (_:Bw C W)=>kl r.t r.cm r.so G r.xs.length V l r.ys.length m r.ir W w E
 have H:=λW (_:Bw C W)=>vT q y W
 unfold vq
 refine bD (S:=Bs C [(gh r G V l m,30),(gh zeroD none 0 none 0,30)]) (args:=[.agg (gh r G V l m),.u q,.i y]) [(gh r G V l m,30),(gh zeroD none 0 none 0,30)] func285 ?_
 cases N:nZ r.xs.length r.ys.length r.ir with
 | false =>
   rw [N] at A
   rw [if_neg bc]
   refine ae Bs.eng {cv:=[(13,fY A)]} 40 (Bs.start _ _) λn d=>?_
   refine bM (aD (t:=30) (ty:=30) (cells:=gh zeroD none 0 none 0) (d.1 1 _ rfl) ba rfl (fM _ _ _ _ _)) ?_
   refine gz (R:=[]) trivial {} 40 λa size=>⟨.tuple #[.u 0,.agg (gh zeroD none 0 none 0),.bool false],?_,none,0,none,0,rfl,lD _ _ _,aS d.2 ab _⟩
   rw [bU results285 a.tmps _ _ _ _ (0,0) _ (size.slot ba) (setRow_heap _ _ _ _ _ _ (d.1 1 _ rfl)) underlying30 rfl ba,size.slot (v:=.u 0) ba,size.slot (v:=.bool false) ba]
 | true =>
   rw [N] at A
   rw [if_pos rfl]
   by_cases K:gD q y=6
   ·rw [K] at H ⊢
    refine ae Bs.eng {cv:=[(13,fY A),(18,mL H)]} 40 (Bs.start _ _) λn d=>?_
    refine bM (aD (t:=30) (ty:=30) (cells:=gh zeroD none 0 none 0) (d.1 1 _ rfl) ba rfl (fM _ _ _ _ _)) ?_
    refine gz (R:=[]) trivial {} 40 λa size=>⟨.tuple #[.u 0,.agg (gh zeroD none 0 none 0),.bool false],?_,none,0,none,0,rfl,lD _ _ _,aS d.2 ab _⟩
    rw [bU results285 a.tmps _ _ _ _ (0,0) _ (size.slot ba) (setRow_heap _ _ _ _ _ _ (d.1 1 _ rfl)) underlying30 rfl ba,size.slot (v:=.u 0) ba,size.slot (v:=.bool false) ba]
   ·rw [decide_eq_true (by rcases sg q y with h|h|h|h|h|h|h<;>omega)] at H
    refine aW Bs.eng {cv:=[(13,fY A),(18,mL H)]} 60 (Bs.start _ _) (λn d=>qf r.t r.cm r.so G r.xs.length V l r.ys.length m r.ir r.xs r.ys n rfl rfl w E (F.below d.2) (M.below d.2)) ?_
    rintro n e B d ⟨f,i,b,c,rfl,X,k2⟩
    refine ⟨_,0,rfl,gE ba,?_⟩
    refine dM 3 (dQ (T:=30) (z:=.agg (gh zeroD none 0 none 0)) ba B) ?_
    refine bM (aD (g:=B.heap.size) (t:=30) (ty:=30) (old:=gh zeroD none 0 none 0) (cells:=gh r f i b c) (heap_alloc_new _ _) ba rfl (fM _ _ _ _ _)) ?_
    have addr:=Dv.start d X k2
    generalize (B.alloc (.cells (Value.agg (gh zeroD none 0 none 0)).cells 30)).setRow B.heap.size (gh r f i b c)=Y at addr ⊢
    generalize B.heap.size=g at addr ⊢
    cases I:(q==268435456) with
    | false =>
      have P:=L8 r G V l m q y K (by simpa using I)
      have e2:jw r (gD q y)=((jw r (gD q y)).1,r,true):=by
       rcases sg q y with ⟨rfl,e⟩ | ⟨rfl,e⟩ | ⟨rfl,e⟩ | ⟨rfl,e⟩ | ⟨rfl,e⟩ | ⟨rfl,e⟩ | e<;>first | exact absurd e K | simp at I;done | (rw [e];rfl)
      rw [e2]
      generalize (jw r (gD q y)).1=v at P ⊢
      refine aJ (Dv C (gh r G V l m) g n.heap.size (gh r f i b c) (vm r f i b c)) ?_
      refine uF Dv.ez addr {eq:=[(25,ak I)]} 60 (λW _=>P W) ?_
      rintro W e J k ⟨rfl,a1⟩
      have j:=(addr.dw k).below a1
      refine ⟨_,0,rfl,j,?_⟩
      exact mi (s:=6) (p:=7) (u:=8) (T:=30) (cs:=gh r f i b c) (v1:=.u v) (v2:=.bool true) Dv.ez j {} 60 (λW h=>h.put _ rfl) (λW h=>let ⟨o,k,x⟩:=h.out;⟨o,_,k,x⟩) ba (fM _ _ _ _ _) underlying30 rfl rfl ba ba ba λW c1 k x=>⟨f,i,b,c,rfl,(((j.dw k).put _ rfl).dw x).fin⟩
    | true =>
      have e3:q=268435456:=by simpa using I
      subst e3
      have e4:gD 268435456 y=3:=by rcases sg 268435456 y with h|h|h|h|h|h|h<;>omega
      rw [e4]
      have Z:Uz.wrap (r.xs.getD 0 0)=r.xs.getD 0 0:=Ly _ (jd hb.1 0).1 (jd hb.1 0).2
      refine aO addr.rows {} 60 (rX G _ V r.xs Y rfl (by have:=(GM N).1;omega) (F.below addr.bl)) ?_
      rintro e J ⟨a2,c2,rfl,Q,a1⟩
      refine ⟨_,0,rfl,?_⟩
      have j:=addr.below a1
      have s3:=(Array.getElem?_eq_some_iff.1 addr.row).1
      have s4:=addr.lo
      have q6:Dv C (gh r G V l m) g n.heap.size (gh r f i b c) (vm ⟨r.t,r.cm,r.so,r.xs.drop 1,r.ys,r.ir⟩ a2 c2 b c) J:=⟨j.inp,j.out,j.row,((addr.fam.below a1).newIn a2 _ c2 _ _ J.heap.size Q (Nat.le_refl _) ab (Nat.le_refl _) a1.size),λD L e=>by
       rcases List.mem_cons.1 L with rfl|L
       ·have:=(Q.lt g e).1
        omega
       ·exact addr.far _ (List.mem_cons_of_mem _ L) e,j.lo,j.bl⟩
      have U:=q6.set 3 (.slice a2 (r.xs.drop 1).length c2)
      refine ct (R:=[]) trivial {} 40 (j.st 24 3 (.slice a2 (r.xs.drop 1).length c2)) ?_
      refine aJ (Dv C (gh r G V l m) g n.heap.size (gh ⟨r.t,r.cm,r.so,r.xs.drop 1,r.ys,r.ir⟩ a2 c2 b c) (vm ⟨r.t,r.cm,r.so,r.xs.drop 1,r.ys,r.ir⟩ a2 c2 b c)) ?_
      exact mi (s:=6) (p:=7) (u:=8) (T:=30) (cs:=gh ⟨r.t,r.cm,r.so,r.xs.drop 1,r.ys,r.ir⟩ a2 c2 b c) (v1:=.u (Uz.wrap (r.xs.getD 0 0))) (v2:=.bool true) Dv.ez U {} 60 (λW h=>h.put _ rfl) (λW h=>let ⟨o,k,x⟩:=h.out;⟨o,_,k,x⟩) ba (fM _ _ _ _ _) underlying30 rfl rfl ba ba ba λW c1 k x=>⟨a2,c2,b,c,by rw [Z];rfl,(((Dv.dw U k).put _ rfl).dw x).fin⟩
theorem xP (ca f:Nat) (xs:List Int) (w:World) (hx:xs.length=m) (hn:m<=1048576) (hs:Sl .i64 w G xs) (F:Sl .i64 w l xs): CB 25 #[.slice G m ca,.slice l m f] w (.bool true):=by
 refine bD (S:=Bs w []) (args:=[.slice G m ca,.slice l m f]) [] func25 ?_;have d:((m:Int) != (m:Int))=false:=cp
 refine ae Bs.eng {eq:=[(10,ak d)]} 20 (Bs.start w []) λI B=>?_;refine mh (λi:Nat=>[(0,.slice G m ca,0),(1,.slice l m f,0),(5,.i i,0)]) (λj i W=>i+j=m/\Bs w [] W) m 0 ba ba ⟨ab,B⟩ ?_;rintro j i W ⟨J,r⟩ R C;cases j with
 | zero =>have q:decide ((i:Int)<(m:Int))=false:=ck;exact bm (t:=4) (v:=.bool true) Bs.eng {eq:=[(14,ak q)]} 60 r λW h=>⟨rfl,h.2⟩
 | succ j =>have q:decide ((i:Int)<(m:Int))=true:=ef;obtain ⟨o,s,A,g,b⟩:=hs i ab;obtain ⟨p,u,e2,k,n⟩:=F i ab;have y:∀ V,Bs w [] V->V.cell? ⟨o,s+i,none⟩=some (.i (xs.getD i 0)):=λV h=>(h.2.cell (by exact g)).trans b;have z:∀ V,Bs w [] V->V.cell? ⟨p,u+i,none⟩=some (.i (xs.getD i 0)):=λV h=>(h.2.cell (by exact k)).trans n;have d:(xs.getD i 0 != xs.getD i 0)=false:=cp;have a:IntKind.i64.wrap ((i:Nat)+1:Int)=((i+1:Nat):Int):=kp;generalize xs.getD i 0=x at *;exact Ep Bs.eng {eq:=[(14,ak q),(25,ak d),(16,dP .i64 a)],ov:=[(19,kJ m ca .i64 (i:Int) A ⟨ab,ab⟩ underlying39 ba),(20,je ⟨o,s+(i:Int).toNat,none⟩ (.i x) underlying2 rfl y),(23,kJ m f .i64 (i:Int) e2 ⟨ab,ab⟩ underlying39 ba),(24,je ⟨p,u+(i:Int).toNat,none⟩ (.i x) underlying2 rfl z)]} 60 r λc V D E=>C c V j (i+1) ab (E.less ba) ⟨ab,D⟩
end Go.Proofs.YtjifdmoehfbihaaGreatDoor
