/- Own lemmas. -/
import Derived.Test.YtlidafnochnddaaGreatDoorAut
import Derived.Test.YtlidafnochnddaaGreatDoorK08
namespace Go.Proofs.YtlidafnochnddaaGreatDoor
open Go.RowKit
open Bool renaming and_eq_true->R4
open Go renaming World->H3,bodyPost->H5,Program->H8,execOp->I4,Oper->I5,Code->K0,Value->K1,wp_region_any->K4,results_none->L4,execOp_congr->L5,wpList_step->L6,wpAnyH_done->L7
open List renaming all_eq_true->S2,mem_range->S5,getElem?_eq_some_iff->T0,mem_map->T2,mem_of_getElem?->T3,map_inj_left->T4
open Nat renaming blt->T5,beq->T6
open Prod renaming fst->R5,snd->S1
open Region renaming ready->M5,wanted->M7,noSelect->N1,binds->P2
open _root_.Array renaming getElem?_eq_some_iff->A0,all_eq_true_iff_forall_mem->A5,replicate->A6,getElem?_eq_getElem->F0,getElem?_setIfInBounds_ne->F3,getD->G3,getElem_push->H1,size_pop->H2
set_option linter.unusedVariables false
variable {w n P:H3} {F R:Nat} {k:List Nat} {a:H8} {b:List Rw} {Q:Fr} {c:List KI} {T:Ending->H3->Prop} {o:Func} {S:H3->Prop} {W:Exit->Act->H3->Prop} {f:Act} {g:I5} {j:List (Oe × Oe)}
def fY (r:Rw) (w:H3):Prop:=∃ t,w.heap[r.b]?=some (.cells r.cs t (0,0))
structure Ag (bs:List Nat) (w W:H3):Prop where
 os:W.os=w.os
 tape:W.tape=w.tape
 output:W.output=w.output
 size:w.heap.size<=W.heap.size
 block:∀ k,k<w.heap.size->k ∉ bs->W.heap[k]?=w.heap[k]?
theorem Ag.refl (bs:List Nat) (w:H3):Ag bs w w:=⟨rfl,rfl,rfl,Nat.le_refl _,λ_ _ _=>rfl⟩
theorem Ag.trans (h:Ag k w n) (bs:Ag k n P):Ag k w P:=⟨bs.os.trans h.os,bs.tape.trans h.tape,bs.output.trans h.output,Nat.le_trans h.size bs.size,λi e d=>(bs.block i (Nat.lt_of_lt_of_le e h.size) d).trans (h.block i e d)⟩
theorem Ag.below (h:Ag k w n) (bs:Bw n P):Ag k w P:=h.trans ⟨bs.os,bs.tape,bs.output,bs.size,λi d _=>bs.block i d⟩
theorem Ag.drew (h:Ag k w n):Ag k w n.drew:=⟨h.os,h.tape,h.output,h.size,h.block⟩
theorem I3 (a:F ∈ k) (w:H3) (i:Nat) (v:K1):Ag k w (w.setCell ⟨F,i,none⟩ v):=⟨rfl,rfl,rfl,bh,λbs _ b=>Below.heap_setCell w _ v bs (λe=>b (by rw [e];exact a))⟩
def sK {b:Type} (P:H8):Sem b->Rw->Option (b × Rw × List (Addr × Addr))
 | .pure a,r=>some (a,r,[])
 | .load _ a k,r=>match r.cs[a.off]? with
   | none=>none
   | some v=>match sK P (k v) r with
     | none=>none
     | some x=>some (x.1,x.2.1,(a,⟨r.b,a.off,none⟩)::x.2.2)
 | .store _ a v k,r=>match v.oneCell' with
   | false=>none
   | true=>match r.cs[a.off]? with
     | none=>none
     | some _=>match sK P k {r with cs:=r.cs.setIfInBounds a.off v} with
       | none=>none
       | some x=>some (x.1,x.2.1,(a,⟨r.b,a.off,none⟩)::x.2.2)
 | .program k,r=>sK P (k P) r
 | .mark _ k,r=>sK P k r
 | _,_=>none
theorem Mr {I:Type} {bs:List Nat}:∀ (s:Sem I) (r b:Rw) (x:I) (d:List (Addr × Addr)) (w:H3),sK a s r=some (x,b,d)->(∀ e ∈ d,e.1=e.2)->r.b ∈ bs->fY r w->∃ z,s.run a w=.ok x z/\fY b z/\b.b=r.b/\b.tg=r.tg/\Ag [r.b] w z:=by
 intro s;induction s with
 | pure P =>intro r b x d w h _ _ i;simp only [sK,Option.some.injEq,Prod.mk.injEq] at h;obtain ⟨rfl,rfl,_⟩:=h;exact ⟨w,rfl,i,rfl,rfl,Ag.refl _ _⟩
 | load m P k l =>
   intro r b x d w h g p i;unfold sK at h;cases q:r.cs[P.off]? with
   | none=>rw [q] at h;cases h
   | some v =>
     rw [q] at h;dsimp only at h;cases j:sK a (k v) r with
     | none=>rw [j] at h;cases h
     | some y =>rw [j] at h;simp only [Option.some.injEq,Prod.mk.injEq] at h;obtain ⟨A,B,C⟩:=h;subst C;have o:P=⟨r.b,P.off,none⟩:=g (P,⟨r.b,P.off,none⟩) bh;obtain ⟨t,c⟩:=i;have D:w.cell? P=some v:=(by rw [o];simp only [World.cell?,c];simpa using q);simp only [Sem.run,D];exact l v r b x y.2.2 w (by rw [j,<- A,<- B]) (λe h=>g e (by simp [h])) p ⟨t,c⟩
 | store m P v k l =>
   intro r b x d w h g p i;unfold sK at h;cases n:v.oneCell' with
   | false=>rw [n] at h;cases h
   | true =>
     rw [n] at h;dsimp only at h;cases q:r.cs[P.off]? with
     | none=>rw [q] at h;cases h
     | some u =>
       rw [q] at h;dsimp only at h;cases j:sK a k {r with cs:=r.cs.setIfInBounds P.off v} with
       | none=>rw [j] at h;cases h
       | some y =>
         rw [j] at h;simp only [Option.some.injEq,Prod.mk.injEq] at h;obtain ⟨A,B,C⟩:=h;subst C;have o:P=⟨r.b,P.off,none⟩:=g (P,⟨r.b,P.off,none⟩) bh;obtain ⟨t,c⟩:=i;have D:w.cell? P=some u:=(by rw [o];simp only [World.cell?,c];simpa using q);have M:w.frozen? P=false:=(by rw [o];simp [World.frozen?,c]);have f:(w.setCell P v).heap[r.b]?=some (.cells (r.cs.setIfInBounds P.off v) t (0,0)):=(by rw [o];exact bj c P.off v);obtain ⟨z,F,G,J,K,H⟩:=l {r with cs:=r.cs.setIfInBounds P.off v} b x y.2.2 (w.setCell P v) (by rw [j,<- A,<- B]) (λe h=>g e (by simp [h])) p ⟨t,f⟩;refine ⟨z,?_,G,J,K,?_⟩
         ·have E:(Sem.store m P v k).run a w=k.run a (w.setCell P v):=by clear o g l F G H f j;cases v<;>first | (simp only [Sem.run,D,M,Bool.false_eq_true,if_false];done) | (cases n;done)
          rw [E];exact F
         ·have L:Ag [r.b] w (w.setCell P v):=(by rw [o];exact I3 bh w _ v);exact L.trans H
 | program k l=>intro r b x d w h g p i;exact l a r b x d w h g p i
 | mark m k l=>intro r b x d w h g p i;exact l r b x d w h g p i
 | new=>intro r b x d w h;cases h
 | shape=>intro r b x d w h;cases h
 | freeze=>intro r b x d w h;cases h
 | frozen=>intro r b x d w h;cases h
 | getObj=>intro r b x d w h;cases h
 | setObj=>intro r b x d w h;cases h
 | choose=>intro r b x d w h;cases h
 | sys=>intro r b x d w h;cases h
 | halt=>intro r b x d w h;cases h
structure Hw (P:H8) (T:H3->Prop) where
 eq:List (Nat × Vq):=[]
 ov:List (Nat × Ov P T):=[]
def OI (R:List Rw) (w:H3):Prop:=∀ r ∈ R,fY r w
theorem fY.in_ {r:Rw} (h:fY r w):oP r w:=let ⟨t,h⟩:=h;⟨t,_,h⟩
theorem I6 {a b:Type} (f:a->b):∀ (l:List (Nat × a)) (d:Nat),lk (l.map λx=>(x.1,f x.2)) d=(lk l d).map f
 | [],_=>rfl
 | (q,y)::l,d=>by
   simp only [List.map_cons,lk]
   cases T6 q d
   ·exact I6 f l d
   ·rfl
theorem I7 {ov:List (Nat × Ov a S)} {eq:List (Nat × Vq)} {v:K1} {es:List (Oe × Oe)} (hk:bn Q F f) (h:IK a b ov eq Q g=some (v,R,es)) (he:∀ e ∈ es,e.1=e.2) {w:H3} (c:S w) (o:∀ r ∈ b,oP r w): (I4 f.eval g).run a w=.ok (.value v) w:=by
 have t:IK a b (ov.map λx=>(x.1,(⟨x.2.s,x.2.v,x.2.t,λW T=>by subst T;exact x.2.h _ c⟩:Ov a λW=>W=w))) eq Q g=some (v,R,es):=by
  rw [<- h];unfold IK;split;·rfl
  ·have i:=λd=>I6 (λy:Ov a S=>(⟨y.s,y.v,y.t,λW T=>by subst T;exact y.h _ c⟩:Ov a λW=>W=w)) ov d;cases j:g.dst with
   | none=>rfl
   | some d =>simp only [Option.bind_some,i];cases lk ov d<;>rfl
 exact (CO hk t he λW T=>by subst T;exact o).1 w rfl
def xa (P:H8) {T:H3->Prop} (R:List Rw) (H:Hw P T) (n:Nat) (all:Array I5):Nat->Array Bool->Fr->Option (Fr × List (Oe × Oe))
 | m,listed,F=>match M5 .any all listed with
   | []=>some (F,[])
   | i::is=>match m with
     | 0=>none
     | m+1=>match pV all listed (i::is) with
       | none=>none
       | some j=>match all[j]? with
         | none=>none
         | some o=>match (match wn all F o with | none=>none | some false=>some (undef,0,[]) | some true=>IK P R H.ov H.eq F o) with
           | none=>none
           | some (v,t,es)=>match qQ n F v t o.dst with
             | none=>none
             | some a=>match xa P R H n all m (listed.setIfInBounds j true) a with
               | none=>none
               | some (F2,es2)=>some (F2,es++es2)
theorem I8 {H:Hw a S} {all:Array I5} (N:S w) (M:OI b w) (C:N1 all) (L:∀ c P d v w,W (.panic c) (Act.put P d v) w->W (.panic c) P w):∀ (m:Nat) (listed:Array Bool) (n p:Fr) (q:List (Oe × Oe)) (P:Act),xa a b H F all m listed n=some (p,q)->(∀ e ∈ q,e.1=e.2)->bn n F P->(∀ G,bn p F G->W .normal G w)->wpAnyH a .any all W (λQ=>Q=w) m listed P w:=by
 intro m;induction m with
 | zero =>
   intro listed n p q P h x k s;unfold xa at h;cases g:M5 .any all listed with
   | nil=>rw [g] at h;cases h;exact L7 g (s P k) 0
   | cons i is=>rw [g] at h;cases h
 | succ m V =>
   intro listed n p q P h x k s;unfold xa at h;cases g:M5 .any all listed with
   | nil=>rw [g] at h;cases h;exact L7 g (s P k) _
   | cons i is =>
     rw [g] at h;dsimp only at h;cases D:pV all listed (i::is) with
     | none=>rw [D] at h;cases h
     | some j =>
       rw [D] at h;dsimp only at h;cases A:all[j]? with
       | none=>rw [A] at h;cases h
       | some o =>
         rw [A] at h;dsimp only at h;split at h;·cases h
         ·rename_i v t J f;cases z:qQ F n v t o.dst with
          | none=>rw [z] at h;cases h
          | some I =>
            rw [z] at h;dsimp only at h;cases E:xa a b H F all m (listed.setIfInBounds j true) I with
            | none=>rw [E] at h;cases h
            | some y =>
              obtain ⟨X,K⟩:=y;rw [E] at h;simp only [Option.some.injEq,Prod.mk.injEq] at h;obtain ⟨rfl,rfl⟩:=h;have l:=nG D;have U:YieldsIf a all (λQ=>Q=w) o v P:=by
               cases u:wn all n o with
               | none=>rw [u] at f;cases f
               | some R =>
                 rw [u] at f;cases R with
                 | false=>simp only [Option.some.injEq,Prod.mk.injEq] at f;exact .inr ⟨jZ k u,f.1.symm⟩
                 | true=>exact .inl ⟨jZ k u,λQ O=>by subst O;exact I7 k f (λe B=>x e (by simp [B])) N λr g=>(M r g).in_⟩
              exact wpAnyH_take A C l.2 (by rw [g];simpa using l.1) (λc P w T=>L c P _ _ w T) U rfl (V _ _ _ _ _ E (λe B=>x e (by simp [B])) (jj z k) s)
inductive Sv where
 | go (k:List KI) (F:Fr) (R:List Rw) (es:List (Oe × Oe))
 | ret
 | stop
def SC (P:H8) (R:List Rw) (F:Fr) (o:I5):Option (List Rw × List (Oe × Oe)):=match o.op with
 | .store _ x _=>match o.op.operands.all (kn F) with
   | false=>none
   | true=>match IJ F x with
     | 0=>none
     | j+1=>match R[j]? with
       | none=>none
       | some r=>match sK P (I4 (ev F) o) r with
         | some (.skip,r',es)=>some (R.set j r',es.map λe=>(.a e.1,.a e.2))
         | _=>none
 | _=>none
def Aq (P:H8) {T:H3->Prop} (H:Hw P T) (n:Nat) (k:List KI) (F:Fr) (R:List Rw):Sv :=
 match k with
 | .ops _ []::k=>.go k F R []
 | .ops all (o::rest)::k=>match (match wn all F o with | none=>none | some false=>some (undef,0,[]) | some true=>IK P R H.ov H.eq F o) with
   | some (v,t,a)=>match qQ n F v t o.dst with
     | some b=>.go (.ops all rest::k) b R a
     | none=>.stop
   | none=>match wn all F o,o.dst with
     | some true,none=>match SC P R F o with
       | some (R',a)=>.go (.ops all rest::k) F R' a
       | none=>.stop
     | _,_=>.stop
 | .blk _::k=>.go k F R []
 | .code (.region _ ops true)::k=>match N1 ops&&P.follows .mixedOrders with
   | true=>match xa P R H n ops ops.size (A6 ops.size false) F with
     | some (b,a)=>.go k b R a
     | none=>.stop
   | false=>.stop
 | .code c::k=>match gL P false k F c with
   | .go d b a=>.go d b R a
   | .ret=>.ret
   | .stop=>.stop
 | _=>.stop
theorem Ar {a:Type}:∀ {l:List a} {j:Nat} {x:a},l[j]?=some x->l.set j x=l
 | [],_,_,h=>hh
 | y::l,0,x,h=>by simp at h;simp [h]
 | y::l,j+1,x,h=>by simp only [List.set_cons_succ];rw [Ar (l:=l) dd]
structure Iv (bs:List Nat) (w:H3) (R:List Rw) (W:H3):Prop where
 rows:OI R W
 ag:Ag bs w W
 sub:∀ r ∈ R,r.b ∈ bs
 nd:(R.map Rw.b).Nodup
theorem Iv.below (h:Iv k w b n) (bs:Bw n P):Iv k w b P :=
 ⟨λr R=>let ⟨t,a⟩:=h.rows r R;⟨t,(bs.block r.b (A0.1 a).1).trans a⟩,h.ag.below bs,h.sub,h.nd⟩
theorem PS {L:List Rw} {R:Act} {o:I5} (hk:bn Q F R) (h:SC a b Q o=some (L,j)) (he:∀ e ∈ j,e.1=e.2) (c:Iv k w b P):∃ u,(I4 R.eval o).run a P=.ok .skip u/\Iv k w L u:=by
 unfold SC at h
 split at h
 ·rename_i t x y H
  cases C:o.op.operands.all (kn Q) with
  | false=>rw [C] at h;cases h
  | true =>
    rw [C] at h
    dsimp only at h
    have D:I4 R.eval o=I4 (ev Q) o:=L5 o (λX n e=>by rw [H] at e;cases e) λx T=>hk.eval (A5.1 C x T)
    rw [D]
    cases M:IJ Q x with
    | zero=>rw [M] at h;cases h
    | succ bs =>
      rw [M] at h
      dsimp only at h
      cases p:b[bs]? with
      | none=>rw [p] at h;cases h
      | some r =>
        rw [p] at h
        dsimp only at h
        cases J:sK a (I4 (ev Q) o) r with
        | none=>rw [J] at h;cases h
        | some z =>
          obtain ⟨U,K,A⟩:=z
          rw [J] at h
          cases U with
          | skip =>
            simp only [Option.some.injEq,Prod.mk.injEq] at h
            obtain ⟨rfl,rfl⟩:=h
            have s:=T3 p
            obtain ⟨u,N,O,es,Y,l⟩:=Mr (bs:=k) _ r K _ A P J (λe s=>by have:=he (.a e.1,.a e.2) (T2.2 ⟨e,s,rfl⟩);simpa using this) (c.sub r s) (c.rows r s)
            have E:bs<b.length:=(T0.1 p).1
            have d:(b.set bs K).map Rw.b=b.map Rw.b:=by
             rw [List.map_set,es]
             have:(b.map Rw.b)[bs]?=some r.b:=by simp [p]
             exact Ar this
            refine ⟨u,N,⟨λq I=>?_,c.ag.trans ⟨l.os,l.tape,l.output,l.size,λW S hk=>l.block W S (by simp only [List.mem_singleton];exact λe=>hk (by rw [e];exact c.sub r s))⟩,λq I=>?_,by rw [d];exact c.nd⟩⟩
            ·obtain ⟨i,m⟩:=List.mem_iff_getElem?.1 I
             by_cases g:i=bs
             ·subst g
              rw [List.getElem?_set_self E] at m
              cases m
              exact O
             ·rw [List.getElem?_set_ne (Ne.symm g)] at m
              obtain ⟨t,f⟩:=c.rows q (T3 m)
              have G:q.b≠r.b:=λe=>g (by
               have B:(b.map Rw.b)[i]?=some q.b:=by simp [m]
               have v:(b.map Rw.b)[bs]?=some r.b:=by simp [p]
               rw [<- e] at v
               exact (List.getElem?_inj (by simpa using (T0.1 m).1) c.nd).1 (B.trans v.symm))
              exact ⟨t,(l.block q.b (A0.1 f).1 (by simpa using G)).trans f⟩
            ·have:q.b ∈ (b.set bs K).map Rw.b:=T2.2 ⟨q,I,rfl⟩
             rw [d] at this
             obtain ⟨V,B,v⟩:=T2.1 this
             rw [<- v]
             exact c.sub V B
          | _=>cases h
 ·cases h
theorem I9 {T:H3->Prop} {H:Hw a T} (D:∀ Q,Ag k w Q->T Q) (C:∀ c P d v w,W (.panic c) (Act.put P d v) w->W (.panic c) P w) {bs G:List KI} {n A:Fr} {R B:List Rw} {es:List (Oe × Oe)} (h:Aq a H F bs n R=.go G A B es) (he:∀ e ∈ es,e.1=e.2) (f:∀ P Q,bn A F P->Iv k w B Q->gK a (λ_=>True) W G .normal P Q) (P:Act) (Q:H3) (hk:bn n F P) (i:Iv k w R Q):gK a (λ_=>True) W bs .normal P Q:=by
 unfold Aq at h;split at h;·cases h;exact f P Q hk i
 ·rename_i all o rest I;show wpList a all _ (o::rest) P Q;split at h
  ·rename_i v t m g;split at h
   ·rename_i L E;simp only [Sv.go.injEq] at h;obtain ⟨rfl,rfl,rfl,rfl⟩:=h;refine L6 λK q=>?_;cases l:wn all n o with
    | none=>rw [l] at g;cases g
    | some b =>
      rw [l] at g;cases b with
      | false =>simp only [Option.some.injEq,Prod.mk.injEq] at g;obtain ⟨rfl,rfl,rfl⟩:=g;rw [jZ hk l,JZ9 ba];exact q _ _ (f _ _ (jj E hk) i)
      | true =>rw [JZ8 (jZ hk l)];show o.upon a P K _ _;rw [I7 hk g he (D Q i.ag) λr p=>(i.rows r p).in_];exact q _ _ (f _ _ (jj E hk) i)
   ·cases h
  ·split at h
   ·rename_i l Y;split at h;·rename_i R2 m z;simp only [Sv.go.injEq] at h;obtain ⟨rfl,rfl,rfl,rfl⟩:=h;obtain ⟨M,U,X⟩:=PS hk z he i;refine L6 λK q=>?_;rw [JZ8 (jZ hk l)];show o.upon a P K _ _;rw [U];show K (P.put o.dst undef) M;rw [Y];exact q _ _ (f _ _ hk X)
    ·cases h
   ·cases h
 ·cases h;exact f P Q hk i
 ·rename_i ops I;split at h
  ·rename_i u;rw [R4] at u;split at h;·rename_i L m y;simp only [Sv.go.injEq] at h;obtain ⟨rfl,rfl,rfl,rfl⟩:=h;have j:Iv k w R Q.drew:=⟨λr p=>i.rows r p,i.ag.drew,i.sub,i.nd⟩;refine wp_region_held (S:=λV=>V=Q.drew) u.2 ?_;exact I8 (D _ j.ag) j.rows u.1 (λc P d v w s=>by rw [kq] at s ⊢;exact C c P d v w s) _ _ _ _ _ P y he hk λN x=>f N _ x j
   ·cases h
  ·cases h
 ·rename_i c I _;split at h;·rename_i k3 Z O y;simp only [Sv.go.injEq] at h;obtain ⟨rfl,rfl,rfl,rfl⟩:=h;exact rR (J:=λV=>Iv k w R V) (R:=[]) ⟨λ_ _=>trivial,λ_ _ r p=>(nomatch p),(λs=>by cases s),C⟩ y f P Q hk i
  ·cases h
  ·cases h
 ·cases h
def db (P:H8) {T:H3->Prop} (H:Hw P T) (n:Nat):Nat->List KI->Fr->List Rw->(Bool × List KI × Fr × List Rw) × List (Oe × Oe)
 | 0,k,F,R=>((false,k,F,R),[])
 | m+1,k,F,R=>match Aq P H n k F R with
   | .stop=>((false,k,F,R),[])
   | .ret=>((true,k,F,R),[])
   | .go d a b c=>match db P H n m d a b with
     | (r,es')=>(r,c++es')
theorem yx {P:H8} {T:H3->Prop} {H:Hw P T} {n:Nat} {bs:List Nat} {w:H3} {Q:Exit->Act->H3->Prop} (q:∀ W,Ag bs w W->T W) (p:∀ c a d v w,Q (.panic c) (Act.put a d v) w->Q (.panic c) a w):∀ (m:Nat) (k:List KI) (F:Fr) (R:List Rw),(∀ e ∈ (db P H n m k F R).2,e.1=e.2) ->
 (∀ a W,bn (db P H n m k F R).1.2.2.1 n a->Iv bs w (db P H n m k F R).1.2.2.2 W->if (db P H n m k F R).1.1=true then Q .ret a W else gK P (λ_=>True) Q (db P H n m k F R).1.2.1 .normal a W)->∀ a W,bn F n a->Iv bs w R W->gK P (λ_=>True) Q k .normal a W
 | 0,k,F,R,_,hf,a,W,hk,hI=>by simpa [db] using hf a W hk hI
 | m+1,k,F,R,he,hf,a,W,hk,hI=>by
   cases f:Aq P H n k F R with
   | stop =>
     have e:db P H n (m+1) k F R=((false,k,F,R),[]):=by simp only [db,f]
     rw [e] at hf
     simpa using hf a W hk hI
   | ret =>
     have e:db P H n (m+1) k F R=((true,k,F,R),[]):=by simp only [db,f]
     rw [e] at hf
     have s:Q .ret a W:=by simpa using hf a W hk hI
     unfold Aq at f
     split at f
     ·cases f
     ·repeat (split at f<;>try cases f)
     ·cases f
     ·repeat (split at f<;>try cases f)
     ·rename_i c u t
      split at f
      ·cases f
      ·rename_i g
       cases c with
       | ret=>exact wp_ret (by rw [yo];exact s)
       | region i ops b=>cases b<;>simp only [gL] at g<;>(try split at g)<;>cases g
       | cond=>simp only [gL] at g;repeat (split at g<;>try cases g)
       | exit=>simp only [gL] at g;split at g<;>cases g
       | _=>cases g
      ·cases f
     ·cases f
   | go o h j r =>
     have e:db P H n (m+1) k F R=((db P H n m o h j).1,r++(db P H n m o h j).2):=by simp only [db,f]
     rw [e] at he hf
     exact I9 q p f (λx l=>he x (by simp [l])) (yx q p m o h j (λx l=>he x (by simp [l])) hf) a W hk hI
theorem pi (d:Iv k w b w) (H:Hw a (Ag k w)) (m:Nat) {R1:List Rw} (h:∀ W,Iv k w R1 W->Wg a (λ_=>True) (H5 a o T) F (db a H F m c Q b).1.2.1 (db a H F m c Q b).1.2.2.1 W) (hx:((db a H F m c Q b).1.1,(db a H F m c Q b).1.2.2.2)=(false,R1):=by kernel_rfl) (he:(db a H F m c Q b).2.map R5=(db a H F m c Q b).2.map S1:=by kernel_rfl):Wg a (λ_=>True) (H5 a o T) F c Q w:=λP f=>by
 simp only [Prod.mk.injEq] at hx
 refine yx (λ_ h=>h) cG m c Q b (λe g=>T4.1 he e g) (λP W fn R=>?_) P w f d
 rw [hx.2] at R
 rw [hx.1,JZ9 ba]
 exact h W R P fn
theorem fQ (g:Iv k w b w) (H:Hw a (Ag k w)) (m:Nat) {R1:List Rw} {f:Nat} {args:Array K1} {Rc:H3->Ending->H3->Prop} (i:∀ W,Iv k w R1 W->Calls a f args W (Rc W)) (h:∀ W e P,Iv k w R1 W->Rc W e P->∃ v t,e=.returned v/\Wg a (λ_=>True) (H5 a o T) F (oS (db a H F m c Q b).1.2.2.1 (db a H F m c Q b).1.2.1) (qG (db a H F m c Q b).1.2.2.1 (db a H F m c Q b).1.2.1 v t) P) (hx:((db a H F m c Q b).1.1,(db a H F m c Q b).1.2.2.2,IT a F (db a H F m c Q b).1.2.2.1 (db a H F m c Q b).1.2.1)=(false,R1,some (f,args)):=by kernel_rfl) (he:(db a H F m c Q b).2.map R5=(db a H F m c Q b).2.map S1:=by kernel_rfl):Wg a (λ_=>True) (H5 a o T) F c Q w:=by simp only [Prod.mk.injEq] at hx;refine pi g H m (hx:=by rw [hx.1,hx.2.1]) (he:=he) λW R=>eI (i W R) (hx:=hx.2.2) λe P j=>?_;obtain ⟨v,t,fn,d⟩:=h W e P R j;exact ⟨v,t,fn,λ_=>trivial,d⟩
theorem jN (g:Iv k w b w) (H:Hw a (Ag k w)) (m:Nat) {R1:List Rw} (h:∀ W P,Iv k w R1 W->bn (db a H F m c Q b).1.2.2.1 F P->∃ v,(results o P.tmps).run a W=.ok v W/\T (.returned v) W) (hx:((db a H F m c Q b).1.1,(db a H F m c Q b).1.2.2.2)=(true,R1):=by kernel_rfl) (he:(db a H F m c Q b).2.map R5=(db a H F m c Q b).2.map S1:=by kernel_rfl):Wg a (λ_=>True) (H5 a o T) F c Q w:=λP i=>by
 simp only [Prod.mk.injEq] at hx
 refine yx (λ_ h=>h) cG m c Q b (λe j=>T4.1 he e j) (λP W R fn=>?_) P w i g
 rw [hx.2] at fn
 rw [hx.1,JZ8 rfl]
 obtain ⟨v,d,f⟩:=h W P fn R
 exact bodyPost_ret d R.nod f
theorem uq (R:Iv k w b w) (H:Hw a (Ag k w)) (m:Nat) {R1:List Rw} {t:Nat} {v:K1} (h:∀ W,Iv k w R1 W->T (.returned v) W) (hx:((db a H F m c Q b).1.1,(db a H F m c Q b).1.2.2.2,(lk (db a H F m c Q b).1.2.2.1 t).map R5)=(true,R1,some v):=by kernel_rfl) (he:(db a H F m c Q b).2.map R5=(db a H F m c Q b).2.map S1:=by kernel_rfl) (e:o.results=#[.tmp t]:=by rfl):Wg a (λ_=>True) (H5 a o T) F c Q w:=by simp only [Prod.mk.injEq] at hx;exact jN R H m (hx:=by rw [hx.1,hx.2.1]) (he:=he) λW P fn d=>⟨v,by rw [results_tmp e,d.slot hx.2.2],h W fn⟩
theorem ot (R:Iv k w b w) (H:Hw a (Ag k w)) (m:Nat) {R1:List Rw} (h:∀ W,Iv k w R1 W->T (.returned (.tuple #[])) W) (hx:((db a H F m c Q b).1.1,(db a H F m c Q b).1.2.2.2)=(true,R1):=by kernel_rfl) (he:(db a H F m c Q b).2.map R5=(db a H F m c Q b).2.map S1:=by kernel_rfl) (d:o.results=#[]:=by rfl):Wg a (λ_=>True) (H5 a o T) F c Q w :=
 jN R H m (hx:=hx) (he:=he) λW P fn _=>⟨_,L4 d _ _ _,h W fn⟩
theorem eZ (R:Iv k w b w) (H:Hw a (Ag k w)) (m:Nat) {R1:List Rw} (h:∀ W,Iv k w R1 W->T (.returned (.tuple #[])) W) (hx:((db a H F m c Q b).1.1,(db a H F m c Q b).1.2.2.2)=(false,R1):=by kernel_rfl) (hz:(db a H F m c Q b).1.2.1.isEmpty:=by kernel_rfl) (he:(db a H F m c Q b).2.map R5=(db a H F m c Q b).2.map S1:=by kernel_rfl) (e:o.results=#[]:=by rfl):Wg a (λ_=>True) (H5 a o T) F c Q w :=
 pi R H m (hx:=hx) (he:=he) λW fn P d=>by
  rw [List.isEmpty_iff.1 hz]
  exact bodyPost_end (L4 e _ _ _) d.nod (h W fn)
theorem Iv.eng {P:H8} {fn:Func} {Rs:Ending->H3->Prop}:oR P (Iv k w b) (Iv k w b) b true (H5 P fn Rs):=⟨λ_ h=>h,λ_ h r a=>(h.rows r a).in_,λ_ _ h=>⟨λr a=>h.rows r a,h.ag.drew,h.sub,h.nd⟩,cG⟩
def vV (s j:Nat):Fr->Fr
 | []=>[]
 | x::F=>(match T6 x.1 s with | true=>(x.1,x.2.1,j) | false=>x)::vV s j F
theorem yy (s j t:Nat):∀ (F:Fr) (x:K1 × Nat),lk (vV s j F) t=some x->∃ y,lk F t=some y/\y.1=x.1
 | [],_,h=>hh
 | (d,v,g)::F,x,h=>by
   unfold vV at h
   cases b:T6 d s with
   | true =>
     simp only [b,lk] at h ⊢
     cases a:T6 d t with
     | true=>rw [a] at h;cases h;exact ⟨_,rfl,rfl⟩
     | false=>rw [a] at h;exact yy s j t F x h
   | false =>
     simp only [b,lk] at h ⊢
     cases a:T6 d t with
     | true=>rw [a] at h;cases h;exact ⟨_,rfl,rfl⟩
     | false=>rw [a] at h;exact yy s j t F x h
theorem bn.tag (h:bn Q F f) (s j:Nat):bn (vV s j Q) F f:=⟨h.size,h.nod,λt x d=>by
 obtain ⟨y,b,c⟩:=yy s j t Q x d
 rw [<- c]
 exact h.at_ t y b⟩
theorem aY (s j:Nat) (h:Wg a S W F c (vV s j Q) w):Wg a S W F c Q w:=λP b=>h P (b.tag s j)
theorem nJ {args:Array K1} (z:Calls a R args w T) (hx:(Gg F Q c).map (λs=>s.run a w)=some (.ok (.enter R args) w)) (h:∀ e g,T e g->∃ v t,e=.returned v/\(wQ Q c->S g)/\Wg a S W F (oS Q c) (qG Q c v t) g):Wg a S W F c Q w:=λP j=>by
 obtain ⟨s,k,r⟩:=Option.map_eq_some_iff.1 hx;unfold Gg at k;unfold oS qG wQ at h;cases p:zG Q c with
 | none=>rw [p] at k;cases k
 | some y =>
   obtain ⟨o,E,b⟩:=y;rw [p] at k h;dsimp only at k h;split at k
   ·rename_i i;cases k;rw [R4,R4] at i;have l:I4 P.eval o=I4 (ev Q) o:=L5 o (λD b e=>by have:=i.1.2;rw [e] at this;cases this) λx hx=>j.eval (A5.1 i.1.1 x hx);refine um p j λK u=>?_;show o.upon a P K _ _;rw [l,r];refine z.mono λe g A=>?_;obtain ⟨v,t,rfl,B,C⟩:=h e g A;refine u _ _ B (C _ ?_);cases m:o.dst with
    | none=>exact j
    | some d=>have q:=i.2;rw [m] at q;exact j.put q v t
   ·cases k
def CU (ops:Array I5):Bool :=
 T5 0 ops.size&&(List.range (ops.size-1)).all (λi=>match ops[i]? with
  | none=>false
  | some o=>o.after.all (λe=>!Region.binds .any e||T5 e.on i)&&(match o.guard with | none=>true | some g=>T5 g.1 i)&&(match ops[ops.size-1]? with | none=>false | some l=>xJ l i))&&(match ops[ops.size-1]? with | none=>false | some l=>l.after.all (λe=>!Region.binds .any e||T5 e.on (ops.size-1)))
section
variable {P : H8} {ops : Array I5} {Q : Exit -> Act -> H3 -> Prop} {S : H3 -> Prop}
structure qS (ops:Array I5) (L:Nat) (l:I5):Prop where
 size:ops.size=L+1
 last:ops[L]?=some l
 down:∀ (i:Nat) (o:I5),i<L->ops[i]?=some o->∀ e ∈ o.after,P2 .any e->e.on<i
 gd:∀ (i:Nat) (o:I5),i<L->ops[i]?=some o->∀ g,o.guard=some g->g.1<i
 all:∀ i,i<L->xJ l i
 ldn:∀ e ∈ l.after,P2 .any e->e.on<L
theorem yz {a b:Nat} (h:T5 a b):a<b:=Nat.lt_of_succ_le (by simpa [T5] using h)
theorem As (h:CU ops):∃ L l,qS ops L l:=by
 unfold CU at h;simp only [R4] at h;obtain ⟨⟨n,c⟩,m⟩:=h;have q:=yz n;have j:ops[ops.size-1]?=some ops[ops.size-1]:=F0 aa;refine ⟨ops.size-1,ops[ops.size-1],aa,j,?_,?_,?_,?_⟩;·intro i o b k e f d;have:=S2.1 c i (S5.2 b);rw [k] at this;simp only [R4] at this;have a:=A5.1 this.1.1 e f;rw [d] at a;exact yz eo
 ·intro i o b k g p;have:=S2.1 c i (S5.2 b);rw [k] at this;simp only [R4,p] at this;exact yz this.1.2
 ·intro i b;have:=S2.1 c i (S5.2 b);rw [F0 (show i<ops.size by omega),j] at this;simp only [R4] at this;exact this.2
 ·intro e f d;rw [j] at m;have a:=A5.1 m e f;rw [d] at a;exact yz eo
variable {L : Nat} {l : I5}
theorem lW {listed:Array Bool} (b:listed.size=L) {j:Nat} (a:j<L) (d:Bool):(listed.push false).getD j d=listed.getD j d:=by simp [G3,H1,b,a,show j<L+1 by omega]
theorem Ja {listed:Array Bool} (c:listed.size=L) {i:Nat} (b:i<L):(listed.push false).setIfInBounds i true=(listed.setIfInBounds i true).push false:=by
 apply Array.ext_getElem?;intro j;by_cases a:i=j;·subst a;rw [Array.getElem?_setIfInBounds_self_of_lt bb,Array.getElem?_push_lt bb];simp
 ·rw [F3 a];simp only [Array.getElem?_push,Array.size_setIfInBounds,F3 a]
theorem tf (T:qS ops L l) {i:Nat} (a:i<L):ops.pop[i]?=ops[i]?:=by have:=T.size;simp [show i<ops.size-1 by omega]
theorem qU (T:qS ops L l) {listed:Array Bool} (b:listed.size=L) {i:Nat} (a:i<L):i ∈ M5 .any ops (listed.push false)↔i ∈ M5 .any ops.pop listed:=by rw [mem_ready,mem_ready,lW b a,tf T a];refine and_congr_right λ_=>exists_congr λo=>and_congr_right λf=>?_;refine forall_congr' λe=>forall_congr' λd=>forall_congr' λc=>?_;rw [lW b (by have:=T.down i o a f e d c;omega)]
theorem CV (T:qS ops L l) {listed:Array Bool} (h:listed.size=L) (g:M5 .any ops.pop listed=[]):∀ i,i<L->listed.getD i false:=by
 intro i;induction i using Nat.strongRecOn with
 | _ i j =>
   intro a;cases d:listed.getD i true with
   | true=>simpa [G3,h,a] using d
   | false =>have b:ops[i]?=some (ops[i]' lx):=F0 _;have:i ∈ M5 .any ops.pop listed:=mem_ready.2 ⟨d,_,(tf T a).trans b,λe f c=>j e.on (T.down i _ a b e f c) (by have:=T.down i _ a b e f c;omega)⟩;rw [g] at this;cases this
theorem Jb (T:qS ops L l) {R:Act->H3->Prop} {i:Nat} (k:i<L) {K f:Act->H3->Prop} {a:Act} {w:H3} (q:∀ a w,K a w->f a w) (h:wpOp P ops.pop (Exit.then R Q) i K a w):wpOp P ops Q i f a w:=by
 refine wpOp_mono q ?_;have m:ops[i]?=some (ops[i]' lx):=F0 _;unfold wpOp at h ⊢;rw [tf T k] at h;rw [m] at h ⊢;dsimp only at h ⊢;have t:M7 (ops[i]' lx) (yielded ops.pop a.tmps)=M7 (ops[i]' lx) (yielded ops a.tmps):=by
  unfold M7;cases s:(ops[i]' lx).guard with
  | none=>rfl
  | some g =>have j:=T.gd i _ k m g s;dsimp only;unfold yielded;rw [tf T aa]
 rw [t] at h;split
 ·rename_i b;rw [JZ8 b] at h;rcases h with h|⟨j,o,d,p⟩
  ·refine .inl ?_;unfold Oper.wp at h ⊢;generalize (I4 a.eval (ops[i]' lx)).run P w=r at *;cases r with
   | ok n d =>
     cases n<;>simp only [Oper.upon] at h ⊢;all_goals first
      | exact h
      | exact Calls.mono h (λe u c=>by cases e<;>exact c)
      | exact Rows.mono h (λ_ _ c=>c)
   | halt x d=>cases x<;>simp only [Oper.upon] at h ⊢ <;> exact h
  ·exact .inr ⟨j,o,d,p⟩
 ·rename_i b;rw [JZ9 b] at h;exact h
theorem CW (T:qS ops L l):∀ (fuel:Nat) (listed:Array Bool) (a:Act) (w:H3),listed.size=L->wpAny P .any ops.pop (Exit.then (λa w=>wpOp P ops Q L (λa w=>Q .normal a w) a w) Q) fuel listed a w->wpAny P .any ops Q (fuel+1) (listed.push false) a w:=by
 have g:∀ (m:Nat) (listed:Array Bool) (a:Act) (w:H3),listed.size=L->M5 .any ops.pop listed=[]->wpOp P ops Q L (λa w=>Q .normal a w) a w->wpAny P .any ops Q (m+1) (listed.push false) a w:=by
  intro m listed a w b q h
  have f:=CV T b q
  have O:=T.size
  have H:L ∈ M5 .any ops (listed.push false):=mem_ready.2 ⟨by simp [G3,H1,b],l,T.last,λe N M=>by
   have k:=T.ldn e N M
   rw [lW b k]
   exact f _ k⟩
  refine ⟨λB=>(by rw [B] at H;cases H),λi t=>?_⟩
  by_cases c:i=L
  ·subst c
   refine wpOp_mono (λF J v=>?_) h
   have I:M5 .any ops ((listed.push false).setIfInBounds i true)=[]:=by
    rw [List.eq_nil_iff_forall_not_mem]
    intro j A
    obtain ⟨k,o,d,_⟩:=mem_ready.1 A
    have y:j<ops.size:=(A0.1 d).1
    by_cases u:j=i
    ·subst u
     simp [G3,b] at k
    ·have z:=f j aa
     have G:((listed.push false).setIfInBounds i true).getD j true=listed.getD j true:=by
      rw [<- lW b (show j<i by omega)]
      simp only [Array.getD_eq_getD_getElem?,F3 (Ne.symm u)]
     rw [G] at k
     have r:j<listed.size:=aa
     simp [G3,r] at k z
     rw [k] at z
     cases z
   cases m with
   | zero=>exact ⟨I,v⟩
   | succ m=>exact ⟨λ_=>v,λj A=>by rw [I] at A;cases A⟩
  ·have bZ:i<L:=by
    obtain ⟨_,o,d,_⟩:=mem_ready.1 t
    have:=(A0.1 d).1
    omega
   have:=(qU T b bZ).1 t
   rw [q] at this
   cases this
 intro fuel
 induction fuel with
 | zero=>intro listed a w b h;exact g 0 listed a w b h.1 h.2
 | succ fuel R =>
   intro listed a w b h
   by_cases q:M5 .any ops.pop listed=[]
   ·exact g _ listed a w b q (h.1 q)
   ·obtain ⟨x,E⟩:=List.exists_mem_of_ne_nil _ q
    have p:x<L:=by
     obtain ⟨_,o,d,_⟩:=mem_ready.1 E
     have y:=(A0.1 d).1
     rw [H2] at y
     have:=T.size
     omega
    refine ⟨λB=>(by have:=(qU T b p).2 E;rw [B] at this;cases this),λi t=>?_⟩
    have c:i<L:=by
     obtain ⟨_,o,d,y⟩:=mem_ready.1 t
     have z:=(A0.1 d).1
     have G:=T.size
     by_cases e:i=L
     ·subst e
      rw [T.last] at d
      cases d
      have r:=T.all x p
      unfold xJ at r
      rw [<- Array.any_toList] at r
      obtain ⟨e,s,n⟩:=List.any_eq_true.1 r
      rw [Array.mem_toList_iff] at s
      rw [R4,beq_iff_eq] at n
      have C:=y e s n.1
      rw [n.2,lW b p] at C
      have D:=(mem_ready.1 E).1
      have K:x<listed.size:=aa
      simp [G3,K] at C D
      rw [C] at D
      cases D
     ·omega
    refine Jb T c (λF J v=>?_) (h.2 i ((qU T b c).1 t))
    rw [Ja b c]
    exact R _ F J (by simp [b]) v
def Em:Nat->Array I5->List KI->Option (List KI)
 | 0,ops,k=>some (.sq ops ops.size (A6 ops.size false)::k)
 | j+1,ops,k=>match CU ops,ops[ops.size-1]? with
   | true,some l=>Em j ops.pop (.ops ops [l]::k)
   | _,_=>none
theorem Jc:∀ (j:Nat) (ops:Array I5) (k b:List KI) (a:Act) (w:H3),Em j ops k=some b->gK P S Q b .normal a w->wpAny P .any ops (gK P S Q k) ops.size (A6 ops.size false) a w:=by
 intro j;induction j with
 | zero =>intro ops k b a w h c;cases h;exact wpAny_of_held (S:=S) _ _ _ _ c
 | succ j p =>
   intro ops k b a w h c;unfold Em at h;split at h;·rename_i l d n;obtain ⟨L,q,T⟩:=As d;have f:=T.size;have m:ops.size-1=L:=aa;rw [m,T.last] at n;cases n;have g:=p ops.pop _ b a w h c;rw [H2,m] at g;have e:(λa w=>wpOp P ops (gK P S Q k) L (λa w=>gK P S Q k .normal a w) a w)=wpList P ops (gK P S Q k) [l]:=(by funext a w;unfold wpOp wpList;rw [T.last];rfl);have i:wpAny P .any ops (gK P S Q k) (L+1) ((A6 L false).push false) a w:=(by refine CW T L _ a w bh ?_;rw [e];exact g);have o:(A6 L false).push false=A6 (L+1) false:=(by rw [Array.replicate_succ]);rw [o] at i;rw [f];exact i
   ·cases h
def At (j:Nat) (k:List KI):Option (List KI):=match k with
 | .code (.region _ ops true)::k'=>Em j ops k'
 | _=>none
theorem nK (j:Nat) {n:Nat} {F:Fr} {w:H3} {k:List KI} (h:Wg P S Q n ((At j k).getD []) F w.drew) (hm:P.follows .mixedOrders:=by kernel_rfl) (hk:(At j k).isSome:=by kernel_rfl):Wg P S Q n k F w:=λa c=>by
 obtain ⟨e,b⟩:=Option.isSome_iff_exists.1 hk;clear hk;rw [b,Option.getD_some] at h;unfold At at b;split at b;·rename_i id ops d;show (Go.Code.region id ops true).wp P (gK P S Q d) a w;exact K4 hm (Jc j ops d e a w.drew b (h a c))
 ·cases b
theorem En {n:Nat} {F:Fr} {w:H3} {k:List KI} (h:Wg P S Q n ((At 1 k).getD []) F w.drew) (hm:P.follows .mixedOrders:=by kernel_rfl) (hk:(At 1 k).isSome:=by kernel_rfl):Wg P S Q n k F w:=nK 1 (hm:=hm) (hk:=hk) h
def PT (kk:Nat) (k:List KI):Option (List KI):=match k with
 | .code (.region _ ops true)::k'=>some (.sk ops kk ops.size (A6 ops.size false)::k')
 | _=>none
theorem CX (kk:Nat) {n:Nat} {F:Fr} {w:H3} {k:List KI} (h:Wg P S Q n ((PT kk k).getD []) F w.drew) (hm:P.follows .mixedOrders:=by kernel_rfl) (hk:(PT kk k).isSome:=by kernel_rfl):Wg P S Q n k F w:=λa b=>by
 unfold PT at hk h;split at hk;·rename_i id ops c;show (Go.Code.region id ops true).wp P (gK P S Q c) a w;exact K4 hm (pd _ _ _ _ (h a b))
 ·cases hk
def cQ:Nat->K0->K0
 | 0,c=>c
 | n+1,.seq _ y=>cQ n y
 | _+1,c=>c
def Re:K0->K0
 | .seq x _=>x
 | c=>c
def bI (fn:Func):K0:=fn.body.getD .skip
theorem aH {n:Nat} {F:Fr} {w:H3} {k:List KI} (k1:List KI) (b:Fr) (h:Wg P S Q n k1 b w) (hk:k=k1:=by kernel_rfl) (hF:b.map (λy=>some y.2.1)=b.map λy=>(lk F y.1).map R5:=by kernel_rfl):Wg P S Q n k F w:=by subst hk;exact λa c=>h a (c.less hF)
end
theorem bi.rsl {A:MA} {nx a c b no:Nat} {x cs ram xs ys:List Int} (h:bi F R w (wV A nx a c b no x cs ram xs ys)):Sl .u64 w A.ax x/\Sl .u64 w A.ac cs/\Sl .u8 w A.ar ram/\Sl .u8 w A.ai xs/\Sl .u8 w A.ao ys :=
 ⟨gj (h.own (aK A.ax nx A.cx x) (by simp [wV])),gj (h.own (aK A.ac a A.cc cs) (by simp [wV])),gj (h.own (aI A.ar c A.cr ram) (by simp [wV])),gj (h.own (aI A.ai b A.ci xs) (by simp [wV])),gj (h.own (aI A.ao no A.co ys) (by simp [wV]))⟩
