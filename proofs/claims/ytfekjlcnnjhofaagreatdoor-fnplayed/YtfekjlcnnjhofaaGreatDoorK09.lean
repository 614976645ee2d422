/- Own lemmas. -/
import Derived.Test.YtfekjlcnnjhofaaGreatDoorAut
import Derived.Test.YtfekjlcnnjhofaaGreatDoorK03
import Derived.Test.YtfekjlcnnjhofaaGreatDoorK06
set_option maxRecDepth 100000
set_option maxHeartbeats 1600000
namespace Go.Proofs.YtfekjlcnnjhofaaGreatDoor
open Go.RowKit Tryz
open IntKind renaming u64->Uz
open Below renaming refl->Y3,heap_setCell->Y4
open Bool renaming and_eq_true->T5
open Go renaming World->D3,Program->D4,Value->D8,Addr->F0,bodyPost->F3,results_cell_row->G1,bodyPost_ret->H8,Calls->I1,execOp->I2,heap_alloc_new->I3,Code->I4,Oper->I5,setRow_heap->K0,setRow_other->K1,execOp_congr->L0,wp_region_any->L6,wpAny_of_held->N1,results_none->O1,wpList_step->P2,wpAnyH_done->R4
open List renaming mem_singleton->R5,all_eq_true->R6,mem_range->R7,getElem?_eq_some_iff->R8,mem_cons->S2,mem_map->S5,mem_of_getElem?->T3,map_inj_left->T4
open Nat renaming le_refl->X3,blt->X5,beq->X6,lt_of_lt_of_le->X7
open Option renaming map_eq_some_iff->Y2
open Prod renaming fst->X8,snd->X9
open Region renaming ready->T6,wanted->V4,noSelect->V8,binds->X0
open World renaming cell?->Y0,size_alloc->Y1
open _root_.Array renaming getElem?_eq_some_iff->A5,all_eq_true_iff_forall_mem->A6,replicate->A8,getElem?_eq_getElem->A9,getElem?_setIfInBounds_ne->C5,getD->C6,getElem_push->D1,size_pop->D2
set_option linter.unusedVariables false
variable {w n P:D3} {F k W g:Nat} {R:D4} {a bs:List Nat} {L:Fr} {b:List KI} {B Q:Array D8} {D:List Rw} {S:D3->Prop} {c:Ending->D3->Prop} {o:Exit->Act->D3->Prop} {A:List FRow} {M:Func} {t:MV} {T:MA} {f:Act} {s:I5} {d:D8} {e:List (Oe × Oe)} {j:Option F0} {x:Int} (l:DV) (p:Option F0) (r:Nat) (V:Option F0) (m:Nat) (q y:Int) (C:D3)
def iA (r:Rw) (w:D3):Prop:=∃ t,w.heap[r.b]?=some (.cells r.cs t (0,0))
structure Ag (bs:List Nat) (w W:D3):Prop where
 os:W.os=w.os
 tape:W.tape=w.tape
 output:W.output=w.output
 size:w.heap.size<=W.heap.size
 block:∀ k,k<w.heap.size->k ∉ bs->W.heap[k]?=w.heap[k]?
theorem Ag.refl (bs:List Nat) (w:D3):Ag bs w w:=⟨rfl,rfl,rfl,X3 _,λ_ _ _=>rfl⟩
theorem Ag.trans (h:Ag a w n) (k:Ag a n P):Ag a w P:=⟨k.os.trans h.os,k.tape.trans h.tape,k.output.trans h.output,Nat.le_trans h.size k.size,λi e d=>(k.block i (X7 e h.size) d).trans (h.block i e d)⟩
theorem Ag.below (h:Ag a w n) (k:Bw n P):Ag a w P:=h.trans ⟨k.os,k.tape,k.output,k.size,λi d _=>k.block i d⟩
theorem Ag.drew (h:Ag a w n):Ag a w n.drew:=⟨h.os,h.tape,h.output,h.size,h.block⟩
theorem LV (bs:F ∈ a) (w:D3) (i:Nat) (v:D8):Ag a w (w.setCell ⟨F,i,none⟩ v):=⟨rfl,rfl,rfl,di,λk _ b=>Y4 w _ v k (λe=>b (by rw [e];exact bs))⟩
def ui {α:Type} (P:D4):Sem α->Rw->Option (α × Rw × List (F0 × F0))
 | .pure a,r=>some (a,r,[])
 | .load _ a k,r=>match r.cs[a.off]? with
   | none=>none
   | some v=>match ui P (k v) r with
     | none=>none
     | some x=>some (x.1,x.2.1,(a,⟨r.b,a.off,none⟩)::x.2.2)
 | .store _ a v k,r=>match v.oneCell' with
   | false=>none
   | true=>match r.cs[a.off]? with
     | none=>none
     | some _=>match ui P k {r with cs:=r.cs.setIfInBounds a.off v} with
       | none=>none
       | some x=>some (x.1,x.2.1,(a,⟨r.b,a.off,none⟩)::x.2.2)
 | .program k,r=>ui P (k P) r
 | .mark _ k,r=>ui P k r
 | _,_=>none
theorem Pt {α:Type}:∀ (s:Sem α) (r b:Rw) (x:α) (d:List (F0 × F0)) (w:D3),ui R s r=some (x,b,d)->(∀ e ∈ d,e.1=e.2)->r.b ∈ bs->iA r w->∃ z,s.run R w=.ok x z/\iA b z/\b.b=r.b/\b.tg=r.tg/\Ag [r.b] w z:=by
 intro s;induction s with
 | pure a =>intro r b x d w h _ _ i;simp only [ui,Option.some.injEq,Prod.mk.injEq] at h;obtain ⟨rfl,rfl,_⟩:=h;exact ⟨w,rfl,i,rfl,rfl,Ag.refl _ _⟩
 | load m a k l =>
   intro r b x d w h g p i;unfold ui at h;cases q:r.cs[a.off]? with
   | none=>rw [q] at h;cases h
   | some v =>
     rw [q] at h;dsimp only at h;cases j:ui R (k v) r with
     | none=>rw [j] at h;cases h
     | some y =>rw [j] at h;simp only [Option.some.injEq,Prod.mk.injEq] at h;obtain ⟨A,B,C⟩:=h;subst C;have o:a=⟨r.b,a.off,none⟩:=g (a,⟨r.b,a.off,none⟩) di;obtain ⟨t,c⟩:=i;have D:w.cell? a=some v:=(by rw [o];simp only [Y0,c];simpa using q);simp only [Sem.run,D];exact l v r b x y.2.2 w (by rw [j,<- A,<- B]) (λe h=>g e (by simp [h])) p ⟨t,c⟩
 | store m a v k l =>
   intro r b x d w h g p i;unfold ui at h;cases n:v.oneCell' with
   | false=>rw [n] at h;cases h
   | true =>
     rw [n] at h;dsimp only at h;cases q:r.cs[a.off]? with
     | none=>rw [q] at h;cases h
     | some u =>
       rw [q] at h;dsimp only at h;cases j:ui R k {r with cs:=r.cs.setIfInBounds a.off v} with
       | none=>rw [j] at h;cases h
       | some y =>
         rw [j] at h;simp only [Option.some.injEq,Prod.mk.injEq] at h;obtain ⟨A,B,C⟩:=h;subst C;have o:a=⟨r.b,a.off,none⟩:=g (a,⟨r.b,a.off,none⟩) di;obtain ⟨t,c⟩:=i;have D:w.cell? a=some u:=(by rw [o];simp only [Y0,c];simpa using q);have L:w.frozen? a=false:=(by rw [o];simp [World.frozen?,c]);have f:(w.setCell a v).heap[r.b]?=some (.cells (r.cs.setIfInBounds a.off v) t (0,0)):=(by rw [o];exact bH c a.off v);obtain ⟨z,F,G,I,J,H⟩:=l {r with cs:=r.cs.setIfInBounds a.off v} b x y.2.2 (w.setCell a v) (by rw [j,<- A,<- B]) (λe h=>g e (by simp [h])) p ⟨t,f⟩;refine ⟨z,?_,G,I,J,?_⟩
         ·have E:(Sem.store m a v k).run R w=k.run R (w.setCell a v):=by clear o g l F G H f j;cases v<;>first | (simp only [Sem.run,D,L,Bool.false_eq_true,if_false];done) | (cases n;done)
          rw [E];exact F
         ·have K:Ag [r.b] w (w.setCell a v):=(by rw [o];exact LV di w _ v);exact K.trans H
 | program k l=>intro r b x d w h g p i;exact l R r b x d w h g p i
 | mark m k l=>intro r b x d w h g p i;exact l r b x d w h g p i
 | new=>intro r b x d w h;cases h
 | shape=>intro r b x d w h;cases h
 | freeze=>intro r b x d w h;cases h
 | frozen=>intro r b x d w h;cases h
 | getObj=>intro r b x d w h;cases h
 | setObj=>intro r b x d w h;cases h
 | choose=>intro r b x d w h;cases h
 | sys=>intro r b x d w h;cases h
 | halt=>intro r b x d w h;cases h
structure Hw (P:D4) (T:D3->Prop) where
 eq:List (Nat × Vq):=[]
 ov:List (Nat × Ov P T):=[]
def Ry (R:List Rw) (w:D3):Prop:=∀ r ∈ R,iA r w
theorem iA.in_ {r:Rw} (h:iA r w):pT r w:=let ⟨t,h⟩:=h;⟨t,_,h⟩
theorem LW {α a:Type} (f:α->a):∀ (l:List (Nat × α)) (d:Nat),lk (l.map λx=>(x.1,f x.2)) d=(lk l d).map f
 | [],_=>rfl
 | (q,y)::l,d=>by
   simp only [List.map_cons,lk]
   cases X6 q d
   ·exact LW f l d
   ·rfl
theorem LX {ov:List (Nat × Ov R S)} {eq:List (Nat × Vq)} {o:I5} {es:List (Oe × Oe)} (hk:bU L F f) (h:Lb R D ov eq L o=some (d,k,es)) (he:∀ e ∈ es,e.1=e.2) {w:D3} (c:S w) (g:∀ r ∈ D,pT r w): (I2 f.eval o).run R w=.ok (.value d) w:=by
 have a:Lb R D (ov.map λx=>(x.1,(⟨x.2.s,x.2.v,x.2.t,λW b=>by subst b;exact x.2.h _ c⟩:Ov R λW=>W=w))) eq L o=some (d,k,es):=by
  rw [<- h];unfold Lb;split;·rfl
  ·have i:=λv=>LW (λy:Ov R S=>(⟨y.s,y.v,y.t,λW b=>by subst b;exact y.h _ c⟩:Ov R λW=>W=w)) ov v;cases j:o.dst with
   | none=>rfl
   | some v =>simp only [Option.bind_some,i];cases lk ov v<;>rfl
 exact (El hk a he λW b=>by subst b;exact g).1 w rfl
def yF (P:D4) {T:D3->Prop} (R:List Rw) (H:Hw P T) (n:Nat) (all:Array I5):Nat->Array Bool->Fr->Option (Fr × List (Oe × Oe))
 | m,listed,F=>match T6 .any all listed with
   | []=>some (F,[])
   | i::is=>match m with
     | 0=>none
     | m+1=>match qB all listed (i::is) with
       | none=>none
       | some j=>match all[j]? with
         | none=>none
         | some o=>match (match wn all F o with | none=>none | some false=>some (undef,0,[]) | some true=>Lb P R H.ov H.eq F o) with
           | none=>none
           | some (v,t,es)=>match rT n F v t o.dst with
             | none=>none
             | some a=>match yF P R H n all m (listed.setIfInBounds j true) a with
               | none=>none
               | some (F2,es2)=>some (F2,es++es2)
theorem LY {P:List Rw} {H:Hw R S} {all:Array I5} (N:S w) (M:Ry P w) (C:V8 all) (L:∀ c a d v w,o (.panic c) (Act.put a d v) w->o (.panic c) a w):∀ (m:Nat) (listed:Array Bool) (n p:Fr) (q:List (Oe × Oe)) (a:Act),yF R P H F all m listed n=some (p,q)->(∀ e ∈ q,e.1=e.2)->bU n F a->(∀ G,bU p F G->o .normal G w)->wpAnyH R .any all o (λW=>W=w) m listed a w:=by
 intro m;induction m with
 | zero =>
   intro listed n p q a h x k s;unfold yF at h;cases g:T6 .any all listed with
   | nil=>rw [g] at h;cases h;exact R4 g (s a k) 0
   | cons i is=>rw [g] at h;cases h
 | succ m V =>
   intro listed n p q a h x k s;unfold yF at h;cases g:T6 .any all listed with
   | nil=>rw [g] at h;cases h;exact R4 g (s a k) _
   | cons i is =>
     rw [g] at h;dsimp only at h;cases D:qB all listed (i::is) with
     | none=>rw [D] at h;cases h
     | some j =>
       rw [D] at h;dsimp only at h;cases A:all[j]? with
       | none=>rw [A] at h;cases h
       | some Q =>
         rw [A] at h;dsimp only at h;split at h;·cases h
         ·rename_i v t J f;cases z:rT F n v t Q.dst with
          | none=>rw [z] at h;cases h
          | some I =>
            rw [z] at h;dsimp only at h;cases E:yF R P H F all m (listed.setIfInBounds j true) I with
            | none=>rw [E] at h;cases h
            | some y =>
              obtain ⟨X,K⟩:=y;rw [E] at h;simp only [Option.some.injEq,Prod.mk.injEq] at h;obtain ⟨rfl,rfl⟩:=h;have l:=ou D;have U:YieldsIf R all (λW=>W=w) Q v a:=by
               cases u:wn all n Q with
               | none=>rw [u] at f;cases f
               | some b =>
                 rw [u] at f;cases b with
                 | false=>simp only [Option.some.injEq,Prod.mk.injEq] at f;exact .inr ⟨kV k u,f.1.symm⟩
                 | true=>exact .inl ⟨kV k u,λW O=>by subst O;exact LX k f (λe B=>x e (by simp [B])) N λr g=>(M r g).in_⟩
              exact wpAnyH_take A C l.2 (by rw [g];simpa using l.1) (λc a w T=>L c a _ _ w T) U rfl (V _ _ _ _ _ E (λe B=>x e (by simp [B])) (kh z k) s)
inductive Sv where
 | go (k:List KI) (F:Fr) (R:List Rw) (es:List (Oe × Oe))
 | ret
 | stop
def VG (P:D4) (R:List Rw) (F:Fr) (o:I5):Option (List Rw × List (Oe × Oe)):=match o.op with
 | .store _ x _=>match o.op.operands.all (kn F) with
   | false=>none
   | true=>match La F x with
     | 0=>none
     | j+1=>match R[j]? with
       | none=>none
       | some r=>match ui P (I2 (ev F) o) r with
         | some (.skip,r',es)=>some (R.set j r',es.map λe=>(.a e.1,.a e.2))
         | _=>none
 | _=>none
def Ch (P:D4) {T:D3->Prop} (H:Hw P T) (n:Nat) (k:List KI) (F:Fr) (R:List Rw):Sv :=
 match k with
 | .ops _ []::k=>.go k F R []
 | .ops all (o::rest)::k=>match (match wn all F o with | none=>none | some false=>some (undef,0,[]) | some true=>Lb P R H.ov H.eq F o) with
   | some (v,t,a)=>match rT n F v t o.dst with
     | some b=>.go (.ops all rest::k) b R a
     | none=>.stop
   | none=>match wn all F o,o.dst with
     | some true,none=>match VG P R F o with
       | some (R',a)=>.go (.ops all rest::k) F R' a
       | none=>.stop
     | _,_=>.stop
 | .blk _::k=>.go k F R []
 | .code (.region _ ops true)::k=>match V8 ops&&P.follows .mixedOrders with
   | true=>match yF P R H n ops ops.size (A8 ops.size false) F with
     | some (b,a)=>.go k b R a
     | none=>.stop
   | false=>.stop
 | .code c::k=>match iZ P false k F c with
   | .go d b a=>.go d b R a
   | .ret=>.ret
   | .stop=>.stop
 | _=>.stop
theorem Ci {α:Type}:∀ {l:List α} {j:Nat} {x:α},l[j]?=some x->l.set j x=l
 | [],_,_,h=>ni
 | y::l,0,x,h=>by simp at h;simp [h]
 | y::l,j+1,x,h=>by simp only [List.set_cons_succ];rw [Ci (l:=l) et]
structure Iv (bs:List Nat) (w:D3) (R:List Rw) (W:D3):Prop where
 rows:Ry R W
 ag:Ag bs w W
 sub:∀ r ∈ R,r.b ∈ bs
 nd:(R.map Rw.b).Nodup
theorem Iv.below (h:Iv a w D n) (k:Bw n P):Iv a w D P :=
 ⟨λr b=>let ⟨t,bs⟩:=h.rows r b;⟨t,(k.block r.b (A5.1 bs).1).trans bs⟩,h.ag.below k,h.sub,h.nd⟩
theorem SS {es:List Rw} {W:Act} {o:I5} (hk:bU L F W) (h:VG R D L o=some (es,e)) (he:∀ bs ∈ e,bs.1=bs.2) (c:Iv a w D P):∃ u,(I2 W.eval o).run R P=.ok .skip u/\Iv a w es u:=by
 unfold VG at h
 split at h
 ·rename_i t x y H
  cases C:o.op.operands.all (kn L) with
  | false=>rw [C] at h;cases h
  | true =>
    rw [C] at h
    dsimp only at h
    have n:I2 W.eval o=I2 (ev L) o:=L0 o (λcs b bs=>by rw [H] at bs;cases bs) λx T=>hk.eval (A6.1 C x T)
    rw [n]
    cases M:La L x with
    | zero=>rw [M] at h;cases h
    | succ j =>
      rw [M] at h
      dsimp only at h
      cases p:D[j]? with
      | none=>rw [p] at h;cases h
      | some r =>
        rw [p] at h
        dsimp only at h
        cases J:ui R (I2 (ev L) o) r with
        | none=>rw [J] at h;cases h
        | some z =>
          obtain ⟨U,K,A⟩:=z
          rw [J] at h
          cases U with
          | skip =>
            simp only [Option.some.injEq,Prod.mk.injEq] at h
            obtain ⟨rfl,rfl⟩:=h
            have s:=T3 p
            obtain ⟨u,N,O,Q,X,l⟩:=Pt (bs:=a) _ r K _ A P J (λbs s=>by have:=he (.a bs.1,.a bs.2) (S5.2 ⟨bs,s,rfl⟩);simpa using this) (c.sub r s) (c.rows r s)
            have E:j<D.length:=(R8.1 p).1
            have d:(D.set j K).map Rw.b=D.map Rw.b:=by
             rw [List.map_set,Q]
             have:(D.map Rw.b)[j]?=some r.b:=by simp [p]
             exact Ci this
            refine ⟨u,N,⟨λq I=>?_,c.ag.trans ⟨l.os,l.tape,l.output,l.size,λk S hk=>l.block k S (by simp only [R5];exact λbs=>hk (by rw [bs];exact c.sub r s))⟩,λq I=>?_,by rw [d];exact c.nd⟩⟩
            ·obtain ⟨i,m⟩:=List.mem_iff_getElem?.1 I
             by_cases g:i=j
             ·subst g
              rw [List.getElem?_set_self E] at m
              cases m
              exact O
             ·rw [List.getElem?_set_ne (Ne.symm g)] at m
              obtain ⟨t,f⟩:=c.rows q (T3 m)
              have G:q.b≠r.b:=λbs=>g (by
               have B:(D.map Rw.b)[i]?=some q.b:=by simp [m]
               have v:(D.map Rw.b)[j]?=some r.b:=by simp [p]
               rw [<- bs] at v
               exact (List.getElem?_inj (by simpa using (R8.1 m).1) c.nd).1 (B.trans v.symm))
              exact ⟨t,(l.block q.b (A5.1 f).1 (by simpa using G)).trans f⟩
            ·have:q.b ∈ (D.set j K).map Rw.b:=S5.2 ⟨q,I,rfl⟩
             rw [d] at this
             obtain ⟨V,B,v⟩:=S5.1 this
             rw [<- v]
             exact c.sub V B
          | _=>cases h
 ·cases h
theorem LZ {T:D3->Prop} {H:Hw R T} (D:∀ W,Ag a w W->T W) (C:∀ c bs d v w,o (.panic c) (Act.put bs d v) w->o (.panic c) bs w) {k G:List KI} {n A:Fr} {P B:List Rw} {es:List (Oe × Oe)} (h:Ch R H F k n P=.go G A B es) (he:∀ e ∈ es,e.1=e.2) (f:∀ bs W,bU A F bs->Iv a w B W->iY R (λ_=>True) o G .normal bs W) (bs:Act) (W:D3) (hk:bU n F bs) (i:Iv a w P W):iY R (λ_=>True) o k .normal bs W:=by
 unfold Ch at h;split at h;·cases h;exact f bs W hk i
 ·rename_i all Q rest I;show wpList R all _ (Q::rest) bs W;split at h
  ·rename_i v t m g;split at h
   ·rename_i L E;simp only [Sv.go.injEq] at h;obtain ⟨rfl,rfl,rfl,rfl⟩:=h;refine P2 λK q=>?_;cases l:wn all n Q with
    | none=>rw [l] at g;cases g
    | some b =>
      rw [l] at g;cases b with
      | false =>simp only [Option.some.injEq,Prod.mk.injEq] at g;obtain ⟨rfl,rfl,rfl⟩:=g;rw [kV hk l,JZ9 bc];exact q _ _ (f _ _ (kh E hk) i)
      | true =>rw [JZ8 (kV hk l)];show Q.upon R bs K _ _;rw [LX hk g he (D W i.ag) λr p=>(i.rows r p).in_];exact q _ _ (f _ _ (kh E hk) i)
   ·cases h
  ·split at h
   ·rename_i l Y;split at h;·rename_i R2 m z;simp only [Sv.go.injEq] at h;obtain ⟨rfl,rfl,rfl,rfl⟩:=h;obtain ⟨M,U,X⟩:=SS hk z he i;refine P2 λK q=>?_;rw [JZ8 (kV hk l)];show Q.upon R bs K _ _;rw [U];show K (bs.put Q.dst undef) M;rw [Y];exact q _ _ (f _ _ hk X)
    ·cases h
   ·cases h
 ·cases h;exact f bs W hk i
 ·rename_i ops I;split at h
  ·rename_i u;rw [T5] at u;split at h;·rename_i L m y;simp only [Sv.go.injEq] at h;obtain ⟨rfl,rfl,rfl,rfl⟩:=h;have j:Iv a w P W.drew:=⟨λr p=>i.rows r p,i.ag.drew,i.sub,i.nd⟩;refine wp_region_held (S:=λV=>V=W.drew) u.2 ?_;exact LY (D _ j.ag) j.rows u.1 (λc bs d v w s=>by rw [lB] at s ⊢;exact C c bs d v w s) _ _ _ _ _ bs y he hk λN x=>f N _ x j
   ·cases h
  ·cases h
 ·rename_i c I _;split at h;·rename_i k3 Z O y;simp only [Sv.go.injEq] at h;obtain ⟨rfl,rfl,rfl,rfl⟩:=h;exact th (J:=λV=>Iv a w P V) (R:=[]) ⟨λ_ _=>trivial,λ_ _ r p=>(nomatch p),(λs=>by cases s),C⟩ y f bs W hk i
  ·cases h
  ·cases h
 ·cases h
def cw (P:D4) {T:D3->Prop} (H:Hw P T) (n:Nat):Nat->List KI->Fr->List Rw->(Bool × List KI × Fr × List Rw) × List (Oe × Oe)
 | 0,k,F,R=>((false,k,F,R),[])
 | m+1,k,F,R=>match Ch P H n k F R with
   | .stop=>((false,k,F,R),[])
   | .ret=>((true,k,F,R),[])
   | .go d a b c=>match cw P H n m d a b with
     | (r,es')=>(r,c++es')
theorem zR {P:D4} {T:D3->Prop} {H:Hw P T} {n:Nat} {bs:List Nat} {w:D3} {Q:Exit->Act->D3->Prop} (q:∀ W,Ag bs w W->T W) (p:∀ c a d v w,Q (.panic c) (Act.put a d v) w->Q (.panic c) a w):∀ (m:Nat) (k:List KI) (F:Fr) (R:List Rw),(∀ e ∈ (cw P H n m k F R).2,e.1=e.2) ->
 (∀ a W,bU (cw P H n m k F R).1.2.2.1 n a->Iv bs w (cw P H n m k F R).1.2.2.2 W->if (cw P H n m k F R).1.1=true then Q .ret a W else iY P (λ_=>True) Q (cw P H n m k F R).1.2.1 .normal a W)->∀ a W,bU F n a->Iv bs w R W->iY P (λ_=>True) Q k .normal a W
 | 0,k,F,R,_,hf,a,W,hk,hI=>by simpa [cw] using hf a W hk hI
 | m+1,k,F,R,he,hf,a,W,hk,hI=>by
   cases f:Ch P H n k F R with
   | stop =>
     have e:cw P H n (m+1) k F R=((false,k,F,R),[]):=by simp only [cw,f]
     rw [e] at hf
     simpa using hf a W hk hI
   | ret =>
     have e:cw P H n (m+1) k F R=((true,k,F,R),[]):=by simp only [cw,f]
     rw [e] at hf
     have s:Q .ret a W:=by simpa using hf a W hk hI
     unfold Ch at f
     split at f
     ·cases f
     ·repeat (split at f<;>try cases f)
     ·cases f
     ·repeat (split at f<;>try cases f)
     ·rename_i c u t
      split at f
      ·cases f
      ·rename_i g
       cases c with
       | ret=>exact wp_ret (by rw [zx];exact s)
       | region i ops b=>cases b<;>simp only [iZ] at g<;>(try split at g)<;>cases g
       | cond=>simp only [iZ] at g;repeat (split at g<;>try cases g)
       | exit=>simp only [iZ] at g;split at g<;>cases g
       | _=>cases g
      ·cases f
     ·cases f
   | go o h j r =>
     have e:cw P H n (m+1) k F R=((cw P H n m o h j).1,r++(cw P H n m o h j).2):=by simp only [cw,f]
     rw [e] at he hf
     exact LZ q p f (λx l=>he x (by simp [l])) (zR q p m o h j (λx l=>he x (by simp [l])) hf) a W hk hI
theorem oJ (d:Iv a w D w) (H:Hw R (Ag a w)) (m:Nat) {R1:List Rw} (h:∀ W,Iv a w R1 W->Wg R (λ_=>True) (F3 R M c) F (cw R H F m b L D).1.2.1 (cw R H F m b L D).1.2.2.1 W) (hx:((cw R H F m b L D).1.1,(cw R H F m b L D).1.2.2.2)=(false,R1):=by kernel_rfl) (he:(cw R H F m b L D).2.map X8=(cw R H F m b L D).2.map X9:=by kernel_rfl):Wg R (λ_=>True) (F3 R M c) F b L w:=λP f=>by
 simp only [Prod.mk.injEq] at hx
 refine zR (λ_ h=>h) cD m b L D (λe g=>T4.1 he e g) (λP W bs fn=>?_) P w f d
 rw [hx.2] at fn
 rw [hx.1,JZ9 bc]
 exact h W fn P bs
theorem fK (g:Iv a w D w) (H:Hw R (Ag a w)) (m:Nat) {R1:List Rw} {f:Nat} {args:Array D8} {Rc:D3->Ending->D3->Prop} (i:∀ W,Iv a w R1 W->I1 R f args W (Rc W)) (h:∀ W e P,Iv a w R1 W->Rc W e P->∃ v t,e=.returned v/\Wg R (λ_=>True) (F3 R M c) F (n7 (cw R H F m b L D).1.2.2.1 (cw R H F m b L D).1.2.1) (pV (cw R H F m b L D).1.2.2.1 (cw R H F m b L D).1.2.1 v t) P) (hx:((cw R H F m b L D).1.1,(cw R H F m b L D).1.2.2.2,Jf R F (cw R H F m b L D).1.2.2.1 (cw R H F m b L D).1.2.1)=(false,R1,some (f,args)):=by kernel_rfl) (he:(cw R H F m b L D).2.map X8=(cw R H F m b L D).2.map X9:=by kernel_rfl):Wg R (λ_=>True) (F3 R M c) F b L w:=by simp only [Prod.mk.injEq] at hx;refine oJ g H m (hx:=x8) (he:=he) λW fn=>io (i W fn) (hx:=hx.2.2) λe P j=>?_;obtain ⟨v,t,bs,d⟩:=h W e P fn j;exact ⟨v,t,bs,λ_=>trivial,d⟩
theorem Uv (fn:Iv a w D w) (H:Hw R (Ag a w)) (m:Nat) {R1:List Rw} {s:Sem Next} {v:D3->D8} (t:Nat) (f:D3->D3) (hr:∀ W,Iv a w R1 W->s.run R W=.ok (.value (v W)) (f W)) (h:∀ W,Iv a w R1 W->Wg R (λ_=>True) (F3 R M c) F (n7 (cw R H F m b L D).1.2.2.1 (cw R H F m b L D).1.2.1) (pV (cw R H F m b L D).1.2.2.1 (cw R H F m b L D).1.2.1 (v W) t) (f W)) (hx:((cw R H F m b L D).1.1,(cw R H F m b L D).1.2.2.2,Em F (cw R H F m b L D).1.2.2.1 (cw R H F m b L D).1.2.1)=(false,R1,some s):=by kernel_rfl) (he:(cw R H F m b L D).2.map X8=(cw R H F m b L D).2.map X9:=by kernel_rfl):Wg R (λ_=>True) (F3 R M c) F b L w:=by simp only [Prod.mk.injEq] at hx;exact oJ fn H m (hx:=x8) (he:=he) λW P=>dt t (hx:=hx.2.2) (hr W P) (hS:=λ_=>trivial) (h W P)
theorem iS {P:D4} {R:List Rw} (g:Iv bs w R w) (H:Hw P (Ag bs w)) (m:Nat) {R1:List Rw} (h:∀ W a,Iv bs w R1 W->bU (cw P H F m b L R).1.2.2.1 F a->∃ v,(results M a.tmps).run P W=.ok v W/\c (.returned v) W) (hx:((cw P H F m b L R).1.1,(cw P H F m b L R).1.2.2.2)=(true,R1):=by kernel_rfl) (he:(cw P H F m b L R).2.map X8=(cw P H F m b L R).2.map X9:=by kernel_rfl):Wg P (λ_=>True) (F3 P M c) F b L w:=λa i=>by
 simp only [Prod.mk.injEq] at hx
 refine zR (λ_ h=>h) cD m b L R (λe j=>T4.1 he e j) (λa W Rs fn=>?_) a w i g
 rw [hx.2] at fn
 rw [hx.1,JZ8 rfl]
 obtain ⟨v,d,f⟩:=h W a fn Rs
 exact H8 d Rs.nod f
theorem vG (fn:Iv a w D w) (H:Hw R (Ag a w)) (m:Nat) {R1:List Rw} {t:Nat} {v:D8} (h:∀ W,Iv a w R1 W->c (.returned v) W) (hx:((cw R H F m b L D).1.1,(cw R H F m b L D).1.2.2.2,(lk (cw R H F m b L D).1.2.2.1 t).map X8)=(true,R1,some v):=by kernel_rfl) (he:(cw R H F m b L D).2.map X8=(cw R H F m b L D).2.map X9:=by kernel_rfl) (hr:M.results=#[.tmp t]:=by rfl):Wg R (λ_=>True) (F3 R M c) F b L w:=by simp only [Prod.mk.injEq] at hx;exact iS fn H m (hx:=x8) (he:=he) λW P bs d=>⟨v,by rw [results_tmp hr,d.slot hx.2.2],h W bs⟩
theorem px (fn:Iv a w D w) (H:Hw R (Ag a w)) (m:Nat) {R1:List Rw} (h:∀ W,Iv a w R1 W->c (.returned (.tuple #[])) W) (hx:((cw R H F m b L D).1.1,(cw R H F m b L D).1.2.2.2)=(true,R1):=by kernel_rfl) (he:(cw R H F m b L D).2.map X8=(cw R H F m b L D).2.map X9:=by kernel_rfl) (hr:M.results=#[]:=by rfl):Wg R (λ_=>True) (F3 R M c) F b L w :=
 iS fn H m (hx:=hx) (he:=he) λW P bs _=>⟨_,O1 hr _ _ _,h W bs⟩
theorem gt (fn:Iv a w D w) (H:Hw R (Ag a w)) (m:Nat) {R1:List Rw} (h:∀ W,Iv a w R1 W->c (.returned (.tuple #[])) W) (hx:((cw R H F m b L D).1.1,(cw R H F m b L D).1.2.2.2)=(false,R1):=by kernel_rfl) (hz:(cw R H F m b L D).1.2.1.isEmpty:=by kernel_rfl) (he:(cw R H F m b L D).2.map X8=(cw R H F m b L D).2.map X9:=by kernel_rfl) (hr:M.results=#[]:=by rfl):Wg R (λ_=>True) (F3 R M c) F b L w :=
 oJ fn H m (hx:=hx) (he:=he) λW bs P d=>by
  rw [List.isEmpty_iff.1 hz]
  exact bodyPost_end (O1 hr _ _ _) d.nod (h W bs)
theorem Iv.eng {P:D4} {fn:Func} {Rs:Ending->D3->Prop}:n6 P (Iv a w D) (Iv a w D) D true (F3 P fn Rs):=⟨λ_ h=>h,λ_ h r bs=>(h.rows r bs).in_,λ_ _ h=>⟨λr bs=>h.rows r bs,h.ag.drew,h.sub,h.nd⟩,cD⟩
def xF (s j:Nat):Fr->Fr
 | []=>[]
 | x::F=>(match X6 x.1 s with | true=>(x.1,x.2.1,j) | false=>x)::xF s j F
theorem zS (s j t:Nat):∀ (F:Fr) (x:D8 × Nat),lk (xF s j F) t=some x->∃ y,lk F t=some y/\y.1=x.1
 | [],_,h=>ni
 | (d,v,g)::F,x,h=>by
   unfold xF at h
   cases b:X6 d s with
   | true =>
     simp only [b,lk] at h ⊢
     cases a:X6 d t with
     | true=>rw [a] at h;cases h;exact ⟨_,rfl,rfl⟩
     | false=>rw [a] at h;exact zS s j t F x h
   | false =>
     simp only [b,lk] at h ⊢
     cases a:X6 d t with
     | true=>rw [a] at h;cases h;exact ⟨_,rfl,rfl⟩
     | false=>rw [a] at h;exact zS s j t F x h
theorem bU.tag (h:bU L F f) (s j:Nat):bU (xF s j L) F f:=⟨h.size,h.nod,λt x d=>by
 obtain ⟨y,b,c⟩:=zS s j t L x d
 rw [<- c]
 exact h.at_ t y b⟩
theorem aP (h:Wg R S o F b (xF r m L) w):Wg R S o F b L w:=λa n=>h a (n.tag r m)
theorem oK (z:I1 R k B w c) (hx:(Em F L b).map (λs=>s.run R w)=some (.ok (.enter k B) w)) (h:∀ e g,c e g->∃ v t,e=.returned v/\(xr L b->S g)/\Wg R S o F (n7 L b) (pV L b v t) g):Wg R S o F b L w:=λa j=>by
 obtain ⟨s,Rc,r⟩:=Y2.1 hx;unfold Em at Rc;unfold n7 pV xr at h;cases p:Bn L b with
 | none=>rw [p] at Rc;cases Rc
 | some y =>
   obtain ⟨Q,D,n⟩:=y;rw [p] at Rc h;dsimp only at Rc h;split at Rc
   ·rename_i i;cases Rc;rw [T5,T5] at i;have l:I2 a.eval Q=I2 (ev L) Q:=L0 Q (λcs n e=>by have:=i.1.2;rw [e] at this;cases this) λx hx=>j.eval (A6.1 i.1.1 x hx);refine vj p j λK u=>?_;show Q.upon R a K _ _;rw [l,r];refine z.mono λe g A=>?_;obtain ⟨v,t,rfl,args,C⟩:=h e g A;refine u _ _ args (C _ ?_);cases m:Q.dst with
    | none=>exact j
    | some d=>have q:=i.2;rw [m] at q;exact j.put q v t
   ·cases Rc
def ET (ops:Array I5):Bool :=
 X5 0 ops.size&&(List.range (ops.size-1)).all (λi=>match ops[i]? with
  | none=>false
  | some o=>o.after.all (λe=>!Region.binds .any e||X5 e.on i)&&(match o.guard with | none=>true | some g=>X5 g.1 i)&&(match ops[ops.size-1]? with | none=>false | some l=>kf l i))&&(match ops[ops.size-1]? with | none=>false | some l=>l.after.all (λe=>!Region.binds .any e||X5 e.on (ops.size-1)))
section
variable {P : D4} {ops : Array I5} {Q : Exit -> Act -> D3 -> Prop} {S : D3 -> Prop}
structure sa (ops:Array I5) (L:Nat) (l:I5):Prop where
 size:ops.size=L+1
 last:ops[L]?=some l
 down:∀ (i:Nat) (o:I5),i<L->ops[i]?=some o->∀ e ∈ o.after,X0 .any e->e.on<i
 gd:∀ (i:Nat) (o:I5),i<L->ops[i]?=some o->∀ g,o.guard=some g->g.1<i
 all:∀ i,i<L->kf l i
 ldn:∀ e ∈ l.after,X0 .any e->e.on<L
theorem zT {a b:Nat} (h:X5 a b):a<b:=Nat.lt_of_succ_le (by simpa [X5] using h)
theorem Cj (h:ET ops):∃ L l,sa ops L l:=by
 unfold ET at h;simp only [T5] at h;obtain ⟨⟨n,c⟩,m⟩:=h;have q:=zT n;have j:ops[ops.size-1]?=some ops[ops.size-1]:=A9 ab;refine ⟨ops.size-1,ops[ops.size-1],ab,j,?_,?_,?_,?_⟩;·intro i o b k e f d;have:=R6.1 c i (R7.2 b);rw [k] at this;simp only [T5] at this;have a:=A6.1 this.1.1 e f;rw [d] at a;exact zT ta
 ·intro i o b k g p;have:=R6.1 c i (R7.2 b);rw [k] at this;simp only [T5,p] at this;exact zT this.1.2
 ·intro i b;have:=R6.1 c i (R7.2 b);rw [A9 (show i<ops.size by omega),j] at this;simp only [T5] at this;exact this.2
 ·intro e f d;rw [j] at m;have a:=A6.1 m e f;rw [d] at a;exact zT ta
variable {L : Nat} {l : I5}
theorem mW {listed:Array Bool} (hs:listed.size=L) {j:Nat} (a:j<L) (d:Bool):(listed.push false).getD j d=listed.getD j d:=by simp [C6,D1,hs,a,show j<L+1 by omega]
theorem L4 {listed:Array Bool} (hs:listed.size=L) {i:Nat} (b:i<L):(listed.push false).setIfInBounds i true=(listed.setIfInBounds i true).push false:=by
 apply Array.ext_getElem?;intro j;by_cases a:i=j;·subst a;rw [Array.getElem?_setIfInBounds_self_of_lt bv,Array.getElem?_push_lt bv];simp
 ·rw [C5 a];simp only [Array.getElem?_push,Array.size_setIfInBounds,C5 a]
theorem uB (T:sa ops L l) {i:Nat} (a:i<L):ops.pop[i]?=ops[i]?:=by have:=T.size;simp [show i<ops.size-1 by omega]
theorem sd (T:sa ops L l) {listed:Array Bool} (hs:listed.size=L) {i:Nat} (a:i<L):i ∈ T6 .any ops (listed.push false)↔i ∈ T6 .any ops.pop listed:=by rw [mem_ready,mem_ready,mW hs a,uB T a];refine and_congr_right λ_=>exists_congr λo=>and_congr_right λd=>?_;refine forall_congr' λe=>forall_congr' λc=>forall_congr' λb=>?_;rw [mW hs (by have:=T.down i o a d e c b;omega)]
theorem EU (T:sa ops L l) {listed:Array Bool} (hs:listed.size=L) (hr:T6 .any ops.pop listed=[]):∀ i,i<L->listed.getD i false:=by
 intro i;induction i using Nat.strongRecOn with
 | _ i g =>
   intro a;cases d:listed.getD i true with
   | true=>simpa [C6,hs,a] using d
   | false =>have b:ops[i]?=some (ops[i]' v8):=A9 _;have:i ∈ T6 .any ops.pop listed:=mem_ready.2 ⟨d,_,(uB T a).trans b,λe f c=>g e.on (T.down i _ a b e f c) (by have:=T.down i _ a b e f c;omega)⟩;rw [hr] at this;cases this
theorem L5 (T:sa ops L l) {R:Act->D3->Prop} {i:Nat} (k:i<L) {K f:Act->D3->Prop} {a:Act} {w:D3} (q:∀ a w,K a w->f a w) (h:wpOp P ops.pop (Exit.then R Q) i K a w):wpOp P ops Q i f a w:=by
 refine wpOp_mono q ?_;have m:ops[i]?=some (ops[i]' v8):=A9 _;unfold wpOp at h ⊢;rw [uB T k] at h;rw [m] at h ⊢;dsimp only at h ⊢;have t:V4 (ops[i]' v8) (yielded ops.pop a.tmps)=V4 (ops[i]' v8) (yielded ops a.tmps):=by
  unfold V4;cases s:(ops[i]' v8).guard with
  | none=>rfl
  | some g =>have j:=T.gd i _ k m g s;dsimp only;unfold yielded;rw [uB T ab]
 rw [t] at h;split
 ·rename_i b;rw [JZ8 b] at h;rcases h with h|⟨j,o,d,p⟩
  ·refine .inl ?_;unfold Oper.wp at h ⊢;generalize (I2 a.eval (ops[i]' v8)).run P w=r at *;cases r with
   | ok n d =>
     cases n<;>simp only [Oper.upon] at h ⊢;all_goals first
      | exact h
      | exact Calls.mono h (λe u c=>by cases e<;>exact c)
      | exact Rows.mono h (λ_ _ c=>c)
   | halt x d=>cases x<;>simp only [Oper.upon] at h ⊢ <;> exact h
  ·exact .inr ⟨j,o,d,p⟩
 ·rename_i b;rw [JZ9 b] at h;exact h
theorem EV (T:sa ops L l):∀ (fuel:Nat) (listed:Array Bool) (a:Act) (w:D3),listed.size=L->wpAny P .any ops.pop (Exit.then (λa w=>wpOp P ops Q L (λa w=>Q .normal a w) a w) Q) fuel listed a w->wpAny P .any ops Q (fuel+1) (listed.push false) a w:=by
 have g:∀ (m:Nat) (listed:Array Bool) (a:Act) (w:D3),listed.size=L->T6 .any ops.pop listed=[]->wpOp P ops Q L (λa w=>Q .normal a w) a w->wpAny P .any ops Q (m+1) (listed.push false) a w:=by
  intro m listed a w b q h
  have f:=EU T b q
  have R:=T.size
  have I:L ∈ T6 .any ops (listed.push false):=mem_ready.2 ⟨by simp [C6,D1,b],l,T.last,λe O N=>by
   have k:=T.ldn e O N
   rw [mW b k]
   exact f _ k⟩
  refine ⟨λB=>(by rw [B] at I;cases I),λi t=>?_⟩
  by_cases c:i=L
  ·subst c
   refine wpOp_mono (λG K v=>?_) h
   have J:T6 .any ops ((listed.push false).setIfInBounds i true)=[]:=by
    rw [List.eq_nil_iff_forall_not_mem]
    intro j A
    obtain ⟨k,o,d,_⟩:=mem_ready.1 A
    have y:j<ops.size:=(A5.1 d).1
    by_cases u:j=i
    ·subst u
     simp [C6,b] at k
    ·have z:=f j ab
     have H:((listed.push false).setIfInBounds i true).getD j true=listed.getD j true:=by
      rw [<- mW b (show j<i by omega)]
      simp only [Array.getD_eq_getD_getElem?,C5 (Ne.symm u)]
     rw [H] at k
     have r:j<listed.size:=ab
     simp [C6,r] at k z
     rw [k] at z
     cases z
   cases m with
   | zero=>exact ⟨J,v⟩
   | succ m=>exact ⟨λ_=>v,λj A=>by rw [J] at A;cases A⟩
  ·have E:i<L:=by
    obtain ⟨_,o,d,_⟩:=mem_ready.1 t
    have:=(A5.1 d).1
    omega
   have:=(sd T b E).1 t
   rw [q] at this
   cases this
 intro fuel
 induction fuel with
 | zero=>intro listed a w b h;exact g 0 listed a w b h.1 h.2
 | succ fuel S =>
   intro listed a w b h
   by_cases q:T6 .any ops.pop listed=[]
   ·exact g _ listed a w b q (h.1 q)
   ·obtain ⟨x,F⟩:=List.exists_mem_of_ne_nil _ q
    have p:x<L:=by
     obtain ⟨_,o,d,_⟩:=mem_ready.1 F
     have y:=(A5.1 d).1
     rw [D2] at y
     have:=T.size
     omega
    refine ⟨λB=>(by have:=(sd T b p).2 F;rw [B] at this;cases this),λi t=>?_⟩
    have c:i<L:=by
     obtain ⟨_,o,d,y⟩:=mem_ready.1 t
     have z:=(A5.1 d).1
     have H:=T.size
     by_cases e:i=L
     ·subst e
      rw [T.last] at d
      cases d
      have r:=T.all x p
      unfold kf at r
      rw [<- Array.any_toList] at r
      obtain ⟨e,s,n⟩:=List.any_eq_true.1 r
      rw [Array.mem_toList_iff] at s
      rw [T5,beq_iff_eq] at n
      have C:=y e s n.1
      rw [n.2,mW b p] at C
      have D:=(mem_ready.1 F).1
      have M:x<listed.size:=ab
      simp [C6,M] at C D
      rw [C] at D
      cases D
     ·omega
    refine L5 T c (λG K v=>?_) (h.2 i ((sd T b c).1 t))
    rw [L4 b c]
    exact S _ G K (by simp [b]) v
def GT:Nat->Array I5->List KI->Option (List KI)
 | 0,ops,k=>some (.sq ops ops.size (A8 ops.size false)::k)
 | j+1,ops,k=>match ET ops,ops[ops.size-1]? with
   | true,some l=>GT j ops.pop (.ops ops [l]::k)
   | _,_=>none
theorem L7:∀ (j:Nat) (ops:Array I5) (k b:List KI) (a:Act) (w:D3),GT j ops k=some b->iY P S Q b .normal a w->wpAny P .any ops (iY P S Q k) ops.size (A8 ops.size false) a w:=by
 intro j;induction j with
 | zero =>intro ops k b a w h c;cases h;exact N1 (S:=S) _ _ _ _ c
 | succ j o =>
   intro ops k b a w h c;unfold GT at h;split at h;·rename_i l d n;obtain ⟨L,p,T⟩:=Cj d;have f:=T.size;have m:ops.size-1=L:=ab;rw [m,T.last] at n;cases n;have g:=o ops.pop _ b a w h c;rw [D2,m] at g;have e:(λa w=>wpOp P ops (iY P S Q k) L (λa w=>iY P S Q k .normal a w) a w)=wpList P ops (iY P S Q k) [l]:=(by funext a w;unfold wpOp wpList;rw [T.last];rfl);have i:wpAny P .any ops (iY P S Q k) (L+1) ((A8 L false).push false) a w:=(by refine EV T L _ a w di ?_;rw [e];exact g);have e2:(A8 L false).push false=A8 (L+1) false:=(by rw [Array.replicate_succ]);rw [e2] at i;rw [f];exact i
   ·cases h
def Ck (j:Nat) (k:List KI):Option (List KI):=match k with
 | .code (.region _ ops true)::k'=>GT j ops k'
 | _=>none
theorem fV (j:Nat) {n:Nat} {F:Fr} {w:D3} {k:List KI} (h:Wg P S Q n ((Ck j k).getD []) F w.drew) (hm:P.follows .mixedOrders:=by kernel_rfl) (hk:(Ck j k).isSome:=by kernel_rfl):Wg P S Q n k F w:=λa c=>by
 obtain ⟨e,b⟩:=Option.isSome_iff_exists.1 hk;clear hk;rw [b,Option.getD_some] at h;unfold Ck at b;split at b;·rename_i id ops d;show (Go.Code.region id ops true).wp P (iY P S Q d) a w;exact L6 hm (L7 j ops d e a w.drew b (h a c))
 ·cases b
theorem zU {n:Nat} {F:Fr} {w:D3} {k:List KI} (h:Wg P S Q n ((Ck 1 k).getD []) F w.drew) (hm:P.follows .mixedOrders:=by kernel_rfl) (hk:(Ck 1 k).isSome:=by kernel_rfl):Wg P S Q n k F w:=fV 1 (hm:=hm) (hk:=hk) h
def ST (kk:Nat) (k:List KI):Option (List KI):=match k with
 | .code (.region _ ops true)::k'=>some (.sk ops kk ops.size (A8 ops.size false)::k')
 | _=>none
theorem lN (kk:Nat) {n:Nat} {F:Fr} {w:D3} {k:List KI} (h:Wg P S Q n ((ST kk k).getD []) F w.drew) (hm:P.follows .mixedOrders:=by kernel_rfl) (hk:(ST kk k).isSome:=by kernel_rfl):Wg P S Q n k F w:=λa b=>by
 unfold ST at hk h;split at hk;·rename_i id ops c;show (Go.Code.region id ops true).wp P (iY P S Q c) a w;exact L6 hm (vg _ _ _ _ (h a b))
 ·cases hk
def VH (k:List KI):Option (List KI):=match k with
 | .sw all m listed::k'=>some (.sq all m listed::k')
 | _=>none
theorem Uw {n:Nat} {F:Fr} {w:D3} {k:List KI} (h:Wg P S Q n ((VH k).getD []) F w) (hk:(VH k).isSome:=by kernel_rfl):Wg P S Q n k F w:=λa b=>by
 unfold VH at hk h;split at hk;·exact N1 (S:=S) _ _ _ _ (h a b)
 ·cases hk
def au:Nat->I4->I4
 | 0,c=>c
 | n+1,.seq _ y=>au n y
 | _+1,c=>c
def fW:I4->I4
 | .seq x _=>x
 | c=>c
def GU:I4->I4
 | .cond _ x _=>x
 | c=>c
def aM (fn:Func):I4:=fn.body.getD .skip
theorem af {n:Nat} {F:Fr} {w:D3} {k:List KI} (k1:List KI) (b:Fr) (h:Wg P S Q n k1 b w) (hk:k=k1:=by kernel_rfl) (hF:b.map (λy=>some y.2.1)=b.map λy=>(lk F y.1).map X8:=by kernel_rfl):Wg P S Q n k F w:=by subst hk;exact λa c=>h a (c.less hF)
end
theorem g6 (d:Bool) (a1:Option F0) (b c1:Nat) (a2:Option F0) (c c2:Nat) (a:Int) (w:D3) (k:b<=1048576) (l:c<=1048576): CB 35 #[.agg #[.u q,.u y,.bool d,.slice a1 b c1,.slice a2 c c2,.i a]] w (.bool (lA b c a)):=by
 have e:lA b c a=(decide ((b:Int)<=16)&&decide ((c:Int)<=4096)&&((a==0)||(a==1))):=by unfold lA;rw [decide_eq_decide.2 (show b<=16↔(b:Int)<=16 by omega),decide_eq_decide.2 (show c<=4096↔(c:Int)<=4096 by omega),show decide (0<=a/\a<=1)=((a==0)||(a==1)) by rw [Bool.eq_iff_iff];simp;omega]
 rw [e];refine br (S:=Bs w [(#[.u q,.u y,.bool d,.slice a1 b c1,.slice a2 c c2,.i a],27)]) (args:=[.agg #[.u q,.u y,.bool d,.slice a1 b c1,.slice a2 c c2,.i a]]) [(#[.u q,.u y,.bool d,.slice a1 b c1,.slice a2 c c2,.i a],27)] func35 ?_;cases g:decide ((b:Int)<=16)<;>cases i:decide ((c:Int)<=4096)<;>cases j:(a==0)<;>cases d4:(a==1)<;>exact bn (t:=2) Bs.eng {eq:=[(6,an g),(11,an i),(16,an j),(20,an d4)]} 60 (Bs.start _ _) (λf h=>⟨rfl,h.2⟩)
theorem L8 (m:q=33554432->¬ y=4) (k1:q=33570816->¬ y=8) (k2:q=33603576->¬ y=8) (n:q=268435456->¬ y=1) (o:q=268435457->¬ y=1) (p:q=268435461->¬ y=1) (w:D3): CE 269 #[.u q,.i y] w (.bool false):=by
 have g:∀ {c d:Int},(q=c->¬ y=d)->(q==c)->(y==d)=false:=λh k=>by simpa using h (by simpa using k)
 refine br (S:=λx=>x=w) (args:=[.u q,.i y]) [] func269 ?_;cases a:(q==33554432);case true=>exact jm (R:=[]) trivial {eq:=[(7,an a),(9,an (g m a))]} 99 (t:=4) ⟨rfl,rfl⟩
 cases b:(q==33570816);case true=>exact jm (R:=[]) trivial {eq:=[(7,an a),(11,an b),(14,an (g k1 b))]} 99 (t:=4) ⟨rfl,rfl⟩
 cases f:(q==33603576);case true=>exact jm (R:=[]) trivial {eq:=[(7,an a),(11,an b),(12,an f),(14,an (g k2 f))]} 99 (t:=4) ⟨rfl,rfl⟩
 cases i:(q==268435456);case true=>exact jm (R:=[]) trivial {eq:=[(7,an a),(11,an b),(12,an f),(16,an i),(20,an (g n i))]} 99 (t:=4) ⟨rfl,rfl⟩
 cases j:(q==268435457);case true=>exact jm (R:=[]) trivial {eq:=[(7,an a),(11,an b),(12,an f),(16,an i),(17,an j),(20,an (g o j))]} 99 (t:=4) ⟨rfl,rfl⟩
 cases l:(q==268435461);case true=>exact jm (R:=[]) trivial {eq:=[(7,an a),(11,an b),(12,an f),(16,an i),(17,an j),(18,an l),(20,an (g p l))]} 99 (t:=4) ⟨rfl,rfl⟩
 exact jm (R:=[]) trivial {eq:=[(7,an a),(11,an b),(12,an f),(16,an i),(17,an j),(18,an l)]} 99 (t:=4) ⟨rfl,rfl⟩
theorem xG (D:DV) (a1:Option F0) (c1:Nat) (a2:Option F0) (c2:Nat) (w:D3) (f:D.xs.length<=1048576) (g:D.ys.length<=1048576):CB 51 #[.agg #[.u D.t,.u D.cm,.bool D.so,.slice a1 D.xs.length c1,.slice a2 D.ys.length c2,.i D.ir]] w (.u (hO D)):=by obtain ⟨t,b,c,d,i,a⟩:=D;have k:=λW (_:Bw w W)=>g6 t b c a1 d.length c1 a2 i.length c2 a W f g;have e3:decide ((d.length:Int)>0)=decide (0<d.length):=decide_eq_decide.2 ab;unfold hO dM;dsimp only;generalize lA d.length i.length a=p at *;generalize d.length=n at *;generalize i.length=m at *;refine br (S:=Bs w [(#[.u t,.u b,.bool c,.slice a1 n c1,.slice a2 m c2,.i a],27)]) (args:=[.agg #[.u t,.u b,.bool c,.slice a1 n c1,.slice a2 m c2,.i a]]) [(#[.u t,.u b,.bool c,.slice a1 n c1,.slice a2 m c2,.i a],27)] func51 ?_;cases p<;>cases c<;>cases l:decide (b<=t)<;>cases o:(a==1)<;>cases d4:decide (0<n)<;>rw [d4] at e3<;>exact bn (t:=2) Bs.eng {eq:=[(15,an l),(20,an o),(25,an e3)],cv:=[(5,fM k)]} 90 (Bs.start _ _) (λj h=>⟨rfl,h.2⟩)
theorem zV (c2:l.xs.length<=1048576) (a1:l.ys.length<=1048576) (hb:cS l) (c1:Sl .u8 C p l.xs) (s:Sl .u8 C V l.ys): I1 prog 86 #[.agg #[.u l.t,.u l.cm,.bool l.so,.slice p l.xs.length r,.slice V l.ys.length m,.i l.ir],.i q] C λe g=>∃ (y:Option F0) (A:Nat) (z:Option F0) (B:Nat),e=.returned (.agg (fl (gx l q) y A z B)) /\ bj C.heap.size g.heap.size g (pP (gx l q) y A z B)/\Bw C g:=by
 have c:Hid (∀ C,CB 35 #[.agg #[.u l.t,.u l.cm,.bool l.so,.slice p l.xs.length r,.slice V l.ys.length m,.i l.ir]] C (.bool (lA l.xs.length l.ys.length l.ir))):=λC=>g6 _ _ _ _ _ _ _ _ _ _ C c2 a1;have n:Hid (∀ g,Bw C g->I1 prog 40 #[.agg #[.u l.t,.u l.cm,.bool l.so,.slice p l.xs.length r,.slice V l.ys.length m,.i l.ir]] g λe G=>∃ (y:Option F0) (A:Nat) (z:Option F0) (B:Nat),e=.returned (.agg #[.u l.t,.u l.cm,.bool l.so,.slice y l.xs.length A,.slice z l.ys.length B,.i l.ir])/\bj g.heap.size G.heap.size G (eX y l.xs.length A l.xs z l.ys.length B l.ys)/\Bw g G):=λg hb=>lJ _ _ _ _ _ _ _ _ _ _ l.xs l.ys g rfl rfl c2 a1 (c1.below hb) (s.below hb);cases d:lA l.xs.length l.ys.length l.ir with
 | false =>have F:gx l q=zeroD:=(by unfold gx;rw [d];rfl);rw [F];rw [d] at c;clear c1 s hb c2 a1 n F d;obtain ⟨t,R,so,J,K,S⟩:=l;dsimp only at c ⊢;generalize J.length=T at *;generalize K.length=U at *;go_enter func86,ntmps86;go_wp2_with fail;refine (c.out _).mono ?_;rintro e L ⟨rfl,b⟩;obtain ⟨E,j⟩:=jR b;have R1:=aq j;have H:=aq (aa vA b);obtain ⟨a2,W,X,Y,Z,s5⟩:=aQ j;obtain ⟨y0,y1,y2,y3,y4,y5⟩:=mn j;clear E j b;go_wp2_with fail;exact H8 (G1 results86 _ _ _ _ _ _ _ rfl (fj R1.out _ _ _ _ _ _) underlying27 rfl aU) rfl ⟨none,0,none,0,rfl,gy _ _ _,dE H.out ab _ _ _ _ _ _⟩
 | true =>
   rw [d] at c;cases u:decide (q<0) with
   | true =>have F:gx l q=zeroD:=(by unfold gx;rw [d,u];rfl);rw [F];clear c1 s hb c2 a1 n F d;obtain ⟨t,R,so,J,K,S⟩:=l;dsimp only at c ⊢;generalize J.length=T at *;generalize K.length=U at *;go_enter func86,ntmps86;go_wp2_with fail;refine (c.out _).mono ?_;rintro e L ⟨rfl,b⟩;obtain ⟨E,j⟩:=jR b;have R1:=aq j;have H:=aq (aa vA b);obtain ⟨a2,W,X,Y,Z,s5⟩:=aQ j;obtain ⟨y0,y1,y2,y3,y4,y5⟩:=mn j;clear E j b;go_wp2_with fail;exact H8 (G1 results86 _ _ _ _ _ _ _ rfl (fj R1.out _ _ _ _ _ _) underlying27 rfl aU) rfl ⟨none,0,none,0,rfl,gy _ _ _,dE H.out ab _ _ _ _ _ _⟩
   | false =>obtain ⟨N,w⟩:∃ N,Uz.wrap (l.t+Uz.wrap q)=N:=⟨_,rfl⟩;have F:gx l q=⟨N,l.cm,l.so,l.xs,l.ys,l.ir⟩:=(by unfold gx;rw [d,u,w];rfl);rw [F];have P:=aq w;clear c1 s hb c2 a1 F d w;obtain ⟨t,R,so,J,K,S⟩:=l;dsimp only [fl,pP] at c n P ⊢;generalize J.length=T at *;generalize K.length=U at *;go_enter func86,ntmps86;go_wp2_with fail;refine (c.out _).mono ?_;rintro e L ⟨rfl,b⟩;obtain ⟨E,j⟩:=jR b;have R0:=aq E;have R1:=aq j;have H:=aq (aa vA b);obtain ⟨p0,p1,p2,p3,p4,p5⟩:=aQ E;clear E j b;go_wp2_with fail;refine (n.out _ H.out).mono ?_;rintro e w2 ⟨y,A,z,B,rfl,I,D⟩;have M:=aq I;have S0:=aq (aD D R0.out);have f:=aq (aD D R1.out);have O:=aq (aa H.out D);have Q:=aq (show C.heap.size+1<L.heap.size/\L.heap.size<=w2.heap.size from ⟨(A5.1 R1.out).1,D.size⟩);have u0:=λo=>(aQ (ap S0.out o)).1;have a2:=λo=>(aQ (ap f.out o)).1;have W:=λo=>(aQ (ap f.out o)).2.1;have X:=λo=>(aQ (ap f.out o)).2.2.1;have Y:=λo=>(aQ (ap f.out o)).2.2.2.1;have Z:=λo=>(aQ (ap f.out o)).2.2.2.2.1;have s5:=λo=>(aQ (ap f.out o)).2.2.2.2.2;have y0:=λo=>dD (ap f.out o) 0;have y1:=λo=>dD (ap f.out o) 1;have y2:=λo=>dD (ap f.out o) 2;have y3:=λo=>dD (ap f.out o) 3;have y4:=λo=>dD (ap f.out o) 4;have y5:=λo=>dD (ap f.out o) 5;clear I D p0 p1 p2 p3 p4 p5;go_wp2_with fail;rw [P.out];exact H8 (G1 results86 _ _ _ _ _ _ _ rfl (fj (ap f.out _) _ _ _ _ _ _) underlying27 rfl aU) rfl ⟨y,A,z,B,rfl,(((M.out.below (bal _ _)).put6 (C.heap.size+1) (.inl Q.out.1) _ _ _ _ _ _).low (by have:=Q.out;omega) (by simp only [aO,Y1];omega)),dE (O.out.alloc O.out.size _) ab _ _ _ _ _ _⟩
theorem zW (a1:Option F0) (c1:Nat) (a2:Option F0) (c2:Nat) (b:Int) (w:D3) (A:l.xs.length<=1048576) (B:l.ys.length<=1048576) (hb:cS l) (C:Sl .u8 w a1 l.xs) (H:Sl .u8 w a2 l.ys): I1 prog 87 #[.agg #[.u l.t,.u l.cm,.bool l.so,.slice a1 l.xs.length c1,.slice a2 l.ys.length c2,.i l.ir],.int .u8 b] w λe c=>∃ (L:Option F0) (M:Nat) (y:Option F0) (z:Nat),e=.returned (.agg (fl (gR l b) L M y z)) /\ bj w.heap.size c.heap.size c (pP (gR l b) L M y z)/\Bw w c:=by
 have g:Hid (∀ w,CB 35 #[.agg #[.u l.t,.u l.cm,.bool l.so,.slice a1 l.xs.length c1,.slice a2 l.ys.length c2,.i l.ir]] w (.bool (lA l.xs.length l.ys.length l.ir))):=λw=>g6 _ _ _ _ _ _ _ _ _ _ w A B;have G:Hid (∀ c,Bw w c->I1 prog 40 #[.agg #[.u l.t,.u l.cm,.bool l.so,.slice a1 l.xs.length c1,.slice a2 l.ys.length c2,.i l.ir]] c λe D=>∃ (L:Option F0) (M:Nat) (y:Option F0) (z:Nat),e=.returned (.agg #[.u l.t,.u l.cm,.bool l.so,.slice L l.xs.length M,.slice y l.ys.length z,.i l.ir])/\bj c.heap.size D.heap.size D (eX L l.xs.length M l.xs y l.ys.length z l.ys)/\Bw c D):=λc hb=>lJ _ _ _ _ _ _ _ _ _ _ l.xs l.ys c rfl rfl A B (C.below hb) (H.below hb);cases f:lA l.xs.length l.ys.length l.ir with
 | false =>have F:gR l b=zeroD:=(by unfold gR;rw [f];rfl);rw [F];rw [f] at g;clear C H hb A B G F f;obtain ⟨t,X,so,xs,ys,Y⟩:=l;dsimp only [fl,pP] at g ⊢;generalize xs.length=n1 at *;generalize ys.length=Z at *;go_enter func87,ntmps87;go_wp2_with fail;refine (g.out _).mono ?_;rintro e w1 ⟨rfl,d⟩;obtain ⟨N,I⟩:=jR d;have R0:=aq N;have R1:=aq I;have Q:=aq (aa vA d);obtain ⟨s0,s1,s2,s3,s4,s5⟩:=aQ I;obtain ⟨y0,y1,y2,y3,y4,y5⟩:=mn I;clear N I d;go_wp2_with fail;exact H8 (G1 results87 _ _ _ _ _ _ _ rfl (fj R1.out _ _ _ _ _ _) underlying27 rfl aU) rfl ⟨none,0,none,0,rfl,gy _ _ _,dE Q.out ab _ _ _ _ _ _⟩
 | true =>have F:gR l b=⟨l.t,l.cm,l.so,fs l.xs b 16,l.ys,l.ir⟩:=(by unfold gR fs;rw [f,JZ8 rfl]);rw [F];have HW:Hid (∀ c,Bw w c->I1 prog 112 #[.slice a1 l.xs.length c1,.int .u8 b,.i 16] c λe D=>∃ (s:Option F0) (u:Nat),e=.returned (.slice s (fs l.xs b 16).length u)/\D.ownsRow c.heap.size 5 1 (.slice s (fs l.xs b 16).length u) (fs l.xs b 16).length ((fs l.xs b 16).map (Value.int .u8))/\Bw c D):=λc hb=>oF a1 _ c1 16 l.xs b c rfl ab (zK f).1 (C.below hb);rw [f] at g;clear C H hb A B F f;generalize fs l.xs b 16=zs at *;obtain ⟨t,X,so,xs,ys,Y⟩:=l;dsimp only [fl,pP] at g G HW ⊢;generalize hm:zs.length=m at *;generalize xs.length=n1 at *;generalize ys.length=Z at *;go_enter func87,ntmps87;go_wp2_with fail;refine (g.out _).mono ?_;rintro e w1 ⟨rfl,d⟩;obtain ⟨N,I⟩:=jR d;have R0:=aq N;have R1:=aq I;have Q:=aq (aa vA d);obtain ⟨p0,p1,p2,p3,p4,p5⟩:=aQ N;clear N I d;go_wp2_with fail;refine (G.out _ Q.out).mono ?_;rintro e E ⟨L,M,y,z,rfl,O,q⟩;have S:=aq O;have J:=aq (aD q R0.out);have j:=aq (aD q R1.out);have R:=aq (aa Q.out q);have K:=aq (show w.heap.size+1<w1.heap.size/\w1.heap.size<=E.heap.size from ⟨(A5.1 R1.out).1,q.size⟩);have nd1:¬ E.heap.size=w.heap.size+1:=(by have:=K.out;omega);have nd2:¬ w.heap.size+1=E.heap.size:=(by have:=K.out;omega);clear O q p0 p1 p2 p3 p4 p5;have u0:=λo=>(aQ (ap J.out o)).1;have u1:=λo=>(aQ (ap J.out o)).2.1;have u2:=λo=>(aQ (ap J.out o)).2.2.1;have u3:=λo=>(aQ (ap J.out o)).2.2.2.1;have u4:=λo=>(aQ (ap J.out o)).2.2.2.2.1;have u5:=λo=>(aQ (ap J.out o)).2.2.2.2.2;have s0:=λo=>(aQ (ap j.out o)).1;have s1:=λo=>(aQ (ap j.out o)).2.1;have s2:=λo=>(aQ (ap j.out o)).2.2.1;have s3:=λo=>(aQ (ap j.out o)).2.2.2.1;have s4:=λo=>(aQ (ap j.out o)).2.2.2.2.1;have s5:=λo=>(aQ (ap j.out o)).2.2.2.2.2;have y0:=λo=>dD (ap j.out o) 0;have y1:=λo=>dD (ap j.out o) 1;have y2:=λo=>dD (ap j.out o) 2;have y3:=λo=>dD (ap j.out o) 3;have y4:=λo=>dD (ap j.out o) 4;have y5:=λo=>dD (ap j.out o) 5;go_wp2_with fail;refine (HW.out _ (R.out.alloc R.out.size _)).mono ?_;rintro e w3 ⟨s,u,rfl,P,r⟩;have OW:=aq P;have W:=aq (aD r (I3 E _));have V:=aq (aD r (ap j.out _));have B3:=aq (aa (R.out.alloc R.out.size _) r);have T:=aq ((S.out.below (bal _ _)).below r);have Z3:=aq (show E.heap.size<w3.heap.size from (A5.1 W.out).1);obtain ⟨x0,x1,x2,x3,x4,x5⟩:=aQ W.out;obtain ⟨f0,f1,f2,f3,f4,f5⟩:=mn W.out;clear u0 s0 y0 u1 s1 y1 u2 s2 y2 u3 s3 y3 u4 s4 y4 u5 s5 y5;obtain ⟨s0,s1,s2,s3,s4,s5⟩:=aQ V.out;obtain ⟨y0,y1,y2,y3,y4,y5⟩:=mn V.out;clear P r;go_wp2_with fail;have U:=Jv OW.out ⟨E.heap.size,3,none⟩ (.slice s m u) eh;have A4:=((T.out.set ⟨E.heap.size,3,none⟩ (.slice s m u) (.inr (X3 _))).newIn s m u zs _ w3.heap.size U eh (by have:=K.out;simp only [Y1];omega) ep (by have:=Z3.out;omega)).put6 (w.heap.size+1) (.inl K.out.1) (.u t) (.u X) (.bool so) (.slice s m u) (.slice y Z z) (.i Y);have T1:=fj (fT V.out ⟨E.heap.size,3,none⟩ (.slice s m u) nd2) (.u t) (.u X) (.bool so) (.slice s m u) (.slice y Z z) (.i Y);exact H8 (G1 results87 _ _ _ _ _ _ _ rfl T1 underlying27 rfl aU) rfl ⟨s,u,y,z,rfl,A4.low (by have:=K.out;omega) ko,dE (B3.out.setCell (p:=⟨E.heap.size,3,none⟩) (by have:=K.out;dsimp only;omega) _) ab _ _ _ _ _ _⟩
def Rz:List KI->Option (List Nat)
 | .sq all (_+1) listed::_=>some (T6 .any all listed)
 | _=>none
def Cl (F:Fr) (i:Nat):List KI->Option (I5 × List KI)
 | .sq all (m+1) listed::k=>match all[i]? with
   | some o=>match wn all F o with
     | some true=>some (o,.sq all m (listed.setIfInBounds i true)::k)
     | _=>none
   | none=>none
 | _=>none
def Pu (F:Fr) (i:Nat) (k:List KI):List KI:=match Cl F i k with
 | some x=>x.2
 | none=>[]
def Ux (n:Nat) (F:Fr) (i:Nat) (k:List KI):Option (Sem Next):=match Cl F i k with
 | some (o,_)=>match o.op.operands.all (kn F)&&BC o.op&&(match o.dst with | some d=>X5 d n | none=>true) with
   | true=>some (I2 (ev F) o)
   | false=>none
 | none=>none
def Pv (F:Fr) (i:Nat) (k:List KI) (v:D8) (t:Nat):Fr:=match Cl F i k with
 | some (o,_)=>match o.dst with
   | some d=>(d,v,t)::F
   | none=>F
 | none=>F
def Uy (P:D4) (n:Nat) (F:Fr) (i:Nat) (k:List KI):Option (Nat × Array D8):=match Cl F i k with
 | some (o,_)=>match (match o.dst with | some d=>X5 d n | none=>true) with
   | true=>rS P F o
   | false=>none
 | none=>none
def Vk (P:D4) (S:D3->Prop) (Q:Exit->Act->D3->Prop) (i:Nat) (a:Act) (w:D3):List KI->Prop
 | .sq all (m+1) listed::k'=>wpOp P all (iY P S Q k') i (λc b=>S b/\wpAnyH P .any all (iY P S Q k') S m (listed.setIfInBounds i true) c b) a w
 | _=>False
def Br (P:D4) (S:D3->Prop) (Q:Exit->Act->D3->Prop) (n:Nat) (k:List KI) (F:Fr) (w:D3) (i:Nat):Prop:=∀ a,bU F n a->Vk P S Q i a w k
theorem kN {i j:Nat} (f:Br R S o F b L w i) (g:Br R S o F b L w j) (hr:Rz b=some [i,j]:=by kernel_rfl):Wg R S o F b L w:=λa d=>by
 have Q:=f a d;have c:=g a d;unfold Vk at Q c;unfold Rz at hr;split at hr
 ·rename_i all m listed h;simp only [Option.some.injEq] at hr;show wpAnyH R .any all (iY R S o h) S (m+1) listed a w;refine wpAnyH_all hr di λq e=>?_;simp only [S2,List.not_mem_nil,or_false] at e;rcases e with rfl | rfl;·exact Q
  ·exact c
 ·cases hr
theorem GV {e:List KI} (h:Cl L k b=some (s,e)) {a:Act} (hk:bU L F a) (q:∀ K:Act->D3->Prop,(∀ c n,S n->iY R S o e .normal c n->K c n)->s.wp R a w K (iY R S o e)):Vk R S o k a w b:=by
 unfold Cl at h;split at h
 ·rename_i all m listed r;split at h
  ·rename_i Q l;split at h;·rename_i d;simp only [Option.some.injEq,Prod.mk.injEq] at h;obtain ⟨rfl,rfl⟩:=h;simp only [Vk];refine wpOp_step l λf g=>?_;rw [JZ8 (kV hk d)];exact q f λc n p j=>g c n ⟨p,j⟩
   ·cases h
  ·cases h
 ·cases h
theorem mt {s:Sem Next} {v:D8} (hr:s.run R w=.ok (.value v) P) (hS:S P) (h:Wg R S o F (Pu L k b) (Pv L k b v r) P) (hx:Ux F L k b=some s:=by kernel_rfl):Br R S o F b L w k:=λa f=>by
 unfold Ux at hx;unfold Pu Pv at h;cases j:Cl L k b with
 | none=>rw [j] at hx;cases hx
 | some y =>
   obtain ⟨i,p⟩:=y;rw [j] at hx h;dsimp only at hx h;split at hx
   ·rename_i c;cases hx;rw [T5,T5] at c;have g:I2 a.eval i=I2 (ev L) i:=L0 i (λcs Q e=>by have:=c.1.2;rw [e] at this;cases this) λx hx=>f.eval (A6.1 c.1.1 x hx);refine GV j f λK l=>?_;show i.upon R a K _ _;rw [g,hr];refine l _ _ hS (h _ ?_);cases m:i.dst with
    | none=>exact f
    | some d=>rw [m] at c;exact f.put c.2 v r
   ·cases hx
theorem kl (p:I1 R W B w c) (h:∀ e f,c e f->∃ v t,e=.returned v/\S f/\Wg R S o F (Pu L k b) (Pv L k b v t) f) (hx:Uy R F L k b=some (W,B):=by kernel_rfl):Br R S o F b L w k:=λa Rc=>by
 unfold Uy at hx;unfold Pu Pv at h;cases j:Cl L k b with
 | none=>rw [j] at hx;cases hx
 | some y =>
   obtain ⟨i,u⟩:=y;rw [j] at hx h;dsimp only at hx h;split at hx
   ·rename_i l;refine GV j Rc λK m=>?_;show i.upon R a K _ _;rw [po Rc hx w];refine p.mono λe f q=>?_;obtain ⟨v,t,rfl,r,s⟩:=h e f q;refine m _ _ r (s _ ?_);cases g:i.dst with
    | none=>exact Rc
    | some d=>rw [g] at l;exact Rc.put l v t
   ·cases hx
def Es (w:D3) (a:Option F0) (l:List (Int × Int)):Prop :=
 ∀ i,i<l.length->∃ b o,a=some ⟨b,o,none⟩/\b<w.heap.size/\w.cell? ⟨b,o+i*2,none⟩=some (.i (l.getD i (0,0)).1)/\w.cell? ⟨b,o+i*2+1,none⟩=some (.i (l.getD i (0,0)).2)
theorem Es.below {l:List (Int × Int)} (h:Es w j l) (hb:Bw w n):Es n j l:=λi g=>by obtain ⟨b,o,e,c,d,f⟩:=h i g;exact ⟨b,o,e,X7 c hb.size,(hb.cell (p:=⟨b,o+i*2,none⟩) c).trans d,(hb.cell (p:=⟨b,o+i*2+1,none⟩) c).trans f⟩
def UA {P:D4} {S:D3->Prop} {T E:TypeId} {a:Option F0} {b o:Nat} (n c:Nat) (i:Nat) (f:a=some ⟨b,o,none⟩) (g:i<n) (h:P.underlying T=some (.slice E)) (hz:(P.info? E).map (·.size)=some 2):Ov P S :=
 ⟨do pure (.value (<- Instr.indexAt T (.slice a n c) (.i i))),.p b (o+i*2),0,λW j=>by
  subst f
  obtain ⟨info,d,e⟩:=Y2.1 hz
  simp [Instr.indexAt,asIntOf,underlying,program,sizeOf,typeInfo,h,d,e,g,Addr.add,Sem.run,Bind.bind,Sem.bind,Pure.pure]⟩
def Wn {P:D4} {S:D3->Prop} {T:TypeId} {d:TypeDesc} (b o:Nat) (u v:D8) (g:P.underlying T=some d) (hd:(match d with | .struct _ | .array _ _=>true | _=>false)=true) (hz:(P.info? T).map (·.size)=some 2) (h:∀ W,S W->W.cell? ⟨b,o,none⟩=some u/\W.cell? ⟨b,o+1,none⟩=some v):Ov P S :=
 ⟨do pure (.value (<- Instr.loadAt T (.p b o))),.agg #[u,v],0,λW a=>by
  obtain ⟨e,f⟩:=h W a
  obtain ⟨info,c,e2⟩:=Y2.1 hz
  cases d<;>simp_all [Instr.loadAt,Instr.sureAddr,loadVar,isAgg,underlying,program,load,loadCells,loadCellsFrom,sizeOf,typeInfo,Addr.add,Sem.run,Bind.bind,Sem.bind,Pure.pure]⟩
structure TV where
 ld:D8
 wd:Int
 op:Int
 rd:Int
 ra:Int
 rb:Int
 im:Int
 fm:D8
 rs:Int
 nx:Int
 wr:Bool
 up:Bool
 cz:Int
 vl:Int
def bI (M:MV) (A:MA) (t:TV):Array Value:=#[.u M.pc,.slice A.ax M.x.length A.cx,.i M.pr,.slice A.ac M.cs.length A.cc,.slice A.ar M.ram.length A.cr,.u M.d.t,.u M.d.cm,.bool M.d.so,.slice A.ai M.d.xs.length A.ci,.slice A.ao M.d.ys.length A.co,.i M.d.ir,.u M.hd,.bool M.hl,.bool M.wt,t.ld,.u t.wd,.i t.op,.i t.rd,.i t.ra,.i t.rb,.i t.im,t.fm,.u t.rs,.u t.nx,.bool t.wr,.bool t.up,.i t.cz,.u t.vl]
theorem Iv.one (h:iA ⟨F,B,[]⟩ w):Iv [F] w [⟨F,B,[]⟩] w:=⟨λr a=>by rw [R5] at a;subst a;exact h,Ag.refl _ _,λr a=>by rw [R5] at a;subst a;simp,di⟩
theorem km {M:MV} {A:MA} {t:TV} (h:iA ⟨F,bI M A t,[]⟩ w):I1 prog 182 #[.p F 0,.i q,.u y] w λe b=>e=.returned (.tuple #[])/\Iv [F] w [⟨F,bI M A {t with up:=true,cz:=q,vl:=y},[]⟩] b:=by refine fy (args:=[.p F 0,.i q,.u y]) (λ_=>True) func182 ?_;refine aP 0 1 ?_;exact gt (Iv.one h) {} 40 λW a=>⟨rfl,a⟩
theorem Iv.then1 (h:Iv a w [⟨F,B,[]⟩] n) (k:Iv [F] n [⟨F,Q,[]⟩] P):Iv a w [⟨F,Q,[]⟩] P :=
 ⟨k.rows,h.ag.trans ⟨k.ag.os,k.ag.tape,k.ag.output,k.ag.size,λi d c=>k.ag.block i d (by rw [R5];exact λe=>c (by rw [e];exact h.sub _ (R5.2 rfl)))⟩,λr b=>by rw [R5] at b;subst b;exact h.sub ⟨F,B,[]⟩ (R5.2 rfl),di⟩
theorem Iv.row1 (h:Iv a w [⟨F,B,[]⟩] n):iA ⟨F,B,[]⟩ n:=h.rows _ (R5.2 rfl)
def xt {P:D4} {bs:List Nat} {g:Nat} {w:D3} {cs:Array D8} {f:Nat} {args:Array D8} {v:D8} (h:∀ W,Iv bs w [⟨g,cs,[]⟩] W->I1 P f args W λe b=>e=.returned v/\Iv [g] W [⟨g,cs,[]⟩] b):Cv P (Iv bs w [⟨g,cs,[]⟩]):=⟨f,args,v,0,λW a=>(h W a).mono λe b k=>⟨k.1,a.then1 k.2⟩⟩
theorem lO {p:F0} (h:w.cell? p=some d):p.block<w.heap.size:=by
 unfold Y0 at h;split at h;·rename_i a;exact (A5.1 a).1
 ·cases h
theorem tE {M:TV} (h:iA ⟨F,bI t T M,[]⟩ w):I1 prog 159 #[.p F 0] w λe b=>e=.returned (.u (Uz.wrap M.im))/\Iv [F] w [⟨F,bI t T M,[]⟩] b:=by refine fy (args:=[.p F 0]) (λ_=>True) func159 ?_;refine aP 0 1 ?_;exact vG (t:=2) (v:=.u (Uz.wrap M.im)) (Iv.one h) {} 40 λW a=>⟨rfl,a⟩
theorem pA {M:TV} (h:iA ⟨F,bI t T M,[]⟩ w):I1 prog 153 #[.p F 0] w λe d=>e=.returned (.tuple #[])/\Iv [F] w [⟨F,bI t T {M with up:=true,cz:=2,vl:=M.wd},[]⟩] d:=by refine fy (args:=[.p F 0]) (λ_=>True) func153 ?_;refine aP 0 1 ?_;refine fK (Iv.one h) {} 40 (R1:=[⟨F,bI t T M,[]⟩]) (λW a=>km 2 M.wd a.row1) λW e d a c=>⟨_,0,c.1,?_⟩;exact gt (Iv.one c.2.row1) {} 40 λf b=>⟨rfl,(a.then1 c.2).then1 b⟩
theorem L9 {M:TV} (h:iA ⟨F,bI t T M,[]⟩ w) (c:T.ax=some ⟨k,W,none⟩) (f:0<=M.ra/\M.ra<t.x.length) (hb:k≠F) (hx:w.cell? ⟨k,W+M.ra.toNat,none⟩=some (.u x)):I1 prog 158 #[.p F 0] w λe i=>e=.returned (.u x)/\Iv [F] w [⟨F,bI t T M,[]⟩] i:=by
 have d:∀ o,Ag [F] w o->o.cell? ⟨k,W+M.ra.toNat,none⟩=some (.u x):=λo a=>by rw [<- hx];simp only [Y0,a.block k (lO hx) (by simpa using hb)]
 refine fy (args:=[.p F 0]) (λ_=>True) func158 ?_;refine aP 0 1 ?_;exact vG (t:=2) (v:=.u x) (Iv.one h) {ov:=[(13,kW t.x.length T.cx .i64 M.ra c f underlying25 ba),(14,iP _ _ underlying24 rfl d)]} 40 λo a=>⟨rfl,a⟩
theorem Vl {M:TV} (h:iA ⟨F,bI t T M,[]⟩ w) (c:T.ax=some ⟨k,W,none⟩) (f:0<=M.rb/\M.rb<t.x.length) (hb:k≠F) (hx:w.cell? ⟨k,W+M.rb.toNat,none⟩=some (.u x)):I1 prog 161 #[.p F 0] w λe i=>e=.returned (.u x)/\Iv [F] w [⟨F,bI t T M,[]⟩] i:=by
 have d:∀ o,Ag [F] w o->o.cell? ⟨k,W+M.rb.toNat,none⟩=some (.u x):=λo a=>by rw [<- hx];simp only [Y0,a.block k (lO hx) (by simpa using hb)]
 refine fy (args:=[.p F 0]) (λ_=>True) func161 ?_;refine aP 0 1 ?_;exact vG (t:=2) (v:=.u x) (Iv.one h) {ov:=[(13,kW t.x.length T.cx .i64 M.rb c f underlying25 ba),(14,iP _ _ underlying24 rfl d)]} 40 λo a=>⟨rfl,a⟩
theorem vH:I1 prog 269 #[.u q,.i y] C λe a=>e=.returned (.bool (decide (gF q y<6)))/\a=C :=
 jW q y (λk=>CE 269 #[.u q,.i y] C (.bool (decide (k<6)))) (by rintro rfl rfl;exact Lu C) (by rintro rfl rfl;exact Lw C) (by rintro rfl rfl;exact Lx C) (by rintro rfl rfl;exact Ly C) (by rintro rfl rfl;exact Lz C) (by rintro rfl rfl;exact LA C) λb c d f g h=>L8 q y b c d f g h C
theorem sf:(q=33554432/\gF q y=0)\/(q=33570816/\gF q y=1)\/(q=33603576/\gF q y=2)\/(q=268435456/\gF q y=3)\/(q=268435457/\gF q y=4)\/(q=268435461/\gF q y=5)\/gF q y=6 :=
 jW q y (λk=>(q=33554432/\k=0)\/(q=33570816/\k=1)\/(q=33603576/\k=2)\/(q=268435456/\k=3)\/(q=268435457/\k=4)\/(q=268435461/\k=5)\/k=6) (by simp_all) (by simp_all) (by simp_all) (by simp_all) (by simp_all) (by simp_all) di
structure Dv (w:D3) (D0:Array D8) (g B:Nat) (cs:Array D8) (L:List FRow) (W:D3):Prop where
 inp:W.heap[w.heap.size]?=some (.cells D0 27 (0,0))
 out:∃ o:Array D8,o.size=6/\W.heap[w.heap.size+1]?=some (.cells o 27 (0,0))
 row:W.heap[g]?=some (.cells cs 27 (0,0))
 fam:bj B W.heap.size W L
 far:∀ q ∈ L,q.v.ownBlock≠some g
 lo:w.heap.size+2<=B/\B<=g
 bl:Bw w W
theorem Dv.below (h:Dv w B g F Q A n) {W':D3} (k:Bw n W'):Dv w B g F Q A W':=⟨aD k h.inp,let ⟨o,a,b⟩:=h.out;⟨o,a,aD k b⟩,aD k h.row,(h.fam.below k).low (X3 _) k.size,h.far,h.lo,aa h.bl k⟩
theorem Dv.set (h:Dv w B F k Q A n) (i:Nat) (v:D8):Dv w B F k (Q.setIfInBounds i v) A (n.setCell ⟨F,i,none⟩ v):=by have:=h.lo;refine ⟨fT h.inp _ _ cb,let ⟨o,b,c⟩:=h.out;⟨o,b,fT c _ _ cb⟩,bH h.row i v,?_,h.far,h.lo,h.bl.setCell (p:=⟨F,i,none⟩) cb _⟩;rw [aO];exact ⟨λr a=>dQ (h.fam.own r a) λg e=>Y4 n _ v g λe2=>h.far r a (e.trans (congrArg some e2)),h.fam.hi,h.fam.ne⟩
theorem Dv.put (h:Dv w B F k Q A n) (d:Array D8) (hd:d.size=6):Dv w B F k Q A (n.setRow (w.heap.size+1) d):=by have:=h.lo;obtain ⟨o,b,a⟩:=h.out;refine ⟨(K1 _ _ _ _ ab).trans h.inp,⟨d,hd,K0 _ _ _ _ _ _ a⟩,(K1 _ _ _ _ ab).trans h.row,?_,h.far,h.lo,aI h.bl ab _⟩;rw [setRow_size];exact h.fam.mono λg c e f=>K1 _ _ _ _ ab
theorem Dv.fin (h:Dv w B F k Q A n):bj w.heap.size n.heap.size n A/\Bw w n:=⟨h.fam.low (by have:=h.lo;omega) (X3 _),h.bl⟩
theorem Dv.st (h:Dv w B F k Q A n) (T:TypeId) (i:Nat) (v:D8) (hs:Q.size=6:=by rfl) (b:i<6:=by decide) (a:(R.info? T).map (·.size)=some 1:=by kernel_rfl) (hv:v.cells=#[v]:=by rfl) (c:v.oneCell':=by rfl):(do Instr.storeAt T (.p F i) v;pure Next.skip:Sem Next).run R n=.ok .skip (n.setCell ⟨F,i,none⟩ v):=
 jh (old:=Q[i]) ⟨by simp [Y0,h.row,hs,b],dD h.row i⟩ a hv c
theorem Dv.rows (h:Dv w B F k Q A n):fN n [⟨w.heap.size,B,[]⟩,⟨w.heap.size,B,[]⟩,⟨F,Q,[]⟩]:=⟨⟨_,_,h.inp⟩,⟨_,_,h.inp⟩,⟨_,_,h.row⟩,trivial⟩
theorem Dv.start {D:DV} {a a2 b2:Option F0} {c:Nat} (h:Bs w [(fl D j F a2 W,27),(fl zeroD none 0 none 0,27)] n) (g:bj n.heap.size P.heap.size P (pP D a k b2 c)) (k2:Bw n P):Dv w (fl D j F a2 W) P.heap.size n.heap.size (fl D a k b2 c) (pP D a k b2 c) ((P.alloc (.cells (Value.agg (fl zeroD none 0 none 0)).cells 27)).setRow P.heap.size (fl D a k b2 c)):=by have d:Bw P ((P.alloc (.cells (Value.agg (fl zeroD none 0 none 0)).cells 27)).setRow P.heap.size (fl D a k b2 c)):=aI (bal _ _) (X3 _) _;have f:=(h.below k2).below d;have b:=(A5.1 (h.1 1 _ rfl)).1;have a1:=k2.size;exact ⟨f.1 0 _ rfl,⟨_,rfl,f.1 1 _ rfl⟩,K0 _ _ _ _ _ _ (I3 _ _),(g.below d).low (X3 _) d.size,λq i e=>by have:=g.hi q i _ e;omega,⟨ab,a1⟩,f.2⟩
theorem sg (c2:Nat) (addr size x:Int) (w:D3) (y:l.xs.length<=1048576) (A:l.ys.length<=1048576) (hb:cS l) (H:Sl .u8 w p l.xs) (B:Sl .u8 w V l.ys): I1 prog 268 #[.agg #[.u l.t,.u l.cm,.bool l.so,.slice p l.xs.length r,.slice V l.ys.length c2,.i l.ir],.u addr,.i size,.u x] w λe K=>∃ (b:Option F0) (c:Nat) (f:Option F0) (i:Nat),e=.returned (.tuple #[.agg (fl (rP l addr size x).1 b c f i),.bool (rP l addr size x).2]) /\ bj w.heap.size K.heap.size K (pP (rP l addr size x).1 b c f i)/\Bw w K:=by
 have n:=λW (_:Bw w W)=>g6 l.t l.cm l.so p l.xs.length r V l.ys.length c2 l.ir W y A
 have C:=λW (_:Bw w W)=>vH addr size W
 unfold rP
 refine br (S:=Bs w [(fl l p r V c2,27),(fl zeroD none 0 none 0,27)]) (args:=[.agg (fl l p r V c2),.u addr,.i size,.u x]) [(fl l p r V c2,27),(fl zeroD none 0 none 0,27)] func268 ?_
 cases J:lA l.xs.length l.ys.length l.ir with
 | false =>
   rw [J] at n
   rw [JZ9 bc]
   refine ae Bs.eng {cv:=[(12,fM n)]} 40 (Bs.start _ _) λa1 D=>?_
   exact gK (R:=[]) trivial {} 40 (D.1 1 _ rfl) rfl (fp _ _ _ _ _) underlying27 ⟨none,0,none,0,rfl,gy _ _ _,aI D.2 ab _⟩
 | true =>
   rw [J] at n
   rw [JZ8 rfl]
   by_cases L:gF addr size=6
   ·rw [L] at C ⊢
    refine ae Bs.eng {cv:=[(12,fM n),(17,nt C)]} 40 (Bs.start _ _) λa1 D=>?_
    exact gK (R:=[]) trivial {} 40 (D.1 1 _ rfl) rfl (fp _ _ _ _ _) underlying27 ⟨none,0,none,0,rfl,gy _ _ _,aI D.2 ab _⟩
   ·rw [decide_eq_true (by rcases sf addr size with h|h|h|h|h|h|h<;>omega)] at C
    refine aT Bs.eng {cv:=[(12,fM n),(17,nt C)]} 60 (Bs.start _ _) (λa1 D=>lJ l.t l.cm l.so p l.xs.length r V l.ys.length c2 l.ir l.xs l.ys a1 rfl rfl y A (H.below D.2) (B.below D.2)) ?_
    rintro a1 e s D ⟨b,c,f,i,rfl,N,O⟩
    refine ⟨_,0,rfl,gi ba,?_⟩
    refine dt 3 (ct (T:=27) (z:=.agg (fl zeroD none 0 none 0)) ba s) ?_
    refine bE (av (g:=s.heap.size) (t:=27) (ty:=27) (old:=fl zeroD none 0 none 0) (cells:=fl l b c f i) (I3 _ _) ba rfl (fp _ _ _ _ _)) ?_
    have q:=Dv.start D N O
    generalize (s.alloc (.cells (Value.agg (fl zeroD none 0 none 0)).cells 27)).setRow s.heap.size (fl l b c f i)=m at q ⊢
    generalize s.heap.size=g at q ⊢
    rcases sf addr size with ⟨rfl,e⟩|⟨rfl,e⟩|⟨rfl,e⟩|⟨rfl,e⟩|⟨rfl,e⟩|⟨rfl,e⟩|e<;>rw [e]
    ·refine aC (R:=[]) trivial {} 40 (yA x m) ?_
     rintro e E ⟨rfl,F⟩
     refine ⟨_,0,rfl,?_⟩
     have d:=q.below (Y3 m.heap.size m).drew
     rw [<- F] at d
     have a:=d.set 2 (.bool (bits .and .u64 x 1==1))
     refine bx (R:=[]) trivial {} 40 (d.st 4 2 (.bool (bits .and .u64 x 1==1))) ?_
     obtain ⟨o,j,k⟩:=a.out
     exact gK a.rows {} 40 k (by exact j) (fp _ _ _ _ _) underlying27 ⟨b,c,f,i,rfl,(a.put _ rfl).fin⟩
    ·have a:=q.set 1 (.u x)
     refine bx (R:=[]) trivial {} 40 (q.st 24 1 (.u x)) ?_
     obtain ⟨o,j,k⟩:=a.out
     exact gK a.rows {} 40 k (by exact j) (fp _ _ _ _ _) underlying27 ⟨b,c,f,i,rfl,(a.put _ rfl).fin⟩
    ·have a:=q.set 0 (.u x)
     refine bx (R:=[]) trivial {} 40 (q.st 24 0 (.u x)) ?_
     obtain ⟨o,j,k⟩:=a.out
     exact gK a.rows {} 40 k (by exact j) (fp _ _ _ _ _) underlying27 ⟨b,c,f,i,rfl,(a.put _ rfl).fin⟩
    ·refine aC q.rows {} 40 (oF V _ c2 4096 l.ys (IntKind.u8.wrap x) m rfl ab (zK J).2.1 (B.below q.bl)) ?_
     rintro e E ⟨u,v,rfl,M,I⟩
     refine ⟨_,0,rfl,?_⟩
     have d:=q.below I
     have Q:=(A5.1 q.row).1
     have U:=q.lo
     have P:Dv w (fl l p r V c2) g a1.heap.size (fl l b c f i) (pP ⟨l.t,l.cm,l.so,l.xs,fs l.ys (IntKind.u8.wrap x) 4096,l.ir⟩ b c u v) E:=⟨d.inp,d.out,d.row,((q.fam.below I).newOut u _ v _ _ E.heap.size M (X3 _) ab (X3 _) I.size),λc1 G e=>by
      rcases S2.1 G with rfl|G
      ·exact q.far _ (List.mem_cons_self ..) e
      ·rw [R5.1 G] at e
       have:=(M.lt g e).1
       omega,d.lo,d.bl⟩
     have a:=P.set 4 (.slice u (fs l.ys (IntKind.u8.wrap x) 4096).length v)
     refine bx (R:=[]) trivial {} 40 (d.st 22 4 (.slice u (fs l.ys (IntKind.u8.wrap x) 4096).length v)) ?_
     obtain ⟨o,j,k⟩:=a.out
     exact gK a.rows {} 40 k (by exact j) (fp ⟨l.t,l.cm,l.so,l.xs,fs l.ys (IntKind.u8.wrap x) 4096,l.ir⟩ _ _ _ _) underlying27 ⟨b,c,u,v,rfl,(a.put _ rfl).fin⟩
    ·rw [show fU l x 4=(⟨l.t,l.cm,l.so,l.xs,l.ys,IntKind.i64.wrap (bits .and .u64 x 1)⟩,true) by simp only [fU,IntKind.wrap_i64,wrap64]]
     refine aC (R:=[]) trivial {} 40 (yA x m) ?_
     rintro e E ⟨rfl,F⟩
     refine ⟨_,0,rfl,?_⟩
     have d:=q.below (Y3 m.heap.size m).drew
     rw [<- F] at d
     have a:=d.set 5 (.i (IntKind.i64.wrap (bits .and .u64 x 1)))
     refine bx (R:=[]) trivial {} 40 (d.st 2 5 (.i (IntKind.i64.wrap (bits .and .u64 x 1)))) ?_
     obtain ⟨o,j,k⟩:=a.out
     exact gK a.rows {} 40 k (by exact j) (fp _ _ _ _ _) underlying27 ⟨b,c,f,i,rfl,(a.put _ rfl).fin⟩
    ·obtain ⟨o,j,k⟩:=q.out
     exact gK (cs:=fl l b c f i) q.rows {} 90 k j (fp _ _ _ _ _) underlying27 ⟨b,c,f,i,rfl,(q.put _ rfl).fin⟩
    ·exact absurd e L
theorem Dv.dw (h:Dv w B g F Q A n) (k:Dw n P):Dv w B g F Q A P:=h.below (k.below (Y3 _ _))
theorem Dv.ez:Ez (Dv w B F k Q A) [⟨w.heap.size,B,[]⟩,⟨w.heap.size,B,[]⟩,⟨F,Q,[]⟩]:=⟨λW h=>λr a=>ql h.rows a,λW h=>h.below (Y3 _ _).drew⟩
theorem Mb (b:gF q y≠6) (a:q≠268435456) (W:D3):CB 271 #[.agg (fl l p r V m),.u q] W (.u (jz l (gF q y)).1):=by
 rcases sf q y with ⟨rfl,e⟩|⟨rfl,e⟩|⟨rfl,e⟩|⟨rfl,e⟩|⟨rfl,e⟩|⟨rfl,e⟩|e<;>rw [e];·exact SB _ _ _ _ _ _ _ _ _ _ W
 ·exact SC _ _ _ _ _ _ _ _ _ _ W
 ·exact SE _ _ _ _ _ _ _ _ _ _ W
 ·exact absurd rfl a
 ·exact SF _ _ _ _ _ _ _ _ _ _ W
 ·exact SG _ _ _ _ _ _ _ _ _ _ W
 ·exact absurd e b
theorem uj (a1:Option F0) (c1:Nat) (a2:Option F0) (c2:Nat) (addr size:Int) (w:D3) (C:l.xs.length<=1048576) (E:l.ys.length<=1048576) (hb:cS l) (F:Sl .u8 w a1 l.xs) (M:Sl .u8 w a2 l.ys): I1 prog 262 #[.agg #[.u l.t,.u l.cm,.bool l.so,.slice a1 l.xs.length c1,.slice a2 l.ys.length c2,.i l.ir],.u addr,.i size] w λe O=>∃ (f:Option F0) (i:Nat) (b:Option F0) (c:Nat),e=.returned (.tuple #[.u (vd l addr size).1,.agg (fl (vd l addr size).2.1 f i b c),.bool (vd l addr size).2.2]) /\ bj w.heap.size O.heap.size O (pP (vd l addr size).2.1 f i b c)/\Bw w O:=by
 have A:=λW (_:Bw w W)=>g6 l.t l.cm l.so a1 l.xs.length c1 a2 l.ys.length c2 l.ir W C E
 have H:=λW (_:Bw w W)=>vH addr size W
 unfold vd
 refine br (S:=Bs w [(fl l a1 c1 a2 c2,27),(fl zeroD none 0 none 0,27)]) (args:=[.agg (fl l a1 c1 a2 c2),.u addr,.i size]) [(fl l a1 c1 a2 c2,27),(fl zeroD none 0 none 0,27)] func262 ?_
 cases N:lA l.xs.length l.ys.length l.ir with
 | false =>
   rw [N] at A
   rw [JZ9 bc]
   refine ae Bs.eng {cv:=[(13,fM A)]} 40 (Bs.start _ _) λn d=>?_
   refine bE (av (t:=27) (ty:=27) (cells:=fl zeroD none 0 none 0) (d.1 1 _ rfl) ba rfl (fp _ _ _ _ _)) ?_
   refine ix (R:=[]) trivial {} 40 λa y=>⟨.tuple #[.u 0,.agg (fl zeroD none 0 none 0),.bool false],?_,none,0,none,0,rfl,gy _ _ _,aI d.2 ab _⟩
   rw [bM results262 a.tmps _ _ _ _ (0,0) _ (y.slot ba) (K0 _ _ _ _ _ _ (d.1 1 _ rfl)) underlying27 rfl ba,y.slot (v:=.u 0) ba,y.slot (v:=.bool false) ba]
 | true =>
   rw [N] at A
   rw [JZ8 rfl]
   by_cases K:gF addr size=6
   ·rw [K] at H ⊢
    refine ae Bs.eng {cv:=[(13,fM A),(18,nt H)]} 40 (Bs.start _ _) λn d=>?_
    refine bE (av (t:=27) (ty:=27) (cells:=fl zeroD none 0 none 0) (d.1 1 _ rfl) ba rfl (fp _ _ _ _ _)) ?_
    refine ix (R:=[]) trivial {} 40 λa y=>⟨.tuple #[.u 0,.agg (fl zeroD none 0 none 0),.bool false],?_,none,0,none,0,rfl,gy _ _ _,aI d.2 ab _⟩
    rw [bM results262 a.tmps _ _ _ _ (0,0) _ (y.slot ba) (K0 _ _ _ _ _ _ (d.1 1 _ rfl)) underlying27 rfl ba,y.slot (v:=.u 0) ba,y.slot (v:=.bool false) ba]
   ·rw [decide_eq_true (by rcases sf addr size with h|h|h|h|h|h|h<;>omega)] at H
    refine aT Bs.eng {cv:=[(13,fM A),(18,nt H)]} 60 (Bs.start _ _) (λn d=>lJ l.t l.cm l.so a1 l.xs.length c1 a2 l.ys.length c2 l.ir l.xs l.ys n rfl rfl C E (F.below d.2) (M.below d.2)) ?_
    rintro n e B d ⟨f,i,b,c,rfl,X,k2⟩
    refine ⟨_,0,rfl,gi ba,?_⟩
    refine dt 3 (ct (T:=27) (z:=.agg (fl zeroD none 0 none 0)) ba B) ?_
    refine bE (av (g:=B.heap.size) (t:=27) (ty:=27) (old:=fl zeroD none 0 none 0) (cells:=fl l f i b c) (I3 _ _) ba rfl (fp _ _ _ _ _)) ?_
    have q:=Dv.start d X k2
    generalize (B.alloc (.cells (Value.agg (fl zeroD none 0 none 0)).cells 27)).setRow B.heap.size (fl l f i b c)=Y at q ⊢
    generalize B.heap.size=g at q ⊢
    cases I:(addr==268435456) with
    | false =>
      have P:=Mb l a1 c1 a2 c2 addr size K (by simpa using I)
      have e2:jz l (gF addr size)=((jz l (gF addr size)).1,l,true):=by
       rcases sf addr size with ⟨rfl,e⟩ | ⟨rfl,e⟩ | ⟨rfl,e⟩ | ⟨rfl,e⟩ | ⟨rfl,e⟩ | ⟨rfl,e⟩ | e<;>first | exact absurd e K | simp at I;done | (rw [e];rfl)
      rw [e2]
      generalize (jz l (gF addr size)).1=v at P ⊢
      refine aL (Dv w (fl l a1 c1 a2 c2) g n.heap.size (fl l f i b c) (pP l f i b c)) ?_
      refine qE Dv.ez q {eq:=[(25,an I)]} 60 (λW _=>P W) ?_
      rintro W e J k ⟨rfl,G⟩
      have j:=(q.dw k).below G
      refine ⟨_,0,rfl,j,?_⟩
      exact mo (s:=6) (p:=7) (u:=8) (T:=27) (cs:=fl l f i b c) (v1:=.u v) (v2:=.bool true) Dv.ez j {} 60 (λW h=>h.put _ rfl) (λW h=>let ⟨o,k,x⟩:=h.out;⟨o,_,k,x⟩) ba (fp _ _ _ _ _) underlying27 rfl rfl ba ba ba λW V k x=>⟨f,i,b,c,rfl,(((j.dw k).put _ rfl).dw x).fin⟩
    | true =>
      have e3:addr=268435456:=by simpa using I
      subst e3
      have e4:gF 268435456 size=3:=by rcases sf 268435456 size with h|h|h|h|h|h|h<;>omega
      rw [e4]
      have Z:Uz.wrap (l.xs.getD 0 0)=l.xs.getD 0 0:=LC _ (jg hb.1 0).1 (jg hb.1 0).2
      refine aC q.rows {} 60 (rX a1 _ c1 l.xs Y rfl (by have:=(zK N).1;omega) (F.below q.bl)) ?_
      rintro e J ⟨D,m,rfl,Q,G⟩
      refine ⟨_,0,rfl,?_⟩
      have j:=q.below G
      have s3:=(A5.1 q.row).1
      have s4:=q.lo
      have q6:Dv w (fl l a1 c1 a2 c2) g n.heap.size (fl l f i b c) (pP ⟨l.t,l.cm,l.so,l.xs.drop 1,l.ys,l.ir⟩ D m b c) J:=⟨j.inp,j.out,j.row,((q.fam.below G).newIn D _ m _ _ J.heap.size Q (X3 _) ab (X3 _) G.size),λr L e=>by
       rcases S2.1 L with rfl|L
       ·have:=(Q.lt g e).1
        omega
       ·exact q.far _ (List.mem_cons_of_mem _ L) e,j.lo,j.bl⟩
      have U:=q6.set 3 (.slice D (l.xs.drop 1).length m)
      refine bx (R:=[]) trivial {} 40 (j.st 22 3 (.slice D (l.xs.drop 1).length m)) ?_
      refine aL (Dv w (fl l a1 c1 a2 c2) g n.heap.size (fl ⟨l.t,l.cm,l.so,l.xs.drop 1,l.ys,l.ir⟩ D m b c) (pP ⟨l.t,l.cm,l.so,l.xs.drop 1,l.ys,l.ir⟩ D m b c)) ?_
      exact mo (s:=6) (p:=7) (u:=8) (T:=27) (cs:=fl ⟨l.t,l.cm,l.so,l.xs.drop 1,l.ys,l.ir⟩ D m b c) (v1:=.u (Uz.wrap (l.xs.getD 0 0))) (v2:=.bool true) Dv.ez U {} 60 (λW h=>h.put _ rfl) (λW h=>let ⟨o,k,x⟩:=h.out;⟨o,_,k,x⟩) ba (fp _ _ _ _ _) underlying27 rfl rfl ba ba ba λW V k x=>⟨D,m,b,c,by rw [Z];rfl,(((Dv.dw U k).put _ rfl).dw x).fin⟩
