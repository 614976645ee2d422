/- Own lemmas. -/
import Derived.Test.YtjifdmoehfbihaaGreatDoorAut
import Derived.Test.YtjifdmoehfbihaaGreatDoorK06
import Derived.Deep.LoopGhost
namespace Go.Proofs.YtjifdmoehfbihaaGreatDoor
open Go.RowKit Tryz
set_option linter.unusedVariables false
def jk (w:World):List Rw->Prop
 | []=>True
 | r::R=>ot r w/\jk w R
theorem oJ {w:World} {r:Rw}:∀ {R:List Rw},jk w R->r ∈ R->ot r w
 | [],_,h=>ow
 | _::R,h,a=>by
   rcases List.mem_cons.1 a with rfl|a
   ·exact h.1
   ·exact oJ h.2 a
section
variable {P : Program} {S : World -> Prop} {n : Nat} {fn : Func} {Rs : Ending -> World -> Prop} {k : List KI} {F : Fr} {w : World}
theorem yX {R:List Rw} (a:jk w R):pd P (λx=>x=w) (λx=>x=w) R false (bodyPost P fn Rs):=⟨λ_ h=>h,λW h r b=>by subst h;exact oJ a b,(λh=>ow),dA⟩
theorem NU {F:Fr} {all:Array Oper} {m:Nat} {listed:Array Bool} {k:List KI} {x:Oper × List KI × Bool} (h:yV F (.sw all m listed::k)=some x):x.2.2=false:=by
 cases m with
 | zero=>cases h
 | succ m =>
   simp only [yV] at h;repeat (split at h<;>try cases h)
   all_goals rfl
theorem nZ {R:List Rw} (u:jk w R) (H:Hn P (λx=>x=w) (λx=>x=w)) (m:Nat) {f:Nat} {args:Array Value} {Rc:Ending->World->Prop} (y:Calls P f args w Rc) (h:∀ e a,Rc e a->∃ v t,e=.returned v/\Wg P S (bodyPost P fn Rs) n (ox (aU P R H n false m k F).1.2.2 (aU P R H n false m k F).1.2.1) (qn (aU P R H n false m k F).1.2.2 (aU P R H n false m k F).1.2.1 v t) a) (hx:(gP k,(aU P R H n false m k F).1.1,gP (aU P R H n false m k F).1.2.1,Lb P n (aU P R H n false m k F).1.2.2 (aU P R H n false m k F).1.2.1)=(true,false,true,some (f,args)):=by kernel_rfl) (he:(aU P R H n false m k F).2.map Prod.fst=(aU P R H n false m k F).2.map Prod.snd:=by kernel_rfl):Wg P S (bodyPost P fn Rs) n k F w:=by
 simp only [Prod.mk.injEq] at hx
 obtain ⟨j,p,g,q⟩:=hx
 refine aR (λx=>x=w) (hn:=j) (af (yX u) H m rfl (hret:=p) (he:=he) λa c=>?_)
 subst c
 refine aR S (hn:=g) (mr y (hx:=q) λe a z=>?_)
 obtain ⟨v,t,r,s⟩:=h e a z
 refine ⟨v,t,r,λd=>?_,s⟩
 exact absurd d (by
  have:∀ (k:List KI) (F:Fr),gP k=true->xn F k=false:=by
   intro k F i
   unfold xn yV
   cases k with
   | nil=>rfl
   | cons x k=>cases x with
     | sq=>cases i
     | sk=>cases i
     | sw all m listed =>
       cases hx:yV F (.sw all m listed::k) with
       | none=>unfold yV at hx;simp only [hx]
       | some x =>
         have d:=NU hx
         unfold yV at hx
         simp only [hx]
         exact d
     | ops all l=>cases l with
       | nil=>rfl
       | cons o l=>cases c:wn all F o with
         | none=>simp only [c]
         | some b=>cases b<;>simp only [c]
     | _=>rfl
  rw [this _ _ g];decide)
theorem Ng {R:List Rw} (g:jk w R) (H:Hn P (λx=>x=w) (λx=>x=w)) (m:Nat) {s:Sem Next} {v:Value} {w':World} (t:Nat) (hr:s.run P w=.ok (.value v) w') (h:Wg P S (bodyPost P fn Rs) n (ox (aU P R H n false m k F).1.2.2 (aU P R H n false m k F).1.2.1) (qn (aU P R H n false m k F).1.2.2 (aU P R H n false m k F).1.2.1 v t) w') (hx:(gP k,(aU P R H n false m k F).1.1,gP (aU P R H n false m k F).1.2.1,xn (aU P R H n false m k F).1.2.2 (aU P R H n false m k F).1.2.1,DK n (aU P R H n false m k F).1.2.2 (aU P R H n false m k F).1.2.1)=(true,false,true,false,some s):=by kernel_rfl) (he:(aU P R H n false m k F).2.map Prod.fst=(aU P R H n false m k F).2.map Prod.snd:=by kernel_rfl):Wg P S (bodyPost P fn Rs) n k F w:=by simp only [Prod.mk.injEq] at hx;obtain ⟨b,c,d,e,f⟩:=hx;refine aR (λx=>x=w) (hn:=b) (af (yX g) H m rfl (hret:=c) (he:=he) λj i=>?_);subst i;exact aR S (hn:=d) (iQ t (hx:=f) hr (hS:=λa=>by rw [e] at a;cases a) h)
theorem oz {R:List Rw} (g:jk w R) (H:Hn P (λx=>x=w) (λx=>x=w)) (m:Nat) {s:Sem Next} {w':World} (hr:s.run P w=.ok .skip w') (h:Wg P S (bodyPost P fn Rs) n (ox (aU P R H n false m k F).1.2.2 (aU P R H n false m k F).1.2.1) (qn (aU P R H n false m k F).1.2.2 (aU P R H n false m k F).1.2.1 undef 0) w') (hx:(gP k,(aU P R H n false m k F).1.1,gP (aU P R H n false m k F).1.2.1,xn (aU P R H n false m k F).1.2.2 (aU P R H n false m k F).1.2.1,DK n (aU P R H n false m k F).1.2.2 (aU P R H n false m k F).1.2.1)=(true,false,true,false,some s):=by kernel_rfl) (he:(aU P R H n false m k F).2.map Prod.fst=(aU P R H n false m k F).2.map Prod.snd:=by kernel_rfl):Wg P S (bodyPost P fn Rs) n k F w:=by simp only [Prod.mk.injEq] at hx;obtain ⟨b,c,d,e,f⟩:=hx;refine aR (λx=>x=w) (hn:=b) (af (yX g) H m rfl (hret:=c) (he:=he) λj i=>?_);subst i;exact aR S (hn:=d) (bM (hx:=f) hr (hS:=λa=>by rw [e] at a;cases a) h)
theorem hC {R:List Rw} (b:jk w R) (H:Hn P (λx=>x=w) (λx=>x=w)) (m:Nat) (h:∀ a,bL (aU P R H n false m k F).1.2.2 n a->∃ v,(results fn a.tmps).run P w=.ok v w/\Rs (.returned v) w) (hx:(gP k,(aU P R H n false m k F).1.1)=(true,true):=by kernel_rfl) (he:(aU P R H n false m k F).2.map Prod.fst=(aU P R H n false m k F).2.map Prod.snd:=by kernel_rfl):Wg P S (bodyPost P fn Rs) n k F w:=by simp only [Prod.mk.injEq] at hx;exact aR (λx=>x=w) (hn:=hx.1) (lm (yX b) H m rfl (hv:=hx.2) (he:=he) λe a d c=>by subst d;exact h a c)
theorem BC {R:List Rw} (b:jk w R) (H:Hn P (λx=>x=w) (λx=>x=w)) (m:Nat) {t:Nat} {v:Value} (h:Rs (.returned v) w) (hx:(gP k,(aU P R H n false m k F).1.1,(lk (aU P R H n false m k F).1.2.2 t).map Prod.fst)=(true,true,some v):=by kernel_rfl) (he:(aU P R H n false m k F).2.map Prod.fst=(aU P R H n false m k F).2.map Prod.snd:=by kernel_rfl) (hr:fn.results=#[.tmp t]:=by rfl):Wg P S (bodyPost P fn Rs) n k F w:=by simp only [Prod.mk.injEq] at hx;exact hC b H m (hx:=by rw [hx.1,hx.2.1]) (he:=he) λa c=>⟨v,by rw [results_tmp hr,c.slot hx.2.2],h⟩
end
theorem H6 {α:Type} {t:Nat} {x:α}:∀ {F:List (Nat × α)},lk F t=some x->(t,x) ∈ F
 | [],h=>ow
 | (s,y)::F,h=>by
   unfold lk at h
   cases a:Nat.beq s t with
   | true =>
     rw [a] at h
     cases h
     have:s=t:=Nat.eq_of_beq_eq_true a
     simp [this]
   | false=>rw [a] at h;exact List.mem_cons_of_mem _ (H6 h)
theorem bL.less {F G:Fr} {n:Nat} {a:Act} (h:bL F n a) (hs:G.map (λy=>some y.2.1)=G.map λy=>(lk F y.1).map Prod.fst):bL G n a :=
 ⟨h.size,h.nod,λt x e=>by
  have d:=H6 e
  have:=List.map_inj_left.1 hs (t,x) d
  obtain ⟨y,b,c⟩:=Option.map_eq_some_iff.1 this.symm
  have:=h.at_ t y b
  rw [this,c]⟩
def Qf:List KI->Bool
 | .code (.loop _)::_=>true
 | _=>false
def QT:List KI->Go.Code
 | .code (.loop c)::_=>c
 | _=>.skip
def Pk:List KI->Act->World->Prop
 | .fin R::_=>R
 | _=>λ_ _=>False
section
variable {P : Program} {S : World -> Prop} {n : Nat} {Q : Exit -> Act -> World -> Prop} {k : List KI} {F : Fr} {w : World}
theorem Lc {α:Type} (d:α->Fr) (I:Nat->α->World->Prop) (i:Nat) (g:α) (hl:Qf k=true) (hF:(d g).map (λy=>some y.2.1)=(d g).map λy=>(lk F y.1).map Prod.fst) (r:I i g w)
 (round:∀ j x w,I j x w->∀ R:Act->World->Prop,(∀ a e b f,b<j->bL (d f) n a->I b f e->R a e)->Wg P S Q n (.code (QT k)::.fin R::k.tail) (d x) w):Wg P S Q n k F w:=λa t=>by
 match k,hl with
 | .code (.loop c)::k',_ =>
   show (Go.Code.loop c).wp P (ij P S Q k') a w
   refine wp_loop_ghost (λj a w=>∃ x,bL (d x) n a/\I j x w) i ⟨g,t.less hF,r⟩ λj a w s=>?_
   obtain ⟨x,p,q⟩:=s
   exact round j x w q (λh e=>∃ b,b<j/\∃ x,bL (d x) n h/\I b x e) (λh e b f l m o=>⟨b,l,f,m,o⟩) a p
theorem NV {R:List Rw} {dr:Bool} {J:World->Prop} (E:pd P S J R dr Q) (H:Hn P S J) (m:Nat) (hS:J w) {T:Act->World->Prop} (h:∀ a c,J c->bL (aU P R H n dr m k F).1.2.2 n a->T a c) (hx:((aU P R H n dr m k F).1.1,Pk (aU P R H n dr m k F).1.2.1)=(false,T):=by kernel_rfl) (he:(aU P R H n dr m k F).2.map Prod.fst=(aU P R H n dr m k F).2.map Prod.snd:=by kernel_rfl):Wg P S Q n k F w:=by
 simp only [Prod.mk.injEq] at hx;refine af E H m hS (hret:=hx.1) (he:=he) λc f a e=>?_;have b:=h a c f e;rw [<- hx.2] at b;generalize (aU P R H n dr m k F).1.2.1=d at b;cases d with
 | nil=>cases b
 | cons y d=>cases y with
   | fin g=>exact b
   | _=>cases b
end
section
variable {P : Program} {S : World -> Prop} {n : Nat} {fn : Func} {Rs : Ending -> World -> Prop} {k : List KI} {F : Fr} {w : World}
theorem cW {R:List Rw} (a:jk w R) (H:Hn P (λx=>x=w) (λx=>x=w)) (m:Nat) (h:Wg P S (bodyPost P fn Rs) n (aU P R H n false m k F).1.2.1 (aU P R H n false m k F).1.2.2 w) (hx:(gP k,(aU P R H n false m k F).1.1,gP (aU P R H n false m k F).1.2.1)=(true,false,true):=by kernel_rfl) (he:(aU P R H n false m k F).2.map Prod.fst=(aU P R H n false m k F).2.map Prod.snd:=by kernel_rfl):Wg P S (bodyPost P fn Rs) n k F w:=by simp only [Prod.mk.injEq] at hx;exact aR (λx=>x=w) (hn:=hx.1) (af (yX a) H m rfl (hret:=hx.2.1) (he:=he) λc b=>by subst b;exact aR S (hn:=hx.2.2) h)
end
def Dw (w W:World):Prop:=∃ d,W={w with drawn:=w.drawn+d}
theorem Dw.refl (w:World):Dw w w:=⟨0,rfl⟩
structure Ez (S:World->Prop) (R:List Rw):Prop where
 rows:∀ w,S w->∀ r ∈ R,ot r w
 drew:∀ w,S w->S w.drew
section
variable {P : Program} {S : World -> Prop} {n : Nat} {fn : Func} {Rs : Ending -> World -> Prop} {k : List KI} {F : Fr} {w : World} {R : List Rw}
theorem re (a:Ez S R) (hS:S w):pd P S (Dw w) R true (bodyPost P fn Rs):=
 ⟨λW h=>by
  obtain ⟨d,rfl⟩:=h
  induction d with
  | zero=>exact hS
  | succ d b=>exact a.drew _ b,a.rows,λ_ W h=>by obtain ⟨d,rfl⟩:=h;exact ⟨d+1,rfl⟩,dA⟩
theorem sn (j:Ez S R) (hS:S w) (H:Hn P S (Dw w)) (m:Nat) {f:Nat} {args:Array Value} {Rc:World->Ending->World->Prop} (l:∀ W,Dw w W->Calls P f args W (Rc W))
 (h:∀ W e a,Dw w W->Rc W e a->∃ v t,e=.returned v/\S a/\Wg P S (bodyPost P fn Rs) n (ox (aU P R H n true m k F).1.2.2 (aU P R H n true m k F).1.2.1) (qn (aU P R H n true m k F).1.2.2 (aU P R H n true m k F).1.2.1 v t) a) (hx:((aU P R H n true m k F).1.1,Lb P n (aU P R H n true m k F).1.2.2 (aU P R H n true m k F).1.2.1)=(false,some (f,args)):=by kernel_rfl) (he:(aU P R H n true m k F).2.map Prod.fst=(aU P R H n true m k F).2.map Prod.snd:=by kernel_rfl):Wg P S (bodyPost P fn Rs) n k F w :=
 aW (re j hS) H m (Dw.refl w) l (hx:=hx) (he:=he) λW e a b c=>by
  obtain ⟨v,t,d,g,i⟩:=h W e a b c
  exact ⟨v,t,d,λ_=>g,i⟩
theorem DL (b:Ez S R) (hS:S w) (H:Hn P S (Dw w)) (m:Nat) {s:Sem Next} (f:World->World) (hr:∀ W,Dw w W->s.run P W=.ok .skip (f W)) (h:∀ W,Dw w W->S (f W)/\Wg P S (bodyPost P fn Rs) n (ox (aU P R H n true m k F).1.2.2 (aU P R H n true m k F).1.2.1) (qn (aU P R H n true m k F).1.2.2 (aU P R H n true m k F).1.2.1 undef 0) (f W)) (hx:((aU P R H n true m k F).1.1,DK n (aU P R H n true m k F).1.2.2 (aU P R H n true m k F).1.2.1)=(false,some s):=by kernel_rfl) (he:(aU P R H n true m k F).2.map Prod.fst=(aU P R H n true m k F).2.map Prod.snd:=by kernel_rfl):Wg P S (bodyPost P fn Rs) n k F w:=by simp only [Prod.mk.injEq] at hx;exact af (re b hS) H m (Dw.refl w) (hret:=hx.1) (he:=he) λW a=>bM (hx:=hx.2) (hr W a) (hS:=λ_=>(h W a).1) (h W a).2
theorem Nh (b:Ez S R) (hS:S w) (H:Hn P S (Dw w)) (m:Nat) {s:Sem Next} {v:World->Value} (t:Nat) (f:World->World) (hr:∀ W,Dw w W->s.run P W=.ok (.value (v W)) (f W)) (h:∀ W,Dw w W->S (f W)/\Wg P S (bodyPost P fn Rs) n (ox (aU P R H n true m k F).1.2.2 (aU P R H n true m k F).1.2.1) (qn (aU P R H n true m k F).1.2.2 (aU P R H n true m k F).1.2.1 (v W) t) (f W)) (hx:((aU P R H n true m k F).1.1,DK n (aU P R H n true m k F).1.2.2 (aU P R H n true m k F).1.2.1)=(false,some s):=by kernel_rfl) (he:(aU P R H n true m k F).2.map Prod.fst=(aU P R H n true m k F).2.map Prod.snd:=by kernel_rfl):Wg P S (bodyPost P fn Rs) n k F w:=by simp only [Prod.mk.injEq] at hx;exact af (re b hS) H m (Dw.refl w) (hret:=hx.1) (he:=he) λW a=>iQ t (hx:=hx.2) (hr W a) (hS:=λ_=>(h W a).1) (h W a).2
end
theorem Dw.below {B:Nat} {v w W:World} (hb:Below B v w) (h:Dw w W):Below B v W:=by
 obtain ⟨d,rfl⟩:=h;induction d with
 | zero=>exact hb
 | succ d a=>exact a.drew
theorem bj {P:Program} {w:World} {g:Nat} {t ty:TypeId} {old cells:Array Value} (b:w.heap[g]?=some (.cells old t (0,0))) (c:(P.info? ty).map (·.size)=some cells.size) (d:old.size=cells.size) (a:cells.all (·.oneCell')=true):(do Instr.storeAt ty (.p g 0) (.agg cells);pure Next.skip:Sem Next).run P w=.ok .skip (w.setRow g cells):=by have:=run_storeVar_row (P:=P) w g t ty old cells b c d a;simp [Instr.storeAt,Instr.sureAddr,this,Result.andThen]
theorem kS {P:Program} {S:World->Prop} {n:Nat} {fn:Func} {Rs:Ending->World->Prop} {k:List KI} {F:Fr} {w:World} {R:List Rw} (hz:Ez S R) (hS:S w) (H:Hn P S (Dw w)) (m:Nat) {r:Nat} {T:TypeId} {d:TypeDesc} {cs:Array Value} {s p u:Nat} {v1 v2:Value} (v:∀ W,S W->S (W.setRow r cs)) (e:∀ W,S W->∃ old t,old.size=cs.size/\W.heap[r]?=some (.cells old t (0,0))) (C:(P.info? T).map (·.size)=some cs.size) (o:cs.all (·.oneCell')=true) (G:P.underlying T=some d) (hd:(match d with | .struct _ | .array _ _=>true | _=>false)=true) (q:fn.results=#[.tmp s,.cell p T,.tmp u]) (hx:((aU P R H n true m k F).1.1,DK n (aU P R H n true m k F).1.2.2 (aU P R H n true m k F).1.2.1)=(false,some (do Instr.storeAt T (.p r 0) (.agg cs);pure Next.skip))) (he:(aU P R H n true m k F).2.map Prod.fst=(aU P R H n true m k F).2.map Prod.snd) (hy:(λ(y:(Bool × List KI × Fr) × List (Oe × Oe))=>(y.1.1,(lk y.1.2.2 s).map Prod.fst,(lk y.1.2.2 p).map Prod.fst,(lk y.1.2.2 u).map Prod.fst,y.2.map Prod.fst)) (aU P R ({}:Hn P S λV=>∃ W,Dw w W/\Dw (W.setRow r cs) V) n true m (ox (aU P R H n true m k F).1.2.2 (aU P R H n true m k F).1.2.1) (qn (aU P R H n true m k F).1.2.2 (aU P R H n true m k F).1.2.1 undef 0))=(true,some v1,some (.p r 0),some v2,(aU P R ({}:Hn P S λV=>∃ W,Dw w W/\Dw (W.setRow r cs) V) n true m (ox (aU P R H n true m k F).1.2.2 (aU P R H n true m k F).1.2.1) (qn (aU P R H n true m k F).1.2.2 (aU P R H n true m k F).1.2.1 undef 0)).2.map Prod.snd)) (h:∀ W V,Dw w W->Dw (W.setRow r cs) V->Rs (.returned (.tuple #[v1,.agg cs,v2])) V):Wg P S (bodyPost P fn Rs) n k F w:=by
 have c:∀ {a b:World},S a->Dw a b->S b:=λ{a b} x l=>(re (P:=P) (fn:=fn) (Rs:=Rs) hz x).sub _ l;refine DL hz hS H m (λW=>W.setRow r cs) (λW z=>?_) (hx:=hx) (he:=he) λW z=>?_;·obtain ⟨old,t,x,l⟩:=e W (c hS z);exact bj l C x o
 ·have A:=v W (c hS z);refine ⟨A,?_⟩;simp only [Prod.mk.injEq] at hy;obtain ⟨I,J,K,L,M⟩:=hy;have E:pd P S (λV=>∃ W,Dw w W/\Dw (W.setRow r cs) V) R true (bodyPost P fn Rs):=
   ⟨λV ⟨X,g,i⟩=>c (v X (c hS g)) i,hz.rows,λ_ V ⟨X,g,i⟩=>⟨X,g,by obtain ⟨j,rfl⟩:=i;exact ⟨j+1,rfl⟩⟩,dA⟩
  refine lm E _ m ⟨W,z,Dw.refl _⟩ (hv:=I) (he:=M) λV a D B=>?_;obtain ⟨X,g,i⟩:=D;obtain ⟨old,t,x,l⟩:=e X (c hS g);have f:V.heap[r]?=some (.cells cs t (0,0)):=(by obtain ⟨j,rfl⟩:=i;exact setRow_heap X r old cs t (0,0) l);refine ⟨_,?_,h X V g i⟩;rw [<- B.slot J,<- B.slot L];exact bE q a.tmps V r t cs (0,0) d (B.slot K) f G hd C
theorem mv {P:Program} {w:World} {b i:Nat} {T:TypeId} {v old:Value} (a:w.cell? ⟨b,i,none⟩=some old/\w.frozen? ⟨b,i,none⟩=false) (d:(P.info? T).map (·.size)=some 1) (hv:v.cells=#[v]) (e:v.oneCell'=true:=by rfl):(do Instr.storeAt T (.p b i) v;pure Next.skip:Sem Next).run P w=.ok .skip (w.setCell ⟨b,i,none⟩ v):=by
 obtain ⟨t,g,f⟩:=Option.map_eq_some_iff.1 d;have c:(store ⟨b,i,none⟩ v).run P w=.ok () (w.setCell ⟨b,i,none⟩ v):=by rw [run_store P w _ v _ e];simp [a.1,a.2]
 simp [Instr.storeAt,Instr.sureAddr,storeVar,sizeOf,typeInfo,g,f,hv,storeCells,Addr.add,Result.andThen,c]
theorem ch {B:Nat} {v w:World} (h:Below B v w) {g:Nat} (b:B<=g) (cs:Array Value):Below B v (w.setRow g cs):=
 ⟨h.os,h.tape,h.output,by rw [setRow_size];exact h.size,λk a=>(setRow_other w g k cs al).trans (h.block k a)⟩
theorem sZ {P:Program} {fn:Func} {F:Fr} {n:Nat} {a:Act} {p u g:Nat} {T t:TypeId} {d:TypeDesc} {cs:Array Value} {v:Value} {w:World} (hk:bL F n a) (h:fn.results=#[.cell p T,.tmp u]) (e:(lk F p).map Prod.fst=some (.p g 0)) (hv:(lk F u).map Prod.fst=some v) (b:w.heap[g]?=some (.cells cs t (0,0))) (f:P.underlying T=some d) (hd:(match d with | .struct _ | .array _ _=>true | _=>false)=true) (c:(P.info? T).map (·.size)=some cs.size):(results fn a.tmps).run P w=.ok (.tuple #[.agg cs,v]) w:=by rw [results_cell_tmp h,hk.slot e,hk.slot hv];simp [asAddr,run_loadVar_row w g t T cs (0,0) d b f hd c]
theorem nt {P:Program} {S:World->Prop} {n:Nat} {fn:Func} {Rs:Ending->World->Prop} {k:List KI} {F:Fr} {w:World} {R:List Rw} (f:jk w R) (H:Hn P (λx=>x=w) (λx=>x=w)) (m:Nat) {r:Nat} {T t:TypeId} {d:TypeDesc} {old cs:Array Value} {p u:Nat} {v:Value} (hr:w.heap[r]?=some (.cells old t (0,0))) (i:old.size=cs.size) (b:cs.all (·.oneCell')=true) (j:P.underlying T=some d) (h:Rs (.returned (.tuple #[.agg cs,v])) (w.setRow r cs)) (e:(P.info? T).map (·.size)=some cs.size:=by kernel_rfl) (hd:(match d with | .struct _ | .array _ _=>true | _=>false)=true:=by rfl) (c:fn.results=#[.cell p T,.tmp u]:=by rfl) (hx:(λ(y:Bool × List KI × Fr)=>(gP k,y.1,gP y.2.1,xn y.2.2 y.2.1,DK n y.2.2 y.2.1,gP (ox y.2.2 y.2.1))) (aU P R H n false m k F).1=(true,false,true,false,some (do Instr.storeAt T (.p r 0) (.agg cs);pure Next.skip),true):=by kernel_rfl) (he:(aU P R H n false m k F).2.map Prod.fst=(aU P R H n false m k F).2.map Prod.snd:=by kernel_rfl) (hy:∀ X,(λ(z:(Bool × List KI × Fr) × List (Oe × Oe))=>(z.1.1,(lk z.1.2.2 p).map Prod.fst,(lk z.1.2.2 u).map Prod.fst,z.2.map Prod.fst)) (aU P [] ({}:Hn P (λx=>x=X) (λx=>x=X)) n false m (ox (aU P R H n false m k F).1.2.2 (aU P R H n false m k F).1.2.1) (qn (aU P R H n false m k F).1.2.2 (aU P R H n false m k F).1.2.1 undef 0))=(true,some (.p r 0),some v,(aU P [] ({}:Hn P (λx=>x=X) (λx=>x=X)) n false m (ox (aU P R H n false m k F).1.2.2 (aU P R H n false m k F).1.2.1) (qn (aU P R H n false m k F).1.2.2 (aU P R H n false m k F).1.2.1 undef 0)).2.map Prod.snd):=by intro _;kernel_rfl):Wg P S (bodyPost P fn Rs) n k F w:=by simp only [Prod.mk.injEq] at hx hy;obtain ⟨l,o,q,s,A,B⟩:=hx;refine oz f H m (bj hr e i b) ?_ (hx:=by rw [l,o,q,s,A]) (he:=he);exact hC (R:=[]) trivial {} m (λa g=>⟨_,sZ g c (hy _).2.1 (hy _).2.2.1 (setRow_heap _ _ _ _ _ _ hr) j hd e,h⟩) (hx:=by rw [B,(hy _).1]) (he:=(hy _).2.2.2)
theorem gF {P:Program} {T:TypeId} {z:Value} (h:(P.info? T).bind (·.zero)=some z) (w:World):(do pure (.value (<- Instr.alloc T true (.tuple #[]))):Sem Next).run P w=.ok (.value (.p w.heap.size 0)) (w.alloc (.cells z.cells T)):=by obtain ⟨i,a,b⟩:=Option.bind_eq_some_iff.1 h;simp [Instr.alloc,zeroValue,typeInfo,a,b,newVar,newRow]
def gG (r:Rw) (w:World):Prop:=∃ t,w.heap[r.b]?=some (.cells r.cs t (0,0))
structure Ag (bs:List Nat) (w W:World):Prop where
 os:W.os=w.os
 tape:W.tape=w.tape
 output:W.output=w.output
 size:w.heap.size<=W.heap.size
 block:∀ k,k<w.heap.size->k ∉ bs->W.heap[k]?=w.heap[k]?
theorem Ag.refl (bs:List Nat) (w:World):Ag bs w w:=⟨rfl,rfl,rfl,Nat.le_refl _,λ_ _ _=>rfl⟩
theorem Ag.trans {bs:List Nat} {a b c:World} (h:Ag bs a b) (k:Ag bs b c):Ag bs a c:=⟨k.os.trans h.os,k.tape.trans h.tape,k.output.trans h.output,Nat.le_trans h.size k.size,λi e d=>(k.block i (Nat.lt_of_lt_of_le e h.size) d).trans (h.block i e d)⟩
theorem Ag.below {bs:List Nat} {a b c:World} (h:Ag bs a b) (k:Bw b c):Ag bs a c:=h.trans ⟨k.os,k.tape,k.output,k.size,λi d _=>k.block i d⟩
theorem Ag.drew {bs:List Nat} {a b:World} (h:Ag bs a b):Ag bs a b.drew:=⟨h.os,h.tape,h.output,h.size,h.block⟩
theorem H7 {bs:List Nat} {g:Nat} (a:g ∈ bs) (w:World) (i:Nat) (v:Value):Ag bs w (w.setCell ⟨g,i,none⟩ v):=⟨rfl,rfl,rfl,bc,λk _ b=>Below.heap_setCell w _ v k (λe=>b (by rw [e];exact a))⟩
def rW {α:Type} (P:Program):Sem α->Rw->Option (α × Rw × List (Addr × Addr))
 | .pure a,r=>some (a,r,[])
 | .load _ a k,r=>match r.cs[a.off]? with
   | none=>none
   | some v=>match rW P (k v) r with
     | none=>none
     | some x=>some (x.1,x.2.1,(a,⟨r.b,a.off,none⟩)::x.2.2)
 | .store _ a v k,r=>match v.oneCell' with
   | false=>none
   | true=>match r.cs[a.off]? with
     | none=>none
     | some _=>match rW P k {r with cs:=r.cs.setIfInBounds a.off v} with
       | none=>none
       | some x=>some (x.1,x.2.1,(a,⟨r.b,a.off,none⟩)::x.2.2)
 | .program k,r=>rW P (k P) r
 | .mark _ k,r=>rW P k r
 | _,_=>none
theorem Ld {α:Type} {P:Program} {bs:List Nat}:∀ (s:Sem α) (r b:Rw) (x:α) (d:List (Addr × Addr)) (w:World),rW P s r=some (x,b,d)->(∀ e ∈ d,e.1=e.2)->r.b ∈ bs->gG r w->∃ z,s.run P w=.ok x z/\gG b z/\b.b=r.b/\b.tg=r.tg/\Ag [r.b] w z:=by
 intro s;induction s with
 | pure a =>intro r b x d w h _ _ i;simp only [rW,Option.some.injEq,Prod.mk.injEq] at h;obtain ⟨rfl,rfl,_⟩:=h;exact ⟨w,rfl,i,rfl,rfl,Ag.refl _ _⟩
 | load m a k l =>
   intro r b x d w h g p i;unfold rW at h;cases q:r.cs[a.off]? with
   | none=>rw [q] at h;cases h
   | some v =>
     rw [q] at h;dsimp only at h;cases j:rW P (k v) r with
     | none=>rw [j] at h;cases h
     | some y =>rw [j] at h;simp only [Option.some.injEq,Prod.mk.injEq] at h;obtain ⟨A,B,C⟩:=h;subst C;have o:a=⟨r.b,a.off,none⟩:=g (a,⟨r.b,a.off,none⟩) bc;obtain ⟨t,c⟩:=i;have D:w.cell? a=some v:=(by rw [o];simp only [World.cell?,c];simpa using q);simp only [Sem.run,D];exact l v r b x y.2.2 w (by rw [j,<- A,<- B]) (λe h=>g e (by simp [h])) p ⟨t,c⟩
 | store m a v k l =>
   intro r b x d w h g p i;unfold rW at h;cases n:v.oneCell' with
   | false=>rw [n] at h;cases h
   | true =>
     rw [n] at h;dsimp only at h;cases q:r.cs[a.off]? with
     | none=>rw [q] at h;cases h
     | some u =>
       rw [q] at h;dsimp only at h;cases j:rW P k {r with cs:=r.cs.setIfInBounds a.off v} with
       | none=>rw [j] at h;cases h
       | some y =>
         rw [j] at h;simp only [Option.some.injEq,Prod.mk.injEq] at h;obtain ⟨A,B,C⟩:=h;subst C;have o:a=⟨r.b,a.off,none⟩:=g (a,⟨r.b,a.off,none⟩) bc;obtain ⟨t,c⟩:=i;have D:w.cell? a=some u:=(by rw [o];simp only [World.cell?,c];simpa using q);have L:w.frozen? a=false:=(by rw [o];simp [World.frozen?,c]);have f:(w.setCell a v).heap[r.b]?=some (.cells (r.cs.setIfInBounds a.off v) t (0,0)):=(by rw [o];exact bo c a.off v);obtain ⟨z,F,G,I,J,H⟩:=l {r with cs:=r.cs.setIfInBounds a.off v} b x y.2.2 (w.setCell a v) (by rw [j,<- A,<- B]) (λe h=>g e (by simp [h])) p ⟨t,f⟩;refine ⟨z,?_,G,I,J,?_⟩
         ·have E:(Sem.store m a v k).run P w=k.run P (w.setCell a v):=by clear o g l F G H f j;cases v<;>first | (simp only [Sem.run,D,L,Bool.false_eq_true,if_false];done) | (cases n;done)
          rw [E];exact F
         ·have K:Ag [r.b] w (w.setCell a v):=(by rw [o];exact H7 bc w _ v);exact K.trans H
 | program k l=>intro r b x d w h g p i;exact l P r b x d w h g p i
 | mark m k l=>intro r b x d w h g p i;exact l r b x d w h g p i
 | new=>intro r b x d w h;cases h
 | shape=>intro r b x d w h;cases h
 | freeze=>intro r b x d w h;cases h
 | frozen=>intro r b x d w h;cases h
 | getObj=>intro r b x d w h;cases h
 | setObj=>intro r b x d w h;cases h
 | choose=>intro r b x d w h;cases h
 | sys=>intro r b x d w h;cases h
 | halt=>intro r b x d w h;cases h
structure Hw (P:Program) (T:World->Prop) where
 eq:List (Nat × Vq):=[]
 ov:List (Nat × Ov P T):=[]
def Ni (R:List Rw) (w:World):Prop:=∀ r ∈ R,gG r w
theorem gG.in_ {r:Rw} {w:World} (h:gG r w):ot r w:=let ⟨t,h⟩:=h;⟨t,_,h⟩
theorem H9 {α a:Type} (f:α->a):∀ (l:List (Nat × α)) (d:Nat),lk (l.map λx=>(x.1,f x.2)) d=(lk l d).map f
 | [],_=>rfl
 | (q,y)::l,d=>by
   simp only [List.map_cons,lk]
   cases Nat.beq q d
   ·exact H9 f l d
   ·rfl
theorem Ia {P:Program} {T:World->Prop} {R:List Rw} {ov:List (Nat × Ov P T)} {eq:List (Nat × Vq)} {F:Fr} {n:Nat} {a:Act} {o:Oper} {v:Value} {t:Nat} {es:List (Oe × Oe)} (hk:bL F n a) (h:Hq P R ov eq F o=some (v,t,es)) (he:∀ e ∈ es,e.1=e.2) {w:World} (c:T w) (g:∀ r ∈ R,ot r w):(execOp a.eval o).run P w=.ok (.value v) w:=by
 have f:Hq P R (ov.map λx=>(x.1,(⟨x.2.s,x.2.v,x.2.t,λW b=>by subst b;exact x.2.h _ c⟩:Ov P λW=>W=w))) eq F o=some (v,t,es):=by
  rw [<- h];unfold Hq;split;·rfl
  ·have i:=λd=>H9 (λy:Ov P T=>(⟨y.s,y.v,y.t,λW b=>by subst b;exact y.h _ c⟩:Ov P λW=>W=w)) ov d;cases j:o.dst with
   | none=>rfl
   | some d =>simp only [Option.bind_some,i];cases lk ov d<;>rfl
 exact (BA hk f he λW b=>by subst b;exact g).1 w rfl
def vL (P:Program) {T:World->Prop} (R:List Rw) (H:Hw P T) (n:Nat) (all:Array Oper):Nat->Array Bool->Fr->Option (Fr × List (Oe × Oe))
 | m,listed,F=>match Region.ready .any all listed with
   | []=>some (F,[])
   | i::is=>match m with
     | 0=>none
     | m+1=>match o9 all listed (i::is) with
       | none=>none
       | some j=>match all[j]? with
         | none=>none
         | some o=>match (match wn all F o with | none=>none | some false=>some (undef,0,[]) | some true=>Hq P R H.ov H.eq F o) with
           | none=>none
           | some (v,t,es)=>match qm n F v t o.dst with
             | none=>none
             | some a=>match vL P R H n all m (listed.setIfInBounds j true) a with
               | none=>none
               | some (F2,es2)=>some (F2,es++es2)
theorem Ib {P:Program} {T:World->Prop} {R:List Rw} {H:Hw P T} {n:Nat} {all:Array Oper} {Q:Exit->Act->World->Prop} {w:World} (N:T w) (M:Ni R w) (C:Region.noSelect all=true) (L:∀ c a d v w,Q (.panic c) (Act.put a d v) w->Q (.panic c) a w):∀ (m:Nat) (listed:Array Bool) (F p:Fr) (q:List (Oe × Oe)) (a:Act),vL P R H n all m listed F=some (p,q)->(∀ e ∈ q,e.1=e.2)->bL F n a->(∀ G,bL p n G->Q .normal G w)->wpAnyH P .any all Q (λW=>W=w) m listed a w:=by
 intro m;induction m with
 | zero =>
   intro listed F p q a h x k s;unfold vL at h;cases g:Region.ready .any all listed with
   | nil=>rw [g] at h;cases h;exact wpAnyH_done g (s a k) 0
   | cons i is=>rw [g] at h;cases h
 | succ m V =>
   intro listed F p q a h x k s;unfold vL at h;cases g:Region.ready .any all listed with
   | nil=>rw [g] at h;cases h;exact wpAnyH_done g (s a k) _
   | cons i is =>
     rw [g] at h;dsimp only at h;cases D:o9 all listed (i::is) with
     | none=>rw [D] at h;cases h
     | some j =>
       rw [D] at h;dsimp only at h;cases A:all[j]? with
       | none=>rw [A] at h;cases h
       | some o =>
         rw [A] at h;dsimp only at h;split at h;·cases h
         ·rename_i v t J f;cases z:qm n F v t o.dst with
          | none=>rw [z] at h;cases h
          | some I =>
            rw [z] at h;dsimp only at h;cases E:vL P R H n all m (listed.setIfInBounds j true) I with
            | none=>rw [E] at h;cases h
            | some y =>
              obtain ⟨X,K⟩:=y;rw [E] at h;simp only [Option.some.injEq,Prod.mk.injEq] at h;obtain ⟨rfl,rfl⟩:=h;have l:=nl D;have U:YieldsIf P all (λW=>W=w) o v a:=by
               cases u:wn all F o with
               | none=>rw [u] at f;cases f
               | some b =>
                 rw [u] at f;cases b with
                 | false=>simp only [Option.some.injEq,Prod.mk.injEq] at f;exact .inr ⟨jW k u,f.1.symm⟩
                 | true=>exact .inl ⟨jW k u,λW O=>by subst O;exact Ia k f (λe B=>x e (by simp [B])) N λr g=>(M r g).in_⟩
              exact wpAnyH_take A C l.2 (by rw [g];simpa using l.1) (λc a w S=>L c a _ _ w S) U rfl (V _ _ _ _ _ E (λe B=>x e (by simp [B])) (jw z k) s)
inductive Sv where
 | go (k:List KI) (F:Fr) (R:List Rw) (es:List (Oe × Oe))
 | ret
 | stop
def Qg (P:Program) (R:List Rw) (F:Fr) (o:Oper):Option (List Rw × List (Oe × Oe)):=match o.op with
 | .store _ x _=>match o.op.operands.all (kn F) with
   | false=>none
   | true=>match Hp F x with
     | 0=>none
     | j+1=>match R[j]? with
       | none=>none
       | some r=>match rW P (execOp (ev F) o) r with
         | some (.skip,r',es)=>some (R.set j r',es.map λe=>(.a e.1,.a e.2))
         | _=>none
 | _=>none
def yY (P:Program) {T:World->Prop} (H:Hw P T) (n:Nat) (k:List KI) (F:Fr) (R:List Rw):Sv :=
 match k with
 | .ops _ []::k=>.go k F R []
 | .ops all (o::rest)::k=>match (match wn all F o with | none=>none | some false=>some (undef,0,[]) | some true=>Hq P R H.ov H.eq F o) with
   | some (v,t,a)=>match qm n F v t o.dst with
     | some b=>.go (.ops all rest::k) b R a
     | none=>.stop
   | none=>match wn all F o,o.dst with
     | some true,none=>match Qg P R F o with
       | some (R',a)=>.go (.ops all rest::k) F R' a
       | none=>.stop
     | _,_=>.stop
 | .blk _::k=>.go k F R []
 | .code (.region _ ops true)::k=>match Region.noSelect ops&&P.follows .mixedOrders with
   | true=>match vL P R H n ops ops.size (Array.replicate ops.size false) F with
     | some (b,a)=>.go k b R a
     | none=>.stop
   | false=>.stop
 | .code c::k=>match ik P false k F c with
   | .go d b a=>.go d b R a
   | .ret=>.ret
   | .stop=>.stop
 | _=>.stop
theorem yZ {α:Type}:∀ {l:List α} {j:Nat} {x:α},l[j]?=some x->l.set j x=l
 | [],_,_,h=>ow
 | y::l,0,x,h=>by simp at h;simp [h]
 | y::l,j+1,x,h=>by simp only [List.set_cons_succ];rw [yZ (l:=l) dn]
structure Iv (bs:List Nat) (w:World) (R:List Rw) (W:World):Prop where
 rows:Ni R W
 ag:Ag bs w W
 sub:∀ r ∈ R,r.b ∈ bs
 nd:(R.map Rw.b).Nodup
theorem Iv.below {bs:List Nat} {w W W':World} {R:List Rw} (h:Iv bs w R W) (k:Bw W W'):Iv bs w R W' :=
 ⟨λr b=>let ⟨t,a⟩:=h.rows r b;⟨t,(k.block r.b (Array.getElem?_eq_some_iff.1 a).1).trans a⟩,h.ag.below k,h.sub,h.nd⟩
theorem NW {P:Program} {R L:List Rw} {F:Fr} {n:Nat} {a:Act} {o:Oper} {es:List (Oe × Oe)} {bs:List Nat} {w W:World} (hk:bL F n a) (h:Qg P R F o=some (L,es)) (he:∀ e ∈ es,e.1=e.2) (c:Iv bs w R W):∃ u,(execOp a.eval o).run P W=.ok .skip u/\Iv bs w L u:=by
 unfold Qg at h
 split at h
 ·rename_i t x y H
  cases C:o.op.operands.all (kn F) with
  | false=>rw [C] at h;cases h
  | true =>
    rw [C] at h
    dsimp only at h
    have D:execOp a.eval o=execOp (ev F) o:=execOp_congr o (λX b e=>by rw [H] at e;cases e) λx T=>hk.eval (Array.all_eq_true_iff_forall_mem.1 C x T)
    rw [D]
    cases M:Hp F x with
    | zero=>rw [M] at h;cases h
    | succ j =>
      rw [M] at h
      dsimp only at h
      cases p:R[j]? with
      | none=>rw [p] at h;cases h
      | some r =>
        rw [p] at h
        dsimp only at h
        cases J:rW P (execOp (ev F) o) r with
        | none=>rw [J] at h;cases h
        | some z =>
          obtain ⟨U,K,A⟩:=z
          rw [J] at h
          cases U with
          | skip =>
            simp only [Option.some.injEq,Prod.mk.injEq] at h
            obtain ⟨rfl,rfl⟩:=h
            have s:=List.mem_of_getElem? p
            obtain ⟨u,N,O,Q,Y,l⟩:=Ld (bs:=bs) _ r K _ A W J (λe s=>by have:=he (.a e.1,.a e.2) (List.mem_map.2 ⟨e,s,rfl⟩);simpa using this) (c.sub r s) (c.rows r s)
            have E:j<R.length:=(List.getElem?_eq_some_iff.1 p).1
            have d:(R.set j K).map Rw.b=R.map Rw.b:=by
             rw [List.map_set,Q]
             have:(R.map Rw.b)[j]?=some r.b:=by simp [p]
             exact yZ this
            refine ⟨u,N,⟨λq I=>?_,c.ag.trans ⟨l.os,l.tape,l.output,l.size,λk S hk=>l.block k S (by simp only [List.mem_singleton];exact λe=>hk (by rw [e];exact c.sub r s))⟩,λq I=>?_,by rw [d];exact c.nd⟩⟩
            ·obtain ⟨i,m⟩:=List.mem_iff_getElem?.1 I
             by_cases g:i=j
             ·subst g
              rw [List.getElem?_set_self E] at m
              cases m
              exact O
             ·rw [List.getElem?_set_ne (Ne.symm g)] at m
              obtain ⟨t,f⟩:=c.rows q (List.mem_of_getElem? m)
              have G:q.b≠r.b:=λe=>g (by
               have B:(R.map Rw.b)[i]?=some q.b:=by simp [m]
               have v:(R.map Rw.b)[j]?=some r.b:=by simp [p]
               rw [<- e] at v
               exact (List.getElem?_inj (by simpa using (List.getElem?_eq_some_iff.1 m).1) c.nd).1 (B.trans v.symm))
              exact ⟨t,(l.block q.b (Array.getElem?_eq_some_iff.1 f).1 (by simpa using G)).trans f⟩
            ·have:q.b ∈ (R.set j K).map Rw.b:=List.mem_map.2 ⟨q,I,rfl⟩
             rw [d] at this
             obtain ⟨V,B,v⟩:=List.mem_map.1 this
             rw [<- v]
             exact c.sub V B
          | _=>cases h
 ·cases h
section
variable {P : Program} {T : World -> Prop} {H : Hw P T} {n : Nat} {bs : List Nat} {w : World} {Q : Exit -> Act -> World -> Prop}
theorem Ic (D:∀ W,Ag bs w W->T W) (C:∀ c a d v w,Q (.panic c) (Act.put a d v) w->Q (.panic c) a w) {k G:List KI} {F A:Fr} {R B:List Rw} {es:List (Oe × Oe)} (h:yY P H n k F R=.go G A B es) (he:∀ e ∈ es,e.1=e.2) (f:∀ a W,bL A n a->Iv bs w B W->ij P (λ_=>True) Q G .normal a W) (a:Act) (W:World) (hk:bL F n a) (i:Iv bs w R W):ij P (λ_=>True) Q k .normal a W:=by
 unfold yY at h;split at h;·cases h;exact f a W hk i
 ·rename_i all o rest I;show wpList P all _ (o::rest) a W;split at h
  ·rename_i v t m g;split at h
   ·rename_i L E;simp only [Sv.go.injEq] at h;obtain ⟨rfl,rfl,rfl,rfl⟩:=h;refine wpList_step λK q=>?_;cases l:wn all F o with
    | none=>rw [l] at g;cases g
    | some b =>
      rw [l] at g;cases b with
      | false =>simp only [Option.some.injEq,Prod.mk.injEq] at g;obtain ⟨rfl,rfl,rfl⟩:=g;rw [jW hk l,if_neg a5];exact q _ _ (f _ _ (jw E hk) i)
      | true =>rw [if_pos (jW hk l)];show o.upon P a K _ _;rw [Ia hk g he (D W i.ag) λr p=>(i.rows r p).in_];exact q _ _ (f _ _ (jw E hk) i)
   ·cases h
  ·split at h
   ·rename_i l Y;split at h;·rename_i R2 m z;simp only [Sv.go.injEq] at h;obtain ⟨rfl,rfl,rfl,rfl⟩:=h;obtain ⟨M,U,X⟩:=NW hk z he i;refine wpList_step λK q=>?_;rw [if_pos (jW hk l)];show o.upon P a K _ _;rw [U];show K (a.put o.dst undef) M;rw [Y];exact q _ _ (f _ _ hk X)
    ·cases h
   ·cases h
 ·cases h;exact f a W hk i
 ·rename_i Z I;split at h
  ·rename_i u;rw [Bool.and_eq_true] at u;split at h;·rename_i L m y;simp only [Sv.go.injEq] at h;obtain ⟨rfl,rfl,rfl,rfl⟩:=h;have j:Iv bs w R W.drew:=⟨λr p=>i.rows r p,i.ag.drew,i.sub,i.nd⟩;refine wp_region_held (S:=λV=>V=W.drew) u.2 ?_;exact Ib (D _ j.ag) j.rows u.1 (λc a d v w s=>by rw [lN] at s ⊢;exact C c a d v w s) _ _ _ _ _ a y he hk λN x=>f N _ x j
   ·cases h
  ·cases h
 ·rename_i c I _;split at h;·rename_i k3 F3 O y;simp only [Sv.go.injEq] at h;obtain ⟨rfl,rfl,rfl,rfl⟩:=h;exact qX (J:=λV=>Iv bs w R V) (R:=[]) ⟨λ_ _=>trivial,λ_ _ r p=>(nomatch p),(λs=>by cases s),C⟩ y f a W hk i
  ·cases h
  ·cases h
 ·cases h
def dE (P:Program) {T:World->Prop} (H:Hw P T) (n:Nat):Nat->List KI->Fr->List Rw->(Bool × List KI × Fr × List Rw) × List (Oe × Oe)
 | 0,k,F,R=>((false,k,F,R),[])
 | m+1,k,F,R=>match yY P H n k F R with
   | .stop=>((false,k,F,R),[])
   | .ret=>((true,k,F,R),[])
   | .go d a b c=>match dE P H n m d a b with
     | (r,es')=>(r,c++es')
theorem xp (q:∀ W,Ag bs w W->T W) (p:∀ c a d v w,Q (.panic c) (Act.put a d v) w->Q (.panic c) a w):∀ (m:Nat) (k:List KI) (F:Fr) (R:List Rw),(∀ e ∈ (dE P H n m k F R).2,e.1=e.2) ->
 (∀ a W,bL (dE P H n m k F R).1.2.2.1 n a->Iv bs w (dE P H n m k F R).1.2.2.2 W->if (dE P H n m k F R).1.1=true then Q .ret a W else ij P (λ_=>True) Q (dE P H n m k F R).1.2.1 .normal a W)->∀ a W,bL F n a->Iv bs w R W->ij P (λ_=>True) Q k .normal a W
 | 0,k,F,R,_,hf,a,W,hk,hI=>by simpa [dE] using hf a W hk hI
 | m+1,k,F,R,he,hf,a,W,hk,hI=>by
   cases f:yY P H n k F R with
   | stop =>
     have e:dE P H n (m+1) k F R=((false,k,F,R),[]):=by simp only [dE,f]
     rw [e] at hf
     simpa using hf a W hk hI
   | ret =>
     have e:dE P H n (m+1) k F R=((true,k,F,R),[]):=by simp only [dE,f]
     rw [e] at hf
     have s:Q .ret a W:=by simpa using hf a W hk hI
     unfold yY at f
     split at f
     ·cases f
     ·repeat (split at f<;>try cases f)
     ·cases f
     ·repeat (split at f<;>try cases f)
     ·rename_i c y u
      split at f
      ·cases f
      ·rename_i g
       cases c with
       | ret=>exact wp_ret (by rw [xi];exact s)
       | region i t b=>cases b<;>simp only [ik] at g<;>(try split at g)<;>cases g
       | cond=>simp only [ik] at g;repeat (split at g<;>try cases g)
       | exit=>simp only [ik] at g;split at g<;>cases g
       | _=>cases g
      ·cases f
     ·cases f
   | go o h j r =>
     have e:dE P H n (m+1) k F R=((dE P H n m o h j).1,r++(dE P H n m o h j).2):=by simp only [dE,f]
     rw [e] at he hf
     exact Ic q p f (λx l=>he x (by simp [l])) (xp q p m o h j (λx l=>he x (by simp [l])) hf) a W hk hI
end
section
variable {P : Program} {n : Nat} {bs : List Nat} {w : World} {fn : Func} {Rs : Ending -> World -> Prop} {k : List KI} {F : Fr} {R : List Rw}
theorem oK (d:Iv bs w R w) (H:Hw P (Ag bs w)) (m:Nat) {R1:List Rw}
 (h:∀ W,Iv bs w R1 W->Wg P (λ_=>True) (bodyPost P fn Rs) n (dE P H n m k F R).1.2.1 (dE P H n m k F R).1.2.2.1 W) (hx:((dE P H n m k F R).1.1,(dE P H n m k F R).1.2.2.2)=(false,R1):=by kernel_rfl) (he:(dE P H n m k F R).2.map Prod.fst=(dE P H n m k F R).2.map Prod.snd:=by kernel_rfl):Wg P (λ_=>True) (bodyPost P fn Rs) n k F w:=λa f=>by
 simp only [Prod.mk.injEq] at hx
 refine xp (λ_ h=>h) dA m k F R (λe g=>List.map_inj_left.1 he e g) (λa W c b=>?_) a w f d
 rw [hx.2] at b
 rw [hx.1,if_neg a5]
 exact h W b a c
theorem fG (g:Iv bs w R w) (H:Hw P (Ag bs w)) (m:Nat) {R1:List Rw} {f:Nat} {args:Array Value} {Rc:World->Ending->World->Prop} (i:∀ W,Iv bs w R1 W->Calls P f args W (Rc W)) (h:∀ W e a,Iv bs w R1 W->Rc W e a->∃ v t,e=.returned v/\Wg P (λ_=>True) (bodyPost P fn Rs) n (ox (dE P H n m k F R).1.2.2.1 (dE P H n m k F R).1.2.1) (qn (dE P H n m k F R).1.2.2.1 (dE P H n m k F R).1.2.1 v t) a) (hx:((dE P H n m k F R).1.1,(dE P H n m k F R).1.2.2.2,Lb P n (dE P H n m k F R).1.2.2.1 (dE P H n m k F R).1.2.1)=(false,R1,some (f,args)):=by kernel_rfl) (he:(dE P H n m k F R).2.map Prod.fst=(dE P H n m k F R).2.map Prod.snd:=by kernel_rfl):Wg P (λ_=>True) (bodyPost P fn Rs) n k F w:=by simp only [Prod.mk.injEq] at hx;refine oK g H m (hx:=by rw [hx.1,hx.2.1]) (he:=he) λW b=>mr (i W b) (hx:=hx.2.2) λe a j=>?_;obtain ⟨v,t,c,d⟩:=h W e a b j;exact ⟨v,t,c,λ_=>trivial,d⟩
theorem iC (g:Iv bs w R w) (H:Hw P (Ag bs w)) (m:Nat) {R1:List Rw}
 (h:∀ W a,Iv bs w R1 W->bL (dE P H n m k F R).1.2.2.1 n a->∃ v,(results fn a.tmps).run P W=.ok v W/\Rs (.returned v) W) (hx:((dE P H n m k F R).1.1,(dE P H n m k F R).1.2.2.2)=(true,R1):=by kernel_rfl) (he:(dE P H n m k F R).2.map Prod.fst=(dE P H n m k F R).2.map Prod.snd:=by kernel_rfl):Wg P (λ_=>True) (bodyPost P fn Rs) n k F w:=λa i=>by
 simp only [Prod.mk.injEq] at hx
 refine xp (λ_ h=>h) dA m k F R (λe j=>List.map_inj_left.1 he e j) (λa W b c=>?_) a w i g
 rw [hx.2] at c
 rw [hx.1,if_pos rfl]
 obtain ⟨v,d,f⟩:=h W a c b
 exact bodyPost_ret d b.nod f
theorem td (b:Iv bs w R w) (H:Hw P (Ag bs w)) (m:Nat) {R1:List Rw} {t:Nat} {v:Value} (h:∀ W,Iv bs w R1 W->Rs (.returned v) W) (hx:((dE P H n m k F R).1.1,(dE P H n m k F R).1.2.2.2,(lk (dE P H n m k F R).1.2.2.1 t).map Prod.fst)=(true,R1,some v):=by kernel_rfl) (he:(dE P H n m k F R).2.map Prod.fst=(dE P H n m k F R).2.map Prod.snd:=by kernel_rfl) (hr:fn.results=#[.tmp t]:=by rfl):Wg P (λ_=>True) (bodyPost P fn Rs) n k F w:=by simp only [Prod.mk.injEq] at hx;exact iC b H m (hx:=by rw [hx.1,hx.2.1]) (he:=he) λW a c d=>⟨v,by rw [results_tmp hr,d.slot hx.2.2],h W c⟩
theorem n6 (b:Iv bs w R w) (H:Hw P (Ag bs w)) (m:Nat) {R1:List Rw}
 (h:∀ W,Iv bs w R1 W->Rs (.returned (.tuple #[])) W) (hx:((dE P H n m k F R).1.1,(dE P H n m k F R).1.2.2.2)=(true,R1):=by kernel_rfl) (he:(dE P H n m k F R).2.map Prod.fst=(dE P H n m k F R).2.map Prod.snd:=by kernel_rfl) (hr:fn.results=#[]:=by rfl):Wg P (λ_=>True) (bodyPost P fn Rs) n k F w :=
 iC b H m (hx:=hx) (he:=he) λW a c _=>⟨_,results_none hr _ _ _,h W c⟩
theorem fH (b:Iv bs w R w) (H:Hw P (Ag bs w)) (m:Nat) {R1:List Rw}
 (h:∀ W,Iv bs w R1 W->Rs (.returned (.tuple #[])) W) (hx:((dE P H n m k F R).1.1,(dE P H n m k F R).1.2.2.2)=(false,R1):=by kernel_rfl) (hz:(dE P H n m k F R).1.2.1.isEmpty=true:=by kernel_rfl) (he:(dE P H n m k F R).2.map Prod.fst=(dE P H n m k F R).2.map Prod.snd:=by kernel_rfl) (hr:fn.results=#[]:=by rfl):Wg P (λ_=>True) (bodyPost P fn Rs) n k F w :=
 oK b H m (hx:=hx) (he:=he) λW c a d=>by
  rw [List.isEmpty_iff.1 hz]
  exact bodyPost_end (results_none hr _ _ _) d.nod (h W c)
theorem Iv.eng:pd P (Iv bs w R) (Iv bs w R) R true (bodyPost P fn Rs):=⟨λ_ h=>h,λ_ h r a=>(h.rows r a).in_,λ_ _ h=>⟨λr a=>h.rows r a,h.ag.drew,h.sub,h.nd⟩,dA⟩
end
def uZ (s j:Nat):Fr->Fr
 | []=>[]
 | x::F=>(match Nat.beq x.1 s with | true=>(x.1,x.2.1,j) | false=>x)::uZ s j F
theorem xq (s j t:Nat):∀ (F:Fr) (x:Value × Nat),lk (uZ s j F) t=some x->∃ y,lk F t=some y/\y.1=x.1
 | [],_,h=>ow
 | (d,v,g)::F,x,h=>by
   unfold uZ at h
   cases b:Nat.beq d s with
   | true =>
     simp only [b,lk] at h ⊢
     cases a:Nat.beq d t with
     | true=>rw [a] at h;cases h;exact ⟨_,rfl,rfl⟩
     | false=>rw [a] at h;exact xq s j t F x h
   | false =>
     simp only [b,lk] at h ⊢
     cases a:Nat.beq d t with
     | true=>rw [a] at h;cases h;exact ⟨_,rfl,rfl⟩
     | false=>rw [a] at h;exact xq s j t F x h
theorem bL.tag {F:Fr} {n:Nat} {a:Act} (h:bL F n a) (s j:Nat):bL (uZ s j F) n a:=⟨h.size,h.nod,λt x d=>by
 obtain ⟨y,b,c⟩:=xq s j t F x d
 rw [<- c]
 exact h.at_ t y b⟩
theorem aL {P:Program} {S:World->Prop} {Q:Exit->Act->World->Prop} {n:Nat} {k:List KI} {F:Fr} {w:World} (s j:Nat) (h:Wg P S Q n k (uZ s j F) w):Wg P S Q n k F w:=λa b=>h a (b.tag s j)
theorem nu {P:Program} {S:World->Prop} {Q:Exit->Act->World->Prop} {n:Nat} {k:List KI} {F:Fr} {w:World} {f:Nat} {args:Array Value} {Rc:Ending->World->Prop} (z:Calls P f args w Rc) (hx:(DK n F k).map (λs=>s.run P w)=some (.ok (.enter f args) w)) (h:∀ e g,Rc e g->∃ v t,e=.returned v/\(xn F k=true->S g)/\Wg P S Q n (ox F k) (qn F k v t) g):Wg P S Q n k F w:=λa j=>by
 obtain ⟨s,c,r⟩:=Option.map_eq_some_iff.1 hx;unfold DK at c;unfold ox qn xn at h;cases p:yV F k with
 | none=>rw [p] at c;cases c
 | some y =>
   obtain ⟨o,E,b⟩:=y;rw [p] at c h;dsimp only at c h;split at c
   ·rename_i i;cases c;rw [Bool.and_eq_true,Bool.and_eq_true] at i;have l:execOp a.eval o=execOp (ev F) o:=execOp_congr o (λD b e=>by have:=i.1.2;rw [e] at this;cases this) λx hx=>j.eval (Array.all_eq_true_iff_forall_mem.1 i.1.1 x hx);refine xo p j λK u=>?_;show o.upon P a K _ _;rw [l,r];refine z.mono λe g A=>?_;obtain ⟨v,t,rfl,B,C⟩:=h e g A;refine u _ _ B (C _ ?_);cases m:o.dst with
    | none=>exact j
    | some d=>have q:=i.2;rw [m] at q;exact j.put q v t
   ·cases c
structure TV where
 ld:Value
 wd:Int
 op:Int
 rd:Int
 ra:Int
 rb:Int
 im:Int
 fm:Value
 rs:Int
 nx:Int
 wr:Bool
 up:Bool
 cz:Int
 vl:Int
def br (M:MV) (A:MA) (t:TV):Array Value:=#[.u M.pc,.slice A.ax M.x.length A.cx,.i M.pr,.slice A.ac M.cs.length A.cc,.slice A.ar M.ram.length A.cr,.u M.d.t,.u M.d.cm,.bool M.d.so,.slice A.ai M.d.xs.length A.ci,.slice A.ao M.d.ys.length A.co,.i M.d.ir,.u M.hd,.bool M.hl,.bool M.wt,t.ld,.u t.wd,.i t.op,.i t.rd,.i t.ra,.i t.rb,.i t.im,t.fm,.u t.rs,.u t.nx,.bool t.wr,.bool t.up,.i t.cz,.u t.vl]
theorem Iv.one {g:Nat} {w:World} {cs:Array Value} (h:gG ⟨g,cs,[]⟩ w):Iv [g] w [⟨g,cs,[]⟩] w:=⟨λr a=>by rw [List.mem_singleton] at a;subst a;exact h,Ag.refl _ _,λr a=>by rw [List.mem_singleton] at a;subst a;simp,bc⟩
theorem jx {w:World} {g:Nat} {M:MV} {A:MA} {t:TV} (c v:Int) (h:gG ⟨g,br M A t,[]⟩ w):Calls prog 201 #[.p g 0,.i c,.u v] w λe b=>e=.returned (.tuple #[])/\Iv [g] w [⟨g,br M A {t with up:=true,cz:=c,vl:=v},[]⟩] b:=by refine fD (args:=[.p g 0,.i c,.u v]) (λ_=>True) func201 ?_;refine aL 0 1 ?_;exact fH (Iv.one h) {} 40 λW a=>⟨rfl,a⟩
theorem Iv.then1 {bs:List Nat} {g:Nat} {w W w':World} {cs a:Array Value} (h:Iv bs w [⟨g,cs,[]⟩] W) (k:Iv [g] W [⟨g,a,[]⟩] w'):Iv bs w [⟨g,a,[]⟩] w' :=
 ⟨k.rows,h.ag.trans ⟨k.ag.os,k.ag.tape,k.ag.output,k.ag.size,λi d c=>k.ag.block i d (by rw [List.mem_singleton];exact λe=>c (by rw [e];exact h.sub _ (List.mem_singleton.2 rfl)))⟩,λr b=>by rw [List.mem_singleton] at b;subst b;exact h.sub ⟨g,cs,[]⟩ (List.mem_singleton.2 rfl),bc⟩
theorem Iv.row1 {bs:List Nat} {g:Nat} {w W:World} {cs:Array Value} (h:Iv bs w [⟨g,cs,[]⟩] W):gG ⟨g,cs,[]⟩ W:=h.rows _ (List.mem_singleton.2 rfl)
def uP {P:Program} {bs:List Nat} {g:Nat} {w:World} {cs:Array Value} {f:Nat} {args:Array Value} {v:Value} (h:∀ W,Iv bs w [⟨g,cs,[]⟩] W->Calls P f args W λe b=>e=.returned v/\Iv [g] W [⟨g,cs,[]⟩] b):Cv P (Iv bs w [⟨g,cs,[]⟩]):=⟨f,args,v,0,λW a=>(h W a).mono λe b k=>⟨k.1,a.then1 k.2⟩⟩
theorem ku {w:World} {p:Addr} {v:Value} (h:w.cell? p=some v):p.block<w.heap.size:=by
 unfold World.cell? at h;split at h;·rename_i a;exact (Array.getElem?_eq_some_iff.1 a).1
 ·cases h
section
variable {w : World} {g : Nat} {M : MV} {A : MA} {t : TV}
theorem rf (h:gG ⟨g,br M A t,[]⟩ w):Calls prog 157 #[.p g 0] w λe b=>e=.returned (.u (IntKind.u64.wrap t.im))/\Iv [g] w [⟨g,br M A t,[]⟩] b:=by refine fD (args:=[.p g 0]) (λ_=>True) func157 ?_;refine aL 0 1 ?_;exact td (t:=2) (v:=.u (IntKind.u64.wrap t.im)) (Iv.one h) {} 40 λW a=>⟨rfl,a⟩
theorem n7 (h:gG ⟨g,br M A t,[]⟩ w):Calls prog 151 #[.p g 0] w λe d=>e=.returned (.tuple #[])/\Iv [g] w [⟨g,br M A {t with up:=true,cz:=2,vl:=t.wd},[]⟩] d:=by refine fD (args:=[.p g 0]) (λ_=>True) func151 ?_;refine aL 0 1 ?_;refine fG (Iv.one h) {} 40 (R1:=[⟨g,br M A t,[]⟩]) (λW a=>jx 2 t.wd a.row1) λW e d a c=>⟨_,0,c.1,?_⟩;exact fH (Iv.one c.2.row1) {} 40 λf b=>⟨rfl,(a.then1 c.2).then1 b⟩
theorem Ie {b o:Nat} {x:Int} (h:gG ⟨g,br M A t,[]⟩ w) (c:A.ax=some ⟨b,o,none⟩) (f:0<=t.ra/\t.ra<M.x.length) (hb:b≠g) (hx:w.cell? ⟨b,o+t.ra.toNat,none⟩=some (.u x)):Calls prog 156 #[.p g 0] w λe i=>e=.returned (.u x)/\Iv [g] w [⟨g,br M A t,[]⟩] i:=by
 have d:∀ W,Ag [g] w W->W.cell? ⟨b,o+t.ra.toNat,none⟩=some (.u x):=λW a=>by rw [<- hx];simp only [World.cell?,a.block b (ku hx) (by simpa using hb)]
 refine fD (args:=[.p g 0]) (λ_=>True) func156 ?_;refine aL 0 1 ?_;exact td (t:=2) (v:=.u x) (Iv.one h) {ov:=[(13,qY M.x.length A.cx .i64 t.ra c f underlying23 a3),(14,kR _ _ underlying22 rfl d)]} 40 λW a=>⟨rfl,a⟩
theorem P9 {b o:Nat} {x:Int} (h:gG ⟨g,br M A t,[]⟩ w) (c:A.ax=some ⟨b,o,none⟩) (f:0<=t.rb/\t.rb<M.x.length) (hb:b≠g) (hx:w.cell? ⟨b,o+t.rb.toNat,none⟩=some (.u x)):Calls prog 159 #[.p g 0] w λe i=>e=.returned (.u x)/\Iv [g] w [⟨g,br M A t,[]⟩] i:=by
 have d:∀ W,Ag [g] w W->W.cell? ⟨b,o+t.rb.toNat,none⟩=some (.u x):=λW a=>by rw [<- hx];simp only [World.cell?,a.block b (ku hx) (by simpa using hb)]
 refine fD (args:=[.p g 0]) (λ_=>True) func159 ?_;refine aL 0 1 ?_;exact td (t:=2) (v:=.u x) (Iv.one h) {ov:=[(13,qY M.x.length A.cx .i64 t.rb c f underlying23 a3),(14,kR _ _ underlying22 rfl d)]} 40 λW a=>⟨rfl,a⟩
end
end Go.Proofs.YtjifdmoehfbihaaGreatDoor
