/- Own lemmas. -/
import Derived.Test.YtjifdmoehfbihaaGreatDoorAut
import Derived.Test.YtjifdmoehfbihaaGreatDoorK10
import Derived.Test.YtjifdmoehfbihaaGreatDoorK13
import Derived.Test.YtjifdmoehfbihaaGreatDoorK14
set_option maxRecDepth 100000
namespace Go.Proofs.YtjifdmoehfbihaaGreatDoor
open Go.RowKit Tryz
set_option linter.unusedVariables false
def pp:Go.Code->Go.Code
 | .block _ c | .loop c | .cond _ _ c=>c
 | c=>c
def Nm:Go.Code->Array Oper
 | .region _ o _=>o
 | _=>#[]
theorem nE {P:Program} {n:Nat} {fn:Func} {Rs:Ending->World->Prop} {k:List KI} {F:Fr} {w W:World} {bs:List (Array Value × TypeId)} (hS:Bs w bs W) (H:Hn P (Bs w bs) (Bs w bs)) (m:Nat) {i:Nat} {old:Array Value} {t T:TypeId} {d:TypeDesc} {cs:Array Value} {p:Nat} (hb:bs[i]?=some (old,t)) (l:old.size=cs.size) (g:(P.info? T).map (·.size)=some cs.size) (c:cs.all (·.oneCell')=true) (o:P.underlying T=some d) (hd:(match d with | .struct _ | .array _ _=>true | _=>false)=true) (e:fn.results=#[.cell p T]) (hx:(λ(y:Bool × List KI × Fr)=>(y.1,DK n y.2.2 y.2.1,xn y.2.2 y.2.1,gP (ox y.2.2 y.2.1))) (aU P (kt w.heap.size bs) H n true m k F).1=(false,some (do Instr.storeAt T (.p (w.heap.size+i) 0) (.agg cs);pure Next.skip),false,true)) (he:(aU P (kt w.heap.size bs) H n true m k F).2.map Prod.fst=(aU P (kt w.heap.size bs) H n true m k F).2.map Prod.snd) (hy:∀ X,(λ(z:(Bool × List KI × Fr) × List (Oe × Oe))=>(z.1.1,(lk z.1.2.2 p).map Prod.fst,z.2.map Prod.fst)) (aU P [] ({}:Hn P (λx=>x=X) (λx=>x=X)) n false m (ox (aU P (kt w.heap.size bs) H n true m k F).1.2.2 (aU P (kt w.heap.size bs) H n true m k F).1.2.1) (qn (aU P (kt w.heap.size bs) H n true m k F).1.2.2 (aU P (kt w.heap.size bs) H n true m k F).1.2.1 undef 0))=(true,some (.p (w.heap.size+i) 0),(aU P [] ({}:Hn P (λx=>x=X) (λx=>x=X)) n false m (ox (aU P (kt w.heap.size bs) H n true m k F).1.2.2 (aU P (kt w.heap.size bs) H n true m k F).1.2.1) (qn (aU P (kt w.heap.size bs) H n true m k F).1.2.2 (aU P (kt w.heap.size bs) H n true m k F).1.2.1 undef 0)).2.map Prod.snd)) (h:∀ V,Bw w V->Rs (.returned (.agg cs)) V):Wg P (Bs w bs) (bodyPost P fn Rs) n k F W:=by simp only [Prod.mk.injEq] at hx hy;refine af Bs.eng H m hS (hret:=hx.1) (he:=he) λq f=>?_;have b:=f.1 i _ hb;refine bM (hx:=hx.2.1) (bj b g l c) (hS:=gp hx.2.2.1) ?_;refine hC (R:=[]) trivial {} m (hx:=by rw [hx.2.2.2,(hy _).1]) (he:=(hy _).2.2) λa j=>⟨_,results_cell_row e _ _ _ _ _ _ _ (j.slot (hy _).2.1) (setRow_heap _ _ _ _ _ _ b) o hd g,h _ (aD f.2 al _)⟩
theorem pq {bs:List Nat} {a b c:World} (h:Bw a b) (k:Ag bs b c) (hb:∀ x ∈ bs,a.heap.size<=x):Bw a c :=
 ⟨k.os.trans h.os,k.tape.trans h.tape,k.output.trans h.output,Nat.le_trans h.size k.size,λi d=>(k.block i (Nat.lt_of_lt_of_le d h.size) λe=>by have:=hb i e;omega).trans (h.block i d)⟩
theorem ru (x:Int) (n:Nat) (m:Int) (h:(2:Int)^n=m):x.fdiv (2^n)=x/m:=by subst h;exact Int.fdiv_eq_ediv_of_nonneg _ (Int.le_of_lt (Int.pow_pos al))
theorem Pw {α:Type} (a b:Bool) (x y:α):(if (a||b)=true then x else y)=if a=true then x else if b=true then x else y:=by cases a<;>rfl
noncomputable abbrev wD:Go.Code:=pp (je (pp (pp (aG 5 (bD Tryz.f177)))))
noncomputable abbrev wT (R:Act->World->Prop):List KI:=[.blk 1,.code (aG 1 (pp (pp (aG 5 (bD Tryz.f177))))),.fin R,.blk 0]
abbrev wR (V:Fd) (w:World):Ending->World->Prop:=λe a=>e=.returned (.agg V.cells)/\Bw w a
abbrev wB:List (Array Value × TypeId):=[(iL,215)]
noncomputable abbrev wW (V:Fd) (w:World) (k:List KI) (F:Fr) (W:World):Prop:=Wg prog (Bs w wB) (bodyPost prog Tryz.f177 (wR V w)) Tryz.f177.ntmps k F W
abbrev wF (ra:Option Addr) (n rcap b off cap:Nat) (p va kind:Int) (w:World) (L:Fr):Fr:=(0,.slice ra n rcap,0)::(1,.slice (some ⟨b,off,none⟩) 22 cap,0)::(2,.i p,0)::(3,.u va,0)::(4,.i kind,0)::(10,.p w.heap.size 0,1)::L
abbrev wL (lv:Nat) (X e:Int) (L:Fr):Fr:=(12,.u lv,0)::(13,.u X,0)::(14,.u e,0)::(15,.u (ap e 1),0)::(16,.u (ap e 2),0)::(17,.u (ap e 3),0)::(18,.u (dJ e),0)::L
section
variable {ra : Option Addr} {n rcap : Nat} {zs : List Int} {b off cap : Nat} {l : List Int} {p va kind : Int} {w : World} {V : Fd} {R : Act -> World -> Prop} {X e : Int} {lv : Nat}
variable (FT : ∀ W, Calls Tryz.prog 225 #[.int .i64 kind] W λe w' => e = .returned (.agg (fi kind).cells) /\ Below W.heap.size W w')
variable (PG : ∀ W, Calls Tryz.prog 224 #[.int .i64 kind] W λe w' => e = .returned (.agg (bH kind).cells) /\ Below W.heap.size W w')
variable (hlz : l.length = 22) (hl : Sl .u64 w (some ⟨b, off, none⟩) l)
include FT hlz hl in
theorem FJ {W:World} (P:lv<=2) (s:Bs w wB W) (m:V=if (cg e kind != e)=true then (if ay l 1 X (aM X 8) 3 4 0=true then ⟨fT e va lv,0,true,X,cg e kind⟩ else fi kind) else ⟨fT e va lv,0,false,0,0⟩):wW V w (.code (aG 12 wD)::wT R) (wF ra n rcap b off cap p va kind w [(12,.u lv,0),(13,.u X,0),(14,.u e,0),(18,.u (dJ e),0)]) W:=by
 obtain ⟨L,J⟩:∃ L,fT e va lv=L:=⟨_,rfl⟩
 rw [J] at m
 have N:∀ W,Bs w wB W->Wg prog (Bs w wB) (bodyPost prog Tryz.f177 (wR V w)) Tryz.f177.ntmps (.ops (Nm (je (aG 13 wD))) (((Nm (je (aG 13 wD))).toList).drop 9)::.code (aG 14 wD)::wT R) (wF ra n rcap b off cap p va kind w [(13,.u X,0),(14,.u e,0),(216,.agg #[.u L,.i 0,.bool false,.u 0,.u 0],0)]) W:=by
  intro W s
  refine iQ 2 (gF (T:=215) (z:=.agg iL) a3 W) ?_
  have K:=s.1 0 _ rfl
  have I:w.heap.size<W.heap.size:=(Array.getElem?_eq_some_iff.1 K).1
  have g:Bw w (W.alloc (.cells iL 215)):=s.2.alloc s.2.size _
  have F:Iv [w.heap.size,W.heap.size] (W.alloc (.cells iL 215)) [⟨w.heap.size,iL,[]⟩,⟨W.heap.size,iL,[]⟩] (W.alloc (.cells iL 215)):=⟨λr o=>by
   simp only [List.mem_cons,List.not_mem_nil,or_false] at o
   rcases o with rfl|rfl
   ·exact ⟨_,(Below.heap_alloc _ _ _ I).trans K⟩
   ·exact ⟨_,heap_alloc_new _ _⟩,Ag.refl _ _,bc,a7⟩
  have j:∀ x ∈ [w.heap.size,W.heap.size],w.heap.size<=x:=by simp;omega
  refine aR (λ_=>True) ?_
  show Wg _ _ _ _ _ _ (W.alloc (.cells iL 215))
  generalize W.heap.size=h at F j ⊢
  generalize W.alloc (.cells iL 215)=G at F g ⊢
  have u:∀ (f:Fd) (i:World) (a:Act) {G:World} (g:Bw w G) (L:List Rw),V=f->Iv [w.heap.size,h] G (⟨w.heap.size,f.cells,[]⟩::L) i->a.tmps.getD 10 undef=.p w.heap.size 0->∃ v,(results Tryz.f177 a.tmps).run prog i=.ok v i/\wR V w (.returned v) i:=λf i a G g L O d Q=>by
   obtain ⟨t,C⟩:=d.rows _ (List.mem_cons_self ..)
   exact ⟨_,results_cell_row results177 _ _ _ _ _ _ _ Q C underlying215 rfl a3,by rw [O],pq g d.ag j⟩
  obtain ⟨z,c⟩:∃ z,cg e kind=z:=⟨_,rfl⟩
  rw [c] at m
  obtain ⟨q,M⟩:∃ q,ay l 1 X (aM X 8) 3 4 0=q:=⟨_,rfl⟩
  rw [M] at m
  cases d:(kind==3)<;>(
   unfold cg at c
   rw [d] at c
   first | rw [if_pos rfl] at c | rw [if_neg a5] at c)
  all_goals
   cases k:(z != e) with
   | false =>
     rw [k,if_neg a5] at m
     exact iC F {eq:=[(220,au d),(225,au k)]} 100 (R1:=[⟨w.heap.size,#[.u L,.i 0,.bool false,.u 0,.u 0],[]⟩,⟨h,#[.u L,.i 0,.bool false,.u 0,.u 0],[]⟩]) (hx:=eo) (he:=eo) λi a d B=>u _ i a g _ m d (B.slot eo)
   | true =>
     rw [k,if_pos rfl] at m
     refine fG F {eq:=[(220,au d),(225,au k)]} 100 (R1:=[⟨w.heap.size,iL,[]⟩,⟨h,#[.u L,.i 0,.bool false,.u 0,.u 0],[]⟩]) (λi d=>ls (some ⟨b,off,none⟩) cap l 1 X 8 3 i hlz (hl.below (pq g d.ag j))) (hx:=eo) (he:=eo) λi S Y d o=>⟨.bool q,0,by rw [o.1,M],?_⟩
     rw [o.2]
     have A:=pq g d.ag j
     have y:Iv [w.heap.size,h] i [⟨w.heap.size,iL,[]⟩,⟨h,#[.u L,.i 0,.bool false,.u 0,.u 0],[]⟩] i:=⟨d.rows,Ag.refl _ _,d.sub,d.nd⟩
     cases q with
     | true=>exact iC y {} 100 (R1:=[⟨w.heap.size,#[.u L,.i 0,.bool true,.u X,.u z],[]⟩,⟨h,#[.u L,.i 0,.bool true,.u X,.u z],[]⟩]) (hx:=eo) (he:=eo) λD a k B=>u _ D a A _ m k (B.slot eo)
     | false =>
       refine fG y {} 100 (R1:=[⟨w.heap.size,iL,[]⟩,⟨h,#[.u L,.i 0,.bool false,.u 0,.u 0],[]⟩]) (λi d=>FT i) (hx:=eo) (he:=eo) λD U Z k o=>⟨.agg (fi kind).cells,0,o.1,?_⟩
       have E:=k.below o.2
       have H:=pq A E.ag j
       exact iC (bs:=[w.heap.size,h]) (R:=[⟨w.heap.size,iL,[]⟩,⟨h,#[.u L,.i 0,.bool false,.u 0,.u 0],[]⟩]) ⟨E.rows,Ag.refl _ _,E.sub,E.nd⟩ {} 100 (R1:=[⟨w.heap.size,(fi kind).cells,[]⟩,⟨h,#[.u L,.i 0,.bool false,.u 0,.u 0],[]⟩]) (hx:=eo) (he:=eo) λD a k B=>u _ D a H _ m k (B.slot eo)
 obtain rfl|rfl|rfl:lv=0\/lv=1\/lv=2:=al
 all_goals exact af Bs.eng {eq:=[(215,ei .u64 J)]} 20 s λW s=>aE _ _ (N W s)
include FT PG hlz hl in
theorem FK {W:World} (r:lv<=2) (d:Bs w wB W) (a:V=cL l p va kind e X lv):wW V w (.code (aG 9 wD)::wT R) (wF ra n rcap b off cap p va kind w (wL lv X e [])) W:=by
 obtain ⟨G,t,s,j,o⟩:=hl 0 al
 simp only [Option.some.injEq,Addr.mk.injEq,and_true] at s
 obtain ⟨rfl,rfl⟩:=s
 have o:∀ W,Bs w wB W->W.cell? ⟨b,off,none⟩=some (.u (l.getD 0 0)):=λW d=>(d.2.cell (by exact j)).trans o
 have q:∀ (x:Int) (i:Nat),i<64->∀ W,Bw w W->CE 111 #[.u x,.u i] W (.u (ap x i)):=λx i y W _=>gq x i y W
 unfold cL fX fY at a
 simp only [Pw] at a
 generalize v:(if (cg e kind != e)=true then (if ay l 1 X (aM X 8) 3 4 0=true then ⟨fT e va lv,0,true,X,cg e kind⟩ else fi kind) else ⟨fT e va lv,0,false,0,0⟩)=Y at a
 have E:∀ c W,Bs w wB W->(V=if c=true then bH kind else Y)->wW V w (.code (aG 1 (pp (aG 1 (pp (aG 1 (pp (aG 1 (pp (aG 1 (pp (aG 1 (pp (je (aG 11 wD))))))))))))))::.blk 2::.code (aG 12 wD)::wT R) (wF ra n rcap b off cap p va kind w (wL lv X e [(20,.u (ap e 4),0),(183,.bool c,0)])) W:=by
  intro c W d a
  cases c with
  | true=>rw [if_pos rfl] at a;exact nE (i:=0) (cs:=(bH kind:Fd).cells) d {cv:=[(202,gB λW _=>PG W)]} 20 rfl rfl a3 (kA _) underlying215 rfl results177 a3 a3 (λ_=>a3) λW h=>⟨by rw [a],h⟩
  | false =>
    rw [if_neg a5] at a
    rw [<- v] at a
    exact af Bs.eng {} 3 d λW d=>aE _ _ (FJ (ra:=ra) (n:=n) (rcap:=rcap) (cap:=cap) (p:=p) (R:=R) FT hlz hl r d a)
 have D:∀ c W,Bs w wB W->(V=if c=true then bH kind else if ((p==1)&&(ap e 4==1)&&((kind==1)||(ap (l.getD 0 0) 18==0)))=true then bH kind else Y)->wW V w (.code (aG 1 (pp (aG 1 (pp (aG 1 (pp (aG 1 (pp (aG 1 (pp (je (aG 11 wD))))))))))))::.blk 2::.code (aG 12 wD)::wT R) (wF ra n rcap b off cap p va kind w (wL lv X e [(20,.u (ap e 4),0),(174,.bool c,0)])) W:=by
  intro c W d a
  cases c with
  | true=>rw [if_pos rfl] at a;exact nE (i:=0) (cs:=(bH kind:Fd).cells) d {cv:=[(182,gB λW _=>PG W)]} 20 rfl rfl a3 (kA _) underlying215 rfl results177 a3 a3 (λ_=>a3) λW h=>⟨by rw [a],h⟩
  | false =>
    rw [if_neg a5] at a
    obtain ⟨c,f⟩:∃ c,c=((p==1)&&(ap e 4==1)&&((kind==1)||(ap (l.getD 0 0) 18==0))):=⟨_,rfl⟩
    rw [<- f] at a
    cases t0:(p==1)<;>cases g:(ap e 4==1)<;>cases k:(kind==1)<;>cases m:(ap (l.getD 0 0) 18==0)<;>(
     rw [t0,g,k,m] at f
     subst f
     exact af Bs.eng {eq:=[(185,au t0),(188,au g),(192,au k),(198,au m)],ov:=[(196,kR ⟨b,off,none⟩ _ underlying22 rfl o)],cv:=[(197,mj (q (l.getD 0 0) 18 al))]} 22 d λW d=>aE _ _ (E _ W d a))
 have C:∀ c W,Bs w wB W->(V=if c=true then bH kind else if ((p==0)&&(ap e 4==0))=true then bH kind else if ((p==1)&&(ap e 4==1)&&((kind==1)||(ap (l.getD 0 0) 18==0)))=true then bH kind else Y)->wW V w (.code (aG 1 (pp (aG 1 (pp (aG 1 (pp (aG 1 (pp (je (aG 11 wD))))))))))::.blk 2::.code (aG 12 wD)::wT R) (wF ra n rcap b off cap p va kind w (wL lv X e [(20,.u (ap e 4),0),(165,.bool c,0)])) W:=by
  intro c W d a
  cases c with
  | true=>rw [if_pos rfl] at a;exact nE (i:=0) (cs:=(bH kind:Fd).cells) d {cv:=[(173,gB λW _=>PG W)]} 20 rfl rfl a3 (kA _) underlying215 rfl results177 a3 a3 (λ_=>a3) λW h=>⟨by rw [a],h⟩
  | false =>
    rw [if_neg a5] at a
    obtain ⟨c,f⟩:∃ c,c=((p==0)&&(ap e 4==0)):=⟨_,rfl⟩
    rw [<- f] at a
    cases t0:(p==0)<;>cases g:(ap e 4==0)<;>(
     rw [t0,g] at f
     subst f
     exact af Bs.eng {eq:=[(176,au t0),(179,au g)]} 11 d λW d=>aE _ _ (D _ W d a))
 have B:∀ c W,Bs w wB W->(V=if c=true then bH kind else if ((kind==3)&&(ap e 2==0))=true then bH kind else if ((p==0)&&(ap e 4==0))=true then bH kind else if ((p==1)&&(ap e 4==1)&&((kind==1)||(ap (l.getD 0 0) 18==0)))=true then bH kind else Y)->wW V w (.code (aG 1 (pp (aG 1 (pp (aG 1 (pp (je (aG 11 wD))))))))::.blk 2::.code (aG 12 wD)::wT R) (wF ra n rcap b off cap p va kind w (wL lv X e [(20,.u (ap e 4),0),(145,.bool c,0)])) W:=by
  intro c W d a
  cases c with
  | true=>rw [if_pos rfl] at a;exact nE (i:=0) (cs:=(bH kind:Fd).cells) d {cv:=[(164,gB λW _=>PG W)]} 20 rfl rfl a3 (kA _) underlying215 rfl results177 a3 a3 (λ_=>a3) λW h=>⟨by rw [a],h⟩
  | false =>
    rw [if_neg a5] at a
    obtain ⟨c,f⟩:∃ c,c=((kind==3)&&(ap e 2==0)):=⟨_,rfl⟩
    rw [<- f] at a
    cases t0:(kind==3)<;>cases g:(ap e 2==0)<;>(
     rw [t0,g] at f
     subst f
     exact af Bs.eng {eq:=[(167,au t0),(170,au g)]} 11 d λW d=>aE _ _ (C _ W d a))
 have A:∀ c W,Bs w wB W->(V=if c=true then bH kind else if ((kind==2)&&(ap e 1==0)&&((ap e 3==0)||(ap (l.getD 0 0) 19==0)))=true then bH kind else if ((kind==3)&&(ap e 2==0))=true then bH kind else if ((p==0)&&(ap e 4==0))=true then bH kind else if ((p==1)&&(ap e 4==1)&&((kind==1)||(ap (l.getD 0 0) 18==0)))=true then bH kind else Y)->wW V w (.code (aG 1 (pp (aG 1 (pp (je (aG 11 wD))))))::.blk 2::.code (aG 12 wD)::wT R) (wF ra n rcap b off cap p va kind w (wL lv X e [(20,.u (ap e 4),0),(136,.bool c,0)])) W:=by
  intro c W d a
  cases c with
  | true=>rw [if_pos rfl] at a;exact nE (i:=0) (cs:=(bH kind:Fd).cells) d {cv:=[(144,gB λW _=>PG W)]} 20 rfl rfl a3 (kA _) underlying215 rfl results177 a3 a3 (λ_=>a3) λW h=>⟨by rw [a],h⟩
  | false =>
    rw [if_neg a5] at a
    obtain ⟨c,f⟩:∃ c,c=((kind==2)&&(ap e 1==0)&&((ap e 3==0)||(ap (l.getD 0 0) 19==0))):=⟨_,rfl⟩
    rw [<- f] at a
    cases t0:(kind==2)<;>cases g:(ap e 1==0)<;>cases k:(ap e 3==0)<;>cases m:(ap (l.getD 0 0) 19==0)<;>(
     rw [t0,g,k,m] at f
     subst f
     exact af Bs.eng {eq:=[(147,au t0),(150,au g),(154,au k),(160,au m)],ov:=[(158,kR ⟨b,off,none⟩ _ underlying22 rfl o)],cv:=[(159,mj (q (l.getD 0 0) 19 al))]} 22 d λW d=>aE _ _ (B _ W d a))
 have z:∀ c W,Bs w wB W->(V=if c=true then bH kind else if ((kind==1)&&(ap e 3==0))=true then bH kind else if ((kind==2)&&(ap e 1==0)&&((ap e 3==0)||(ap (l.getD 0 0) 19==0)))=true then bH kind else if ((kind==3)&&(ap e 2==0))=true then bH kind else if ((p==0)&&(ap e 4==0))=true then bH kind else if ((p==1)&&(ap e 4==1)&&((kind==1)||(ap (l.getD 0 0) 18==0)))=true then bH kind else Y)->wW V w (.code (aG 1 (pp (je (aG 11 wD))))::.blk 2::.code (aG 12 wD)::wT R) (wF ra n rcap b off cap p va kind w (wL lv X e [(20,.u (ap e 4),0),(129,.bool c,0)])) W:=by
  intro c W d a
  cases c with
  | true=>rw [if_pos rfl] at a;exact nE (i:=0) (cs:=(bH kind:Fd).cells) d {cv:=[(135,gB λW _=>PG W)]} 20 rfl rfl a3 (kA _) underlying215 rfl results177 a3 a3 (λ_=>a3) λW h=>⟨by rw [a],h⟩
  | false =>
    rw [if_neg a5] at a
    obtain ⟨c,f⟩:∃ c,c=((kind==1)&&(ap e 3==0)):=⟨_,rfl⟩
    rw [<- f] at a
    cases t0:(kind==1)<;>cases g:(ap e 3==0)<;>(
     rw [t0,g] at f
     subst f
     exact af Bs.eng {eq:=[(138,au t0),(141,au g)]} 11 d λW d=>aE _ _ (A _ W d a))
 obtain ⟨c,f⟩:∃ c,ly e lv=c:=⟨_,rfl⟩
 rw [f] at a
 obtain rfl|rfl|rfl:lv=0\/lv=1\/lv=2:=al
 all_goals exact af Bs.eng {eq:=[(133,au f)],cv:=[(128,mj (q e 4 al))]} 24 d λW d=>aE _ _ (z c W d a)
include FT PG hlz hl in
theorem Cq {T:Int} {W:World} (hr:be n=true) (hz:zs.length=n) (hs:Sl .u8 w ra zs) (C:∀ y ∈ zs,(Lit.int .u8 y).wf=true) (A:lv<=2) (g:Bs w wB W) (d:V=bA zs n l p va kind lv T) (O:∀ a k G,0<lv->V=bA zs n l p va kind (lv-1) G->bL (wF ra n rcap b off cap p va kind w [(11,.u G,0),(12,.u ((lv-1:Nat):Int),0)]) Tryz.f177.ntmps a->Bs w wB k->R a k):wW V w [.code (pp (pp (aG 5 (bD Tryz.f177)))),.fin R,.blk 0] (wF ra n rcap b off cap p va kind w [(11,.u T,0),(12,.u lv,0)]) W:=by
 rw [fZ] at d
 obtain ⟨X,r⟩:∃ X,bq T va lv=X:=⟨_,rfl⟩
 have H:=ru va (12+9*lv) _ rfl
 have z:0<=X/\X<18446744073709551616:=by rw [<- r];exact Pt _
 obtain ⟨e,J⟩:∃ e,eY zs X=e:=⟨_,rfl⟩
 rw [r,J] at d
 have s:∀ (x:Int) (i:Nat),i<64->∀ W,Bw w W->CE 111 #[.u x,.u i] W (.u (ap x i)):=λx i Q W _=>gq x i Q W
 have t:∀ W,Bw w W->CE 117 #[.slice ra n rcap,.u X,.i 8] W (.bool (fQ n X 8)):=λW _=>mq ra n rcap X 8 W hr rfl z.1 al
 have u:∀ W,Bw w W->CE 115 #[.slice (some ⟨b,off,none⟩) 22 cap,.i 1,.u X,.i 8,.i 2] W (.bool (ay l 1 X (aM X 8) 2 4 0)):=λW m=>ls (some ⟨b,off,none⟩) cap l 1 X 8 2 W hlz (hl.below m)
 have F:∀ c W,Bs w wB W->(V=if c=true then if iK e lv=true then bH kind else bA zs n l p va kind (lv-1) (IntKind.u64.wrap (dJ e*4096)) else cL l p va kind e X lv)->wW V w (.code (aG 1 (je (aG 8 wD)))::.code (aG 9 wD)::wT R) (wF ra n rcap b off cap p va kind w (wL lv X e [(104,.bool c,0)])) W:=by
  intro c W g d
  cases c with
  | false =>
    rw [if_neg a5] at d
    exact af Bs.eng {} 2 g λW g=>aE _ _ (FK (ra:=ra) (n:=n) (rcap:=rcap) (cap:=cap) (R:=R) FT PG hlz hl A g d)
  | true =>
    rw [if_pos rfl] at d
    unfold iK at d
    cases t0:(bits .and .u64 (e/16) 1==1)<;>cases j:(bits .and .u64 (e/64) 3 != 0)<;>rw [t0,j] at d<;>obtain rfl|rfl|rfl:lv=0\/lv=1\/lv=2:=al
    all_goals first
     | (rw [if_pos (by rfl)] at d
        exact nE (i:=0) (cs:=(bH kind:Fd).cells) g {eq:=[(109,ei .u64 (ru e 4 16 a5)),(115,ei .u64 (ru e 6 64 a5)),(111,au t0),(117,au j)],cv:=[(120,gB λW _=>PG W)]} 60 rfl rfl a3 (kA _) underlying215 rfl results177 a3 a3 (λ_=>a3) λW m=>⟨by rw [d],m⟩)
     | (rw [if_neg a5] at d
        exact NV Bs.eng {eq:=[(109,ei .u64 (ru e 4 16 a5)),(115,ei .u64 (ru e 6 64 a5)),(111,au t0),(117,au j)]} 60 g λa k U S=>O a k _ al d (S.less a3) U)
 have E:∀ c W,Bs w wB W->(V=if c=true then bH kind else if lw e=true then if iK e lv=true then bH kind else bA zs n l p va kind (lv-1) (IntKind.u64.wrap (dJ e*4096)) else cL l p va kind e X lv)->wW V w (.code (aG 1 (je (aG 6 wD)))::.code (aG 7 wD)::wT R) (wF ra n rcap b off cap p va kind w [(12,.u lv,0),(13,.u X,0),(14,.u e,0),(15,.u (ap e 1),0),(16,.u (ap e 2),0),(17,.u (ap e 3),0),(93,.bool c,0)]) W:=by
  intro c W g d
  cases c with
  | true=>rw [if_pos rfl] at d;exact nE (i:=0) (cs:=(bH kind:Fd).cells) g {cv:=[(95,gB λW _=>PG W)]} 20 rfl rfl a3 (kA _) underlying215 rfl results177 a3 a3 (λ_=>a3) λW m=>⟨by rw [d],m⟩
  | false =>
    rw [if_neg a5] at d
    obtain ⟨c,o⟩:∃ c,c=lw e:=⟨_,rfl⟩
    rw [<- o] at d
    unfold lw at o
    cases t0:(ap e 1==0)<;>cases j:(ap e 3==0)<;>(
     rw [t0,j] at o
     subst o
     exact af Bs.eng {eq:=[(97,ei .u64 (ru e 10 1024 a5)),(100,au t0),(103,au j)]} 19 g λW g=>aE _ _ (F _ W g d))
 have D:fQ n X 8=true->∀ W,Bs w wB W->(V=if ol e=true then bH kind else if lw e=true then if iK e lv=true then bH kind else bA zs n l p va kind (lv-1) (IntKind.u64.wrap (dJ e*4096)) else cL l p va kind e X lv)->wW V w (.code (aG 2 wD)::wT R) (wF ra n rcap b off cap p va kind w [(12,.u lv,0),(13,.u X,0)]) W:=by
  intro B W g d
  have M:∀ W,Bw w W->CE 118 #[.slice ra n rcap,.u X,.i 8] W (.u e):=λW m=>by
   have P:=xI B
   obtain ⟨f,q⟩:∃ f:Nat,X=2147483648+(f:Int):=⟨(X-2147483648).toNat,al⟩
   have I:=fL hr
   have h:=sR ra n rcap f 8 zs W hz al (hs.below m) C al al al
   have N:le zs f 8=e:=by rw [<- J];unfold eY;rw [q,show (2147483648+(f:Int)-2147483648).toNat=f from al]
   rw [N,<- q] at h
   exact h
  obtain ⟨c,o⟩:∃ c,c=ol e:=⟨_,rfl⟩
  rw [<- o] at d
  unfold ol at o
  cases t0:(bits .and .u64 e 1==0)<;>cases j:(ap e 1==0)<;>cases K:(ap e 2==1)<;>cases L:(e/18014398509481984 != 0)<;>(
   rw [t0,j,K,L] at o
   subst o
   exact af Bs.eng {eq:=[(91,ei .u64 (ru e 54 18014398509481984 a5)),(80,au t0),(83,au j),(86,au K),(92,au L)],cv:=[(71,mj M),(73,mj (s e 1 al)),(75,mj (s e 2 al)),(77,mj (s e 3 al))]} 45 g λW g=>aE _ _ (E _ W g d))
 cases t0:fQ n X 8<;>cases j:ay l 1 X (aM X 8) 2 4 0<;>rw [t0] at t<;>rw [j] at u<;>rw [t0] at d<;>(try rw [j] at d)<;>obtain rfl|rfl|rfl:lv=0\/lv=1\/lv=2:=al
 all_goals first
  | (rw [if_pos rfl,if_pos rfl] at d
     exact af Bs.eng {eq:=[(53,ei .u64 H),(13,ei .u64 r)],cv:=[(59,mj t),(64,mj u)]} 31 g λW g=>aE _ _ (D t0 W g d))
  | (first | rw [if_pos rfl,if_neg a5] at d | rw [if_neg a5] at d
     exact nE (i:=0) (cs:=(fi kind:Fd).cells) g {eq:=[(53,ei .u64 H),(13,ei .u64 r)],cv:=[(68,gB λW _=>FT W),(59,mj t),(64,mj u)]} 60 rfl rfl a3 (kA _) underlying215 rfl results177 a3 a3 (λ_=>a3) λW m=>⟨by rw [d],m⟩)
end
theorem Cr (ra:Option Addr) (n rcap:Nat) (zs:List Int) (b off cap:Nat) (l:List Int) (p va kind:Int) (w:World) (hr:be n=true) (hz:zs.length=n) (hs:Sl .u8 w ra zs) (t:∀ y ∈ zs,(Lit.int .u8 y).wf=true) (hlz:l.length=22) (hl:Sl .u64 w (some ⟨b,off,none⟩) l) (K:bI p=true) (k:1<=kind) (m:kind<=3) (G:0<=va/\va<18446744073709551616):CB 177 #[.slice ra n rcap,.slice (some ⟨b,off,none⟩) 22 cap,.i p,.u va,.i kind] w (.agg (bO zs n l p va kind).cells):=by
 have FT:=zH kind k m;have PG:=Cm kind k m;obtain ⟨I,z,v,h,c⟩:=hl 15 al;simp only [Option.some.injEq,Addr.mk.injEq,and_true] at v;obtain ⟨rfl,rfl⟩:=v;have c:∀ W,Bs w wB W->W.cell? ⟨b,off+15,none⟩=some (.u (l.getD 15 0)):=λW f=>(f.2.cell (by exact h)).trans c;have u:∀ W,Bw w W->CE 127 #[.u va,.u 39] W (.u (aq 39 va)):=λW _=>dL va 39 al al W;obtain ⟨V,d⟩:∃ V,V=bO zs n l p va kind:=⟨_,rfl⟩;rw [<- d];unfold bO at d;refine cn (S:=Bs w wB) (args:=[.slice ra n rcap,.slice (some ⟨b,off,none⟩) 22 cap,.i p,.u va,.i kind]) wB func177 ?_;have f:=Bs.start w wB;have g:=ru (l.getD 15 0) 60 1152921504606846976 a5;generalize ew w wB=W at f ⊢;cases t0:(p==3)<;>cases q:(l.getD 15 0/1152921504606846976==0)<;>rw [t0,q] at d;all_goals try (rw [if_pos (by rfl)] at d;exact nE (i:=0) (cs:=(⟨va,0,false,0,0⟩:Fd).cells) f {eq:=[(30,ei .u64 g),(25,au t0),(31,au q)],ov:=[(29,kR ⟨b,off+15,none⟩ _ underlying22 rfl c)]} 60 rfl rfl a3 (kA _) underlying215 rfl results177 a3 a3 (λ_=>a3) λW s=>⟨by rw [d],s⟩)
 rw [if_neg a5] at d;cases r:(aq 39 va != va);case true=>rw [r,if_pos rfl] at d;exact nE (i:=0) (cs:=(bH kind:Fd).cells) f {eq:=[(30,ei .u64 g),(25,au t0),(31,au q),(38,au r)],ov:=[(29,kR ⟨b,off+15,none⟩ _ underlying22 rfl c)],cv:=[(40,gB λW _=>PG W),(36,mj u)]} 60 rfl rfl a3 (kA _) underlying215 rfl results177 a3 a3 (λ_=>a3) λW s=>⟨by rw [d],s⟩
 rw [r,if_neg a5] at d;refine af Bs.eng {eq:=[(30,ei .u64 g),(25,au t0),(31,au q),(38,au r)],ov:=[(29,kR ⟨b,off+15,none⟩ _ underlying22 rfl c),(43,kR ⟨b,off+15,none⟩ _ underlying22 rfl c)],cv:=[(36,mj u)]} 100 f λW f=>aE [.code (pp (aG 5 (bD Tryz.f177))),.blk 0] (wF ra n rcap b off cap p va kind w [(11,.u (j8 l),0),(12,.u ((2:Nat):Int),0)]) ?_;refine Lc (α:=Nat × Int) (λx=>wF ra n rcap b off cap p va kind w [(11,.u x.2,0),(12,.u (x.1:Int),0)]) (λj x W=>j=x.1/\x.1<=2/\V=bA zs n l p va kind x.1 x.2/\Bs w wB W) 2 (2,j8 l) a3 a3 ⟨rfl,Nat.le_refl _,d,f⟩ λj x W D R E=>?_;obtain ⟨rfl,C,d,f⟩:=D;exact Cq FT PG hlz hl hr hz hs t C f d λa o A J B F H=>E a o (x.1-1) (x.1-1,A) al F ⟨rfl,by show x.1-1<=2;omega,B,H⟩
theorem lz (e kind:Int):U (cg e kind):=by
 unfold cg;split;·exact aj _ _ _
 ·exact aj _ _ _
theorem wb (l:List Int) (p va kind e x:Int) (lv:Nat) (h:(cL l p va kind e x lv).marked=true):(cL l p va kind e x lv).at_=x/\U (cL l p va kind e x lv).entry:=by
 unfold cL at h ⊢;split at h;·cases h
 ·rename_i a;split at h;·cases h
  ·rename_i b;split at h;·cases h
   ·rename_i c;rw [if_neg a,if_neg b,if_neg c];split at h
    ·rename_i d;rw [if_pos d];split at h;·rename_i f;rw [if_pos f];exact ⟨rfl,lz e kind⟩
     ·cases h
    ·cases h
theorem Cs (zs:List Int) (n:Nat) (l:List Int) (p va kind:Int):∀ lv T,(bA zs n l p va kind lv T).marked=true->fQ n (bA zs n l p va kind lv T).at_ 8=true/\U (bA zs n l p va kind lv T).entry:=by
 intro lv;induction lv with
 | zero =>
   intro T h;rw [bA] at h ⊢;split at h
   ·rename_i a;rw [if_pos a];split at h
    ·rename_i e;rw [if_pos e];split at h;·cases h
     ·rename_i f;rw [if_neg f];split at h;·cases h
      ·rename_i b;rw [if_neg b];obtain ⟨c,d⟩:=wb _ _ _ _ _ _ _ h;rw [c];exact ⟨a,d⟩
    ·cases h
   ·cases h
 | succ lv i =>
   intro T h;rw [bA] at h ⊢;split at h
   ·rename_i a;rw [if_pos a];split at h
    ·rename_i e;rw [if_pos e];split at h;·cases h
     ·rename_i f;rw [if_neg f];split at h
      ·rename_i b;rw [if_pos b];split at h;·cases h
       ·rename_i g;rw [if_neg g];exact i _ h
      ·rename_i b;rw [if_neg b];obtain ⟨c,d⟩:=wb _ _ _ _ _ _ _ h;rw [c];exact ⟨a,d⟩
    ·cases h
   ·cases h
theorem FL (zs:List Int) (n:Nat) (l:List Int) (p va kind:Int) (h:(bO zs n l p va kind).marked=true):fQ n (bO zs n l p va kind).at_ 8=true/\U (bO zs n l p va kind).entry:=by
 unfold bO at h ⊢;split at h;·cases h
 ·rename_i a;rw [if_neg a];split at h;·cases h
  ·rename_i b;rw [if_neg b];exact Cs _ _ _ _ _ _ _ _ h
def iF (kind:Int):Bool:=decide (1<=kind/\kind<=3)
def mD (n m:Nat) (l:List Int) (p kind:Int):Bool:=be n&&aQ m l p&&iF kind
def DY (zs:List Int) (n m:Nat) (l:List Int) (p va kind:Int):Int:=if mD n m l p kind=true then (bO zs n l p va kind).addr else 0
def DZ (zs:List Int) (n m:Nat) (l:List Int) (p va kind:Int):Int:=if mD n m l p kind=true then (bO zs n l p va kind).code else if iF kind=true then dg kind else 1
def aN (zs:List Int) (f:Fd):List Int:=if f.marked=true then jZ zs (f.at_-2147483648).toNat f.entry 8 else zs
def tH (zs:List Int) (n m:Nat) (l:List Int) (p va kind:Int):List Int:=if mD n m l p kind=true then aN zs (bO zs n l p va kind) else []
theorem jH (zs:List Int) (f:Fd):(aN zs f).length=zs.length:=by
 unfold aN;split;·rw [ju]
 ·rfl
theorem nF {W:World} {g:Nat} {o:Obj} (h:W.heap[g]?=some o) (a:Obj):(W.alloc a).heap[g]?=some o:=(Below.heap_alloc W a g (Array.getElem?_eq_some_iff.1 h).1).trans h
theorem Ct (w:World) (base:Nat) (hb:base<=w.heap.size) (o:Obj) (a:o=.cells #[] 5 (0,0)):(w.alloc o).ownsRow base 5 1 (.slice (some ⟨w.heap.size,0,none⟩) 0 0) 0 (([]:List Int).map (Value.int .u8)):=by subst a;exact World.ownsRow_lit w #[] 0 hb i5 rfl
def jp (kind:Int):Int:=if kind=1 then 17 else if kind=2 then 21 else 23
def qu (kind:Int):Int:=if kind=1 then 16 else if kind=2 then 20 else 22
def bz (M:MV) (R:List Int):MV:=⟨M.pc,M.x,M.pr,M.cs,R,M.d,M.hd,M.hl,M.wt⟩
def dy (M:MV) (D:DV):MV:=⟨M.pc,M.x,M.pr,M.cs,M.ram,D,M.hd,M.hl,M.wt⟩
def lT (M:MV):MV:=⟨M.pc,M.x,M.pr,M.cs,M.ram,M.d,0,false,M.wt⟩
def nG (M:MV) (pa:Int):Bool:=M.hl&&(bits .andNot .u64 M.hd 7==bits .andNot .u64 pa 7)
def mX (M:MV) (pa:Int):MV:=if nG M pa=true then lT M else M
def rv (M:MV) (pa size kind x:Int):Int × MV × Int :=
 if fQ M.ram.length pa size=true then
  (if (kind==3)=true then (0,mX (bz M (jZ M.ram (pa-2147483648).toNat x size.toNat)) pa,0) else (le M.ram (pa-2147483648).toNat size.toNat,M,0))
 else if (kind==2)=true then
  (if (jc M.d (gg pa size)).2.2=true then ((jc M.d (gg pa size)).1,dH (dy M (jc M.d (gg pa size)).2.1),0) else (0,M,jp kind))
 else if (kind==3)=true then
  (if (fy M.d x (gg pa size)).2=true then (0,mX (dH (dy M (fy M.d x (gg pa size)).1)) pa,0) else (0,M,jp kind))
 else (0,M,jp kind)
def FQ (l:List Int) (p pa size kind:Int):Bool:=decide (aM pa size<pa)||!ay l p pa (aM pa size) kind 4 0
def xL (M:MV) (p addr size kind x:Int) (F:Fd):Int × MV × Int :=
 if (F.code != 0)=true then (0,bz M (aN M.ram F),wrap64 (F.code+16))
 else if FQ M.cs p F.addr size kind=true then (0,bz M (aN M.ram F),jp kind)
 else rv (bz M (aN M.ram F)) F.addr size kind x
def aC (M:MV) (addr size kind x:Int):Int × MV × Int :=
 if (addr%size != 0)=true then (0,M,qu kind)
 else xL M (eC M.cs M.pr kind) addr size kind x (bO M.ram M.ram.length M.cs (eC M.cs M.pr kind) addr kind)
theorem bp.sub {B E:Nat} {w:World} {L L':List FRow} (h:bp B E w L) (hs:L'.Sublist L):bp B E w L' :=
 ⟨λq a=>h.own q (hs.subset a),λq a=>h.hi q (hs.subset a),h.ne.sublist hs⟩
theorem bp.ins {B E f:Nat} {w:World} {L1 L2:List FRow} {q:FRow} (h:bp B E w (L1++L2)) (j:w.ownsRow E q.t 1 q.v q.n q.xs) (l:B<=E) (m:w.heap.size<=f) (n:E<=f):bp B f w (L1++q::L2):=by
 have b:=List.pairwise_append.1 h.ne;have d:∀ s ∈ L1++L2,∀ k,s.v.ownBlock=some k->k<E:=λs a k e=>h.hi s a k e;have i:∀ k,q.v.ownBlock=some k->E<=k/\k<w.heap.size:=λk e=>j.lt k e;refine ⟨λs a=>?_,λs a k e=>?_,List.pairwise_append.2 ⟨b.1,List.pairwise_cons.2 ⟨λs a k e c=>?_,b.2.1⟩,λs a t g k e c=>?_⟩⟩
 ·rcases List.mem_append.1 a with a|a;·exact h.own s (List.mem_append_left _ a)
  ·rcases List.mem_cons.1 a with rfl|a;·exact dp j l
   ·exact h.own s (List.mem_append_right _ a)
 ·rcases List.mem_append.1 a with a|a;·have:=d s (List.mem_append_left _ a) k e;omega
  ·rcases List.mem_cons.1 a with rfl|a;·have:=i k e;omega
   ·have:=d s (List.mem_append_right _ a) k e;omega
 ·have:=i k e;have:=d s (List.mem_append_right _ a) k c;omega
 ·rcases List.mem_cons.1 g with rfl|g;·have:=i k c;have:=d s (List.mem_append_left _ a) k e;omega
  ·exact b.2.2 s a t g k e c
theorem bp.app {B E c:Nat} {w:World} {L1 L2:List FRow} (h:bp B E w L1) (b:bp E c w L2) (f:B<=E) (i:E<=c):bp B c w (L1++L2):=by
 refine ⟨λs a=>?_,λs a k e=>?_,List.pairwise_append.2 ⟨h.ne,b.ne,λs a t g k e d=>?_⟩⟩
 ·rcases List.mem_append.1 a with a|a;·exact h.own s a
  ·exact dp (b.own s a) f
 ·rcases List.mem_append.1 a with a|a;·have:=h.hi s a k e;omega
  ·exact b.hi s a k e
 ·have:=h.hi s a k e;have:=((b.own t g).lt k d).1;omega
def mY (A:MA) (a:Option Addr) (c:Nat) (b:Option Addr) (d:Nat):MA:=⟨A.ax,A.cx,A.ac,A.cc,A.ar,A.cr,a,c,b,d⟩
theorem Lr {B:Nat} {M:MV} {A:MA} {w w':World} (h:bp B w.heap.size w (aH M A)) (k:B<=w.heap.size) (hb:Bw w w') (D:DV) {d:Option Addr} {f:Nat} {e:Option Addr} {g:Nat} (hr:eX w w' A.ai A.ci M.d.xs A.ao A.co M.d.ys d f D.xs e g D.ys):bp B w'.heap.size w' (aH (dy M D) (mY A d f e g)):=by
 have c:=h.below hb;rcases hr with ⟨⟨rfl,rfl,i⟩,rfl,rfl,j⟩|⟨a,rfl,rfl,j⟩|⟨⟨rfl,rfl,i⟩,a⟩|a;·unfold aH dy mY;dsimp only;rw [i,j];exact c.low (Nat.le_refl _) hb.size
 ·have b:bp B w.heap.size w' ([aI A.ax M.x.length A.cx M.x,aI A.ac M.cs.length A.cc M.cs,aB A.ar M.ram.length A.cr M.ram]++[aB A.ao M.d.ys.length A.co M.d.ys]):=c.sub (by unfold aH;simp);unfold aH dy mY;dsimp only;rw [j];exact b.ins (q:=aB d D.xs.length f D.xs) a k (Nat.le_refl _) hb.size
 ·have b:bp B w.heap.size w' ([aI A.ax M.x.length A.cx M.x,aI A.ac M.cs.length A.cc M.cs,aB A.ar M.ram.length A.cr M.ram,aB A.ai M.d.xs.length A.ci M.d.xs]++[]):=c.sub (by unfold aH;simp);unfold aH dy mY;dsimp only;rw [i];exact b.ins (q:=aB e D.ys.length g D.ys) a k (Nat.le_refl _) hb.size
 ·have b:bp B w.heap.size w' [aI A.ax M.x.length A.cx M.x,aI A.ac M.cs.length A.cc M.cs,aB A.ar M.ram.length A.cr M.ram]:=c.sub (by unfold aH;simp);exact b.app a k hb.size
theorem Ls {M:MV} {A:MA} {w w':World} (D:DV) {g:Option Addr} {j:Nat} {i:Option Addr} {l:Nat} (hr:eX w w' A.ai A.ci M.d.xs A.ao A.co M.d.ys g j D.xs i l D.ys):∀ q ∈ aH (dy M D) (mY A g j i l),∀ k,q.v.ownBlock=some k->k<w.heap.size->∃ q0 ∈ aH M A,q0.v.ownBlock=some k:=by
 intro q o k e c;simp only [aH,dy,mY,List.mem_cons,List.not_mem_nil,or_false] at o;have f:∀ (b:Option Addr) (d:Nat) (zs:List Int),w'.ownsRow w.heap.size 5 1 (.slice b zs.length d) zs.length (zs.map (Value.int .u8))->∀ k,(Value.slice b zs.length d).ownBlock=some k->k<w.heap.size->False:=λb d zs h k e c=>by have:=(h.lt k e).1;omega
 have m4:aB A.ai M.d.xs.length A.ci M.d.xs ∈ aH M A:=ck
 have p:aB A.ao M.d.ys.length A.co M.d.ys ∈ aH M A:=ck
 rcases o with rfl|rfl|rfl|rfl|rfl;·exact ⟨_,ck,e⟩
 ·exact ⟨aI A.ac M.cs.length A.cc M.cs,ck,e⟩
 ·exact ⟨aB A.ar M.ram.length A.cr M.ram,ck,e⟩
 ·rcases hr with ⟨⟨rfl,rfl,m⟩,_⟩|⟨a,_⟩|⟨⟨rfl,rfl,m⟩,_⟩|a;·rw [m] at e;exact ⟨_,m4,e⟩
  ·exact (f _ _ _ a k e c).elim
  ·rw [m] at e;exact ⟨_,m4,e⟩
  ·exact (f _ _ _ (a.own (aB g D.xs.length j D.xs) (by simp [iB])) k e c).elim
 ·rcases hr with ⟨_,rfl,rfl,n⟩|⟨_,rfl,rfl,n⟩|⟨_,a⟩|a;·rw [n] at e;exact ⟨_,p,e⟩
  ·rw [n] at e;exact ⟨_,p,e⟩
  ·exact (f _ _ _ a k e c).elim
  ·exact (f _ _ _ (a.own (aB i D.ys.length l D.ys) (by simp [iB])) k e c).elim
def IE (w:World) (r:Nat) (D:DV) (a:Option Addr) (c:Nat) (b:Option Addr) (d:Nat):World:=(((((w.setCell ⟨r,5,none⟩ (.u D.t)).setCell ⟨r,6,none⟩ (.u D.cm)).setCell ⟨r,7,none⟩ (.bool D.so)).setCell ⟨r,8,none⟩ (.slice a D.xs.length c)).setCell ⟨r,9,none⟩ (.slice b D.ys.length d)).setCell ⟨r,10,none⟩ (.i D.ir)
theorem Kx.put6r {r:Nat} {L:List FRow} (w:World) (D:DV) (a:Option Addr) (c:Nat) (b:Option Addr) (d:Nat):Kx r L L w (IE w r D a c b d):=
 (((((Kx.set w 5 _).trans (Kx.set _ 6 _)).trans (Kx.set _ 7 _)).trans (Kx.set _ 8 _)).trans (Kx.set _ 9 _)).trans (Kx.set _ 10 _)
theorem Mp.fam_set {B r:Nat} {L:List FRow} {w:World} (h:bp B w.heap.size w L) (b:∀ q ∈ L,q.v.ownBlock≠some r) (i:Nat) (v:Value):bp B (w.setCell ⟨r,i,none⟩ v).heap.size (w.setCell ⟨r,i,none⟩ v) L :=
 ⟨λq a=>gM (h.own q a) (λk e=>Below.heap_setCell w ⟨r,i,none⟩ v k (λc=>b q a (by rw [show r=k from c.symm];exact e))),λq a k e=>by rw [aY];exact h.hi q a k e,h.ne⟩
theorem Mp.dev {B r:Nat} {M:MV} {A:MA} {w w':World} (h:Mp B r M A w) (hb:Bw w w') (D:DV) {b:Option Addr} {d:Nat} {c:Option Addr} {f:Nat} (hr:eX w w' A.ai A.ci M.d.xs A.ao A.co M.d.ys b d D.xs c f D.ys):Mp B r (dy M D) (mY A b d c f) (IE w' r D b d c f)/\Kx r (aH M A) (aH (dy M D) (mY A b d c f)) w (IE w' r D b d c f):=by
 have i:=h.lt;have u:B<=w.heap.size:=by have:=h.lo;omega
 have g:=Ls D hr;have a:∀ q ∈ aH (dy M D) (mY A b d c f),q.v.ownBlock≠some r:=λq y e=>by obtain ⟨C,t,s⟩:=g q y r e i;exact h.ne C t s
 have v:=Lr h.fam u hb D hr;refine ⟨⟨?_,?_,a,h.lo⟩,?_⟩;·have j:=an hb h.row;unfold aO at j;have l:=bo j 5 (.u D.t);have m:=bo l 6 (.u D.cm);have n:=bo m 7 (.bool D.so);have o:=bo n 8 (.slice b D.xs.length d);have p:=bo o 9 (.slice c D.ys.length f);exact bo p 10 (.i D.ir)
 ·exact Mp.fam_set (Mp.fam_set (Mp.fam_set (Mp.fam_set (Mp.fam_set (Mp.fam_set v a 5 _) a 6 _) a 7 _) a 8 _) a 9 _) a 10 _
 ·have z:Kx r (aH M A) (aH (dy M D) (mY A b d c f)) w w':=⟨hb.os,hb.tape,hb.output,hb.size,λk x _ _=>hb.block k x,g⟩;exact z.trans (Kx.put6r w' D b d c f)
def Nn (w:World) (r:Nat):World:=(w.setCell ⟨r,12,none⟩ (.bool false)).setCell ⟨r,11,none⟩ (.u 0)
theorem Mp.free {B r:Nat} {M:MV} {A:MA} {w:World} (h:Mp B r M A w):Mp B r (lT M) A (Nn w r)/\Kx r (aH M A) (aH (lT M) A) w (Nn w r):=by refine ⟨⟨?_,Mp.fam_set (Mp.fam_set h.fam h.ne 12 _) h.ne 11 _,h.ne,h.lo⟩,(Kx.set w 12 _).trans (Kx.set _ 11 _)⟩;have a:=h.row;unfold aO at a;exact bo (bo a 12 (.bool false)) 11 (.u 0)
theorem zN (M:MV) (A:MA) (B r:Nat) (addr size x:Int) (w:World) (hl:M.ram.length<=1048576) (p:fQ M.ram.length addr size=true) (u:0<=x) (v:x<=18446744073709551615) (h:Mp B r M A w):Calls prog 119 #[.slice A.ar M.ram.length A.cr,.u addr,.i size,.u x] w λe c=>e=.returned (.tuple #[])/\Mp B r (bz M (jZ M.ram (addr-2147483648).toNat x size.toNat)) A c/\Kx r (aH M A) (aH (bz M (jZ M.ram (addr-2147483648).toNat x size.toNat)) A) w c:=by
 have P:=jB p;obtain ⟨f,K⟩:∃ f:Nat,f=(addr-2147483648).toNat:=⟨_,rfl⟩;obtain ⟨m,L⟩:∃ m:Nat,m=size.toNat:=⟨_,rfl⟩;have F:addr=2147483648+(f:Int):=al
 have G:size=(m:Int):=al
 have j:aB A.ar M.ram.length A.cr M.ram ∈ aH M A:=ck
 have C:=h.fam.own _ j;have l:f+m<=M.ram.length:=al
 have i:∃ g,A.ar=some ⟨g,0,none⟩:=by
  rcases C.2 with ⟨e,k⟩|⟨y,cap,D,e,_⟩;·have:M.ram.length=0:=k;omega
  ·have E:Value.slice A.ar M.ram.length A.cr=.slice (some ⟨y,0,none⟩) M.ram.length cap:=e;injection E with e3
   exact ⟨y,e3⟩
 obtain ⟨g,i⟩:=i;have a:(jZ M.ram f x m).length=M.ram.length:=ju _ _ _ _;rw [<- K,<- L];rw [F,G];have o:w.ownsRow B 5 1 (.slice (some ⟨g,0,none⟩) M.ram.length A.cr) M.ram.length (M.ram.map (Value.int .u8)):=by rw [<- i];exact C
 rw [i];refine (EZ g M.ram.length A.cr f m B M.ram x w hl al l u v o).mono λe c ⟨I,J,z⟩=>⟨I,?_⟩;have n:w.grownBy c (aB A.ar M.ram.length A.cr M.ram).v.ownBlock:=by have e:(aB A.ar M.ram.length A.cr M.ram).v.ownBlock=some g:=(by show (Value.slice A.ar M.ram.length A.cr).ownBlock=_;rw [i];rfl);rw [e];exact z
 have t:c.ownsRow B 5 1 (aB A.ar M.ram.length A.cr M.ram).v M.ram.length ((jZ M.ram f x m).map (Value.int .u8)):=by show c.ownsRow B 5 1 (.slice A.ar M.ram.length A.cr) _ _;rw [i];exact J
 have d:=bp.markL (L1:=[aI A.ax M.x.length A.cx M.x,aI A.ac M.cs.length A.cc M.cs]) (L2:=[aB A.ai M.d.xs.length A.ci M.d.xs,aB A.ao M.d.ys.length A.co M.d.ys]) (r:=aB A.ar M.ram.length A.cr M.ram) h.fam n _ t;have b:=iS (M:=M) (M':=bz M (jZ M.ram f x m)) (A:=A) rfl rfl a rfl rfl;have hF:bp B w.heap.size c (aH (bz M (jZ M.ram f x m)) A):=by unfold aH bz;dsimp only;rw [a];exact d.1
 refine ⟨⟨?_,hF.low (Nat.le_refl _) z.size,λq s e=>?_,h.lo⟩,Kx.of_keepL d.2 b⟩;·have N:c.heap[r]?=w.heap[r]?:=d.2.block r h.lt (λq s e=>h.ne q s e);rw [N,h.row];unfold aO bz;dsimp only;rw [a]
 ·obtain ⟨O,H,k⟩:=b q s;exact h.ne O H (by rw [k];exact e)
end Go.Proofs.YtjifdmoehfbihaaGreatDoor
