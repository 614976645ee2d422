/- Own lemmas. -/
import Derived.Test.YtfagphfjfhpmjaaGreatDoorAuj
import Derived.Test.YtfagphfjfhpmjaaGreatDoorJ07
import Derived.Test.YtfagphfjfhpmjaaGreatDoorJ08
set_option maxRecDepth 100000
set_option maxHeartbeats 6400000
namespace Go.Proofs.YtfagphfjfhpmjaaGreatDoor
open Go.RowKit Tryz
open IntKind renaming u64->Uz
set_option linter.unusedVariables false
variable {w A B:World} {M r W:Nat} {n x M':MV} {b l:MA} {g:List FRow} {t:Array Value} {a:TV} {c:Int} {d P:Program} {o:List Int} {p:List (Int × Int)} {D:TypeId} {dr:Bool} {Rs:Ending->World->Prop} {q:FRow} (E Q:MV) (e:MA) (k:World) (s:DV) (y L:Option Addr) (m:List Int) (f I:Nat) (R:List Int) (V:Int) (j:Bool) (z C:Int) (F:World)
def pq:Go.Code->Go.Code
 | .block _ c | .loop c | .cond _ _ c=>c
 | c=>c
def O0:Go.Code->Array Oper
 | .region _ o _=>o
 | _=>#[]
theorem nJ {P:Program} {n:Nat} {fn:Func} {Rs:Ending->World->Prop} {k:List KI} {F:Fr} {w W:World} {bs:List (Array Value × TypeId)} (hS:Bs w bs W) (H:Hn P (Bs w bs) (Bs w bs)) (m:Nat) {i:Nat} {old:Array Value} {t T:TypeId} {d:TypeDesc} {cs:Array Value} {p:Nat} (hb:bs[i]?=some (old,t)) (l:old.size=cs.size) (g:(P.info? T).map (·.size)=some cs.size) (c:cs.all (·.oneCell')=true) (o:P.underlying T=some d) (hd:(match d with | .struct _ | .array _ _=>true | _=>false)=true) (e:fn.results=#[.cell p T]) (hx:(λ(y:Bool × List KI × Fr)=>(y.1,EW n y.2.2 y.2.1,vP y.2.2 y.2.1,iu (nZ y.2.2 y.2.1))) (aY P (lf w.heap.size bs) H n true m k F).1=(false,some (do Instr.storeAt T (.p (w.heap.size+i) 0) (.agg cs);pure Next.skip),false,true)) (he:(aY P (lf w.heap.size bs) H n true m k F).2.map Prod.fst=(aY P (lf w.heap.size bs) H n true m k F).2.map Prod.snd) (hy:∀ X,(λ(z:(Bool × List KI × Fr) × List (Oe × Oe))=>(z.1.1,(lk z.1.2.2 p).map Prod.fst,z.2.map Prod.fst)) (aY P [] ({}:Hn P (λx=>x=X) (λx=>x=X)) n false m (nZ (aY P (lf w.heap.size bs) H n true m k F).1.2.2 (aY P (lf w.heap.size bs) H n true m k F).1.2.1) (pP (aY P (lf w.heap.size bs) H n true m k F).1.2.2 (aY P (lf w.heap.size bs) H n true m k F).1.2.1 undef 0))=(true,some (.p (w.heap.size+i) 0),(aY P [] ({}:Hn P (λx=>x=X) (λx=>x=X)) n false m (nZ (aY P (lf w.heap.size bs) H n true m k F).1.2.2 (aY P (lf w.heap.size bs) H n true m k F).1.2.1) (pP (aY P (lf w.heap.size bs) H n true m k F).1.2.2 (aY P (lf w.heap.size bs) H n true m k F).1.2.1 undef 0)).2.map Prod.snd)) (h:∀ V,Bw w V->Rs (.returned (.agg cs)) V):Wg P (Bs w bs) (bodyPost P fn Rs) n k F W:=by simp only [Prod.mk.injEq] at hx hy;refine ae Bs.eng H m hS (hret:=hx.1) (he:=he) λq f=>?_;have b:=f.1 i _ hb;refine bx (hx:=hx.2.1) (aD b g l c) (hS:=fi hx.2.2.1) ?_;refine jv (R:=[]) trivial {} m (hx:=by rw [hx.2.2.2,(hy _).1]) (he:=(hy _).2.2) λa j=>⟨_,results_cell_row e _ _ _ _ _ _ _ (j.slot (hy _).2.1) (setRow_heap _ _ _ _ _ _ b) o hd g,h _ (aF f.2 ab _)⟩
theorem qq {bs:List Nat} (h:Bw w A) (k:Ag bs A B) (hb:∀ x ∈ bs,w.heap.size<=x):Bw w B :=
 ⟨k.os.trans h.os,k.tape.trans h.tape,k.output.trans h.output,Nat.le_trans h.size k.size,λi d=>(k.block i (Nat.lt_of_lt_of_le d h.size) λe=>by have:=hb i e;omega).trans (h.block i d)⟩
theorem sy (n:Nat) (m:Int) (h:(2:Int)^n=m):V.fdiv (2^n)=V/m:=by subst h;exact Int.fdiv_eq_ediv_of_nonneg _ (Int.le_of_lt (Int.pow_pos ab))
theorem Rr {α:Type} (b:Bool) (x y:α):(if (j||b)=true then x else y)=if j=true then x else if b=true then x else y:=by cases j<;>rfl
noncomputable abbrev wD:Go.Code:=pq (iZ (pq (pq (ay 5 (aW Tryz.f197)))))
noncomputable abbrev wT (R:Act->World->Prop):List KI:=[.blk 1,.code (ay 1 (pq (pq (ay 5 (aW Tryz.f197))))),.fin R,.blk 0]
abbrev wR (V:Fd) (w:World):Ending->World->Prop:=λe a=>e=.returned (.agg V.cells)/\Bw w a
abbrev wB:List (Array Value × TypeId):=[(jn,243)]
noncomputable abbrev wW (V:Fd) (w:World) (k:List KI) (F:Fr) (W:World):Prop:=Wg prog (Bs w wB) (bodyPost prog Tryz.f197 (wR V w)) Tryz.f197.ntmps k F W
abbrev wF (ra:Option Addr) (n rcap b off cap:Nat) (p va kind:Int) (w:World) (L:Fr):Fr:=(0,.slice ra n rcap,0)::(1,.slice (some ⟨b,off,none⟩) 22 cap,0)::(2,.i p,0)::(3,.u va,0)::(4,.i kind,0)::(10,.p w.heap.size 0,1)::L
abbrev wL (lv:Nat) (X e:Int) (L:Fr):Fr:=(12,.u lv,0)::(13,.u X,0)::(14,.u e,0)::(15,.u (aq e 1),0)::(16,.u (aq e 2),0)::(17,.u (aq e 3),0)::(18,.u (eZ e),0)::L
section
variable {ra : Option Addr} {n rcap : Nat} {zs : List Int} {b off cap : Nat} {l : List Int} {p va kind : Int} {w : World} {V : Fd} {R : Act -> World -> Prop} {X e : Int} {lv : Nat}
variable (FT : ∀ W, Calls Tryz.prog 247 #[.int .i64 kind] W λe w' => e = .returned (.agg (fT kind).cells) /\ Below W.heap.size W w')
variable (PG : ∀ W, Calls Tryz.prog 246 #[.int .i64 kind] W λe w' => e = .returned (.agg (bP kind).cells) /\ Below W.heap.size W w')
variable (hlz : l.length = 22) (hl : Sl .u64 w (some ⟨b, off, none⟩) l)
include FT hlz hl in
theorem Hu {W:World} (P:lv<=2) (s:Bs w wB W) (m:V=if (cN e kind != e)=true then (if aE l 1 X (bm X 8) 3 4 0=true then ⟨gP e va lv,0,true,X,cN e kind⟩ else fT kind) else ⟨gP e va lv,0,false,0,0⟩):wW V w (.code (ay 12 wD)::wT R) (wF ra n rcap b off cap p va kind w [(12,.u lv,0),(13,.u X,0),(14,.u e,0),(18,.u (eZ e),0)]) W:=by
 obtain ⟨L,J⟩:∃ L,gP e va lv=L:=⟨_,rfl⟩
 rw [J] at m
 have N:∀ W,Bs w wB W->Wg prog (Bs w wB) (bodyPost prog Tryz.f197 (wR V w)) Tryz.f197.ntmps (.ops (O0 (iZ (ay 13 wD))) (((O0 (iZ (ay 13 wD))).toList).drop 9)::.code (ay 14 wD)::wT R) (wF ra n rcap b off cap p va kind w [(13,.u X,0),(14,.u e,0),(216,.agg #[.u L,.i 0,.bool false,.u 0,.u 0],0)]) W:=by
  intro W s
  refine fz 2 (cT (T:=243) (z:=.agg jn) a4 W) ?_
  have K:=s.1 0 _ rfl
  have I:w.heap.size<W.heap.size:=(Array.getElem?_eq_some_iff.1 K).1
  have g:Bw w (W.alloc (.cells jn 243)):=s.2.alloc s.2.size _
  have F:Iv [w.heap.size,W.heap.size] (W.alloc (.cells jn 243)) [⟨w.heap.size,jn,[]⟩,⟨W.heap.size,jn,[]⟩] (W.alloc (.cells jn 243)):=⟨λr o=>by
   simp only [List.mem_cons,List.not_mem_nil,or_false] at o
   rcases o with rfl|rfl
   ·exact ⟨_,(Below.heap_alloc _ _ _ I).trans K⟩
   ·exact ⟨_,heap_alloc_new _ _⟩,Ag.refl _ _,bc,a8⟩
  have j:∀ x ∈ [w.heap.size,W.heap.size],w.heap.size<=x:=by simp;omega
  refine aK (λ_=>True) ?_
  show Wg _ _ _ _ _ _ (W.alloc (.cells jn 243))
  generalize W.heap.size=h at F j ⊢
  generalize W.alloc (.cells jn 243)=G at F g ⊢
  have u:∀ (f:Fd) (i:World) (a:Act) {G:World} (g:Bw w G) (L:List Rw),V=f->Iv [w.heap.size,h] G (⟨w.heap.size,f.cells,[]⟩::L) i->a.tmps.getD 10 undef=.p w.heap.size 0->∃ v,(results Tryz.f197 a.tmps).run prog i=.ok v i/\wR V w (.returned v) i:=λf i a G g L O d Q=>by
   obtain ⟨t,C⟩:=d.rows _ (List.mem_cons_self ..)
   exact ⟨_,results_cell_row results197 _ _ _ _ _ _ _ Q C underlying243 rfl a4,by rw [O],qq g d.ag j⟩
  obtain ⟨z,c⟩:∃ z,cN e kind=z:=⟨_,rfl⟩
  rw [c] at m
  obtain ⟨q,M⟩:∃ q,aE l 1 X (bm X 8) 3 4 0=q:=⟨_,rfl⟩
  rw [M] at m
  cases d:(kind==3)<;>(
   unfold cN at c
   rw [d] at c
   first | rw [if_pos rfl] at c | rw [if_neg a6] at c)
  all_goals
   cases k:(z != e) with
   | false =>
     rw [k,if_neg a6] at m
     exact jf F {eq:=[(220,af d),(225,af k)]} 100 (R1:=[⟨w.heap.size,#[.u L,.i 0,.bool false,.u 0,.u 0],[]⟩,⟨h,#[.u L,.i 0,.bool false,.u 0,.u 0],[]⟩]) (hx:=et) (he:=et) λi a d B=>u _ i a g _ m d (B.slot et)
   | true =>
     rw [k,if_pos rfl] at m
     refine gn F {eq:=[(220,af d),(225,af k)]} 100 (R1:=[⟨w.heap.size,jn,[]⟩,⟨h,#[.u L,.i 0,.bool false,.u 0,.u 0],[]⟩]) (λi d=>ml (some ⟨b,off,none⟩) cap l 1 X 8 3 i hlz (hl.below (qq g d.ag j))) (hx:=et) (he:=et) λi S Y d o=>⟨.bool q,0,by rw [o.1,M],?_⟩
     rw [o.2]
     have A:=qq g d.ag j
     have y:Iv [w.heap.size,h] i [⟨w.heap.size,jn,[]⟩,⟨h,#[.u L,.i 0,.bool false,.u 0,.u 0],[]⟩] i:=⟨d.rows,Ag.refl _ _,d.sub,d.nd⟩
     cases q with
     | true=>exact jf y {} 100 (R1:=[⟨w.heap.size,#[.u L,.i 0,.bool true,.u X,.u z],[]⟩,⟨h,#[.u L,.i 0,.bool true,.u X,.u z],[]⟩]) (hx:=et) (he:=et) λD a k B=>u _ D a A _ m k (B.slot et)
     | false =>
       refine gn y {} 100 (R1:=[⟨w.heap.size,jn,[]⟩,⟨h,#[.u L,.i 0,.bool false,.u 0,.u 0],[]⟩]) (λi d=>FT i) (hx:=et) (he:=et) λD U Z k o=>⟨.agg (fT kind).cells,0,o.1,?_⟩
       have E:=k.below o.2
       have H:=qq A E.ag j
       exact jf (bs:=[w.heap.size,h]) (R:=[⟨w.heap.size,jn,[]⟩,⟨h,#[.u L,.i 0,.bool false,.u 0,.u 0],[]⟩]) ⟨E.rows,Ag.refl _ _,E.sub,E.nd⟩ {} 100 (R1:=[⟨w.heap.size,(fT kind).cells,[]⟩,⟨h,#[.u L,.i 0,.bool false,.u 0,.u 0],[]⟩]) (hx:=et) (he:=et) λD a k B=>u _ D a H _ m k (B.slot et)
 obtain rfl|rfl|rfl:lv=0\/lv=1\/lv=2:=ab
 all_goals exact ae Bs.eng {eq:=[(215,cZ .u64 J)]} 20 s λW s=>an _ _ (N W s)
include FT PG hlz hl in
theorem Hv {W:World} (r:lv<=2) (d:Bs w wB W) (a:V=db l p va kind e X lv):wW V w (.code (ay 9 wD)::wT R) (wF ra n rcap b off cap p va kind w (wL lv X e [])) W:=by
 obtain ⟨G,t,s,j,o⟩:=hl 0 ab
 simp only [Option.some.injEq,Addr.mk.injEq,and_true] at s
 obtain ⟨rfl,rfl⟩:=s
 have o:∀ W,Bs w wB W->W.cell? ⟨b,off,none⟩=some (.u (l.getD 0 0)):=λW d=>(d.2.cell (by exact j)).trans o
 have q:∀ (x:Int) (i:Nat),i<64->∀ W,Bw w W->CE 129 #[.u x,.u i] W (.u (aq x i)):=λx i y W _=>gW x i y W
 unfold db hZ ic at a
 simp only [Rr] at a
 generalize v:(if (cN e kind != e)=true then (if aE l 1 X (bm X 8) 3 4 0=true then ⟨gP e va lv,0,true,X,cN e kind⟩ else fT kind) else ⟨gP e va lv,0,false,0,0⟩)=Y at a
 have E:∀ c W,Bs w wB W->(V=if c=true then bP kind else Y)->wW V w (.code (ay 1 (pq (ay 1 (pq (ay 1 (pq (ay 1 (pq (ay 1 (pq (ay 1 (pq (iZ (ay 11 wD))))))))))))))::.blk 2::.code (ay 12 wD)::wT R) (wF ra n rcap b off cap p va kind w (wL lv X e [(20,.u (aq e 4),0),(183,.bool c,0)])) W:=by
  intro c W d a
  cases c with
  | true=>rw [if_pos rfl] at a;exact nJ (i:=0) (cs:=(bP kind:Fd).cells) d {cv:=[(202,eY λW _=>PG W)]} 20 rfl rfl a4 (lu _) underlying243 rfl results197 a4 a4 (λ_=>a4) λW h=>⟨by rw [a],h⟩
  | false =>
    rw [if_neg a6] at a
    rw [<- v] at a
    exact ae Bs.eng {} 3 d λW d=>an _ _ (Hu (ra:=ra) (n:=n) (rcap:=rcap) (cap:=cap) (p:=p) (R:=R) FT hlz hl r d a)
 have D:∀ c W,Bs w wB W->(V=if c=true then bP kind else if ((p==1)&&(aq e 4==1)&&((kind==1)||(aq (l.getD 0 0) 18==0)))=true then bP kind else Y)->wW V w (.code (ay 1 (pq (ay 1 (pq (ay 1 (pq (ay 1 (pq (ay 1 (pq (iZ (ay 11 wD))))))))))))::.blk 2::.code (ay 12 wD)::wT R) (wF ra n rcap b off cap p va kind w (wL lv X e [(20,.u (aq e 4),0),(174,.bool c,0)])) W:=by
  intro c W d a
  cases c with
  | true=>rw [if_pos rfl] at a;exact nJ (i:=0) (cs:=(bP kind:Fd).cells) d {cv:=[(182,eY λW _=>PG W)]} 20 rfl rfl a4 (lu _) underlying243 rfl results197 a4 a4 (λ_=>a4) λW h=>⟨by rw [a],h⟩
  | false =>
    rw [if_neg a6] at a
    obtain ⟨c,f⟩:∃ c,c=((p==1)&&(aq e 4==1)&&((kind==1)||(aq (l.getD 0 0) 18==0))):=⟨_,rfl⟩
    rw [<- f] at a
    cases t0:(p==1)<;>cases g:(aq e 4==1)<;>cases k:(kind==1)<;>cases m:(aq (l.getD 0 0) 18==0)<;>(
     rw [t0,g,k,m] at f
     subst f
     exact ae Bs.eng {eq:=[(185,af t0),(188,af g),(192,af k),(198,af m)],ov:=[(196,jk ⟨b,off,none⟩ _ underlying22 rfl o)],cv:=[(197,jX (q (l.getD 0 0) 18 ab))]} 22 d λW d=>an _ _ (E _ W d a))
 have C:∀ c W,Bs w wB W->(V=if c=true then bP kind else if ((p==0)&&(aq e 4==0))=true then bP kind else if ((p==1)&&(aq e 4==1)&&((kind==1)||(aq (l.getD 0 0) 18==0)))=true then bP kind else Y)->wW V w (.code (ay 1 (pq (ay 1 (pq (ay 1 (pq (ay 1 (pq (iZ (ay 11 wD))))))))))::.blk 2::.code (ay 12 wD)::wT R) (wF ra n rcap b off cap p va kind w (wL lv X e [(20,.u (aq e 4),0),(165,.bool c,0)])) W:=by
  intro c W d a
  cases c with
  | true=>rw [if_pos rfl] at a;exact nJ (i:=0) (cs:=(bP kind:Fd).cells) d {cv:=[(173,eY λW _=>PG W)]} 20 rfl rfl a4 (lu _) underlying243 rfl results197 a4 a4 (λ_=>a4) λW h=>⟨by rw [a],h⟩
  | false =>
    rw [if_neg a6] at a
    obtain ⟨c,f⟩:∃ c,c=((p==0)&&(aq e 4==0)):=⟨_,rfl⟩
    rw [<- f] at a
    cases t0:(p==0)<;>cases g:(aq e 4==0)<;>(
     rw [t0,g] at f
     subst f
     exact ae Bs.eng {eq:=[(176,af t0),(179,af g)]} 11 d λW d=>an _ _ (D _ W d a))
 have B:∀ c W,Bs w wB W->(V=if c=true then bP kind else if ((kind==3)&&(aq e 2==0))=true then bP kind else if ((p==0)&&(aq e 4==0))=true then bP kind else if ((p==1)&&(aq e 4==1)&&((kind==1)||(aq (l.getD 0 0) 18==0)))=true then bP kind else Y)->wW V w (.code (ay 1 (pq (ay 1 (pq (ay 1 (pq (iZ (ay 11 wD))))))))::.blk 2::.code (ay 12 wD)::wT R) (wF ra n rcap b off cap p va kind w (wL lv X e [(20,.u (aq e 4),0),(145,.bool c,0)])) W:=by
  intro c W d a
  cases c with
  | true=>rw [if_pos rfl] at a;exact nJ (i:=0) (cs:=(bP kind:Fd).cells) d {cv:=[(164,eY λW _=>PG W)]} 20 rfl rfl a4 (lu _) underlying243 rfl results197 a4 a4 (λ_=>a4) λW h=>⟨by rw [a],h⟩
  | false =>
    rw [if_neg a6] at a
    obtain ⟨c,f⟩:∃ c,c=((kind==3)&&(aq e 2==0)):=⟨_,rfl⟩
    rw [<- f] at a
    cases t0:(kind==3)<;>cases g:(aq e 2==0)<;>(
     rw [t0,g] at f
     subst f
     exact ae Bs.eng {eq:=[(167,af t0),(170,af g)]} 11 d λW d=>an _ _ (C _ W d a))
 have A:∀ c W,Bs w wB W->(V=if c=true then bP kind else if ((kind==2)&&(aq e 1==0)&&((aq e 3==0)||(aq (l.getD 0 0) 19==0)))=true then bP kind else if ((kind==3)&&(aq e 2==0))=true then bP kind else if ((p==0)&&(aq e 4==0))=true then bP kind else if ((p==1)&&(aq e 4==1)&&((kind==1)||(aq (l.getD 0 0) 18==0)))=true then bP kind else Y)->wW V w (.code (ay 1 (pq (ay 1 (pq (iZ (ay 11 wD))))))::.blk 2::.code (ay 12 wD)::wT R) (wF ra n rcap b off cap p va kind w (wL lv X e [(20,.u (aq e 4),0),(136,.bool c,0)])) W:=by
  intro c W d a
  cases c with
  | true=>rw [if_pos rfl] at a;exact nJ (i:=0) (cs:=(bP kind:Fd).cells) d {cv:=[(144,eY λW _=>PG W)]} 20 rfl rfl a4 (lu _) underlying243 rfl results197 a4 a4 (λ_=>a4) λW h=>⟨by rw [a],h⟩
  | false =>
    rw [if_neg a6] at a
    obtain ⟨c,f⟩:∃ c,c=((kind==2)&&(aq e 1==0)&&((aq e 3==0)||(aq (l.getD 0 0) 19==0))):=⟨_,rfl⟩
    rw [<- f] at a
    cases t0:(kind==2)<;>cases g:(aq e 1==0)<;>cases k:(aq e 3==0)<;>cases m:(aq (l.getD 0 0) 19==0)<;>(
     rw [t0,g,k,m] at f
     subst f
     exact ae Bs.eng {eq:=[(147,af t0),(150,af g),(154,af k),(160,af m)],ov:=[(158,jk ⟨b,off,none⟩ _ underlying22 rfl o)],cv:=[(159,jX (q (l.getD 0 0) 19 ab))]} 22 d λW d=>an _ _ (B _ W d a))
 have z:∀ c W,Bs w wB W->(V=if c=true then bP kind else if ((kind==1)&&(aq e 3==0))=true then bP kind else if ((kind==2)&&(aq e 1==0)&&((aq e 3==0)||(aq (l.getD 0 0) 19==0)))=true then bP kind else if ((kind==3)&&(aq e 2==0))=true then bP kind else if ((p==0)&&(aq e 4==0))=true then bP kind else if ((p==1)&&(aq e 4==1)&&((kind==1)||(aq (l.getD 0 0) 18==0)))=true then bP kind else Y)->wW V w (.code (ay 1 (pq (iZ (ay 11 wD))))::.blk 2::.code (ay 12 wD)::wT R) (wF ra n rcap b off cap p va kind w (wL lv X e [(20,.u (aq e 4),0),(129,.bool c,0)])) W:=by
  intro c W d a
  cases c with
  | true=>rw [if_pos rfl] at a;exact nJ (i:=0) (cs:=(bP kind:Fd).cells) d {cv:=[(135,eY λW _=>PG W)]} 20 rfl rfl a4 (lu _) underlying243 rfl results197 a4 a4 (λ_=>a4) λW h=>⟨by rw [a],h⟩
  | false =>
    rw [if_neg a6] at a
    obtain ⟨c,f⟩:∃ c,c=((kind==1)&&(aq e 3==0)):=⟨_,rfl⟩
    rw [<- f] at a
    cases t0:(kind==1)<;>cases g:(aq e 3==0)<;>(
     rw [t0,g] at f
     subst f
     exact ae Bs.eng {eq:=[(138,af t0),(141,af g)]} 11 d λW d=>an _ _ (A _ W d a))
 obtain ⟨c,f⟩:∃ c,m9 e lv=c:=⟨_,rfl⟩
 rw [f] at a
 obtain rfl|rfl|rfl:lv=0\/lv=1\/lv=2:=ab
 all_goals exact ae Bs.eng {eq:=[(133,af f)],cv:=[(128,jX (q e 4 ab))]} 24 d λW d=>an _ _ (z c W d a)
include FT PG hlz hl in
theorem DO {T:Int} {W:World} (hr:bq n=true) (hz:zs.length=n) (hs:Sl .u8 w ra zs) (C:∀ y ∈ zs,(Lit.int .u8 y).wf=true) (A:lv<=2) (g:Bs w wB W) (d:V=bJ zs n l p va kind lv T) (O:∀ a k G,0<lv->V=bJ zs n l p va kind (lv-1) G->bK (wF ra n rcap b off cap p va kind w [(11,.u G,0),(12,.u ((lv-1:Nat):Int),0)]) Tryz.f197.ntmps a->Bs w wB k->R a k):wW V w [.code (pq (pq (ay 5 (aW Tryz.f197)))),.fin R,.blk 0] (wF ra n rcap b off cap p va kind w [(11,.u T,0),(12,.u lv,0)]) W:=by
 rw [gK] at d
 obtain ⟨X,r⟩:∃ X,bD T va lv=X:=⟨_,rfl⟩
 have H:=sy va (12+9*lv) _ rfl
 have z:0<=X/\X<18446744073709551616:=by rw [<- r];exact Rj _
 obtain ⟨e,J⟩:∃ e,fF zs X=e:=⟨_,rfl⟩
 rw [r,J] at d
 have s:∀ (x:Int) (i:Nat),i<64->∀ W,Bw w W->CE 129 #[.u x,.u i] W (.u (aq x i)):=λx i Q W _=>gW x i Q W
 have t:∀ W,Bw w W->CE 135 #[.slice ra n rcap,.u X,.i 8] W (.bool (gU n X 8)):=λW _=>tY ra n rcap X 8 W hr rfl z.1 ab
 have u:∀ W,Bw w W->CE 133 #[.slice (some ⟨b,off,none⟩) 22 cap,.i 1,.u X,.i 8,.i 2] W (.bool (aE l 1 X (bm X 8) 2 4 0)):=λW m=>ml (some ⟨b,off,none⟩) cap l 1 X 8 2 W hlz (hl.below m)
 have F:∀ c W,Bs w wB W->(V=if c=true then if kG e lv=true then bP kind else bJ zs n l p va kind (lv-1) (Uz.wrap (eZ e*4096)) else db l p va kind e X lv)->wW V w (.code (ay 1 (iZ (ay 8 wD)))::.code (ay 9 wD)::wT R) (wF ra n rcap b off cap p va kind w (wL lv X e [(104,.bool c,0)])) W:=by
  intro c W g d
  cases c with
  | false =>
    rw [if_neg a6] at d
    exact ae Bs.eng {} 2 g λW g=>an _ _ (Hv (ra:=ra) (n:=n) (rcap:=rcap) (cap:=cap) (R:=R) FT PG hlz hl A g d)
  | true =>
    rw [if_pos rfl] at d
    unfold kG at d
    cases t0:(bits .and .u64 (e/16) 1==1)<;>cases j:(bits .and .u64 (e/64) 3 != 0)<;>rw [t0,j] at d<;>obtain rfl|rfl|rfl:lv=0\/lv=1\/lv=2:=ab
    all_goals first
     | (rw [if_pos (by rfl)] at d
        exact nJ (i:=0) (cs:=(bP kind:Fd).cells) g {eq:=[(109,cZ .u64 (sy e 4 16 a6)),(115,cZ .u64 (sy e 6 64 a6)),(111,af t0),(117,af j)],cv:=[(120,eY λW _=>PG W)]} 60 rfl rfl a4 (lu _) underlying243 rfl results197 a4 a4 (λ_=>a4) λW m=>⟨by rw [d],m⟩)
     | (rw [if_neg a6] at d
        exact C4 Bs.eng {eq:=[(109,cZ .u64 (sy e 4 16 a6)),(115,cZ .u64 (sy e 6 64 a6)),(111,af t0),(117,af j)]} 60 g λa k U S=>O a k _ ab d (S.less a4) U)
 have E:∀ c W,Bs w wB W->(V=if c=true then bP kind else if mm e=true then if kG e lv=true then bP kind else bJ zs n l p va kind (lv-1) (Uz.wrap (eZ e*4096)) else db l p va kind e X lv)->wW V w (.code (ay 1 (iZ (ay 6 wD)))::.code (ay 7 wD)::wT R) (wF ra n rcap b off cap p va kind w [(12,.u lv,0),(13,.u X,0),(14,.u e,0),(15,.u (aq e 1),0),(16,.u (aq e 2),0),(17,.u (aq e 3),0),(93,.bool c,0)]) W:=by
  intro c W g d
  cases c with
  | true=>rw [if_pos rfl] at d;exact nJ (i:=0) (cs:=(bP kind:Fd).cells) g {cv:=[(95,eY λW _=>PG W)]} 20 rfl rfl a4 (lu _) underlying243 rfl results197 a4 a4 (λ_=>a4) λW m=>⟨by rw [d],m⟩
  | false =>
    rw [if_neg a6] at d
    obtain ⟨c,o⟩:∃ c,c=mm e:=⟨_,rfl⟩
    rw [<- o] at d
    unfold mm at o
    cases t0:(aq e 1==0)<;>cases j:(aq e 3==0)<;>(
     rw [t0,j] at o
     subst o
     exact ae Bs.eng {eq:=[(97,cZ .u64 (sy e 10 1024 a6)),(100,af t0),(103,af j)]} 19 g λW g=>an _ _ (F _ W g d))
 have D:gU n X 8=true->∀ W,Bs w wB W->(V=if pf e=true then bP kind else if mm e=true then if kG e lv=true then bP kind else bJ zs n l p va kind (lv-1) (Uz.wrap (eZ e*4096)) else db l p va kind e X lv)->wW V w (.code (ay 2 wD)::wT R) (wF ra n rcap b off cap p va kind w [(12,.u lv,0),(13,.u X,0)]) W:=by
  intro B W g d
  have M:∀ W,Bw w W->CE 136 #[.slice ra n rcap,.u X,.i 8] W (.u e):=λW m=>by
   have P:=yI B
   obtain ⟨f,q⟩:∃ f:Nat,X=2147483648+(f:Int):=⟨(X-2147483648).toNat,ab⟩
   have I:=gu hr
   have h:=tZ ra n rcap f 8 zs W hz ab (hs.below m) C ab ab ab
   have N:le zs f 8=e:=by rw [<- J];unfold fF;rw [q,show (2147483648+(f:Int)-2147483648).toNat=f from ab]
   rw [N,<- q] at h
   exact h
  obtain ⟨c,o⟩:∃ c,c=pf e:=⟨_,rfl⟩
  rw [<- o] at d
  unfold pf at o
  cases t0:(bits .and .u64 e 1==0)<;>cases j:(aq e 1==0)<;>cases K:(aq e 2==1)<;>cases L:(e/18014398509481984 != 0)<;>(
   rw [t0,j,K,L] at o
   subst o
   exact ae Bs.eng {eq:=[(91,cZ .u64 (sy e 54 18014398509481984 a6)),(80,af t0),(83,af j),(86,af K),(92,af L)],cv:=[(71,jX M),(73,jX (s e 1 ab)),(75,jX (s e 2 ab)),(77,jX (s e 3 ab))]} 45 g λW g=>an _ _ (E _ W g d))
 cases t0:gU n X 8<;>cases j:aE l 1 X (bm X 8) 2 4 0<;>rw [t0] at t<;>rw [j] at u<;>rw [t0] at d<;>(try rw [j] at d)<;>obtain rfl|rfl|rfl:lv=0\/lv=1\/lv=2:=ab
 all_goals first
  | (rw [if_pos rfl,if_pos rfl] at d
     exact ae Bs.eng {eq:=[(53,cZ .u64 H),(13,cZ .u64 r)],cv:=[(59,jX t),(64,jX u)]} 31 g λW g=>an _ _ (D t0 W g d))
  | (first | rw [if_pos rfl,if_neg a6] at d | rw [if_neg a6] at d
     exact nJ (i:=0) (cs:=(fT kind:Fd).cells) g {eq:=[(53,cZ .u64 H),(13,cZ .u64 r)],cv:=[(68,eY λW _=>FT W),(59,jX t),(64,jX u)]} 60 rfl rfl a4 (lu _) underlying243 rfl results197 a4 a4 (λ_=>a4) λW m=>⟨by rw [d],m⟩)
end
theorem DP (ra:Option Addr) (n rcap:Nat) (zs:List Int) (b off cap:Nat) (l:List Int) (p va kind:Int) (w:World) (hr:bq n=true) (hz:zs.length=n) (hs:Sl .u8 w ra zs) (t:∀ y ∈ zs,(Lit.int .u8 y).wf=true) (hlz:l.length=22) (hl:Sl .u64 w (some ⟨b,off,none⟩) l) (K:bN p=true) (k:1<=kind) (m:kind<=3) (G:0<=va/\va<18446744073709551616):CB 197 #[.slice ra n rcap,.slice (some ⟨b,off,none⟩) 22 cap,.i p,.u va,.i kind] w (.agg (bT zs n l p va kind).cells):=by
 have FT:=AZ kind k m;have PG:=DB kind k m;obtain ⟨I,z,v,h,c⟩:=hl 15 ab;simp only [Option.some.injEq,Addr.mk.injEq,and_true] at v;obtain ⟨rfl,rfl⟩:=v;have c:∀ W,Bs w wB W->W.cell? ⟨b,off+15,none⟩=some (.u (l.getD 15 0)):=λW f=>(f.2.cell (by exact h)).trans c;have u:∀ W,Bw w W->CE 144 #[.u va,.u 39] W (.u (av 39 va)):=λW _=>dO va 39 ab ab W;obtain ⟨V,d⟩:∃ V,V=bT zs n l p va kind:=⟨_,rfl⟩;rw [<- d];unfold bT at d;refine bf (S:=Bs w wB) (args:=[.slice ra n rcap,.slice (some ⟨b,off,none⟩) 22 cap,.i p,.u va,.i kind]) wB func197 ?_;have f:=Bs.start w wB;have g:=sy (l.getD 15 0) 60 1152921504606846976 a6;generalize dZ w wB=W at f ⊢;cases t0:(p==3)<;>cases q:(l.getD 15 0/1152921504606846976==0)<;>rw [t0,q] at d;all_goals try (rw [if_pos (by rfl)] at d;exact nJ (i:=0) (cs:=(⟨va,0,false,0,0⟩:Fd).cells) f {eq:=[(30,cZ .u64 g),(25,af t0),(31,af q)],ov:=[(29,jk ⟨b,off+15,none⟩ _ underlying22 rfl c)]} 60 rfl rfl a4 (lu _) underlying243 rfl results197 a4 a4 (λ_=>a4) λW s=>⟨by rw [d],s⟩)
 rw [if_neg a6] at d;cases r:(av 39 va != va);case true=>rw [r,if_pos rfl] at d;exact nJ (i:=0) (cs:=(bP kind:Fd).cells) f {eq:=[(30,cZ .u64 g),(25,af t0),(31,af q),(38,af r)],ov:=[(29,jk ⟨b,off+15,none⟩ _ underlying22 rfl c)],cv:=[(40,eY λW _=>PG W),(36,jX u)]} 60 rfl rfl a4 (lu _) underlying243 rfl results197 a4 a4 (λ_=>a4) λW s=>⟨by rw [d],s⟩
 rw [r,if_neg a6] at d;refine ae Bs.eng {eq:=[(30,cZ .u64 g),(25,af t0),(31,af q),(38,af r)],ov:=[(29,jk ⟨b,off+15,none⟩ _ underlying22 rfl c),(43,jk ⟨b,off+15,none⟩ _ underlying22 rfl c)],cv:=[(36,jX u)]} 100 f λW f=>an [.code (pq (ay 5 (aW Tryz.f197))),.blk 0] (wF ra n rcap b off cap p va kind w [(11,.u (nN l),0),(12,.u ((2:Nat):Int),0)]) ?_;refine jc (α:=Nat × Int) (λx=>wF ra n rcap b off cap p va kind w [(11,.u x.2,0),(12,.u (x.1:Int),0)]) (λj x W=>j=x.1/\x.1<=2/\V=bJ zs n l p va kind x.1 x.2/\Bs w wB W) 2 (2,nN l) a4 a4 ⟨rfl,Nat.le_refl _,d,f⟩ λj x W D R E=>?_;obtain ⟨rfl,C,d,f⟩:=D;exact DO FT PG hlz hl hr hz hs t C f d λa o A J B F H=>E a o (x.1-1) (x.1-1,A) ab F ⟨rfl,by show x.1-1<=2;omega,B,H⟩
theorem mt:U (cN V z):=by
 unfold cN;split;·exact aj _ _ _
 ·exact aj _ _ _
theorem xz (e x:Int) (lv:Nat) (h:(db m V z C e x lv).marked=true):(db m V z C e x lv).at_=x/\U (db m V z C e x lv).entry:=by
 unfold db at h ⊢;split at h;·cases h
 ·rename_i a;split at h;·cases h
  ·rename_i b;split at h;·cases h
   ·rename_i c;rw [if_neg a,if_neg b,if_neg c];split at h
    ·rename_i d;rw [if_pos d];split at h;·rename_i f;rw [if_pos f];exact ⟨rfl,mt e C⟩
     ·cases h
    ·cases h
theorem DQ (va kind:Int):∀ lv T,(bJ m f R V va kind lv T).marked=true->gU f (bJ m f R V va kind lv T).at_ 8=true/\U (bJ m f R V va kind lv T).entry:=by
 intro lv;induction lv with
 | zero =>
   intro T h;rw [bJ] at h ⊢;split at h
   ·rename_i a;rw [if_pos a];split at h
    ·rename_i e;rw [if_pos e];split at h;·cases h
     ·rename_i n;rw [if_neg n];split at h;·cases h
      ·rename_i b;rw [if_neg b];obtain ⟨c,d⟩:=xz _ _ _ _ _ _ _ h;rw [c];exact ⟨a,d⟩
    ·cases h
   ·cases h
 | succ lv i =>
   intro T h;rw [bJ] at h ⊢;split at h
   ·rename_i a;rw [if_pos a];split at h
    ·rename_i e;rw [if_pos e];split at h;·cases h
     ·rename_i n;rw [if_neg n];split at h
      ·rename_i b;rw [if_pos b];split at h;·cases h
       ·rename_i g;rw [if_neg g];exact i _ h
      ·rename_i b;rw [if_neg b];obtain ⟨c,d⟩:=xz _ _ _ _ _ _ _ h;rw [c];exact ⟨a,d⟩
    ·cases h
   ·cases h
theorem Hy (h:(bT m f R V z C).marked=true):gU f (bT m f R V z C).at_ 8=true/\U (bT m f R V z C).entry:=by
 unfold bT at h ⊢;split at h;·cases h
 ·rename_i a;rw [if_neg a];split at h;·cases h
  ·rename_i b;rw [if_neg b];exact DQ _ _ _ _ _ _ _ _ h
def ji (kind:Int):Bool:=decide (1<=kind/\kind<=3)
def nn (n m:Nat) (l:List Int) (p kind:Int):Bool:=bq n&&be m l p&&ji kind
def Fg (zs:List Int) (n m:Nat) (l:List Int) (p va kind:Int):Int:=if nn n m l p kind=true then (bT zs n l p va kind).addr else 0
def Fh (zs:List Int) (n m:Nat) (l:List Int) (p va kind:Int):Int:=if nn n m l p kind=true then (bT zs n l p va kind).code else if ji kind=true then dz kind else 1
def bo (zs:List Int) (f:Fd):List Int:=if f.marked=true then lP zs (f.at_-2147483648).toNat f.entry 8 else zs
def uU (zs:List Int) (n m:Nat) (l:List Int) (p va kind:Int):List Int:=if nn n m l p kind=true then bo zs (bT zs n l p va kind) else []
theorem kj (f:Fd):(bo m f).length=m.length:=by
 unfold bo;split;·rw [kI]
 ·rfl
theorem om {o:Obj} (h:w.heap[M]?=some o) (a:Obj):(w.alloc a).heap[M]?=some o:=(Below.heap_alloc w a M (Array.getElem?_eq_some_iff.1 h).1).trans h
theorem DR (hb:f<=k.heap.size) (o:Obj) (a:o=.cells #[] 5 (0,0)):(k.alloc o).ownsRow f 5 1 (.slice (some ⟨k.heap.size,0,none⟩) 0 0) 0 (([]:List Int).map (Value.int .u8)):=by subst a;exact World.ownsRow_lit k #[] 0 hb fb rfl
def ig (kind:Int):Int:=if kind=1 then 17 else if kind=2 then 21 else 23
def oo (kind:Int):Int:=if kind=1 then 16 else if kind=2 then 20 else 22
def bG (M:MV) (R:List Int):MV:=⟨M.pc,M.x,M.pr,M.cs,R,M.d,M.hd,M.hl,M.wt⟩
def ch (M:MV) (D:DV):MV:=⟨M.pc,M.x,M.pr,M.cs,M.ram,D,M.hd,M.hl,M.wt⟩
def lB (M:MV):MV:=⟨M.pc,M.x,M.pr,M.cs,M.ram,M.d,0,false,M.wt⟩
def lC (M:MV) (pa:Int):Bool:=M.hl&&(bits .andNot .u64 M.hd 7==bits .andNot .u64 pa 7)
def nO (M:MV) (pa:Int):MV:=if lC M pa=true then lB M else M
def sA (M:MV) (pa size kind x:Int):Int × MV × Int :=
 if gU M.ram.length pa size=true then
  (if (kind==3)=true then (0,nO (bG M (lP M.ram (pa-2147483648).toNat x size.toNat)) pa,0) else (le M.ram (pa-2147483648).toNat size.toNat,M,0))
 else if (kind==2)=true then
  (if (jq M.d (gC pa size)).2.2=true then ((jq M.d (gC pa size)).1,bL (ch M (jq M.d (gC pa size)).2.1),0) else (0,M,ig kind))
 else if (kind==3)=true then
  (if (fL M.d x (gC pa size)).2=true then (0,nO (bL (ch M (fL M.d x (gC pa size)).1)) pa,0) else (0,M,ig kind))
 else (0,M,ig kind)
def Hz (l:List Int) (p pa size kind:Int):Bool:=decide (bm pa size<pa)||!aE l p pa (bm pa size) kind 4 0
def yV (M:MV) (p addr size kind x:Int) (F:Fd):Int × MV × Int :=
 if (F.code != 0)=true then (0,bG M (bo M.ram F),wrap64 (F.code+16))
 else if Hz M.cs p F.addr size kind=true then (0,bG M (bo M.ram F),ig kind)
 else sA (bG M (bo M.ram F)) F.addr size kind x
def aC (M:MV) (addr size kind x:Int):Int × MV × Int :=
 if (addr%size != 0)=true then (0,M,oo kind)
 else yV M (fV M.cs M.pr kind) addr size kind x (bT M.ram M.ram.length M.cs (fV M.cs M.pr kind) addr kind)
theorem aZ.sub {L':List FRow} (h:aZ M r w g) (hs:L'.Sublist g):aZ M r w L' :=
 ⟨λq a=>h.own q (hs.subset a),λq a=>h.hi q (hs.subset a),h.ne.sublist hs⟩
theorem aZ.ins {L2:List FRow} (h:aZ M r w (g++L2)) (i:w.ownsRow r q.t 1 q.v q.n q.xs) (j:M<=r) (l:w.heap.size<=W) (m:r<=W):aZ M W w (g++q::L2):=by
 have b:=List.pairwise_append.1 h.ne;have d:∀ s ∈ g++L2,∀ k,s.v.ownBlock=some k->k<r:=λs a k e=>h.hi s a k e;have L1:∀ k,q.v.ownBlock=some k->r<=k/\k<w.heap.size:=λk e=>i.lt k e;refine ⟨λs a=>?_,λs a k e=>?_,List.pairwise_append.2 ⟨b.1,List.pairwise_cons.2 ⟨λs a k e c=>?_,b.2.1⟩,λs a t f k e c=>?_⟩⟩
 ·rcases List.mem_append.1 a with a|a;·exact h.own s (List.mem_append_left _ a)
  ·rcases List.mem_cons.1 a with rfl|a;·exact dG i j
   ·exact h.own s (List.mem_append_right _ a)
 ·rcases List.mem_append.1 a with a|a;·have:=d s (List.mem_append_left _ a) k e;omega
  ·rcases List.mem_cons.1 a with rfl|a;·have:=L1 k e;omega
   ·have:=d s (List.mem_append_right _ a) k e;omega
 ·have:=L1 k e;have:=d s (List.mem_append_right _ a) k c;omega
 ·rcases List.mem_cons.1 f with rfl|f;·have:=L1 k c;have:=d s (List.mem_append_left _ a) k e;omega
  ·exact b.2.2 s a t f k e c
theorem aZ.app {L2:List FRow} (h:aZ M r w g) (b:aZ r W w L2) (d:M<=r) (L1:r<=W):aZ M W w (g++L2):=by
 refine ⟨λs a=>?_,λs a k e=>?_,List.pairwise_append.2 ⟨h.ne,b.ne,λs a t f k e c=>?_⟩⟩
 ·rcases List.mem_append.1 a with a|a;·exact h.own s a
  ·exact dG (b.own s a) d
 ·rcases List.mem_append.1 a with a|a;·have:=h.hi s a k e;omega
  ·exact b.hi s a k e
 ·have:=h.hi s a k e;have:=((b.own t f).lt k c).1;omega
def lR (A:MA) (a:Option Addr) (c:Nat) (b:Option Addr) (d:Nat):MA:=⟨A.ax,A.cx,A.ac,A.cc,A.ar,A.cr,a,c,b,d⟩
theorem Fi (h:aZ M w.heap.size w (aJ n b)) (k:M<=w.heap.size) (hb:Bw w A) (D:DV) {d:Option Addr} {f:Nat} {e:Option Addr} {g:Nat} (hr:fo w A b.ai b.ci n.d.xs b.ao b.co n.d.ys d f D.xs e g D.ys):aZ M A.heap.size A (aJ (ch n D) (lR b d f e g)):=by
 have c:=h.below hb;rcases hr with ⟨⟨rfl,rfl,i⟩,rfl,rfl,j⟩|⟨a,rfl,rfl,j⟩|⟨⟨rfl,rfl,i⟩,a⟩|a;·unfold aJ ch lR;dsimp only;rw [i,j];exact c.low (Nat.le_refl _) hb.size
 ·have w':aZ M w.heap.size A ([aG b.ax n.x.length b.cx n.x,aG b.ac n.cs.length b.cc n.cs,aw b.ar n.ram.length b.cr n.ram]++[aw b.ao n.d.ys.length b.co n.d.ys]):=c.sub (by unfold aJ;simp);unfold aJ ch lR;dsimp only;rw [j];exact w'.ins (q:=aw d D.xs.length f D.xs) a k (Nat.le_refl _) hb.size
 ·have w':aZ M w.heap.size A ([aG b.ax n.x.length b.cx n.x,aG b.ac n.cs.length b.cc n.cs,aw b.ar n.ram.length b.cr n.ram,aw b.ai n.d.xs.length b.ci n.d.xs]++[]):=c.sub (by unfold aJ;simp);unfold aJ ch lR;dsimp only;rw [i];exact w'.ins (q:=aw e D.ys.length g D.ys) a k (Nat.le_refl _) hb.size
 ·have w':aZ M w.heap.size A [aG b.ax n.x.length b.cx n.x,aG b.ac n.cs.length b.cc n.cs,aw b.ar n.ram.length b.cr n.ram]:=c.sub (by unfold aJ;simp);exact w'.app a k hb.size
theorem Fj {g:Option Addr} {j:Nat} {i:Option Addr} {l:Nat} (hr:fo w A b.ai b.ci n.d.xs b.ao b.co n.d.ys g j s.xs i l s.ys):∀ q ∈ aJ (ch n s) (lR b g j i l),∀ k,q.v.ownBlock=some k->k<w.heap.size->∃ q0 ∈ aJ n b,q0.v.ownBlock=some k:=by
 intro q o k e c;simp only [aJ,ch,lR,List.mem_cons,List.not_mem_nil,or_false] at o;have f:∀ (w':Option Addr) (d:Nat) (zs:List Int),A.ownsRow w.heap.size 5 1 (.slice w' zs.length d) zs.length (zs.map (Value.int .u8))->∀ k,(Value.slice w' zs.length d).ownBlock=some k->k<w.heap.size->False:=λw' d zs h k e c=>by have:=(h.lt k e).1;omega
 have m4:aw b.ai n.d.xs.length b.ci n.d.xs ∈ aJ n b:=ck
 have p:aw b.ao n.d.ys.length b.co n.d.ys ∈ aJ n b:=ck
 rcases o with rfl|rfl|rfl|rfl|rfl;·exact ⟨_,ck,e⟩
 ·exact ⟨aG b.ac n.cs.length b.cc n.cs,ck,e⟩
 ·exact ⟨aw b.ar n.ram.length b.cr n.ram,ck,e⟩
 ·rcases hr with ⟨⟨rfl,rfl,m⟩,_⟩|⟨a,_⟩|⟨⟨rfl,rfl,m⟩,_⟩|a;·rw [m] at e;exact ⟨_,m4,e⟩
  ·exact (f _ _ _ a k e c).elim
  ·rw [m] at e;exact ⟨_,m4,e⟩
  ·exact (f _ _ _ (a.own (aw g s.xs.length j s.xs) x9) k e c).elim
 ·rcases hr with ⟨_,rfl,rfl,M⟩|⟨_,rfl,rfl,M⟩|⟨_,a⟩|a;·rw [M] at e;exact ⟨_,p,e⟩
  ·rw [M] at e;exact ⟨_,p,e⟩
  ·exact (f _ _ _ a k e c).elim
  ·exact (f _ _ _ (a.own (aw i s.ys.length l s.ys) x9) k e c).elim
def Fk (w:World) (r:Nat) (D:DV) (a:Option Addr) (c:Nat) (b:Option Addr) (d:Nat):World:=(((((w.setCell ⟨r,5,none⟩ (.u D.t)).setCell ⟨r,6,none⟩ (.u D.cm)).setCell ⟨r,7,none⟩ (.bool D.so)).setCell ⟨r,8,none⟩ (.slice a D.xs.length c)).setCell ⟨r,9,none⟩ (.slice b D.ys.length d)).setCell ⟨r,10,none⟩ (.i D.ir)
theorem Kx.put6r (b:Option Addr) (d:Nat):Kx r g g k (Fk k r s y f b d):=
 (((((Kx.set k 5 _).trans (Kx.set _ 6 _)).trans (Kx.set _ 7 _)).trans (Kx.set _ 8 _)).trans (Kx.set _ 9 _)).trans (Kx.set _ 10 _)
theorem Mp.fam_set (h:aZ M w.heap.size w g) (b:∀ q ∈ g,q.v.ownBlock≠some r) (i:Nat) (v:Value):aZ M (w.setCell ⟨r,i,none⟩ v).heap.size (w.setCell ⟨r,i,none⟩ v) g :=
 ⟨λq a=>ew (h.own q a) (λk e=>Below.heap_setCell w ⟨r,i,none⟩ v k (λc=>b q a (by rw [show r=k from c.symm];exact e))),λq a k e=>by rw [aO];exact h.hi q a k e,h.ne⟩
theorem Mp.dev (h:Mp M r n b w) (hb:Bw w A) (D:DV) {w':Option Addr} {d:Nat} {c:Option Addr} {f:Nat} (hr:fo w A b.ai b.ci n.d.xs b.ao b.co n.d.ys w' d D.xs c f D.ys):Mp M r (ch n D) (lR b w' d c f) (Fk A r D w' d c f)/\Kx r (aJ n b) (aJ (ch n D) (lR b w' d c f)) w (Fk A r D w' d c f):=by
 have i:=h.lt;have s:M<=w.heap.size:=by have:=h.lo;omega
 have g:=Fj D hr;have a:∀ q ∈ aJ (ch n D) (lR b w' d c f),q.v.ownBlock≠some r:=λq v e=>by obtain ⟨y,p,o⟩:=g q v r e i;exact h.ne y p o
 have t:=Fi h.fam s hb D hr;refine ⟨⟨?_,?_,a,h.lo⟩,?_⟩;·have j:=aB hb h.row;unfold ap at j;have R1:=bC j 5 (.u D.t);have R2:=bC R1 6 (.u D.cm);have l:=bC R2 7 (.bool D.so);have m:=bC l 8 (.slice w' D.xs.length d);have B:=bC m 9 (.slice c D.ys.length f);exact bC B 10 (.i D.ir)
 ·exact Mp.fam_set (Mp.fam_set (Mp.fam_set (Mp.fam_set (Mp.fam_set (Mp.fam_set t a 5 _) a 6 _) a 7 _) a 8 _) a 9 _) a 10 _
 ·have x:Kx r (aJ n b) (aJ (ch n D) (lR b w' d c f)) w A:=⟨hb.os,hb.tape,hb.output,hb.size,λk u _ _=>hb.block k u,g⟩;exact x.trans (Kx.put6r A D w' d c f)
theorem Bn (r:Nat) (addr size x:Int) (w:World) (hl:E.ram.length<=1048576) (p:gU E.ram.length addr size=true) (u:0<=x) (v:x<=18446744073709551615) (h:Mp f r E e w): Calls prog 137 #[.slice e.ar E.ram.length e.cr,.u addr,.i size,.u x] w λA c=>A=.returned (.tuple #[])/\Mp f r (bG E (lP E.ram (addr-2147483648).toNat x size.toNat)) e c/\Kx r (aJ E e) (aJ (bG E (lP E.ram (addr-2147483648).toNat x size.toNat)) e) w c:=by
 have P:=j8 p;obtain ⟨B,K⟩:∃ B:Nat,B=(addr-2147483648).toNat:=⟨_,rfl⟩;obtain ⟨m,L⟩:∃ m:Nat,m=size.toNat:=⟨_,rfl⟩;have F:addr=2147483648+(B:Int):=ab
 have G:size=(m:Int):=ab
 have j:aw e.ar E.ram.length e.cr E.ram ∈ aJ E e:=ck
 have C:=h.fam.own _ j;have l:B+m<=E.ram.length:=ab
 have i:∃ g,e.ar=some ⟨g,0,none⟩:=by
  rcases C.2 with ⟨A,k⟩|⟨y,cap,D,A,_⟩;·have:E.ram.length=0:=k;omega
  ·have M:Value.slice e.ar E.ram.length e.cr=.slice (some ⟨y,0,none⟩) E.ram.length cap:=A;injection M with e3
   exact ⟨y,e3⟩
 obtain ⟨g,i⟩:=i;have a:(lP E.ram B x m).length=E.ram.length:=kI _ _ _ _;rw [<- K,<- L];rw [F,G];have o:w.ownsRow f 5 1 (.slice (some ⟨g,0,none⟩) E.ram.length e.cr) E.ram.length (E.ram.map (Value.int .u8)):=by rw [<- i];exact C
 rw [i];refine (GC g E.ram.length e.cr B m f E.ram x w hl ab l u v o).mono λA c ⟨I,J,z⟩=>⟨I,?_⟩;have n:w.grownBy c (aw e.ar E.ram.length e.cr E.ram).v.ownBlock:=by have A:(aw e.ar E.ram.length e.cr E.ram).v.ownBlock=some g:=(by show (Value.slice e.ar E.ram.length e.cr).ownBlock=_;rw [i];rfl);rw [A];exact z
 have t:c.ownsRow f 5 1 (aw e.ar E.ram.length e.cr E.ram).v E.ram.length ((lP E.ram B x m).map (Value.int .u8)):=by show c.ownsRow f 5 1 (.slice e.ar E.ram.length e.cr) _ _;rw [i];exact J
 have d:=aZ.markL (L1:=[aG e.ax E.x.length e.cx E.x,aG e.ac E.cs.length e.cc E.cs]) (L2:=[aw e.ai E.d.xs.length e.ci E.d.xs,aw e.ao E.d.ys.length e.co E.d.ys]) (r:=aw e.ar E.ram.length e.cr E.ram) h.fam n _ t;have b:=iY (M:=E) (M':=bG E (lP E.ram B x m)) (A:=e) rfl rfl a rfl rfl;have hF:aZ f w.heap.size c (aJ (bG E (lP E.ram B x m)) e):=by unfold aJ bG;dsimp only;rw [a];exact d.1
 refine ⟨⟨?_,hF.low (Nat.le_refl _) z.size,λq s A=>?_,h.lo⟩,Kx.of_keepL d.2 b⟩;·have N:c.heap[r]?=w.heap[r]?:=d.2.block r h.lt (λq s A=>h.ne q s A);rw [N,h.row];unfold ap bG;dsimp only;rw [a]
 ·obtain ⟨O,H,k⟩:=b q s;exact h.ne O H (by rw [k];exact A)
theorem Mp.xrow (h:Mp M r n b w):w.ownsRow M 22 1 (.slice b.ax n.x.length b.cx) n.x.length (n.x.map (Value.int .u64)):=h.fam.own (aG b.ax n.x.length b.cx n.x) ck
theorem Mp.crow (h:Mp M r n b w):w.ownsRow M 22 1 (.slice b.ac n.cs.length b.cc) n.cs.length (n.cs.map (Value.int .u64)):=h.fam.own (aG b.ac n.cs.length b.cc n.cs) ck
theorem kS:(m.map (Value.int .u64)).set f (.u V)=(m.set f V).map (Value.int .u64):=by rw [List.map_set]
def xM (M:MV) (xs:List Int):MV:={M with x:=xs}
def cM (M:MV) (cs:List Int):MV:={M with cs:=cs}
theorem Mp.setX (h:Mp M W n b w) (A:Nat) (hb:b.ax=some ⟨A,0,none⟩) (i:Nat) (v:Int):Mp M W (xM n (n.x.set i v)) b (w.setCell ⟨A,i,none⟩ (.u v))/\Below M w (w.setCell ⟨A,i,none⟩ (.u v)):=by
 have g:=h.xrow;rw [hb] at g;have f:=g.stored i (.u v);rw [kS] at f;have m:=((g.lt A rfl)).1;have r:w.grownBy (w.setCell ⟨A,i,none⟩ (.u v)) (aG b.ax n.x.length b.cx n.x).v.ownBlock:=by simp only [aG];rw [hb];exact f.2
 have o:=aZ.mark (L1:=[]) (r:=aG b.ax n.x.length b.cx n.x) (L2:=[aG b.ac n.cs.length b.cc n.cs,aw b.ar n.ram.length b.cr n.ram,aw b.ai n.d.xs.length b.ci n.d.xs,aw b.ao n.d.ys.length b.co n.d.ys]) h.fam r ((n.x.set i v).map (Value.int .u64)) sb;have a:=h.ne (aG b.ax n.x.length b.cx n.x) ck;have d:W≠A:=λe=>a (by simp only [aG];rw [hb,e];rfl);have c:(w.setCell ⟨A,i,none⟩ (.u v)).heap.size=w.heap.size:=aO _ _ _;have j:aJ (xM n (n.x.set i v)) b=[]++⟨(aG b.ax n.x.length b.cx n.x).t,(aG b.ax n.x.length b.cx n.x).v,(aG b.ax n.x.length b.cx n.x).n,(n.x.set i v).map (Value.int .u64)⟩::[aG b.ac n.cs.length b.cc n.cs,aw b.ar n.ram.length b.cr n.ram,aw b.ai n.d.xs.length b.ci n.d.xs,aw b.ao n.d.ys.length b.co n.d.ys]:=by simp [aJ,xM,aG]
 refine ⟨⟨?_,?_,?_,h.lo⟩,⟨rfl,rfl,rfl,by rw [c];exact Nat.le_refl _,λk p=>Below.heap_setCell _ _ _ k a9⟩⟩;·have:=dS h.row ⟨A,i,none⟩ (.u v) d;simpa [ap,xM] using this
 ·rw [j,c];exact o.1
 ·rw [j];intro q l;simp only [List.nil_append,List.mem_cons,List.not_mem_nil,or_false] at l;rcases l with rfl|rfl|rfl|rfl|rfl;·exact a
  ·exact h.ne _ ck
  ·exact h.ne _ ck
  ·exact h.ne _ ck
  ·exact h.ne _ ck
theorem Mp.setC (h:Mp M W n b w) (A:Nat) (hb:b.ac=some ⟨A,0,none⟩) (i:Nat) (v:Int):Mp M W (cM n (n.cs.set i v)) b (w.setCell ⟨A,i,none⟩ (.u v))/\Below M w (w.setCell ⟨A,i,none⟩ (.u v)):=by
 have g:=h.crow;rw [hb] at g;have f:=g.stored i (.u v);rw [kS] at f;have m:=((g.lt A rfl)).1;have r:w.grownBy (w.setCell ⟨A,i,none⟩ (.u v)) (aG b.ac n.cs.length b.cc n.cs).v.ownBlock:=by simp only [aG];rw [hb];exact f.2
 have o:=aZ.mark (L1:=[aG b.ax n.x.length b.cx n.x]) (r:=aG b.ac n.cs.length b.cc n.cs) (L2:=[aw b.ar n.ram.length b.cr n.ram,aw b.ai n.d.xs.length b.ci n.d.xs,aw b.ao n.d.ys.length b.co n.d.ys]) h.fam r ((n.cs.set i v).map (Value.int .u64)) sb;have a:=h.ne (aG b.ac n.cs.length b.cc n.cs) ck;have d:W≠A:=λe=>a (by simp only [aG];rw [hb,e];rfl);have c:(w.setCell ⟨A,i,none⟩ (.u v)).heap.size=w.heap.size:=aO _ _ _;have j:aJ (cM n (n.cs.set i v)) b=[aG b.ax n.x.length b.cx n.x]++⟨(aG b.ac n.cs.length b.cc n.cs).t,(aG b.ac n.cs.length b.cc n.cs).v,(aG b.ac n.cs.length b.cc n.cs).n,(n.cs.set i v).map (Value.int .u64)⟩::[aw b.ar n.ram.length b.cr n.ram,aw b.ai n.d.xs.length b.ci n.d.xs,aw b.ao n.d.ys.length b.co n.d.ys]:=by simp [aJ,cM,aG]
 refine ⟨⟨?_,?_,?_,h.lo⟩,⟨rfl,rfl,rfl,by rw [c];exact Nat.le_refl _,λk p=>Below.heap_setCell _ _ _ k a9⟩⟩;·have:=dS h.row ⟨A,i,none⟩ (.u v) d;simpa [ap,cM] using this
 ·rw [j,c];exact o.1
 ·rw [j];intro q l;simp only [List.cons_append,List.nil_append,List.mem_cons,List.not_mem_nil,or_false] at l;rcases l with rfl|rfl|rfl|rfl|rfl;·exact h.ne _ ck
  ·exact a
  ·exact h.ne _ ck
  ·exact h.ne _ ck
  ·exact h.ne _ ck
theorem nK (t ty:TypeId) (old cells:Array Value) (d:k.heap[f]?=some (.cells old t (0,0))) (b:(P.info? ty).map (·.size)=some cells.size) (h:I+cells.size<=old.size) (c:cells.all (·.oneCell')=true): (storeVar ty ⟨f,I,none⟩ (.agg cells)).run P k=.ok () (k.setRow f (old.toList.take I++cells.toList++old.toList.drop (I+cells.size)).toArray):=by
 have:=run_storeCells_at (P:=P) f I t cells.toList 0 old k d a8 (λv g=>(Array.all_eq_true_iff_forall_mem.1 c) v vw);cases a:P.info? ty with
 | none=>simp [a] at b
 | some i =>have e:cells.size=i.size:=(by simp [a] at b;omega);simp only [Nat.add_zero,Array.length_toList] at this;simp only [List.append_assoc] at this ⊢;simp [storeVar,sizeOf,typeInfo,a,Value.cells,e,this]
theorem Mp.fld (h:Mp M r n b w) (i:Nat) (v:Value) (A:ap M' b=(ap n b).setIfInBounds i v) (a:aJ M' b=aJ n b):Mp M r M' b (w.setCell ⟨r,i,none⟩ v)/\Kx r (aJ n b) (aJ M' b) w (w.setCell ⟨r,i,none⟩ v):=by refine ⟨⟨?_,by rw [a];exact Mp.fam_set h.fam h.ne i v,by rw [a];exact h.ne,h.lo⟩,by rw [a];exact Kx.set w i v⟩;rw [A];exact bC h.row i v
theorem Fl {L:List FRow} (l:q ∈ L) {b:Nat} (e:q.v.ownBlock=some b) (hs:∀ q ∈ g,∃ c ∈ L,c.v=q.v) (w:World) (i:Nat) (v:Value):Kx r L g w (w.setCell ⟨b,i,none⟩ v):=
 ⟨rfl,rfl,rfl,ep,λk _ _ j=>Below.heap_setCell w ⟨b,i,none⟩ v k (λL'=>j q l (by rw [e];exact congrArg some L'.symm)),λm a k d _=>by obtain ⟨c,h,f⟩:=hs m a;exact ⟨c,h,by rw [f];exact d⟩⟩
structure Kr where
 b:Nat
 cs:Array Value
 t:TypeId
 tg:List (Nat × Nat)
structure Hx (B r:Nat) (L:List Kr) (M0:MV) (A0:MA) (w0:World) (M:MV) (A:MA) (W:World):Prop where
 mp:Mp B r M A W
 kx:Kx r (aJ M0 A0) (aJ M A) w0 W
 rows:∀ x ∈ L,W.heap[x.b]?=some (.cells x.cs x.t (0,0))/\x.b≠r/\∀ q ∈ aJ M A,q.v.ownBlock≠some x.b
theorem Hx.step {L:List Kr} {M':MV} {A':MA} (h:Hx M r L n b w x l A) (p:Mp M r M' A' B) (k:Kx r (aJ x l) (aJ M' A') A B):Hx M r L n b w M' A' B :=
 ⟨p,h.kx.trans k,λA0 j=>by
  obtain ⟨w0,c,d⟩:=h.rows A0 j
  have a:=(Array.getElem?_eq_some_iff.1 w0).1
  exact ⟨(k.block A0.b a c d).trans w0,c,λq i e=>by obtain ⟨W,g,f⟩:=k.own q i A0.b e a;exact d W g f⟩⟩
theorem Hx.below {L:List Kr} (h:Hx M r L n b w x l A) (k:Bw A B):Hx M r L n b w x l B:=h.step (h.mp.below k) (Kx.of_below k)
def S7 (r:Nat) (M:MV) (A:MA) (L:List Kr):List Rw:=⟨r,ap M A,[]⟩::L.map (λx=>⟨x.b,x.cs,x.tg⟩)
theorem Hx.eng {L:List Kr} {fn:Func}:oM P (Hx M r L n b w x l) (Hx M r L n b w x l) (S7 r x l L) dr (bodyPost P fn Rs):=
 ⟨λ_ h=>h,λW h M0 a=>by
  rcases List.mem_cons.1 a with rfl|a
  ·exact ⟨_,_,h.mp.row⟩
  ·obtain ⟨y,A0,rfl⟩:=List.mem_map.1 a
   exact ⟨_,_,(h.rows y A0).1⟩,λ_ W h=>h.below (Below.refl _ _).drew,cL⟩
theorem Hx.engL {L:List Kr} {fn:Func} {Rs:Ending->World->Prop} {L':List Kr} (a:∀ M0 ∈ L,M0 ∈ L'):oM d (Hx M r L n b w x l) (Hx M r L' n b w x l) (S7 r x l L) dr (bodyPost d fn Rs):=
 ⟨λ_ h=>⟨h.mp,h.kx,λM0 A0=>h.rows M0 (a M0 A0)⟩,(Hx.eng (P:=d) (fn:=fn) (dr:=dr) (Rs:=Rs)).rows,λ_ W h=>h.below (Below.refl _ _).drew,cL⟩
def Hs (r:Nat) (L:List Kr) (cs:Array Value) (W:World):Prop:=W.heap[r]?=some (.cells cs 32 (0,0))/\∀ x ∈ L,W.heap[x.b]?=some (.cells x.cs x.t (0,0))
theorem Hx.hs {L:List Kr} (h:Hx M r L n b w x l A):Hs r L (ap x l) A:=⟨h.mp.row,λM0 a=>(h.rows M0 a).1⟩
def Tj (r:Nat) (cs:Array Value) (L:List Kr):List Rw:=⟨r,cs,[]⟩::L.map (λx=>⟨x.b,x.cs,x.tg⟩)
theorem Hs.eng {L:List Kr} {fn:Func} (hs:∀ W,Hx M r L n b w x l W->Hs r L t W):oM P (Hs r L t) (Hx M r L n b w x l) (Tj r t L) dr (bodyPost P fn Rs):=
 ⟨hs,λW h M0 a=>by
  rcases List.mem_cons.1 a with rfl|a
  ·exact ⟨_,_,h.1⟩
  ·obtain ⟨y,A0,rfl⟩:=List.mem_map.1 a
   exact ⟨_,_,h.2 y A0⟩,λ_ W h=>h.below (Below.refl _ _).drew,cL⟩
theorem Hx.fld {L:List Kr} (h:Hx M r L n b w x l A) (i:Nat) (v:Value) (a:ap M' l=(ap x l).setIfInBounds i v) (A0:aJ M' l=aJ x l):Hx M r L n b w M' l (A.setCell ⟨r,i,none⟩ v):=h.step (h.mp.fld i v a A0).1 (h.mp.fld i v a A0).2
theorem Hx.setX {L:List Kr} (h:Hx M r L n b w x l A) (A0:Nat) (hb:l.ax=some ⟨A0,0,none⟩) (i:Nat) (v:Int):Hx M r L n b w (xM x (x.x.set i v)) l (A.setCell ⟨A0,i,none⟩ (.u v)):=
 h.step (h.mp.setX A0 hb i v).1 (Fl (L:=aJ x l) (q:=aG l.ax x.x.length l.cx x.x) ck (by show (Value.slice l.ax x.x.length l.cx).ownBlock=_;rw [hb];rfl) (iY (M:=x) (M':=xM x (x.x.set i v)) (show (x.x.set i v).length=x.x.length by simp) rfl rfl rfl rfl) A i _)
theorem Hx.setC {L:List Kr} (h:Hx M r L n b w x l A) (A0:Nat) (hb:l.ac=some ⟨A0,0,none⟩) (i:Nat) (v:Int):Hx M r L n b w (cM x (x.cs.set i v)) l (A.setCell ⟨A0,i,none⟩ (.u v)):=
 h.step (h.mp.setC A0 hb i v).1 (Fl (L:=aJ x l) (q:=aG l.ac x.cs.length l.cc x.cs) ck (by show (Value.slice l.ac x.cs.length l.cc).ownBlock=_;rw [hb];rfl) (iY (M:=x) (M':=cM x (x.cs.set i v)) rfl (show (x.cs.set i v).length=x.cs.length by simp) rfl rfl rfl) A i _)
theorem Hx.var {L:List Kr} (h:Hx M r L n b w x l A) (hb:Bw A B) (A0:Kr) (hx:B.heap[A0.b]?=some (.cells A0.cs A0.t (0,0))) (hn:A.heap.size<=A0.b):Hx M r (L++[A0]) n b w x l B:=by
 have w0:=h.below hb;refine ⟨w0.mp,w0.kx,λy a=>?_⟩;rcases List.mem_append.1 a with a | a;·exact w0.rows y a
 ·rw [List.mem_singleton] at a;subst a;refine ⟨hx,by have:=h.mp.lt;omega,λq c e=>?_⟩;have:=((h.mp.fam.own q c).lt y.b e).2;omega
theorem kl:gH k []:=trivial
structure Vs (w:World) (L:List Kr) (W:World):Prop where
 rows:∀ x ∈ L,W.heap[x.b]?=some (.cells x.cs x.t (0,0))
 below:Bw w W
theorem Vs.to {L:List Kr} (h:Vs w L A) (hb:Bw A B):Vs w L B:=⟨λx a=>aB hb (h.rows x a),aa h.below hb⟩
theorem Vs.at {w:World} {L:List Kr} (h:Vs w L A):Vs A L A:=⟨h.rows,Below.refl _ _⟩
theorem Vs.eng {fn:Func} {L:List Kr}:oM P (Vs w L) (Vs w L) (L.map λx=>⟨x.b,x.cs,x.tg⟩) true (bodyPost P fn Rs):=
 ⟨λ_ h=>h,λW h r a=>by obtain ⟨y,b,rfl⟩:=List.mem_map.1 a;exact ⟨_,_,h.rows y b⟩,λ_ W h=>h.to (Below.refl _ _).drew,cL⟩
theorem iD (old cs:Array Value) (t:TypeId):Bw k ((k.alloc (.cells old t)).setRow k.heap.size cs):=aR (bal _ _) (Nat.le_refl _) _
theorem Vs.new {L:List Kr} {cs:Array Value} (h:Vs w L A) (old:Array Value) (t:TypeId):Vs w (L++[⟨A.heap.size,cs,t,[]⟩]) ((A.alloc (.cells old t)).setRow A.heap.size cs):=by
 have b:=iD A old cs t;refine ⟨λx a=>?_,aa h.below b⟩;rcases List.mem_append.1 a with a | a;·exact aB b (h.rows x a)
 ·rw [List.mem_singleton.1 a];exact setRow_heap _ _ _ _ _ _ (heap_alloc_new _ _)
theorem J8 {v:Value} {xs:List Value} (h:w.ownsRow M r 1 v W xs) {k:Nat} (hk:v.ownBlock=some k):∃ a,w.heap[k]?=some (.cells a r (0,0)):=by
 rcases h.2 with ⟨rfl,_⟩|⟨g,c,a,rfl,_,d,_⟩;·cases hk
 ·cases hk;exact ⟨_,d⟩
theorem eO.type (k:eO g w A) (f:aZ M r w g) {b:Nat} {cs:Array Value} {t:TypeId} {Q:Nat × Nat} (h:w.heap[b]?=some (.cells cs t Q)) (i:∀ q ∈ g,q.t≠t):A.heap[b]?=w.heap[b]? :=
 k.block b (Array.getElem?_eq_some_iff.1 h).1 λq c e=>by
  obtain ⟨d,a⟩:=J8 (f.own q c) e
  rw [h] at a
  cases a
  exact i q c rfl
theorem Vs.mark {L:List Kr} (h:Vs w L A) (k:eO g A B) (f:aZ M r A g) (b:w.heap.size<=M) (c:w.heap.size<=A.heap.size) (d:∀ x ∈ L,∀ q ∈ g,q.t≠x.t):Vs w L B :=
 ⟨λx a=>(k.type f (h.rows x a) (d x a)).trans (h.rows x a),h.below.trans ((k.keep f).below b c)⟩
theorem O4 {L:List Kr} (t:List TypeId) (b:∀ q ∈ g,q.t ∈ t) (a:(L.all λx=>!t.contains x.t)=true):∀ x ∈ L,∀ q ∈ g,q.t≠x.t:=λx d q c e=>by have h:=List.all_eq_true.1 a x d;rw [<- e] at h;simp [b q c] at h
theorem J9 {d c no:Nat} {cs ram xs ys:List Int}:∀ q ∈ ee b M W d c no o cs ram xs ys,q.t ∈ [22,5]:=λq a=>by simp only [ee,List.mem_cons,List.not_mem_nil,or_false] at a;rcases a with rfl | rfl | rfl | rfl | rfl<;>simp [aG,aw]
theorem yW (n c:Nat) (l:Int) (w:World) (h: -1<=l) (i:l<=1048576) (hn:n<=9223372036854775807): CE 36 #[.slice y n c,.i l] w (.i (if (n:Int)<=l then l-n else -1)):=by
 have f:IntKind.i64.wrap (l-(n:Int))=l-n:=by rw [IntKind.wrap_i64];omega
 obtain ⟨d,b⟩:∃ d,decide (l-(n:Int)<0)=d:=⟨_,rfl⟩;refine bf (S:=λ_=>True) (args:=[.slice y n c,.i l]) [] func36 ?_;cases d with
 | true =>have:=of_decide_eq_true b;rw [if_neg ab];exact gI (R:=[]) trivial {eq:=[(8,cZ .i64 f),(10,af b)]} 60 (t:=4) ⟨rfl,rfl⟩
 | false =>have:=of_decide_eq_false b;rw [if_pos ab];exact gI (R:=[]) trivial {eq:=[(8,cZ .i64 f),(10,af b)]} 60 (t:=4) ⟨rfl,rfl⟩
theorem Bo:CB 86 #[.agg #[.i V,.i z]] F (.agg #[.i V,.i z]):=by go_enter func86,ntmps86;go_wp2;exact bodyPost_ret (results_cell_row results86 _ _ _ _ _ _ _ rfl (EP (Below.refl _ _)).2.1 underlying105 rfl a4) rfl ⟨rfl,((bal _ _).alloc bc _).alloc a8 _⟩
theorem yX:CB 87 #[.agg #[.i V,.i z],.agg #[.i V,.i z]] F (.bool true):=by
 have b:(V != V)=false:=bc
 have c:(z != z)=false:=bc
 refine bf (S:=Bs F [(#[.i V,.i z],105),(#[.i V,.i z],105)]) (args:=[.agg #[.i V,.i z],.agg #[.i V,.i z]]) [(#[.i V,.i z],105),(#[.i V,.i z],105)] func87 ?_;exact aU (t:=4) (v:=.bool true) Bs.eng {eq:=[(9,af b),(14,af c)]} 60 (Bs.start _ _) (λa h=>⟨rfl,h.2⟩)
structure Ec (cs:Array Value) (m:Nat) (l:List (Int × Int)):Prop where
 size:cs.size=l.length*2
 at_:∀ i,i<m->cs[i*2]?=some (.i (l.getD i (0,0)).1)/\cs[i*2+1]?=some (.i (l.getD i (0,0)).2)
theorem Ec.es (h:Ec t p.length p) (hr:w.heap[M]?=some (.cells t D (0,0))):Es w (some ⟨M,0,none⟩) p:=λi c=>by
 obtain ⟨a,b⟩:=h.at_ i c;refine ⟨M,0,rfl,(Array.getElem?_eq_some_iff.1 hr).1,?_,?_⟩;·simp only [World.cell?,hr,Nat.zero_add];simpa using a
 ·simp only [World.cell?,hr,Nat.zero_add];simpa using b
theorem Np {i:Nat} {T:TypeId} {u v:Value} (a:w.heap[M]?=some (.cells t D (0,0))) (h:i+1<t.size) (b:(d.info? T).map (·.size)=some 2) (k:u.oneCell'=true:=by rfl) (hv:v.oneCell'=true:=by rfl): (do Instr.storeAt T (.p M i) (.agg #[u,v]);pure Next.skip:Sem Next).run d w=.ok .skip ((w.setCell ⟨M,i,none⟩ u).setCell ⟨M,i+1,none⟩ v):=by
 have P:=run_storeCells_cells (P:=d) M i [u,v] 0 w (λj c=>by simp only [List.length_cons,List.length_nil] at c;simp [World.cell?,a];omega) (λj _=>dh a _) (λv hv=>by
  simp only [List.mem_cons,List.not_mem_nil,or_false] at hv
  rcases hv with rfl|rfl<;>assumption)
 obtain ⟨x,e,f⟩:=Option.map_eq_some_iff.1 b
 simp [Instr.storeAt,Instr.sureAddr,storeVar,sizeOf,typeInfo,e,f,Value.cells,P,Result.andThen]
 rfl
theorem Ec.set (h:Ec t M p) (hm:M<p.length) (u v:Value) (c:u=.i (p.getD M (0,0)).1) (hv:v=.i (p.getD M (0,0)).2):Ec ((t.set! (M*2) u).set! (M*2+1) v) (M+1) p:=by
 have f:=h.size;refine ⟨by simpa using h.size,λi d=>?_⟩;subst c hv;simp only [Array.set!_eq_setIfInBounds,Array.getElem?_setIfInBounds,Array.size_setIfInBounds];by_cases e:i=M
 ·subst e;constructor;·rw [if_neg ab,if_pos rfl,if_pos ab]
  ·rw [if_pos rfl,if_pos ab]
 ·obtain ⟨a,b⟩:=h.at_ i ab;rw [if_neg ab,if_neg ab,if_neg ab,if_neg ab];exact ⟨a,b⟩
theorem Nq (hn:f<=1048576):∃ a:Array Value,a.size=f*2/\(do pure (.value (<- Instr.makeSlice 53 (.i f) (.i f))):Sem Next).run prog k=.ok (.value (.slice (some ⟨k.heap.size,0,none⟩) f f)) (k.alloc (.cells a 105)):=by
 have h:(prog.info? 105).map (λi=>(i.zero,i.size,i.bytes))=some (some (.agg #[.i 0,.i 0]),2,16):=a4
 obtain ⟨i,g,e⟩:=Option.map_eq_some_iff.1 h;simp only [Prod.mk.injEq] at e;obtain ⟨d,b,n⟩:=e;have c:=run_makeSlice (P:=prog) k 53 105 i _ underlying53 g d .i64 .i64 f f ab ab (by rw [b];simp;omega) (by rw [n];omega) ab;rw [Int.toNat_natCast,b] at c;exact ⟨madeCells (Value.agg #[.i 0,.i 0]).cells (f*2),size_madeCells _ _,by simp [c]⟩
def Tk (w:World) (l:List (Int × Int)) (e:Ending) (w':World):Prop:=∃ (b:Nat) (a:Array Value),e=.returned (.slice (some ⟨b,0,none⟩) l.length l.length)/\w'.heap[b]?=some (.cells a 105 (0,0))/\Ec a l.length l/\w.heap.size<=b/\Bw w w'
theorem yY (l:List (Int × Int)) (w:World) (hn:l.length<=1048576) (hs:Es w y l):Calls prog 37 #[.slice y l.length f] w (Tk w l):=by
 refine bf (S:=λ_=>True) (args:=[.slice y l.length f]) [] func37 ?_;obtain ⟨a,J,H⟩:=Nq w l.length hn;refine aP (R:=[]) trivial {} 4 ?_;refine fz 0 H ?_;refine aP (R:=[]) trivial {} 20 ?_;refine jc (λx:Nat × Array Value=>[(0,.slice y l.length f,0),(3,.slice (some ⟨w.heap.size,0,none⟩) l.length l.length,0),(4,.i (x.1:Nat),0)]) (λj x W=>x.1+j=l.length/\W.heap[w.heap.size]?=some (.cells x.2 105 (0,0))/\Ec x.2 x.1 l/\Bw w W) l.length (0,a) a4 a4 ⟨bc,heap_alloc_new _ _,⟨J,λi F=>absurd F (Nat.not_lt_zero _)⟩,bal _ _⟩ ?_;rintro j ⟨i,z⟩ W ⟨A,row,c,g⟩ T B;dsimp only at A row c ⊢;cases j with
 | zero =>have q:decide ((i:Int)<(l.length:Int))=false:=ba;obtain rfl:i=l.length:=ab;exact gI (R:=[]) trivial {eq:=[(11,af q)]} 60 (t:=2) ⟨w.heap.size,z,rfl,row,c,Nat.le_refl _,g⟩
 | succ j =>have q:decide ((i:Int)<(l.length:Int))=true:=bw;obtain ⟨b,o,D,M,m,p⟩:=hs.below g i ab;have h:=c.set ab _ _ rfl rfl;generalize (l.getD i (0,0)).1=k at m h;generalize (l.getD i (0,0)).2=n at p h;refine eB (R:=[]) trivial {eq:=[(11,af q)],ov:=[(18,Bl l.length f i D ab underlying58 a4),(19,Ro b (o+i*2) (.i k) (.i n) underlying113 rfl a4 λV C=>by subst C;exact ⟨m,p⟩)]} 60 (Bo k n W) ?_;rintro e L ⟨rfl,r⟩;refine ⟨_,0,rfl,?_⟩;have s:=aB r row;have d:=aa g r;have I:IntKind.i64.wrap (((i:Nat):Int)+1)=((i+1:Nat):Int):=d6;refine eQ (R:=[]) trivial {ov:=[(21,Bl (b:=w.heap.size) (o:=0) l.length l.length i rfl ab underlying53 a4)]} 20 (Np (T:=105) (u:=.i k) (v:=.i n) s (i:=0+i*2) (by have:=c.size;omega) a4) ?_;have K:=fH (fH s (j:=i*2) (.i k)) (j:=i*2+1) (.i n);rw [Nat.zero_add];exact fx (R:=[]) trivial {eq:=[(13,cZ .i64 I)]} 40 λb E=>B b _ j (i+1,_) ab (E.less a4) ⟨a9,K,h,⟨d.os,d.tape,d.output,by simp only [aO];exact d.size,λk G=>((Below.heap_setCell _ _ _ k a9).trans (Below.heap_setCell _ _ _ k a9)).trans (d.block k G)⟩⟩
theorem wA (l:List (Int × Int)) (w:World) (hn:l.length<=1048576) (hs:Es w y l) (J:Es w L l):CB 38 #[.slice y l.length f,.slice L l.length I] w (.bool true):=by
 have s:((l.length:Int) != (l.length:Int))=false:=bc
 refine bf (S:=Bs w []) (args:=[.slice y l.length f,.slice L l.length I]) [] func38 ?_;refine aP (R:=[]) trivial {eq:=[(10,af s)]} 20 ?_;refine jc (λx:Nat=>[(0,.slice y l.length f,0),(1,.slice L l.length I,0),(5,.i (x:Nat),0)]) (λj x W=>x+j=l.length/\Bw w W) l.length 0 a4 a4 ⟨bc,Below.refl _ _⟩ ?_;rintro j i W ⟨N,u⟩ T F;cases j with
 | zero =>have q:decide ((i:Int)<(l.length:Int))=false:=ba;exact gI (R:=[]) trivial {eq:=[(14,af q)]} 60 (t:=4) ⟨rfl,u⟩
 | succ j =>have q:decide ((i:Int)<(l.length:Int))=true:=bw;obtain ⟨c,m,G,A,B,C⟩:=hs i ab;obtain ⟨g,o,H,v,a,z⟩:=J i ab;generalize (l.getD i (0,0)).1=k at B a;generalize (l.getD i (0,0)).2=n at C z;have K:IntKind.i64.wrap (((i:Nat):Int)+1)=((i+1:Nat):Int):=d6;have D:∀ V,Bs w [] V->V.cell? ⟨c,m+i*2,none⟩=some (.i k)/\V.cell? ⟨c,m+i*2+1,none⟩=some (.i n):=λV h=>⟨(h.2.cell (p:=⟨c,m+i*2,none⟩) A).trans B,(h.2.cell (p:=⟨c,m+i*2+1,none⟩) A).trans C⟩;have E:∀ V,Bs w [] V->V.cell? ⟨g,o+i*2,none⟩=some (.i k)/\V.cell? ⟨g,o+i*2+1,none⟩=some (.i n):=λV h=>⟨(h.2.cell (p:=⟨g,o+i*2,none⟩) v).trans a,(h.2.cell (p:=⟨g,o+i*2+1,none⟩) v).trans z⟩;refine C4 Bs.eng {eq:=[(14,af q),(16,cZ .i64 K)],ov:=[(19,Bl l.length f i G ab underlying53 a4),(20,Ro c (m+i*2) (.i k) (.i n) underlying105 rfl a4 D),(23,Bl l.length I i H ab underlying53 a4),(24,Ro g (o+i*2) (.i k) (.i n) underlying105 rfl a4 E)],cv:=[(25,eY λV _=>yX k n V)]} 80 ⟨λi x b=>(by simp at b),u⟩ λe W' r d=>F e W' j (i+1) ab (d.less a4) ⟨ab,r.2⟩
theorem uV (cs:Array Value) (n:Nat) (k:Int) (w:World) (hn:n<=1048576) (B:0<=k) (C:k<=1099511627776) (hr:w.heap[f]?=some (.cells cs 105 (0,0))) (hz:cs.size=n*2):Calls prog 39 #[.slice (some ⟨f,0,none⟩) n n,.i k] w λe G=>e=.returned (.i (k+2*n))/\Ag [f] w G:=by
 refine bf (S:=λ_=>True) (args:=[.slice (some ⟨f,0,none⟩) n n,.i k]) [] func39 ?_;refine aP (R:=[]) trivial {} 20 ?_;refine jc (λx:Nat × Array Value × Int=>[(0,.slice (some ⟨f,0,none⟩) n n,0),(1,.i x.2.2,0),(5,.i (x.1:Nat),0)]) (λj x W=>x.1+j=n/\W.heap[f]?=some (.cells x.2.1 105 (0,0))/\x.2.1.size=n*2/\Ag [f] w W/\x.2.2=k+2*x.1) n (0,cs,k) a4 a4 ⟨bc,hr,hz,Ag.refl _ _,bc⟩ ?_;rintro j ⟨i,g,y⟩ W ⟨s,row,h,b,u⟩ T z;dsimp only at s row h u ⊢;cases j with
 | zero =>have q:decide ((i:Int)<(n:Int))=false:=ba;obtain rfl:y=k+2*n:=ab;exact gI (R:=[]) trivial {eq:=[(9,af q)]} 60 (t:=4) ⟨rfl,b⟩
 | succ j =>have q:decide ((i:Int)<(n:Int))=true:=bw;have D:IntKind.i64.wrap (((i:Nat):Int)+1)=((i+1:Nat):Int):=d6;have E:IntKind.i64.wrap (y+1)=y+1:=d6;have c:IntKind.i64.wrap (y+1+1)=y+1+1:=d6;refine eQ (R:=[]) trivial {eq:=[(9,af q)],ov:=[(15,Bl (b:=f) (o:=0) n n i rfl ab underlying53 a4)]} 60 (cy (T:=2) (v:=.i y) (i:=0+i*2) row ab a4 rfl) ?_;have a:=fH row (j:=0+i*2) (.i y);have d:=b.trans (yq (List.mem_singleton.2 rfl) W (0+i*2) (.i y));have l:(g.set! (0+i*2) (.i y)).size=n*2:=cp;generalize W.setCell ⟨f,0+i*2,none⟩ (.i y)=m at a d ⊢;generalize g.set! (0+i*2) (.i y)=r at a l;refine eQ (R:=[]) trivial {eq:=[(18,cZ .i64 E)],ov:=[(22,Bl (b:=f) (o:=0) n n i rfl ab underlying53 a4)]} 60 (cy (T:=2) (v:=.i (y+1)) (i:=0+i*2+1) a ab a4 rfl) ?_;have F:=fH a (j:=0+i*2+1) (.i (y+1));have p:=d.trans (yq (List.mem_singleton.2 rfl) m (0+i*2+1) (.i (y+1)));exact fx (R:=[]) trivial {eq:=[(25,cZ .i64 c),(11,cZ .i64 D)]} 60 λe A=>z e _ j (i+1,_,y+1+1) ab (A.less a4) ⟨a9,F,(show (r.set! (0+i*2+1) (.i (y+1))).size=n*2 by simpa using l),p,a9⟩
def O5 (w:World) (r:Nat):World:=(w.setCell ⟨r,11,none⟩ (.u 0)).setCell ⟨r,12,none⟩ (.bool false)
theorem Mp.freeq (h:Mp M r n b w):Mp M r (lB n) b (O5 w r)/\Kx r (aJ n b) (aJ (lB n) b) w (O5 w r):=by refine ⟨⟨?_,Mp.fam_set (Mp.fam_set h.fam h.ne 11 _) h.ne 12 _,h.ne,h.lo⟩,(Kx.set w 11 _).trans (Kx.set _ 12 _)⟩;have a:=h.row;unfold ap at a;exact bC (bC a 11 (.u 0)) 12 (.bool false)
def wC (A:MA) (a:Option Addr) (c:Nat):MA:=⟨A.ax,A.cx,A.ac,A.cc,a,c,A.ai,A.ci,A.ao,A.co⟩
theorem Mp.ram {r:Nat} {A:MA} (h:Mp M r n A w) (hb:Bw w B) (R:List Int) (a:Option Addr) (c:Nat) (m:B.ownsRow w.heap.size 5 1 (.slice a R.length c) R.length (R.map (Value.int .u8))):Mp M r (bG n R) (wC A a c) (B.setCell ⟨r,4,none⟩ (.slice a R.length c))/\Kx r (aJ n A) (aJ (bG n R) (wC A a c)) w (B.setCell ⟨r,4,none⟩ (.slice a R.length c)):=by
 have g:=h.lt;have s:M<=w.heap.size:=by have:=h.lo;omega
 have t:=h.fam.below hb;have p:aZ M w.heap.size B ([aG A.ax n.x.length A.cx n.x,aG A.ac n.cs.length A.cc n.cs]++[aw A.ai n.d.xs.length A.ci n.d.xs,aw A.ao n.d.ys.length A.co n.d.ys]):=t.sub (by unfold aJ;simp);have hF:aZ M B.heap.size B (aJ (bG n R) (wC A a c)):=p.ins (q:=aw a R.length c R) m s (Nat.le_refl _) hb.size;have b:∀ q ∈ aJ (bG n R) (wC A a c),∀ k,q.v.ownBlock=some k->k<w.heap.size->∃ i ∈ aJ n A,i.v.ownBlock=some k:=by
  intro q f k e l;simp only [aJ,bG,wC,List.mem_cons,List.not_mem_nil,or_false] at f;rcases f with rfl|rfl|rfl|rfl|rfl;·exact ⟨aG A.ax n.x.length A.cx n.x,ck,e⟩
  ·exact ⟨aG A.ac n.cs.length A.cc n.cs,ck,e⟩
  ·have:=(m.lt k e).1;omega
  ·exact ⟨aw A.ai n.d.xs.length A.ci n.d.xs,ck,e⟩
  ·exact ⟨aw A.ao n.d.ys.length A.co n.d.ys,ck,e⟩
 have d:∀ q ∈ aJ (bG n R) (wC A a c),q.v.ownBlock≠some r:=λq f e=>by obtain ⟨i,o,w'⟩:=b q f r e g;exact h.ne i o w'
 have j:=aB hb h.row;unfold ap at j;have u:Kx r (aJ n A) (aJ (bG n R) (wC A a c)) w B:=⟨hb.os,hb.tape,hb.output,hb.size,λk l _ _=>hb.block k l,b⟩;exact ⟨⟨bC j 4 (.slice a R.length c),Mp.fam_set hF d 4 _,d,h.lo⟩,u.trans (Kx.set B 4 _)⟩
theorem Nr (B r:Nat) (addr size Q:Int) (D:DV) (is:Bool) (w:World) (hm:Mp B r E e w) (P:∀ d,Mp B r E e d->Calls prog 309 #[.agg #[.u E.d.t,.u E.d.cm,.bool E.d.so,.slice e.ai E.d.xs.length e.ci,.slice e.ao E.d.ys.length e.co,.i E.d.ir],.u addr,.i size] d λA m=>∃ (f:Option Addr) (j:Nat) (g:Option Addr) (l:Nat),A=.returned (.tuple #[.u Q,.agg #[.u D.t,.u D.cm,.bool D.so,.slice f D.xs.length j,.slice g D.ys.length l,.i D.ir],.bool is])/\aZ d.heap.size m.heap.size m (fC f D.xs.length j D.xs g D.ys.length l D.ys)/\Bw d m): Calls prog 276 #[.p r 5,.u addr,.i size] w λA d=>A=.returned (.tuple #[.u Q,.bool is])/\∃ A',Mp B r (if is=true then ch E D else E) A' d/\Kx r (aJ E e) (aJ (if is=true then ch E D else E) A') w d:=by
 have p:=ak hm;have R:=ak P;obtain ⟨T,U,V,W,X,J,K,L,N,O,t,M,F,G⟩:=aS hm.row;clear hm P;go_enter func276,ntmps276;go_wp2_with fail;refine (R.out _ p.out).mono ?_;rintro A I ⟨f,j,g,l,rfl,u,c⟩;have y:=ak (aa c ((Below.refl _ _).alloc (Nat.le_refl _) (.cells #[.u D.t,.u D.cm,.bool D.so,.slice f D.xs.length j,.slice g D.ys.length l,.i D.ir] 30 (0,0))));have S:Hid (fo w (I.alloc (.cells #[.u D.t,.u D.cm,.bool D.so,.slice f D.xs.length j,.slice g D.ys.length l,.i D.ir] 30 (0,0))) e.ai e.ci E.d.xs e.ao e.co E.d.ys f j D.xs g l D.ys):=fo.below (.inr (.inr (.inr u))) (bal _ _);have b:=aB c p.out.row;unfold ap at b;have H:¬ r=I.heap.size:=by have h1:=p.out.lt;have h2:=c.size;omega
 have Z:¬ I.heap.size=r:=λh=>H h.symm;clear T U V W X J K L N O t M F G;have J:=λo=>(aS (ah b o)).2.2.2.2.2.1;have K:=λo=>(aS (ah b o)).2.2.2.2.2.2.1;have L:=λo=>(aS (ah b o)).2.2.2.2.2.2.2.1;have N:=λo=>(aS (ah b o)).2.2.2.2.2.2.2.2.1;have O:=λo=>(aS (ah b o)).2.2.2.2.2.2.2.2.2.1;have t:=λo=>(aS (ah b o)).2.2.2.2.2.2.2.2.2.2.1;have f5:=λo=>(dM (ah b o)).2.2.2.2.2.1;have f6:=λo=>(dM (ah b o)).2.2.2.2.2.2.1;have f7:=λo=>(dM (ah b o)).2.2.2.2.2.2.2.1;have f8:=λo=>(dM (ah b o)).2.2.2.2.2.2.2.2.1;have f9:=λo=>(dM (ah b o)).2.2.2.2.2.2.2.2.2.1;have Y:=λo=>(dM (ah b o)).2.2.2.2.2.2.2.2.2.2.1;clear c u b;cases is with
 | false =>go_wp2_with fail;refine bodyPost_ret (results_tmp2 rfl _ _ _) rfl ?_;exact ⟨rfl,e,p.out.below y.out,Kx.of_below y.out⟩
 | true =>obtain ⟨s,q⟩:=p.out.dev y.out D S.out;have C:=ak s;have z:=ak q;clear s q;go_wp2_with fail;refine bodyPost_ret (results_tmp2 rfl _ _ _) rfl ?_;exact ⟨rfl,lR e f j g l,C.out,z.out⟩
theorem Ns (B r:Nat) (addr size x:Int) (D:DV) (is:Bool) (w:World) (hm:Mp B r E e w) (P:∀ d,Mp B r E e d->Calls prog 312 #[.agg #[.u E.d.t,.u E.d.cm,.bool E.d.so,.slice e.ai E.d.xs.length e.ci,.slice e.ao E.d.ys.length e.co,.i E.d.ir],.u addr,.i size,.u x] d λA m=>∃ (f:Option Addr) (j:Nat) (g:Option Addr) (l:Nat),A=.returned (.tuple #[.agg #[.u D.t,.u D.cm,.bool D.so,.slice f D.xs.length j,.slice g D.ys.length l,.i D.ir],.bool is])/\aZ d.heap.size m.heap.size m (fC f D.xs.length j D.xs g D.ys.length l D.ys)/\Bw d m): Calls prog 307 #[.p r 5,.u addr,.i size,.u x] w λA d=>A=.returned (.bool is)/\∃ A',Mp B r (if is=true then ch E D else E) A' d/\Kx r (aJ E e) (aJ (if is=true then ch E D else E) A') w d:=by
 have p:=ak hm;have Q:=ak P;obtain ⟨S,T,U,V,W,J,K,L,N,O,t,M,F,G⟩:=aS hm.row;clear hm P;go_enter func307,ntmps307;go_wp2_with fail;refine (Q.out _ p.out).mono ?_;rintro A I ⟨f,j,g,l,rfl,u,c⟩;have y:=ak (aa c ((Below.refl _ _).alloc (Nat.le_refl _) (.cells #[.u D.t,.u D.cm,.bool D.so,.slice f D.xs.length j,.slice g D.ys.length l,.i D.ir] 30 (0,0))));have R:Hid (fo w (I.alloc (.cells #[.u D.t,.u D.cm,.bool D.so,.slice f D.xs.length j,.slice g D.ys.length l,.i D.ir] 30 (0,0))) e.ai e.ci E.d.xs e.ao e.co E.d.ys f j D.xs g l D.ys):=fo.below (.inr (.inr (.inr u))) (bal _ _);have b:=aB c p.out.row;unfold ap at b;have H:¬ r=I.heap.size:=by have h1:=p.out.lt;have h2:=c.size;omega
 have Y:¬ I.heap.size=r:=λh=>H h.symm;clear S T U V W J K L N O t M F G;have J:=λo=>(aS (ah b o)).2.2.2.2.2.1;have K:=λo=>(aS (ah b o)).2.2.2.2.2.2.1;have L:=λo=>(aS (ah b o)).2.2.2.2.2.2.2.1;have N:=λo=>(aS (ah b o)).2.2.2.2.2.2.2.2.1;have O:=λo=>(aS (ah b o)).2.2.2.2.2.2.2.2.2.1;have t:=λo=>(aS (ah b o)).2.2.2.2.2.2.2.2.2.2.1;have Z:=λo=>(dM (ah b o)).2.2.2.2.2.1;have f6:=λo=>(dM (ah b o)).2.2.2.2.2.2.1;have f7:=λo=>(dM (ah b o)).2.2.2.2.2.2.2.1;have f8:=λo=>(dM (ah b o)).2.2.2.2.2.2.2.2.1;have f9:=λo=>(dM (ah b o)).2.2.2.2.2.2.2.2.2.1;have X:=λo=>(dM (ah b o)).2.2.2.2.2.2.2.2.2.2.1;clear c u b;cases is with
 | false =>go_wp2_with fail;go_ret;exact ⟨rfl,e,p.out.below y.out,Kx.of_below y.out⟩
 | true =>obtain ⟨s,q⟩:=p.out.dev y.out D R.out;have C:=ak s;have z:=ak q;clear s q;go_wp2_with fail;go_ret;exact ⟨rfl,lR e f j g l,C.out,z.out⟩
theorem Ka (B r:Nat) (pa:Int) (hit:Bool) (w:World) (hm:Mp B r E e w) (c:(E.hl&&(Uz.wrap (pa.tdiv 8)==Uz.wrap (E.hd.tdiv 8)))=hit): Calls prog 308 #[.p r 0,.u pa] w λA j=>A=.returned (.tuple #[])/\Mp B r (if hit=true then lB E else E) e j/\Kx r (aJ E e) (aJ (if hit=true then lB E else E) e) w j:=by
 have f:=ak hm;obtain ⟨y,z,C,D,M,F,G,H,I,J,m,o,g,p⟩:=aS hm.row;obtain ⟨K,L,N,O,P,Q,R,S,T,U,q,s,t,u⟩:=dM hm.row;clear hm;obtain ⟨l,d⟩:∃ b,b=E.hl:=⟨_,rfl⟩;rw [<- d] at g c;clear d;cases l with
 | false =>rw [Bool.false_and] at c;subst c;go_enter func308,ntmps308;go_wp2_with fail;refine bodyPost_end (results_none rfl _ _ _) rfl ?_;exact ⟨rfl,f.out,Kx.refl _ _ _⟩
 | true =>
   rw [Bool.true_and] at c;cases hit with
   | false =>go_enter func308,ntmps308;go_wp2_with fail;refine bodyPost_end (results_none rfl _ _ _) rfl ?_;exact ⟨rfl,f.out,Kx.refl _ _ _⟩
   | true =>go_enter func308,ntmps308;go_wp2_with fail;refine bodyPost_end (results_none rfl _ _ _) rfl ?_;exact ⟨rfl,f.out.freeq.1,f.out.freeq.2⟩
theorem PU (B r:Nat) (pa size x:Int) (R:List Int) (D:DV) (l is:Bool) (d s:MV->MV) (w:World) (hm:Mp B r E e w) (hS:∀ c,Mp B r E e c->Calls prog 214 #[.slice e.ar E.ram.length e.cr,.u pa,.i size,.u x] c λA b=>∃ (I:Option Addr) (J:Nat),A=.returned (.tuple #[.slice I R.length J,.bool l])/\b.ownsRow c.heap.size 5 1 (.slice I R.length J) R.length (R.map (Value.int .u8))/\Bw c b) (hV:∀ c,Mp B r E e c->Calls prog 307 #[.p r 5,.u pa,.i size,.u x] c λA b=>A=.returned (.bool is)/\∃ A',Mp B r (if is=true then ch E D else E) A' b/\Kx r (aJ E e) (aJ (if is=true then ch E D else E) A') c b) (hT:∀ (X:MV) (A':MA) c,Mp B r X A' c->(X=bG E R\/X=ch E D)->Calls prog 128 #[.p r 0] c λA b=>A=.returned (.tuple #[])/\Mp B r (d X) A' b/\Kx r (aJ X A') (aJ (d X) A') c b) (hG:∀ (X:MV) (A':MA) c,Mp B r X A' c->(X=d (bG E R)\/X=d (ch E D))->Calls prog 308 #[.p r 0,.u pa] c λA b=>A=.returned (.tuple #[])/\Mp B r (s X) A' b/\Kx r (aJ X A') (aJ (s X) A') c b): Calls prog 275 #[.p r 0,.u pa,.i size,.u x] w λA c=>A=.returned (.bool (l||is))/\∃ A',Mp B r (if l=true then s (d (bG E R)) else if is=true then s (d (ch E D)) else E) A' c/\Kx r (aJ E e) (aJ (if l=true then s (d (bG E R)) else if is=true then s (d (ch E D)) else E) A') w c:=by
 have HM:=ak hm;have HS:=ak hS;have HV:=ak hV;have HTM:Hid (∀ (A':MA) c,Mp B r (bG E R) A' c->Calls prog 128 #[.p r 0] c λA b=>A=.returned (.tuple #[])/\Mp B r (d (bG E R)) A' b/\Kx r (aJ (bG E R) A') (aJ (d (bG E R)) A') c b):=λA' c h=>hT _ A' c h (.inl rfl);have HTD:Hid (∀ (A':MA) c,Mp B r (ch E D) A' c->Calls prog 128 #[.p r 0] c λA b=>A=.returned (.tuple #[])/\Mp B r (d (ch E D)) A' b/\Kx r (aJ (ch E D) A') (aJ (d (ch E D)) A') c b):=λA' c h=>hT _ A' c h (.inr rfl);have HGM:Hid (∀ (A':MA) c,Mp B r (d (bG E R)) A' c->Calls prog 308 #[.p r 0,.u pa] c λA b=>A=.returned (.tuple #[])/\Mp B r (s (d (bG E R))) A' b/\Kx r (aJ (d (bG E R)) A') (aJ (s (d (bG E R))) A') c b):=λA' c h=>hG _ A' c h (.inl rfl);have HGD:Hid (∀ (A':MA) c,Mp B r (d (ch E D)) A' c->Calls prog 308 #[.p r 0,.u pa] c λA b=>A=.returned (.tuple #[])/\Mp B r (s (d (ch E D))) A' b/\Kx r (aJ (d (ch E D)) A') (aJ (s (d (ch E D))) A') c b):=λA' c h=>hG _ A' c h (.inr rfl);obtain ⟨U,V,W,Y,Z,c5,c6,c7,c8,c9,u,y,z,C⟩:=aS hm.row;clear hm hS hV hT hG;go_enter func275,ntmps275;go_wp2_with fail;refine (HS.out _ HM.out).mono ?_;rintro A w5 ⟨I,J,rfl,K,j⟩;have t:=ak (HM.out.below j);have KX5:=ak (Kx.of_below (r:=r) (L:=aJ E e) j);cases l with
 | true =>obtain ⟨Q,O⟩:=HM.out.ram j R I J K;have g:=ak Q;have f:=ak O;clear U V W Y Z c5 c6 c7 c8 c9 u y z C;obtain ⟨U,V,W,Y,Z,c5,c6,c7,c8,c9,u,y,z,C⟩:=aS t.out.row;obtain ⟨f0,f1,f2,f3,f4,f5,f6,f7,f8,f9,f10,f11,f12,f13⟩:=dM t.out.row;clear Q O K j;go_wp2_with fail;refine (HTM.out (wC e I J) _ g.out).mono ?_;rintro A w7 ⟨rfl,p,m⟩;have G:=ak p;have M:=ak ((f.out).trans m);clear p m;go_wp2_with fail;refine (HGM.out (wC e I J) _ G.out).mono ?_;rintro A w8 ⟨rfl,q,o⟩;have H:=ak q;have F:=ak (M.out.trans o);clear q o;go_wp2_with fail;go_ret;exact ⟨rfl,(wC e I J),H.out,F.out⟩
 | false =>
   clear K j;clear U V W Y Z c5 c6 c7 c8 c9 u y z C;obtain ⟨U,V,W,Y,Z,c5,c6,c7,c8,c9,u,y,z,C⟩:=aS t.out.row;go_wp2_with fail;refine (HV.out _ t.out).mono ?_;rintro A w6 ⟨rfl,A',T,S⟩;have g:=ak T;have f:=ak (KX5.out.trans S);clear T S;cases is with
   | false =>go_wp2_with fail;go_ret;exact ⟨rfl,A',g.out,f.out⟩
   | true =>have P:Hid (Mp B r (ch E D) A' w6):=g.out;have N:Hid (Kx r (aJ E e) (aJ (ch E D) A') w w6):=f.out;clear g f;go_wp2_with fail;refine (HTD.out A' _ P.out).mono ?_;rintro A w7 ⟨rfl,p,m⟩;have G:=ak p;have M:=ak ((N.out).trans m);clear p m;go_wp2_with fail;refine (HGD.out A' _ G.out).mono ?_;rintro A w8 ⟨rfl,q,o⟩;have H:=ak q;have F:=ak (M.out.trans o);clear q o;go_wp2_with fail;go_ret;exact ⟨rfl,A',H.out,F.out⟩
theorem Nt (o:Bool) (w:World) (hm:Mp f I E e w) (m:∀ b,Mp f I E e b->Calls prog 275 #[.p I 0,.u V,.i z,.u C] b λA B=>A=.returned (.bool o)/\∃ A',Mp f I Q A' B/\Kx I (aJ E e) (aJ Q A') b B): Calls prog 257 #[.p I 0,.u V,.i z,.i 3,.u C] w λA b=>A=.returned (.tuple #[.u 0,.bool o])/\∃ A',Mp f I Q A' b/\Kx I (aJ E e) (aJ Q A') w b:=by have p:=ak hm;have q:=ak m;clear hm m;go_enter func257,ntmps257;go_wp2_with fail;refine (q.out _ p.out).mono ?_;rintro A s ⟨rfl,A',d,c⟩;have l:=ak d;have j:=ak c;clear d c;go_wp2_with fail;refine bodyPost_ret (results_tmp2 rfl _ _ _) rfl ?_;exact ⟨rfl,A',l.out,j.out⟩
theorem Nu (B r:Nat) (pa size x I:Int) (b:Bool) (w:World) (hm:Mp B r E e w) (H:∀ f,Mp B r E e f->CB 208 #[.slice e.ar E.ram.length e.cr,.u pa,.i size] f (.tuple #[.u I,.bool b])): Calls prog 257 #[.p r 0,.u pa,.i size,.i 1,.u x] w λA f=>A=.returned (.tuple #[.u (if b=true then I else 0),.bool (b||false)])/\∃ A',Mp B r (if b=true then E else E) A' f/\Kx r (aJ E e) (aJ (if b=true then E else E) A') w f:=by
 have q:=ak hm;have J:=ak H;obtain ⟨s,t,u,y,z,C,D,M,F,G,j,l,m,o⟩:=aS hm.row;clear hm H;go_enter func257,ntmps257;go_wp2_with fail;refine (J.out _ q.out).mono ?_;rintro A K ⟨rfl,d⟩;have c:=ak (q.out.below d);have g:=ak (Kx.of_below (r:=r) (L:=aJ E e) d);clear d;clear s t u y z C D M F G j l m o;obtain ⟨s,t,u,y,z,C,D,M,F,G,j,l,m,o⟩:=aS c.out.row;cases b with
 | true =>go_wp2_with fail;refine bodyPost_ret (results_tmp2 rfl _ _ _) rfl ?_;exact ⟨rfl,e,c.out,g.out⟩
 | false =>go_wp2_with fail;refine bodyPost_ret (results_tmp2 rfl _ _ _) rfl ?_;exact ⟨rfl,e,c.out,g.out⟩
theorem Nv (B r:Nat) (pa size x W:Int) (d:Bool) (M2 y:MV) (V:Int) (is:Bool) (w:World) (hm:Mp B r E e w) (T:∀ b,Mp B r E e b->CB 208 #[.slice e.ar E.ram.length e.cr,.u pa,.i size] b (.tuple #[.u W,.bool d])) (S:∀ b,Mp B r E e b->Calls prog 276 #[.p r 5,.u pa,.i size] b λA c=>A=.returned (.tuple #[.u V,.bool is])/\∃ A',Mp B r M2 A' c/\Kx r (aJ E e) (aJ M2 A') b c) (U:∀ (A':MA) b,Mp B r M2 A' b->Calls prog 128 #[.p r 0] b λA c=>A=.returned (.tuple #[])/\Mp B r y A' c/\Kx r (aJ M2 A') (aJ y A') b c): Calls prog 257 #[.p r 0,.u pa,.i size,.i 2,.u x] w λA b=>A=.returned (.tuple #[.u (if d=true then W else V),.bool (d||is)])/\∃ A',Mp B r (if d=true then E else y) A' b/\Kx r (aJ E e) (aJ (if d=true then E else y) A') w b:=by
 have F:=ak hm;have Y:=ak T;have X:=ak S;have Z:=ak U;clear S U;obtain ⟨G,H,I,J,K,N,O,P,Q,R,l,m,o,p⟩:=aS hm.row;clear hm T;go_enter func257,ntmps257;go_wp2_with fail;refine (Y.out _ F.out).mono ?_;rintro A w5 ⟨rfl,g⟩;have f:=ak (F.out.below g);have j:=ak (Kx.of_below (r:=r) (L:=aJ E e) g);clear g;clear G H I J K N O P Q R l m o p;obtain ⟨G,H,I,J,K,N,O,P,Q,R,l,m,o,p⟩:=aS f.out.row;cases d with
 | true =>go_wp2_with fail;refine bodyPost_ret (results_tmp2 rfl _ _ _) rfl ?_;exact ⟨rfl,e,f.out,j.out⟩
 | false =>go_wp2_with fail;refine (X.out _ f.out).mono ?_;rintro A w6 ⟨rfl,A',t,q⟩;have D:=ak t;have z:=ak (j.out.trans q);clear t q;go_wp2_with fail;refine (Z.out A' _ D.out).mono ?_;rintro A w7 ⟨rfl,u,s⟩;have M:=ak u;have C:=ak (z.out.trans s);clear u s;go_wp2_with fail;refine bodyPost_ret (results_tmp2 rfl _ _ _) rfl ?_;exact ⟨rfl,A',M.out,C.out⟩
theorem gY (hk:V=1\/V=2\/V=3) (w:World):CE 230 #[.i V] w (.i (if V=1 then 0 else if V=2 then 4 else 6)):=by
 rcases hk with rfl|rfl|rfl;·go_enter func230,ntmps230;exact a01
 ·go_enter func230,ntmps230;exact a01
 ·go_enter func230,ntmps230;exact a01
theorem ns (hk:V=1\/V=2\/V=3) (w:World):CE 107 #[.i V] w (.i (if V=2 then 5 else if V=3 then 7 else 1)):=by
 rcases hk with rfl|rfl|rfl;·go_enter func107,ntmps107;exact a01
 ·go_enter func107,ntmps107;exact a01
 ·go_enter func107,ntmps107;exact a01
theorem Fp (op:BinOp) (a b:Int):0<=bits op .u64 a b/\bits op .u64 a b<18446744073709551616:=by have h:=CO (wf_bits op .u64 a b);omega
def qr (t:TV) (to:Int):TV:=if cQ to 1 1==1 then {t with up:=true,cz:=0,vl:=to} else {t with nx:=to}
theorem Bp {y:Int} (h:iw ⟨M,bz n b a,[]⟩ w) (J:5<=a.op) (z:a.op<=10) (q:b.ax=some ⟨r,W,none⟩) (B:0<=a.ra/\a.ra<n.x.length) (C:0<=a.rb/\a.rb<n.x.length) (hb:r≠M) (hx:w.cell? ⟨r,W+a.ra.toNat,none⟩=some (.u c)) (hy:w.cell? ⟨r,W+a.rb.toNat,none⟩=some (.u y)): Calls prog 171 #[.p M 0] w λe s=>e=.returned (.tuple #[])/\Iv [M] w [⟨M,bz n b (if I9 a.op c y then qr a (Uz.wrap (n.pc+Uz.wrap a.im)) else a),[]⟩] s:=by
 have g:∀ (p:Addr) v,p.block=r->w.cell? p=some v->∀ o,Iv [M] w [⟨M,bz n b a,[]⟩] o->o.cell? p=some v:=λp v L I o x=>by rw [<- I];simp only [World.cell?,x.ag.block p.block (lA I) (by rw [L];simpa using hb)]
 obtain ⟨l,d⟩:∃ l,l=Uz.wrap (n.pc+Uz.wrap a.im):=⟨_,rfl⟩;have E:(a.op==4)=false:=by simp;omega
 have F:(a.op==3)=false:=by simp;omega
 have G:MG a.op=true:=by simp [MG,J,z]
 rw [<- d];obtain ⟨H,f⟩:∃ H,I9 a.op c y=H:=⟨_,rfl⟩;rw [f];refine fj (args:=[.p M 0]) (Iv [M] w [⟨M,bz n b a,[]⟩]) func171 ?_;refine aL 0 1 ?_;cases H with
 | false =>refine kt Iv.eng {eq:=[(19,af E),(21,af F),(46,af f)],cv:=[(11,vQ λo x=>sx x.row1),(42,vQ λo x=>J7 x.row1 q B hb (g _ _ rfl hx o x)),(44,vQ λo x=>Sf x.row1 q C hb (g _ _ rfl hy o x)),(45,jb Iv.below λo _=>kz a.op c y G o)]} 200 (Iv.one h) λs t K _=>⟨_,results_none rfl _ _ _,rfl,K⟩
 | true =>
   have i:0<=l:=(by rw [d,IntKind.wrap_u64];omega);have j:l<18446744073709551616:=(by rw [d,IntKind.wrap_u64];omega);rw [if_pos rfl];unfold qr;obtain ⟨u,A⟩:∃ u,(cQ l 1 1==1)=u:=⟨_,rfl⟩;rw [A];cases u with
   | true =>refine aN Iv.eng {eq:=[(12,cZ .u64 d.symm),(19,af E),(21,af F),(46,af f),(52,af A)],cv:=[(11,vQ λo x=>sx x.row1),(42,vQ λo x=>J7 x.row1 q B hb (g _ _ rfl hx o x)),(44,vQ λo x=>Sf x.row1 q C hb (g _ _ rfl hy o x)),(45,jb Iv.below λo _=>kz a.op c y G o),(51,jb Iv.below λo _=>(bA l 1 1 i j a6 a6 o).mono λe s k=>⟨k.1,by rw [k.2];exact (Below.refl _ _).drew⟩),(54,jY λo _=>gY 1 (.inl rfl) o)]} 200 (Iv.one h) (λo x=>jZ 0 l x.row1) λo e s x D=>⟨_,0,D.1,fi a4,?_⟩;refine aK (λ_=>True) ?_;exact oN (Iv.one D.2.row1) {} 40 λW' m=>⟨rfl,(x.then1 D.2).then1 m⟩
   | false =>refine ae Iv.eng {eq:=[(12,cZ .u64 d.symm),(19,af E),(21,af F),(46,af f),(52,af A)],cv:=[(11,vQ λo x=>sx x.row1),(42,vQ λo x=>J7 x.row1 q B hb (g _ _ rfl hx o x)),(44,vQ λo x=>Sf x.row1 q C hb (g _ _ rfl hy o x)),(45,jb Iv.below λo _=>kz a.op c y G o),(51,jb Iv.below λo _=>(bA l 1 1 i j a6 a6 o).mono λe s k=>⟨k.1,by rw [k.2];exact (Below.refl _ _).drew⟩)]} 200 (Iv.one h) λo x=>?_;refine aK (λ_=>True) ?_;exact gp (Iv.one x.row1) {} 40 λW' m=>⟨rfl,x.then1 m⟩
theorem H5 (h:iw ⟨M,bz n b a,[]⟩ w) (l:a.op=3): Calls prog 171 #[.p M 0] w λe p=>e=.returned (.tuple #[])/\Iv [M] w [⟨M,bz n b (qr {a with rs:=a.nx} (Uz.wrap (n.pc+Uz.wrap a.im))),[]⟩] p:=by
 obtain ⟨f,t⟩:∃ f,f=Uz.wrap (n.pc+Uz.wrap a.im):=⟨_,rfl⟩;have r:(a.op==4)=false:=by simp;omega
 have s:(a.op==3)=true:=by simp;omega
 have j:0<=f:=by rw [t,IntKind.wrap_u64];omega
 have k:f<18446744073709551616:=by rw [t,IntKind.wrap_u64];omega
 rw [<- t];refine fj (args:=[.p M 0]) (Iv [M] w [⟨M,bz n b a,[]⟩]) func171 ?_;refine aL 0 1 ?_;refine ae Iv.eng {eq:=[(12,cZ .u64 t.symm),(19,af r),(21,af s)],cv:=[(11,vQ λW A=>sx A.row1)]} 200 (Iv.one h) λW A=>?_;refine aK (λ_=>True) ?_;refine gn (R1:=[⟨M,bz n b {a with rs:=a.nx},[]⟩]) (Iv.one A.row1) {} 40 (λg o=>bA f 1 1 j k a6 a6 g) λg e q o i=>⟨_,0,i.1,?_⟩;have l:Iv [M] w [⟨M,bz n b {a with rs:=a.nx},[]⟩] q:=(A.then1 o).below (by rw [i.2];exact (Below.refl _ _).drew);unfold qr;obtain ⟨m,d⟩:∃ m,(cQ f 1 1==1)=m:=⟨_,rfl⟩;rw [d];cases m with
 | true =>refine aK (Iv [M] w [⟨M,bz n b {a with rs:=a.nx},[]⟩]) ?_;refine aN Iv.eng {eq:=[(52,af d)],cv:=[(54,jY λW _=>gY 1 (.inl rfl) W)]} 200 l (λW A=>jZ 0 f A.row1) λW e p A i=>⟨_,0,i.1,fi a4,?_⟩;refine aK (λ_=>True) ?_;exact oN (Iv.one i.2.row1) {} 40 λW' c=>⟨rfl,(A.then1 i.2).then1 c⟩
 | false =>exact gp (Iv.one l.row1) {eq:=[(52,af d)]} 60 λW' c=>⟨rfl,l.then1 c⟩
theorem Kb (h:iw ⟨M,bz n b a,[]⟩ w) (F:a.op=4) (z:b.ax=some ⟨r,W,none⟩) (C:0<=a.ra/\a.ra<n.x.length) (hb:r≠M) (hx:w.cell? ⟨r,W+a.ra.toNat,none⟩=some (.u c)): Calls prog 171 #[.p M 0] w λe u=>e=.returned (.tuple #[])/\Iv [M] w [⟨M,bz n b (qr {a with rs:=a.nx} (bits .andNot .u64 (Uz.wrap (c+Uz.wrap a.im)) 1)),[]⟩] u:=by
 obtain ⟨i,x⟩:∃ i,i=bits .andNot .u64 (Uz.wrap (c+Uz.wrap a.im)) 1:=⟨_,rfl⟩;have E:(a.op==4)=true:=by simp;omega
 have B:∀ (p:Addr) v,p.block=r->w.cell? p=some v->∀ o,Iv [M] w [⟨M,bz n b a,[]⟩] o->o.cell? p=some v:=λp v D s o t=>by rw [<- s];simp only [World.cell?,t.ag.block p.block (lA s) (by rw [D];simpa using hb)]
 have k:0<=i:=by rw [x];exact (Fp _ _ _).1
 have l:i<18446744073709551616:=by rw [x];exact (Fp _ _ _).2
 rw [<- x];refine fj (args:=[.p M 0]) (Iv [M] w [⟨M,bz n b a,[]⟩]) func171 ?_;refine aL 0 1 ?_;refine ae Iv.eng {eq:=[(27,cZ .u64 x.symm),(19,af E)],cv:=[(11,vQ λo t=>sx t.row1),(23,vQ λo t=>J7 t.row1 z C hb (B _ _ rfl hx o t)),(25,vQ λo t=>sx t.row1)]} 200 (Iv.one h) λo t=>?_;refine aK (λ_=>True) ?_;refine gn (R1:=[⟨M,bz n b {a with rs:=a.nx},[]⟩]) (Iv.one t.row1) {} 40 (λq g=>bA i 1 1 k l a6 a6 q) λq e y g j=>⟨_,0,j.1,?_⟩;have A:Iv [M] w [⟨M,bz n b {a with rs:=a.nx},[]⟩] y:=(t.then1 g).below (by rw [j.2];exact (Below.refl _ _).drew);unfold qr;obtain ⟨m,f⟩:∃ m,(cQ i 1 1==1)=m:=⟨_,rfl⟩;rw [f];cases m with
 | true =>refine aK (Iv [M] w [⟨M,bz n b {a with rs:=a.nx},[]⟩]) ?_;refine aN Iv.eng {eq:=[(52,af f)],cv:=[(54,jY λo _=>gY 1 (.inl rfl) o)]} 200 A (λo t=>jZ 0 i t.row1) λo e u t j=>⟨_,0,j.1,fi a4,?_⟩;refine aK (λ_=>True) ?_;exact oN (Iv.one j.2.row1) {} 40 λW' d=>⟨rfl,(t.then1 j.2).then1 d⟩
 | false =>exact gp (Iv.one A.row1) {eq:=[(52,af f)]} 60 λW' d=>⟨rfl,A.then1 d⟩
inductive Wf where
 | ld | st | hd | sc | am
def Wf.ty:Wf->Nat
 | .ld=>208
 | .st=>210
 | .hd=>212
 | .sc=>213
 | .am=>214
def mU (f:Wf) (n:Int) (s:Bool):Value:=.iface f.ty (.agg #[.i n,.bool s])
theorem qs (f:Wf) (g:Int) (s:Bool) (t:a.fm=mU f g s) (h:iw ⟨M,bz n b a,[]⟩ w):Calls prog 231 #[.p M 0] w λe c=>e=.returned (mU f g s)/\Iv [M] w [⟨M,bz n b a,[]⟩] c:=by obtain ⟨k,x,m,p,ra,o,j,i,q,l,wr,r,d,u⟩:=a;dsimp only at t;subst t;refine fj (args:=[.p M 0]) (λ_=>True) func231 ?_;refine aL 0 1 ?_;cases f<;>exact uk (t:=2) (v:=mU _ g s) (Iv.one h) {} 40 λW A=>⟨rfl,A⟩
theorem yZ:CB 332 #[.agg #[.i V,.bool j]] F (.i V):=by refine bf (args:=[.agg #[.i V,.bool j]]) (S:=Bs F [(#[.i V,.bool j],206)]) [(#[.i V,.bool j],206)] func332 ?_;exact aU (t:=2) (v:=.i V) Bs.eng {} 40 (Bs.start _ _) λa h=>⟨rfl,h.2⟩
theorem H6 (n:Nat) (s:Bool) (x:Int) (hn:n=1\/n=2\/n=4\/n=8) (w:World):CB 333 #[.agg #[.i n,.bool s],.u x] w (.u (if s then av (8*n) x else x)):=by
 refine bf (args:=[.agg #[.i n,.bool s],.u x]) (S:=Bs w [(#[.i n,.bool s],206)]) [(#[.i n,.bool s],206)] func333 ?_;cases s with
 | false=>exact aU (t:=4) (v:=.u x) Bs.eng {} 40 (Bs.start _ _) λa h=>⟨rfl,h.2⟩
 | true =>have b:IntKind.i64.wrap (8*(n:Int))=((8*n:Nat):Int):=(by rcases hn with rfl | rfl | rfl | rfl<;>rfl);exact aU (t:=4) (v:=.u (av (8*n) x)) Bs.eng {eq:=[(10,cZ .i64 b)],cv:=[(11,jX λW _=>iW x (8*n) ab ab W)]} 40 (Bs.start _ _) λa h=>⟨rfl,h.2⟩
def gR (n:Nat) (x:List Int):Bool:=decide (n=32)&&(x.getD 0 0==0)
theorem DS (a:Option Addr) (n c:Nat) (x:List Int) (w:World) (hx:x.length=n) (hs:Sl .u64 w a x):CE 67 #[.slice a n c] w (.bool (gR n x)):=by
 by_cases h:n=32;·subst h;obtain ⟨b,off,rfl,l,f⟩:=hs 0 ab;have F:Hid (gR 32 x=(x.getD 0 0==0)):=(by show _=_;unfold gR;simp);have g:w.cell? ⟨b,off,none⟩=some (.u (x.getD 0 0)):=f;generalize gR 32 x=V at *;generalize x.getD 0 0=y at *;clear hs hx f;go_enter func67,ntmps67;exact a09
 ·have F:Hid (gR n x=false):=(by show _=_;unfold gR;rw [decide_eq_false h];rfl);have d:((n:Int)==32)=false:=a8;generalize gR n x=V at *;clear hs hx h;go_enter func67,ntmps67;exact a09
def lD (M:MV):Bool:=bits .and .u64 (M.cs.getD 9 0) 2184==dD M.d
def gE (M:MV):Bool:=(bits .and .u64 M.pc 3==0)&&gR M.x.length M.x&&be M.cs.length M.cs M.pr&&bq M.ram.length&&kP M.d.xs.length M.d.ys.length M.d.ir&&(M.hl||(M.hd==0))&&lD M
theorem km (h:be M o c=true):M=22:=by unfold be br at h;simp only [Bool.and_eq_true,decide_eq_true_eq] at h;exact h.1.1
theorem qt (hl:iU E) (hs:tA k E e): CB 24 #[.agg (ap E e)] k (.bool (gE E)):=by
 have s:=λW g=>DS e.ax E.x.length e.cx _ W rfl (hs.x.below g);have r:=λW g=>wj e.ac E.cs.length e.cc _ E.pr W rfl (hs.cs.below g);have L:=λW (_:Bw k W)=>vT e.ar E.ram.length e.cr W hl.ram;have K:=λW (_:Bw k W)=>mi E.d.t E.d.cm E.d.so e.ai E.d.xs.length e.ci e.ao E.d.ys.length e.co E.d.ir W hl.xs hl.ys;have N:=λW (_:Bw k W)=>sd E.d.t E.d.cm E.d.so e.ai E.d.xs.length e.ci e.ao E.d.ys.length e.co E.d.ir W hl.xs;unfold gE lD;generalize q:(bits .and .u64 E.pc 3==0)=o;generalize gR E.x.length E.x=p at *;generalize H:be E.cs.length E.cs E.pr=u at *;generalize bq E.ram.length=y at *;generalize kP E.d.xs.length E.d.ys.length E.d.ir=z at *;generalize I:(E.hd==0)=B;generalize J:(bits .and .u64 (E.cs.getD 9 0) 2184==dD E.d)=C;cases u with
 | false =>
   refine bf (S:=Bs k [(ap E e,32)]) [(ap E e,32)] func24 ?_;cases o;case' true=>cases p
   all_goals exact aU (t:=2) (v:=.bool false) Bs.eng {eq:=[(6,af q)],cv:=[(10,jX s),(17,jX r)]} 300 (Bs.start _ _) (λm h=>⟨bc,h.2⟩)
 | true =>
   have G:=km H;obtain ⟨M,F,f,i,j⟩:=hs.cs 9 ab;obtain ⟨pc,x,l,b,a,d,w,c,n⟩:=E;dsimp only at *;refine bf (S:=Bs k [(ap ⟨pc,x,l,b,a,d,w,c,n⟩ e,32)]) [(ap ⟨pc,x,l,b,a,d,w,c,n⟩ e,32)] func24 ?_;have D:∀ W,Bs k [(ap ⟨pc,x,l,b,a,d,w,c,n⟩ e,32)] W->W.cell? ⟨M,F+9,none⟩=some (.u (b.getD 9 0)):=λW h=>(h.2.cell (by exact i)).trans j;cases o;case' true =>cases p;case' true =>cases y;case' true =>cases z;case' true=>cases c<;>cases B<;>cases C
   all_goals exact aU (t:=2) (v:=.bool _) Bs.eng {eq:=[(6,af q),(35,af I),(47,af J)],ov:=[(41,pe b.length e.cc .i64 9 f ab underlying23 a4),(42,jk _ _ underlying22 rfl D)],cv:=[(10,jX s),(17,jX r),(22,jX L),(27,eY K),(46,eY N)]} 300 (Bs.start _ _) (λm h=>⟨rfl,h.2⟩)
end Go.Proofs.YtfagphfjfhpmjaaGreatDoor
