/- Own lemmas. -/
import Derived.Test.YtfagphfjfhpmjaaGreatDoorAut
import Derived.Test.YtfagphfjfhpmjaaGreatDoorK05
import Derived.Test.YtfagphfjfhpmjaaGreatDoorK08
import Derived.Test.YtfagphfjfhpmjaaGreatDoorK09
import Derived.Stop.Asserts
import Derived.Handy
set_option maxRecDepth 100000
set_option maxHeartbeats 6400000
namespace Go.Proofs.YtfagphfjfhpmjaaGreatDoor
open Go.RowKit Tryz
open IntKind renaming u64->Uz
set_option linter.unusedVariables false
variable {w x:World} {B r A:Nat} {M M':MV} {a:MA} {l n:List FRow} {b c:Option Addr} {k:List Int} {p:Array Oper} {e:Exit->Act->World->Prop} {E:Int} {f:Program} {g:List Oper} {o:Act} {q:FRow} (t:MV) (L:MA) (Q:List Int) (d v:Int) (D:World) (P:DV) (j:Option Addr) (m s:Nat) (y:List Int) (T W z:Int) (C:Nat) (F:World)
def qO:Go.Code->Go.Code
 | .block _ c | .loop c | .cond _ _ c=>c
 | c=>c
def Q6:Go.Code->Array Oper
 | .region _ o _=>o
 | _=>#[]
theorem oF {P:Program} {n:Nat} {fn:Func} {Rs:Ending->World->Prop} {k:List KI} {F:Fr} {w W:World} {bs:List (Array Value × TypeId)} (hS:Bs w bs W) (H:Hn P (Bs w bs) (Bs w bs)) (m:Nat) {i:Nat} {old:Array Value} {t T:TypeId} {d:TypeDesc} {cs:Array Value} {p:Nat} (hb:bs[i]?=some (old,t)) (l:old.size=cs.size) (g:(P.info? T).map (·.size)=some cs.size) (c:cs.all (·.oneCell')=true) (o:P.underlying T=some d) (hd:(match d with | .struct _ | .array _ _=>true | _=>false)=true) (e:fn.results=#[.cell p T]) (hx:(λ(y:Bool × List KI × Fr)=>(y.1,Eb n y.2.2 y.2.1,zB y.2.2 y.2.1,ij (po y.2.2 y.2.1))) (bp P (lC w.heap.size bs) H n true m k F).1=(false,some (do Instr.storeAt T (.p (w.heap.size+i) 0) (.agg cs);pure Next.skip),false,true)) (he:(bp P (lC w.heap.size bs) H n true m k F).2.map Prod.fst=(bp P (lC w.heap.size bs) H n true m k F).2.map Prod.snd) (hy:∀ X,(λ(z:(Bool × List KI × Fr) × List (Oe × Oe))=>(z.1.1,(lk z.1.2.2 p).map Prod.fst,z.2.map Prod.fst)) (bp P [] ({}:Hn P (λx=>x=X) (λx=>x=X)) n false m (po (bp P (lC w.heap.size bs) H n true m k F).1.2.2 (bp P (lC w.heap.size bs) H n true m k F).1.2.1) (qA (bp P (lC w.heap.size bs) H n true m k F).1.2.2 (bp P (lC w.heap.size bs) H n true m k F).1.2.1 undef 0))=(true,some (.p (w.heap.size+i) 0),(bp P [] ({}:Hn P (λx=>x=X) (λx=>x=X)) n false m (po (bp P (lC w.heap.size bs) H n true m k F).1.2.2 (bp P (lC w.heap.size bs) H n true m k F).1.2.1) (qA (bp P (lC w.heap.size bs) H n true m k F).1.2.2 (bp P (lC w.heap.size bs) H n true m k F).1.2.1 undef 0)).2.map Prod.snd)) (h:∀ V,Bw w V->Rs (.returned (.agg cs)) V):Wg P (Bs w bs) (bodyPost P fn Rs) n k F W:=by simp only [Prod.mk.injEq] at hx hy;refine ae Bs.eng H m hS (hret:=hx.1) (he:=he) λq f=>?_;have b:=f.1 i _ hb;refine bM (hx:=hx.2.1) (az b g l c) (hS:=gh hx.2.2.1) ?_;refine gu (R:=[]) trivial {} m (hx:=by rw [hx.2.2.2,(hy _).1]) (he:=(hy _).2.2) λa j=>⟨_,results_cell_row e _ _ _ _ _ _ _ (j.slot (hy _).2.1) (setRow_heap _ _ _ _ _ _ b) o hd g,h _ (aF f.2 ab _)⟩
theorem qP {bs:List Nat} {b c:World} (h:Bw w b) (k:Ag bs b c) (hb:∀ x ∈ bs,w.heap.size<=x):Bw w c :=
 ⟨k.os.trans h.os,k.tape.trans h.tape,k.output.trans h.output,Nat.le_trans h.size k.size,λi d=>(k.block i (Nat.lt_of_lt_of_le d h.size) λe=>by have:=hb i e;omega).trans (h.block i d)⟩
theorem tD (h:(2:Int)^m=T):d.fdiv (2^m)=d/T:=by subst h;exact Int.fdiv_eq_ediv_of_nonneg _ (Int.le_of_lt (Int.pow_pos ab))
theorem T9 {α:Type} (a b:Bool) (x y:α):(if (a||b)=true then x else y)=if a=true then x else if b=true then x else y:=by cases a<;>rfl
noncomputable abbrev wD:Go.Code:=qO (iF (qO (qO (aq 5 (aL Tryz.f197)))))
noncomputable abbrev wT (R:Act->World->Prop):List KI:=[.blk 1,.code (aq 1 (qO (qO (aq 5 (aL Tryz.f197))))),.fin R,.blk 0]
abbrev wR (V:Fd) (w:World):Ending->World->Prop:=λe a=>e=.returned (.agg V.cells)/\Bw w a
abbrev wB:List (Array Value × TypeId):=[(jl,243)]
noncomputable abbrev wW (V:Fd) (w:World) (k:List KI) (F:Fr) (W:World):Prop:=Wg prog (Bs w wB) (bodyPost prog Tryz.f197 (wR V w)) Tryz.f197.ntmps k F W
abbrev wF (ra:Option Addr) (n rcap b off cap:Nat) (p va kind:Int) (w:World) (L:Fr):Fr:=(0,.slice ra n rcap,0)::(1,.slice (some ⟨b,off,none⟩) 22 cap,0)::(2,.i p,0)::(3,.u va,0)::(4,.i kind,0)::(10,.p w.heap.size 0,1)::L
abbrev wL (lv:Nat) (X e:Int) (L:Fr):Fr:=(12,.u lv,0)::(13,.u X,0)::(14,.u e,0)::(15,.u (ap e 1),0)::(16,.u (ap e 2),0)::(17,.u (ap e 3),0)::(18,.u (ew e),0)::L
section
variable {ra : Option Addr} {n rcap : Nat} {zs : List Int} {b off cap : Nat} {l : List Int} {p va kind : Int} {w : World} {V : Fd} {R : Act -> World -> Prop} {X e : Int} {lv : Nat}
variable (FT : ∀ W, Calls Tryz.prog 247 #[.int .i64 kind] W λe w' => e = .returned (.agg (fK kind).cells) /\ Below W.heap.size W w')
variable (PG : ∀ W, Calls Tryz.prog 246 #[.int .i64 kind] W λe w' => e = .returned (.agg (bW kind).cells) /\ Below W.heap.size W w')
variable (hlz : l.length = 22) (hl : Sl .u64 w (some ⟨b, off, none⟩) l)
include FT hlz hl in
theorem Jj {W:World} (P:lv<=2) (s:Bs w wB W) (m:V=if (cF e kind != e)=true then (if aB l 1 X (bo X 8) 3 4 0=true then ⟨gE e va lv,0,true,X,cF e kind⟩ else fK kind) else ⟨gE e va lv,0,false,0,0⟩):wW V w (.code (aq 12 wD)::wT R) (wF ra n rcap b off cap p va kind w [(12,.u lv,0),(13,.u X,0),(14,.u e,0),(18,.u (ew e),0)]) W:=by
 obtain ⟨L,J⟩:∃ L,gE e va lv=L:=⟨_,rfl⟩
 rw [J] at m
 have N:∀ W,Bs w wB W->Wg prog (Bs w wB) (bodyPost prog Tryz.f197 (wR V w)) Tryz.f197.ntmps (.ops (Q6 (iF (aq 13 wD))) (((Q6 (iF (aq 13 wD))).toList).drop 9)::.code (aq 14 wD)::wT R) (wF ra n rcap b off cap p va kind w [(13,.u X,0),(14,.u e,0),(216,.agg #[.u L,.i 0,.bool false,.u 0,.u 0],0)]) W:=by
  intro W s
  refine dF 2 (dD (T:=243) (z:=.agg jl) ba W) ?_
  have K:=s.1 0 _ rfl
  have I:w.heap.size<W.heap.size:=(Array.getElem?_eq_some_iff.1 K).1
  have g:Bw w (W.alloc (.cells jl 243)):=s.2.alloc s.2.size _
  have F:Iv [w.heap.size,W.heap.size] (W.alloc (.cells jl 243)) [⟨w.heap.size,jl,[]⟩,⟨W.heap.size,jl,[]⟩] (W.alloc (.cells jl 243)):=⟨λr o=>by
   simp only [List.mem_cons,List.not_mem_nil,or_false] at o
   rcases o with rfl|rfl
   ·exact ⟨_,(Below.heap_alloc _ _ _ I).trans K⟩
   ·exact ⟨_,heap_alloc_new _ _⟩,Ag.refl _ _,cp,bv⟩
  have j:∀ x ∈ [w.heap.size,W.heap.size],w.heap.size<=x:=by simp;omega
  refine aH (λ_=>True) ?_
  show Wg _ _ _ _ _ _ (W.alloc (.cells jl 243))
  generalize W.heap.size=h at F j ⊢
  generalize W.alloc (.cells jl 243)=G at F g ⊢
  have u:∀ (f:Fd) (i:World) (a:Act) {G:World} (g:Bw w G) (L:List Rw),V=f->Iv [w.heap.size,h] G (⟨w.heap.size,f.cells,[]⟩::L) i->a.tmps.getD 10 undef=.p w.heap.size 0->∃ v,(results Tryz.f197 a.tmps).run prog i=.ok v i/\wR V w (.returned v) i:=λf i a G g L O d Q=>by
   obtain ⟨t,C⟩:=d.rows _ (List.mem_cons_self ..)
   exact ⟨_,results_cell_row results197 _ _ _ _ _ _ _ Q C underlying243 rfl ba,by rw [O],qP g d.ag j⟩
  obtain ⟨z,c⟩:∃ z,cF e kind=z:=⟨_,rfl⟩
  rw [c] at m
  obtain ⟨q,M⟩:∃ q,aB l 1 X (bo X 8) 3 4 0=q:=⟨_,rfl⟩
  rw [M] at m
  cases d:(kind==3)<;>(
   unfold cF at c
   rw [d] at c
   first | rw [if_pos rfl] at c | rw [if_neg bc] at c)
  all_goals
   cases k:(z != e) with
   | false =>
     rw [k,if_neg bc] at m
     exact iH F {eq:=[(220,ak d),(225,ak k)]} 100 (R1:=[⟨w.heap.size,#[.u L,.i 0,.bool false,.u 0,.u 0],[]⟩,⟨h,#[.u L,.i 0,.bool false,.u 0,.u 0],[]⟩]) (hx:=ia) (he:=ia) λi a d B=>u _ i a g _ m d (B.slot ia)
   | true =>
     rw [k,if_pos rfl] at m
     refine fH F {eq:=[(220,ak d),(225,ak k)]} 100 (R1:=[⟨w.heap.size,jl,[]⟩,⟨h,#[.u L,.i 0,.bool false,.u 0,.u 0],[]⟩]) (λi d=>mx (some ⟨b,off,none⟩) cap l 1 X 8 3 i hlz (hl.below (qP g d.ag j))) (hx:=ia) (he:=ia) λi e3 S d o=>⟨.bool q,0,by rw [o.1,M],?_⟩
     rw [o.2]
     have A:=qP g d.ag j
     have y:Iv [w.heap.size,h] i [⟨w.heap.size,jl,[]⟩,⟨h,#[.u L,.i 0,.bool false,.u 0,.u 0],[]⟩] i:=⟨d.rows,Ag.refl _ _,d.sub,d.nd⟩
     cases q with
     | true=>exact iH y {} 100 (R1:=[⟨w.heap.size,#[.u L,.i 0,.bool true,.u X,.u z],[]⟩,⟨h,#[.u L,.i 0,.bool true,.u X,.u z],[]⟩]) (hx:=ia) (he:=ia) λD a k B=>u _ D a A _ m k (B.slot ia)
     | false =>
       refine fH y {} 100 (R1:=[⟨w.heap.size,jl,[]⟩,⟨h,#[.u L,.i 0,.bool false,.u 0,.u 0],[]⟩]) (λi d=>FT i) (hx:=ia) (he:=ia) λD e4 U k o=>⟨.agg (fK kind).cells,0,o.1,?_⟩
       have E:=k.below o.2
       have H:=qP A E.ag j
       exact iH (bs:=[w.heap.size,h]) (R:=[⟨w.heap.size,jl,[]⟩,⟨h,#[.u L,.i 0,.bool false,.u 0,.u 0],[]⟩]) ⟨E.rows,Ag.refl _ _,E.sub,E.nd⟩ {} 100 (R1:=[⟨w.heap.size,(fK kind).cells,[]⟩,⟨h,#[.u L,.i 0,.bool false,.u 0,.u 0],[]⟩]) (hx:=ia) (he:=ia) λD a k B=>u _ D a H _ m k (B.slot ia)
 obtain rfl|rfl|rfl:lv=0\/lv=1\/lv=2:=ab
 all_goals exact ae Bs.eng {eq:=[(215,dG .u64 J)]} 20 s λW s=>af _ _ (N W s)
include FT PG hlz hl in
theorem Jk {W:World} (r:lv<=2) (d:Bs w wB W) (a:V=dp l p va kind e X lv):wW V w (.code (aq 9 wD)::wT R) (wF ra n rcap b off cap p va kind w (wL lv X e [])) W:=by
 obtain ⟨G,t,s,j,o⟩:=hl 0 ab
 simp only [Option.some.injEq,Addr.mk.injEq,and_true] at s
 obtain ⟨rfl,rfl⟩:=s
 have o:∀ W,Bs w wB W->W.cell? ⟨b,off,none⟩=some (.u (l.getD 0 0)):=λW d=>(d.2.cell (by exact j)).trans o
 have q:∀ (x:Int) (i:Nat),i<64->∀ W,Bw w W->CE 129 #[.u x,.u i] W (.u (ap x i)):=λx i y W _=>gT x i y W
 unfold dp gJ gK at a
 simp only [T9] at a
 generalize v:(if (cF e kind != e)=true then (if aB l 1 X (bo X 8) 3 4 0=true then ⟨gE e va lv,0,true,X,cF e kind⟩ else fK kind) else ⟨gE e va lv,0,false,0,0⟩)=Y at a
 have E:∀ c W,Bs w wB W->(V=if c=true then bW kind else Y)->wW V w (.code (aq 1 (qO (aq 1 (qO (aq 1 (qO (aq 1 (qO (aq 1 (qO (aq 1 (qO (iF (aq 11 wD))))))))))))))::.blk 2::.code (aq 12 wD)::wT R) (wF ra n rcap b off cap p va kind w (wL lv X e [(20,.u (ap e 4),0),(183,.bool c,0)])) W:=by
  intro c W d a
  cases c with
  | true=>rw [if_pos rfl] at a;exact oF (i:=0) (cs:=(bW kind:Fd).cells) d {cv:=[(202,fQ λW _=>PG W)]} 20 rfl rfl ba (lF _) underlying243 rfl results197 ba ba (λ_=>ba) λW h=>⟨by rw [a],h⟩
  | false =>
    rw [if_neg bc] at a
    rw [<- v] at a
    exact ae Bs.eng {} 3 d λW d=>af _ _ (Jj (ra:=ra) (n:=n) (rcap:=rcap) (cap:=cap) (p:=p) (R:=R) FT hlz hl r d a)
 have D:∀ c W,Bs w wB W->(V=if c=true then bW kind else if ((p==1)&&(ap e 4==1)&&((kind==1)||(ap (l.getD 0 0) 18==0)))=true then bW kind else Y)->wW V w (.code (aq 1 (qO (aq 1 (qO (aq 1 (qO (aq 1 (qO (aq 1 (qO (iF (aq 11 wD))))))))))))::.blk 2::.code (aq 12 wD)::wT R) (wF ra n rcap b off cap p va kind w (wL lv X e [(20,.u (ap e 4),0),(174,.bool c,0)])) W:=by
  intro c W d a
  cases c with
  | true=>rw [if_pos rfl] at a;exact oF (i:=0) (cs:=(bW kind:Fd).cells) d {cv:=[(182,fQ λW _=>PG W)]} 20 rfl rfl ba (lF _) underlying243 rfl results197 ba ba (λ_=>ba) λW h=>⟨by rw [a],h⟩
  | false =>
    rw [if_neg bc] at a
    obtain ⟨c,f⟩:∃ c,c=((p==1)&&(ap e 4==1)&&((kind==1)||(ap (l.getD 0 0) 18==0))):=⟨_,rfl⟩
    rw [<- f] at a
    cases t0:(p==1)<;>cases g:(ap e 4==1)<;>cases k:(kind==1)<;>cases m:(ap (l.getD 0 0) 18==0)<;>(
     rw [t0,g,k,m] at f
     subst f
     exact ae Bs.eng {eq:=[(185,ak t0),(188,ak g),(192,ak k),(198,ak m)],ov:=[(196,iL ⟨b,off,none⟩ _ underlying22 rfl o)],cv:=[(197,mI (q (l.getD 0 0) 18 ab))]} 22 d λW d=>af _ _ (E _ W d a))
 have C:∀ c W,Bs w wB W->(V=if c=true then bW kind else if ((p==0)&&(ap e 4==0))=true then bW kind else if ((p==1)&&(ap e 4==1)&&((kind==1)||(ap (l.getD 0 0) 18==0)))=true then bW kind else Y)->wW V w (.code (aq 1 (qO (aq 1 (qO (aq 1 (qO (aq 1 (qO (iF (aq 11 wD))))))))))::.blk 2::.code (aq 12 wD)::wT R) (wF ra n rcap b off cap p va kind w (wL lv X e [(20,.u (ap e 4),0),(165,.bool c,0)])) W:=by
  intro c W d a
  cases c with
  | true=>rw [if_pos rfl] at a;exact oF (i:=0) (cs:=(bW kind:Fd).cells) d {cv:=[(173,fQ λW _=>PG W)]} 20 rfl rfl ba (lF _) underlying243 rfl results197 ba ba (λ_=>ba) λW h=>⟨by rw [a],h⟩
  | false =>
    rw [if_neg bc] at a
    obtain ⟨c,f⟩:∃ c,c=((p==0)&&(ap e 4==0)):=⟨_,rfl⟩
    rw [<- f] at a
    cases t0:(p==0)<;>cases g:(ap e 4==0)<;>(
     rw [t0,g] at f
     subst f
     exact ae Bs.eng {eq:=[(176,ak t0),(179,ak g)]} 11 d λW d=>af _ _ (D _ W d a))
 have B:∀ c W,Bs w wB W->(V=if c=true then bW kind else if ((kind==3)&&(ap e 2==0))=true then bW kind else if ((p==0)&&(ap e 4==0))=true then bW kind else if ((p==1)&&(ap e 4==1)&&((kind==1)||(ap (l.getD 0 0) 18==0)))=true then bW kind else Y)->wW V w (.code (aq 1 (qO (aq 1 (qO (aq 1 (qO (iF (aq 11 wD))))))))::.blk 2::.code (aq 12 wD)::wT R) (wF ra n rcap b off cap p va kind w (wL lv X e [(20,.u (ap e 4),0),(145,.bool c,0)])) W:=by
  intro c W d a
  cases c with
  | true=>rw [if_pos rfl] at a;exact oF (i:=0) (cs:=(bW kind:Fd).cells) d {cv:=[(164,fQ λW _=>PG W)]} 20 rfl rfl ba (lF _) underlying243 rfl results197 ba ba (λ_=>ba) λW h=>⟨by rw [a],h⟩
  | false =>
    rw [if_neg bc] at a
    obtain ⟨c,f⟩:∃ c,c=((kind==3)&&(ap e 2==0)):=⟨_,rfl⟩
    rw [<- f] at a
    cases t0:(kind==3)<;>cases g:(ap e 2==0)<;>(
     rw [t0,g] at f
     subst f
     exact ae Bs.eng {eq:=[(167,ak t0),(170,ak g)]} 11 d λW d=>af _ _ (C _ W d a))
 have A:∀ c W,Bs w wB W->(V=if c=true then bW kind else if ((kind==2)&&(ap e 1==0)&&((ap e 3==0)||(ap (l.getD 0 0) 19==0)))=true then bW kind else if ((kind==3)&&(ap e 2==0))=true then bW kind else if ((p==0)&&(ap e 4==0))=true then bW kind else if ((p==1)&&(ap e 4==1)&&((kind==1)||(ap (l.getD 0 0) 18==0)))=true then bW kind else Y)->wW V w (.code (aq 1 (qO (aq 1 (qO (iF (aq 11 wD))))))::.blk 2::.code (aq 12 wD)::wT R) (wF ra n rcap b off cap p va kind w (wL lv X e [(20,.u (ap e 4),0),(136,.bool c,0)])) W:=by
  intro c W d a
  cases c with
  | true=>rw [if_pos rfl] at a;exact oF (i:=0) (cs:=(bW kind:Fd).cells) d {cv:=[(144,fQ λW _=>PG W)]} 20 rfl rfl ba (lF _) underlying243 rfl results197 ba ba (λ_=>ba) λW h=>⟨by rw [a],h⟩
  | false =>
    rw [if_neg bc] at a
    obtain ⟨c,f⟩:∃ c,c=((kind==2)&&(ap e 1==0)&&((ap e 3==0)||(ap (l.getD 0 0) 19==0))):=⟨_,rfl⟩
    rw [<- f] at a
    cases t0:(kind==2)<;>cases g:(ap e 1==0)<;>cases k:(ap e 3==0)<;>cases m:(ap (l.getD 0 0) 19==0)<;>(
     rw [t0,g,k,m] at f
     subst f
     exact ae Bs.eng {eq:=[(147,ak t0),(150,ak g),(154,ak k),(160,ak m)],ov:=[(158,iL ⟨b,off,none⟩ _ underlying22 rfl o)],cv:=[(159,mI (q (l.getD 0 0) 19 ab))]} 22 d λW d=>af _ _ (B _ W d a))
 have z:∀ c W,Bs w wB W->(V=if c=true then bW kind else if ((kind==1)&&(ap e 3==0))=true then bW kind else if ((kind==2)&&(ap e 1==0)&&((ap e 3==0)||(ap (l.getD 0 0) 19==0)))=true then bW kind else if ((kind==3)&&(ap e 2==0))=true then bW kind else if ((p==0)&&(ap e 4==0))=true then bW kind else if ((p==1)&&(ap e 4==1)&&((kind==1)||(ap (l.getD 0 0) 18==0)))=true then bW kind else Y)->wW V w (.code (aq 1 (qO (iF (aq 11 wD))))::.blk 2::.code (aq 12 wD)::wT R) (wF ra n rcap b off cap p va kind w (wL lv X e [(20,.u (ap e 4),0),(129,.bool c,0)])) W:=by
  intro c W d a
  cases c with
  | true=>rw [if_pos rfl] at a;exact oF (i:=0) (cs:=(bW kind:Fd).cells) d {cv:=[(135,fQ λW _=>PG W)]} 20 rfl rfl ba (lF _) underlying243 rfl results197 ba ba (λ_=>ba) λW h=>⟨by rw [a],h⟩
  | false =>
    rw [if_neg bc] at a
    obtain ⟨c,f⟩:∃ c,c=((kind==1)&&(ap e 3==0)):=⟨_,rfl⟩
    rw [<- f] at a
    cases t0:(kind==1)<;>cases g:(ap e 3==0)<;>(
     rw [t0,g] at f
     subst f
     exact ae Bs.eng {eq:=[(138,ak t0),(141,ak g)]} 11 d λW d=>af _ _ (A _ W d a))
 obtain ⟨c,f⟩:∃ c,mA e lv=c:=⟨_,rfl⟩
 rw [f] at a
 obtain rfl|rfl|rfl:lv=0\/lv=1\/lv=2:=ab
 all_goals exact ae Bs.eng {eq:=[(133,ak f)],cv:=[(128,mI (q e 4 ab))]} 24 d λW d=>af _ _ (z c W d a)
include FT PG hlz hl in
theorem EL {T:Int} {W:World} (hr:bf n=true) (hz:zs.length=n) (hs:Sl .u8 w ra zs) (C:∀ y ∈ zs,(Lit.int .u8 y).wf=true) (A:lv<=2) (g:Bs w wB W) (d:V=bO zs n l p va kind lv T) (N:∀ a k G,0<lv->V=bO zs n l p va kind (lv-1) G->cg (wF ra n rcap b off cap p va kind w [(11,.u G,0),(12,.u ((lv-1:Nat):Int),0)]) Tryz.f197.ntmps a->Bs w wB k->R a k):wW V w [.code (qO (qO (aq 5 (aL Tryz.f197)))),.fin R,.blk 0] (wF ra n rcap b off cap p va kind w [(11,.u T,0),(12,.u lv,0)]) W:=by
 rw [gL] at d
 obtain ⟨X,r⟩:∃ X,bK T va lv=X:=⟨_,rfl⟩
 have H:=tD va (12+9*lv) _ rfl
 have z:0<=X/\X<18446744073709551616:=by rw [<- r];exact TZ _
 obtain ⟨e,J⟩:∃ e,fE zs X=e:=⟨_,rfl⟩
 rw [r,J] at d
 have s:∀ (x:Int) (i:Nat),i<64->∀ W,Bw w W->CE 129 #[.u x,.u i] W (.u (ap x i)):=λx i P W _=>gT x i P W
 have t:∀ W,Bw w W->CE 135 #[.slice ra n rcap,.u X,.i 8] W (.bool (gB n X 8)):=λW _=>vb ra n rcap X 8 W hr rfl z.1 ab
 have u:∀ W,Bw w W->CE 133 #[.slice (some ⟨b,off,none⟩) 22 cap,.i 1,.u X,.i 8,.i 2] W (.bool (aB l 1 X (bo X 8) 2 4 0)):=λW m=>mx (some ⟨b,off,none⟩) cap l 1 X 8 2 W hlz (hl.below m)
 have F:∀ c W,Bs w wB W->(V=if c=true then if jk e lv=true then bW kind else bO zs n l p va kind (lv-1) (Uz.wrap (ew e*4096)) else dp l p va kind e X lv)->wW V w (.code (aq 1 (iF (aq 8 wD)))::.code (aq 9 wD)::wT R) (wF ra n rcap b off cap p va kind w (wL lv X e [(104,.bool c,0)])) W:=by
  intro c W g d
  cases c with
  | false =>
    rw [if_neg bc] at d
    exact ae Bs.eng {} 2 g λW g=>af _ _ (Jk (ra:=ra) (n:=n) (rcap:=rcap) (cap:=cap) (R:=R) FT PG hlz hl A g d)
  | true =>
    rw [if_pos rfl] at d
    unfold jk at d
    cases t0:(bits .and .u64 (e/16) 1==1)<;>cases j:(bits .and .u64 (e/64) 3 != 0)<;>rw [t0,j] at d<;>obtain rfl|rfl|rfl:lv=0\/lv=1\/lv=2:=ab
    all_goals first
     | (rw [if_pos (by rfl)] at d
        exact oF (i:=0) (cs:=(bW kind:Fd).cells) g {eq:=[(109,dG .u64 (tD e 4 16 bc)),(115,dG .u64 (tD e 6 64 bc)),(111,ak t0),(117,ak j)],cv:=[(120,fQ λW _=>PG W)]} 60 rfl rfl ba (lF _) underlying243 rfl results197 ba ba (λ_=>ba) λW m=>⟨by rw [d],m⟩)
     | (rw [if_neg bc] at d
        exact zD Bs.eng {eq:=[(109,dG .u64 (tD e 4 16 bc)),(115,dG .u64 (tD e 6 64 bc)),(111,ak t0),(117,ak j)]} 60 g λa k S Q=>N a k _ ab d (Q.less ba) S)
 have E:∀ c W,Bs w wB W->(V=if c=true then bW kind else if mz e=true then if jk e lv=true then bW kind else bO zs n l p va kind (lv-1) (Uz.wrap (ew e*4096)) else dp l p va kind e X lv)->wW V w (.code (aq 1 (iF (aq 6 wD)))::.code (aq 7 wD)::wT R) (wF ra n rcap b off cap p va kind w [(12,.u lv,0),(13,.u X,0),(14,.u e,0),(15,.u (ap e 1),0),(16,.u (ap e 2),0),(17,.u (ap e 3),0),(93,.bool c,0)]) W:=by
  intro c W g d
  cases c with
  | true=>rw [if_pos rfl] at d;exact oF (i:=0) (cs:=(bW kind:Fd).cells) g {cv:=[(95,fQ λW _=>PG W)]} 20 rfl rfl ba (lF _) underlying243 rfl results197 ba ba (λ_=>ba) λW m=>⟨by rw [d],m⟩
  | false =>
    rw [if_neg bc] at d
    obtain ⟨c,o⟩:∃ c,c=mz e:=⟨_,rfl⟩
    rw [<- o] at d
    unfold mz at o
    cases t0:(ap e 1==0)<;>cases j:(ap e 3==0)<;>(
     rw [t0,j] at o
     subst o
     exact ae Bs.eng {eq:=[(97,dG .u64 (tD e 10 1024 bc)),(100,ak t0),(103,ak j)]} 19 g λW g=>af _ _ (F _ W g d))
 have D:gB n X 8=true->∀ W,Bs w wB W->(V=if pL e=true then bW kind else if mz e=true then if jk e lv=true then bW kind else bO zs n l p va kind (lv-1) (Uz.wrap (ew e*4096)) else dp l p va kind e X lv)->wW V w (.code (aq 2 wD)::wT R) (wF ra n rcap b off cap p va kind w [(12,.u lv,0),(13,.u X,0)]) W:=by
  intro B W g d
  have M:∀ W,Bw w W->CE 136 #[.slice ra n rcap,.u X,.i 8] W (.u e):=λW m=>by
   have O:=zP B
   obtain ⟨f,q⟩:∃ f:Nat,X=2147483648+(f:Int):=⟨(X-2147483648).toNat,ab⟩
   have I:=gq hr
   have h:=vd ra n rcap f 8 zs W hz ab (hs.below m) C ab ab ab
   have e2:le zs f 8=e:=by rw [<- J];unfold fE;rw [q,show (2147483648+(f:Int)-2147483648).toNat=f from ab]
   rw [e2,<- q] at h
   exact h
  obtain ⟨c,o⟩:∃ c,c=pL e:=⟨_,rfl⟩
  rw [<- o] at d
  unfold pL at o
  cases t0:(bits .and .u64 e 1==0)<;>cases j:(ap e 1==0)<;>cases K:(ap e 2==1)<;>cases L:(e/18014398509481984 != 0)<;>(
   rw [t0,j,K,L] at o
   subst o
   exact ae Bs.eng {eq:=[(91,dG .u64 (tD e 54 18014398509481984 bc)),(80,ak t0),(83,ak j),(86,ak K),(92,ak L)],cv:=[(71,mI M),(73,mI (s e 1 ab)),(75,mI (s e 2 ab)),(77,mI (s e 3 ab))]} 45 g λW g=>af _ _ (E _ W g d))
 cases t0:gB n X 8<;>cases j:aB l 1 X (bo X 8) 2 4 0<;>rw [t0] at t<;>rw [j] at u<;>rw [t0] at d<;>(try rw [j] at d)<;>obtain rfl|rfl|rfl:lv=0\/lv=1\/lv=2:=ab
 all_goals first
  | (rw [if_pos rfl,if_pos rfl] at d
     exact ae Bs.eng {eq:=[(53,dG .u64 H),(13,dG .u64 r)],cv:=[(59,mI t),(64,mI u)]} 31 g λW g=>af _ _ (D t0 W g d))
  | (first | rw [if_pos rfl,if_neg bc] at d | rw [if_neg bc] at d
     exact oF (i:=0) (cs:=(fK kind:Fd).cells) g {eq:=[(53,dG .u64 H),(13,dG .u64 r)],cv:=[(68,fQ λW _=>FT W),(59,mI t),(64,mI u)]} 60 rfl rfl ba (lF _) underlying243 rfl results197 ba ba (λ_=>ba) λW m=>⟨by rw [d],m⟩)
end
theorem EM (zs:List Int) (b off cap:Nat) (l:List Int) (p va kind:Int) (w:World) (hr:bf m=true) (hz:zs.length=m) (hs:Sl .u8 w j zs) (t:∀ y ∈ zs,(Lit.int .u8 y).wf=true) (hlz:l.length=22) (hl:Sl .u64 w (some ⟨b,off,none⟩) l) (K:bZ p=true) (k:1<=kind) (n:kind<=3) (G:0<=va/\va<18446744073709551616): CB 197 #[.slice j m s,.slice (some ⟨b,off,none⟩) 22 cap,.i p,.u va,.i kind] w (.agg (ct zs m l p va kind).cells):=by
 have FT:=B5 kind k n;have PG:=EH kind k n;obtain ⟨I,z,v,h,c⟩:=hl 15 ab;simp only [Option.some.injEq,Addr.mk.injEq,and_true] at v;obtain ⟨rfl,rfl⟩:=v;have c:∀ W,Bs w wB W->W.cell? ⟨b,off+15,none⟩=some (.u (l.getD 15 0)):=λW f=>(f.2.cell (by exact h)).trans c;have u:∀ W,Bw w W->CE 144 #[.u va,.u 39] W (.u (au 39 va)):=λW _=>eB va 39 ab ab W;obtain ⟨V,d⟩:∃ V,V=ct zs m l p va kind:=⟨_,rfl⟩;rw [<- d];unfold ct at d;refine bC (S:=Bs w wB) (args:=[.slice j m s,.slice (some ⟨b,off,none⟩) 22 cap,.i p,.u va,.i kind]) wB func197 ?_;have f:=Bs.start w wB;have g:=tD (l.getD 15 0) 60 1152921504606846976 bc;generalize bP w wB=W at f ⊢;cases t0:(p==3)<;>cases q:(l.getD 15 0/1152921504606846976==0)<;>rw [t0,q] at d;all_goals try (rw [if_pos (by rfl)] at d;exact oF (i:=0) (cs:=(⟨va,0,false,0,0⟩:Fd).cells) f {eq:=[(30,dG .u64 g),(25,ak t0),(31,ak q)],ov:=[(29,iL ⟨b,off+15,none⟩ _ underlying22 rfl c)]} 60 rfl rfl ba (lF _) underlying243 rfl results197 ba ba (λ_=>ba) λW rcap=>⟨by rw [d],rcap⟩)
 rw [if_neg bc] at d;cases r:(au 39 va != va);case true=>rw [r,if_pos rfl] at d;exact oF (i:=0) (cs:=(bW kind:Fd).cells) f {eq:=[(30,dG .u64 g),(25,ak t0),(31,ak q),(38,ak r)],ov:=[(29,iL ⟨b,off+15,none⟩ _ underlying22 rfl c)],cv:=[(40,fQ λW _=>PG W),(36,mI u)]} 60 rfl rfl ba (lF _) underlying243 rfl results197 ba ba (λ_=>ba) λW rcap=>⟨by rw [d],rcap⟩
 rw [r,if_neg bc] at d;refine ae Bs.eng {eq:=[(30,dG .u64 g),(25,ak t0),(31,ak q),(38,ak r)],ov:=[(29,iL ⟨b,off+15,none⟩ _ underlying22 rfl c),(43,iL ⟨b,off+15,none⟩ _ underlying22 rfl c)],cv:=[(36,mI u)]} 100 f λW f=>af [.code (qO (aq 5 (aL Tryz.f197))),.blk 0] (wF j m s b off cap p va kind w [(11,.u (kW l),0),(12,.u ((2:Nat):Int),0)]) ?_;refine kS (α:=Nat × Int) (λx=>wF j m s b off cap p va kind w [(11,.u x.2,0),(12,.u (x.1:Int),0)]) (λra x W=>ra=x.1/\x.1<=2/\V=bO zs m l p va kind x.1 x.2/\Bs w wB W) 2 (2,kW l) ba ba ⟨rfl,Nat.le_refl _,d,f⟩ λra x W D R E=>?_;obtain ⟨rfl,C,d,f⟩:=D;exact EL FT PG hlz hl hr hz hs t C f d λa o A J B F H=>E a o (x.1-1) (x.1-1,A) ab F ⟨rfl,by show x.1-1<=2;omega,B,H⟩
theorem mC:U (cF d v):=by
 unfold cF;split;·exact ah _ _ _
 ·exact ah _ _ _
theorem yE (h:(dp Q d v T W z C).marked=true):(dp Q d v T W z C).at_=z/\U (dp Q d v T W z C).entry:=by
 unfold dp at h ⊢;split at h;·cases h
 ·rename_i a;split at h;·cases h
  ·rename_i b;split at h;·cases h
   ·rename_i c;rw [if_neg a,if_neg b,if_neg c];split at h
    ·rename_i p;rw [if_pos p];split at h;·rename_i f;rw [if_pos f];exact ⟨rfl,mC W T⟩
     ·cases h
    ·cases h
theorem EN:∀ lv p,(bO Q m y T W z lv p).marked=true->gB m (bO Q m y T W z lv p).at_ 8=true/\U (bO Q m y T W z lv p).entry:=by
 intro lv;induction lv with
 | zero =>
   intro p h;rw [bO] at h ⊢;split at h
   ·rename_i a;rw [if_pos a];split at h
    ·rename_i d;rw [if_pos d];split at h;·cases h
     ·rename_i e;rw [if_neg e];split at h;·cases h
      ·rename_i b;rw [if_neg b];obtain ⟨c,e2⟩:=yE _ _ _ _ _ _ _ h;rw [c];exact ⟨a,e2⟩
    ·cases h
   ·cases h
 | succ lv g =>
   intro p h;rw [bO] at h ⊢;split at h
   ·rename_i a;rw [if_pos a];split at h
    ·rename_i d;rw [if_pos d];split at h;·cases h
     ·rename_i e;rw [if_neg e];split at h
      ·rename_i b;rw [if_pos b];split at h;·cases h
       ·rename_i f;rw [if_neg f];exact g _ h
      ·rename_i b;rw [if_neg b];obtain ⟨c,e2⟩:=yE _ _ _ _ _ _ _ h;rw [c];exact ⟨a,e2⟩
    ·cases h
   ·cases h
theorem Jl (h:(ct Q m y T W z).marked=true):gB m (ct Q m y T W z).at_ 8=true/\U (ct Q m y T W z).entry:=by
 unfold ct at h ⊢;split at h;·cases h
 ·rename_i a;rw [if_neg a];split at h;·cases h
  ·rename_i b;rw [if_neg b];exact EN _ _ _ _ _ _ _ _ h
def jc (kind:Int):Bool:=decide (1<=kind/\kind<=3)
def nB (n m:Nat) (l:List Int) (p kind:Int):Bool:=bf n&&bn m l p&&jc kind
def GG (zs:List Int) (n m:Nat) (l:List Int) (p va kind:Int):Int:=if nB n m l p kind=true then (ct zs n l p va kind).addr else 0
def GH (zs:List Int) (n m:Nat) (l:List Int) (p va kind:Int):Int:=if nB n m l p kind=true then (ct zs n l p va kind).code else if jc kind=true then dL kind else 1
def bx (zs:List Int) (f:Fd):List Int:=if f.marked=true then km zs (f.at_-2147483648).toNat f.entry 8 else zs
def vM (zs:List Int) (n m:Nat) (l:List Int) (p va kind:Int):List Int:=if nB n m l p kind=true then bx zs (ct zs n l p va kind) else []
theorem kv (f:Fd):(bx Q f).length=Q.length:=by
 unfold bx;split;·rw [jq]
 ·rfl
theorem oG {o:Obj} (h:w.heap[B]?=some o) (a:Obj):(w.alloc a).heap[B]?=some o:=(Below.heap_alloc w a B (Array.getElem?_eq_some_iff.1 h).1).trans h
theorem EO (hb:m<=D.heap.size) (o:Obj) (a:o=.cells #[] 5 (0,0)):(D.alloc o).ownsRow m 5 1 (.slice (some ⟨D.heap.size,0,none⟩) 0 0) 0 (([]:List Int).map (Value.int .u8)):=by subst a;exact World.ownsRow_lit D #[] 0 hb et rfl
def g8 (kind:Int):Int:=if kind=1 then 17 else if kind=2 then 21 else 23
def oH (kind:Int):Int:=if kind=1 then 16 else if kind=2 then 20 else 22
def bU (M:MV) (R:List Int):MV:=⟨M.pc,M.x,M.pr,M.cs,R,M.d,M.hd,M.hl,M.wt⟩
def db (M:MV) (D:DV):MV:=⟨M.pc,M.x,M.pr,M.cs,M.ram,D,M.hd,M.hl,M.wt⟩
def lI (M:MV):MV:=⟨M.pc,M.x,M.pr,M.cs,M.ram,M.d,0,false,M.wt⟩
def lJ (M:MV) (pa:Int):Bool:=M.hl&&(bits .andNot .u64 M.hd 7==bits .andNot .u64 pa 7)
def nW (M:MV) (pa:Int):MV:=if lJ M pa=true then lI M else M
def tE (M:MV) (pa size kind x:Int):Int × MV × Int :=
 if gB M.ram.length pa size=true then
  (if (kind==3)=true then (0,nW (bU M (km M.ram (pa-2147483648).toNat x size.toNat)) pa,0) else (le M.ram (pa-2147483648).toNat size.toNat,M,0))
 else if (kind==2)=true then
  (if (jn M.d (gA pa size)).2.2=true then ((jn M.d (gA pa size)).1,cK (db M (jn M.d (gA pa size)).2.1),0) else (0,M,g8 kind))
 else if (kind==3)=true then
  (if (fP M.d x (gA pa size)).2=true then (0,nW (cK (db M (fP M.d x (gA pa size)).1)) pa,0) else (0,M,g8 kind))
 else (0,M,g8 kind)
def Jm (l:List Int) (p pa size kind:Int):Bool:=decide (bo pa size<pa)||!aB l p pa (bo pa size) kind 4 0
def zU (M:MV) (p addr size kind x:Int) (F:Fd):Int × MV × Int :=
 if (F.code != 0)=true then (0,bU M (bx M.ram F),wrap64 (F.code+16))
 else if Jm M.cs p F.addr size kind=true then (0,bU M (bx M.ram F),g8 kind)
 else tE (bU M (bx M.ram F)) F.addr size kind x
def aC (M:MV) (addr size kind x:Int):Int × MV × Int :=
 if (addr%size != 0)=true then (0,M,oH kind)
 else zU M (gc M.cs M.pr kind) addr size kind x (ct M.ram M.ram.length M.cs (gc M.cs M.pr kind) addr kind)
theorem bA.sub (h:bA B r w l) (hs:n.Sublist l):bA B r w n :=
 ⟨λq a=>h.own q (hs.subset a),λq a=>h.hi q (hs.subset a),h.ne.sublist hs⟩
theorem bA.ins {E':Nat} (h:bA B r w (l++n)) (g:w.ownsRow r q.t 1 q.v q.n q.xs) (i:B<=r) (j:w.heap.size<=E') (L1:r<=E'):bA B E' w (l++q::n):=by
 have b:=List.pairwise_append.1 h.ne;have c:∀ s ∈ l++n,∀ k,s.v.ownBlock=some k->k<r:=λs a k e=>h.hi s a k e;have f:∀ k,q.v.ownBlock=some k->r<=k/\k<w.heap.size:=λk e=>g.lt k e;refine ⟨λs a=>?_,λs a k e=>?_,List.pairwise_append.2 ⟨b.1,List.pairwise_cons.2 ⟨λs a k e e2=>?_,b.2.1⟩,λs a t d k e e2=>?_⟩⟩
 ·rcases List.mem_append.1 a with a|a;·exact h.own s (List.mem_append_left _ a)
  ·rcases List.mem_cons.1 a with rfl|a;·exact cG g i
   ·exact h.own s (List.mem_append_right _ a)
 ·rcases List.mem_append.1 a with a|a;·have:=c s (List.mem_append_left _ a) k e;omega
  ·rcases List.mem_cons.1 a with rfl|a;·have:=f k e;omega
   ·have:=c s (List.mem_append_right _ a) k e;omega
 ·have:=f k e;have:=c s (List.mem_append_right _ a) k e2;omega
 ·rcases List.mem_cons.1 d with rfl|d;·have:=f k e2;have:=c s (List.mem_append_left _ a) k e;omega
  ·exact b.2.2 s a t d k e e2
theorem bA.app (h:bA B r w l) (b:bA r A w n) (c:B<=r) (f:r<=A):bA B A w (l++n):=by
 refine ⟨λs a=>?_,λs a k e=>?_,List.pairwise_append.2 ⟨h.ne,b.ne,λs a t d k e e2=>?_⟩⟩
 ·rcases List.mem_append.1 a with a|a;·exact h.own s a
  ·exact cG (b.own s a) c
 ·rcases List.mem_append.1 a with a|a;·have:=h.hi s a k e;omega
  ·exact b.hi s a k e
 ·have:=h.hi s a k e;have:=((b.own t d).lt k e2).1;omega
def ky (A:MA) (a:Option Addr) (b:Nat) (b2:Option Addr) (c:Nat):MA:=⟨A.ax,A.cx,A.ac,A.cc,A.ar,A.cr,a,b,b2,c⟩
theorem O9 (h:bA B w.heap.size w (aG M a)) (i:B<=w.heap.size) (hb:Bw w x) (D:DV) (hr:fF w x a.ai a.ci M.d.xs a.ao a.co M.d.ys b r D.xs c A D.ys):bA B x.heap.size x (aG (db M D) (ky a b r c A)):=by
 have b2:=h.below hb;rcases hr with ⟨⟨rfl,rfl,g⟩,rfl,rfl,e2⟩|⟨f,rfl,rfl,e2⟩|⟨⟨rfl,rfl,g⟩,f⟩|f;·unfold aG db ky;dsimp only;rw [g,e2];exact b2.low (Nat.le_refl _) hb.size
 ·have d:bA B w.heap.size x ([aJ a.ax M.x.length a.cx M.x,aJ a.ac M.cs.length a.cc M.cs,aD a.ar M.ram.length a.cr M.ram]++[aD a.ao M.d.ys.length a.co M.d.ys]):=b2.sub (by unfold aG;simp);unfold aG db ky;dsimp only;rw [e2];exact d.ins (q:=aD b D.xs.length r D.xs) f i (Nat.le_refl _) hb.size
 ·have d:bA B w.heap.size x ([aJ a.ax M.x.length a.cx M.x,aJ a.ac M.cs.length a.cc M.cs,aD a.ar M.ram.length a.cr M.ram,aD a.ai M.d.xs.length a.ci M.d.xs]++[]):=b2.sub (by unfold aG;simp);unfold aG db ky;dsimp only;rw [g];exact d.ins (q:=aD c D.ys.length A D.ys) f i (Nat.le_refl _) hb.size
 ·have d:bA B w.heap.size x [aJ a.ax M.x.length a.cx M.x,aJ a.ac M.cs.length a.cc M.cs,aD a.ar M.ram.length a.cr M.ram]:=b2.sub (by unfold aG;simp);exact d.app f i hb.size
theorem Pa (hr:fF w x a.ai a.ci M.d.xs a.ao a.co M.d.ys b B P.xs c r P.ys):∀ q ∈ aG (db M P) (ky a b B c r),∀ k,q.v.ownBlock=some k->k<w.heap.size->∃ q0 ∈ aG M a,q0.v.ownBlock=some k:=by
 intro q m k e b2;simp only [aG,db,ky,List.mem_cons,List.not_mem_nil,or_false] at m;have f:∀ (g:Option Addr) (d:Nat) (zs:List Int),x.ownsRow w.heap.size 5 1 (.slice g zs.length d) zs.length (zs.map (Value.int .u8))->∀ k,(Value.slice g zs.length d).ownBlock=some k->k<w.heap.size->False:=λg d zs h k e b2=>by have:=(h.lt k e).1;omega
 have m4:aD a.ai M.d.xs.length a.ci M.d.xs ∈ aG M a:=dv
 have n:aD a.ao M.d.ys.length a.co M.d.ys ∈ aG M a:=dv
 rcases m with rfl|rfl|rfl|rfl|rfl;·exact ⟨_,dv,e⟩
 ·exact ⟨aJ a.ac M.cs.length a.cc M.cs,dv,e⟩
 ·exact ⟨aD a.ar M.ram.length a.cr M.ram,dv,e⟩
 ·rcases hr with ⟨⟨rfl,rfl,l⟩,_⟩|⟨A,_⟩|⟨⟨rfl,rfl,l⟩,_⟩|A;·rw [l] at e;exact ⟨_,m4,e⟩
  ·exact (f _ _ _ A k e b2).elim
  ·rw [l] at e;exact ⟨_,m4,e⟩
  ·exact (f _ _ _ (A.own (aD b P.xs.length B P.xs) tt) k e b2).elim
 ·rcases hr with ⟨_,rfl,rfl,e2⟩|⟨_,rfl,rfl,e2⟩|⟨_,A⟩|A;·rw [e2] at e;exact ⟨_,n,e⟩
  ·rw [e2] at e;exact ⟨_,n,e⟩
  ·exact (f _ _ _ A k e b2).elim
  ·exact (f _ _ _ (A.own (aD c P.ys.length r P.ys) tt) k e b2).elim
def GI (w:World) (r:Nat) (D:DV) (a:Option Addr) (b:Nat) (b2:Option Addr) (c:Nat):World:=(((((w.setCell ⟨r,5,none⟩ (.u D.t)).setCell ⟨r,6,none⟩ (.u D.cm)).setCell ⟨r,7,none⟩ (.bool D.so)).setCell ⟨r,8,none⟩ (.slice a D.xs.length b)).setCell ⟨r,9,none⟩ (.slice b2 D.ys.length c)).setCell ⟨r,10,none⟩ (.i D.ir)
theorem Kx.put6r (b2:Option Addr) (c:Nat):Kx r l l D (GI D r P j m b2 c):=
 (((((Kx.set D 5 _).trans (Kx.set _ 6 _)).trans (Kx.set _ 7 _)).trans (Kx.set _ 8 _)).trans (Kx.set _ 9 _)).trans (Kx.set _ 10 _)
theorem Mp.fam_set (h:bA B w.heap.size w l) (b:∀ q ∈ l,q.v.ownBlock≠some r) (i:Nat) (v:Value):bA B (w.setCell ⟨r,i,none⟩ v).heap.size (w.setCell ⟨r,i,none⟩ v) l :=
 ⟨λq a=>eg (h.own q a) (λk e=>Below.heap_setCell w ⟨r,i,none⟩ v k (λe2=>b q a (by rw [show r=k from e2.symm];exact e))),λq a k e=>by rw [aT];exact h.hi q a k e,h.ne⟩
theorem Mp.dev (h:Mp B r M a w) (hb:Bw w x) (D:DV) {d:Nat} (hr:fF w x a.ai a.ci M.d.xs a.ao a.co M.d.ys b A D.xs c d D.ys):Mp B r (db M D) (ky a b A c d) (GI x r D b A c d)/\Kx r (aG M a) (aG (db M D) (ky a b A c d)) w (GI x r D b A c d):=by
 have g:=h.lt;have p:B<=w.heap.size:=by have:=h.lo;omega
 have f:=Pa D hr;have w':∀ q ∈ aG (db M D) (ky a b A c d),q.v.ownBlock≠some r:=λq u e=>by obtain ⟨b2,o,n⟩:=f q u r e g;exact h.ne b2 o n
 have s:=O9 h.fam p hb D hr;refine ⟨⟨?_,?_,w',h.lo⟩,?_⟩;·have i:=bq hb h.row;unfold aj at i;have R1:=bI i 5 (.u D.t);have R2:=bI R1 6 (.u D.cm);have j:=bI R2 7 (.bool D.so);have l:=bI j 8 (.slice b D.xs.length A);have m:=bI l 9 (.slice c D.ys.length d);exact bI m 10 (.i D.ir)
 ·exact Mp.fam_set (Mp.fam_set (Mp.fam_set (Mp.fam_set (Mp.fam_set (Mp.fam_set s w' 5 _) w' 6 _) w' 7 _) w' 8 _) w' 9 _) w' 10 _
 ·have v:Kx r (aG M a) (aG (db M D) (ky a b A c d)) w x:=⟨hb.os,hb.tape,hb.output,hb.size,λk t _ _=>hb.block k t,f⟩;exact v.trans (Kx.put6r x D b A c d)
theorem vO (x:Int) (w:World) (hl:t.ram.length<=1048576) (p:gB t.ram.length T W=true) (u:0<=x) (v:x<=18446744073709551615) (h:Mp m s t L w): Calls prog 137 #[.slice L.ar t.ram.length L.cr,.u T,.i W,.u x] w λe c=>e=.returned (.tuple #[])/\Mp m s (bU t (km t.ram (T-2147483648).toNat x W.toNat)) L c/\Kx s (aG t L) (aG (bU t (km t.ram (T-2147483648).toNat x W.toNat)) L) w c:=by
 have O:=kl p;obtain ⟨f,J⟩:∃ f:Nat,f=(T-2147483648).toNat:=⟨_,rfl⟩;obtain ⟨B,K⟩:∃ B:Nat,B=W.toNat:=⟨_,rfl⟩;have E:T=2147483648+(f:Int):=ab
 have F:W=(B:Int):=ab
 have j:aD L.ar t.ram.length L.cr t.ram ∈ aG t L:=dv
 have C:=h.fam.own _ j;have l:f+B<=t.ram.length:=ab
 have i:∃ g,L.ar=some ⟨g,0,none⟩:=by
  rcases C.2 with ⟨e,k⟩|⟨y,cap,D,e,_⟩;·have:t.ram.length=0:=k;omega
  ·have e2:Value.slice L.ar t.ram.length L.cr=.slice (some ⟨y,0,none⟩) t.ram.length cap:=e;injection e2 with e3
   exact ⟨y,e3⟩
 obtain ⟨g,i⟩:=i;have a:(km t.ram f x B).length=t.ram.length:=jq _ _ _ _;rw [<- J,<- K];rw [E,F];have o:w.ownsRow m 5 1 (.slice (some ⟨g,0,none⟩) t.ram.length L.cr) t.ram.length (t.ram.map (Value.int .u8)):=by rw [<- i];exact C
 rw [i];refine (yj g t.ram.length L.cr f B m t.ram x w hl ab l u v o).mono λe c ⟨H,I,z⟩=>⟨H,?_⟩;have n:w.grownBy c (aD L.ar t.ram.length L.cr t.ram).v.ownBlock:=by have e:(aD L.ar t.ram.length L.cr t.ram).v.ownBlock=some g:=(by show (Value.slice L.ar t.ram.length L.cr).ownBlock=_;rw [i];rfl);rw [e];exact z
 have M:c.ownsRow m 5 1 (aD L.ar t.ram.length L.cr t.ram).v t.ram.length ((km t.ram f x B).map (Value.int .u8)):=by show c.ownsRow m 5 1 (.slice L.ar t.ram.length L.cr) _ _;rw [i];exact I
 have d:=bA.markL (L1:=[aJ L.ax t.x.length L.cx t.x,aJ L.ac t.cs.length L.cc t.cs]) (L2:=[aD L.ai t.d.xs.length L.ci t.d.xs,aD L.ao t.d.ys.length L.co t.d.ys]) (r:=aD L.ar t.ram.length L.cr t.ram) h.fam n _ M;have b:=jy (M:=t) (M':=bU t (km t.ram f x B)) (A:=L) rfl rfl a rfl rfl;have hF:bA m w.heap.size c (aG (bU t (km t.ram f x B)) L):=by unfold aG bU;dsimp only;rw [a];exact d.1
 refine ⟨⟨?_,hF.low (Nat.le_refl _) z.size,λq r e=>?_,h.lo⟩,Kx.of_keepL d.2 b⟩;·have A:c.heap[s]?=w.heap[s]?:=d.2.block s h.lt (λq r e=>h.ne q r e);rw [A,h.row];unfold aj bU;dsimp only;rw [a]
 ·obtain ⟨N,G,k⟩:=b q r;exact h.ne N G (by rw [k];exact e)
theorem Mp.xrow (h:Mp B r M a w):w.ownsRow B 22 1 (.slice a.ax M.x.length a.cx) M.x.length (M.x.map (Value.int .u64)):=h.fam.own (aJ a.ax M.x.length a.cx M.x) dv
theorem Mp.crow (h:Mp B r M a w):w.ownsRow B 22 1 (.slice a.ac M.cs.length a.cc) M.cs.length (M.cs.map (Value.int .u64)):=h.fam.own (aJ a.ac M.cs.length a.cc M.cs) dv
theorem Mp.rrow (h:Mp B r M a w):w.ownsRow B 5 1 (.slice a.ar M.ram.length a.cr) M.ram.length (M.ram.map (Value.int .u8)):=h.fam.own (aD a.ar M.ram.length a.cr M.ram) dv
theorem mU:(Q.map (Value.int .u64)).set m (.u T)=(Q.set m T).map (Value.int .u64):=by rw [List.map_set]
def xM (M:MV) (xs:List Int):MV:={M with x:=xs}
def cM (M:MV) (cs:List Int):MV:={M with cs:=cs}
theorem Mp.setX (h:Mp B r M a w) (b:Nat) (hb:a.ax=some ⟨b,0,none⟩) (i:Nat) (v:Int):Mp B r (xM M (M.x.set i v)) a (w.setCell ⟨b,i,none⟩ (.u v))/\Below B w (w.setCell ⟨b,i,none⟩ (.u v)):=by
 have g:=h.xrow;rw [hb] at g;have f:=g.stored i (.u v);rw [mU] at f;have m:=((g.lt b rfl)).1;have n:w.grownBy (w.setCell ⟨b,i,none⟩ (.u v)) (aJ a.ax M.x.length a.cx M.x).v.ownBlock:=by simp only [aJ];rw [hb];exact f.2
 have o:=bA.mark (L1:=[]) (r:=aJ a.ax M.x.length a.cx M.x) (L2:=[aJ a.ac M.cs.length a.cc M.cs,aD a.ar M.ram.length a.cr M.ram,aD a.ai M.d.xs.length a.ci M.d.xs,aD a.ao M.d.ys.length a.co M.d.ys]) h.fam n ((M.x.set i v).map (Value.int .u64)) rz;have A:=h.ne (aJ a.ax M.x.length a.cx M.x) dv;have d:r≠b:=λe=>A (by simp only [aJ];rw [hb,e];rfl);have c:(w.setCell ⟨b,i,none⟩ (.u v)).heap.size=w.heap.size:=aT _ _ _;have j:aG (xM M (M.x.set i v)) a=[]++⟨(aJ a.ax M.x.length a.cx M.x).t,(aJ a.ax M.x.length a.cx M.x).v,(aJ a.ax M.x.length a.cx M.x).n,(M.x.set i v).map (Value.int .u64)⟩::[aJ a.ac M.cs.length a.cc M.cs,aD a.ar M.ram.length a.cr M.ram,aD a.ai M.d.xs.length a.ci M.d.xs,aD a.ao M.d.ys.length a.co M.d.ys]:=by simp [aG,xM,aJ]
 refine ⟨⟨?_,?_,?_,h.lo⟩,⟨rfl,rfl,rfl,by rw [c];exact Nat.le_refl _,λk p=>Below.heap_setCell _ _ _ k di⟩⟩;·have:=gH h.row ⟨b,i,none⟩ (.u v) d;simpa [aj,xM] using this
 ·rw [j,c];exact o.1
 ·rw [j];intro q l;simp only [List.nil_append,List.mem_cons,List.not_mem_nil,or_false] at l;rcases l with rfl|rfl|rfl|rfl|rfl;·exact A
  ·exact h.ne _ dv
  ·exact h.ne _ dv
  ·exact h.ne _ dv
  ·exact h.ne _ dv
theorem Mp.setC (h:Mp B r M a w) (b:Nat) (hb:a.ac=some ⟨b,0,none⟩) (i:Nat) (v:Int):Mp B r (cM M (M.cs.set i v)) a (w.setCell ⟨b,i,none⟩ (.u v))/\Below B w (w.setCell ⟨b,i,none⟩ (.u v)):=by
 have g:=h.crow;rw [hb] at g;have f:=g.stored i (.u v);rw [mU] at f;have m:=((g.lt b rfl)).1;have n:w.grownBy (w.setCell ⟨b,i,none⟩ (.u v)) (aJ a.ac M.cs.length a.cc M.cs).v.ownBlock:=by simp only [aJ];rw [hb];exact f.2
 have o:=bA.mark (L1:=[aJ a.ax M.x.length a.cx M.x]) (r:=aJ a.ac M.cs.length a.cc M.cs) (L2:=[aD a.ar M.ram.length a.cr M.ram,aD a.ai M.d.xs.length a.ci M.d.xs,aD a.ao M.d.ys.length a.co M.d.ys]) h.fam n ((M.cs.set i v).map (Value.int .u64)) rz;have A:=h.ne (aJ a.ac M.cs.length a.cc M.cs) dv;have d:r≠b:=λe=>A (by simp only [aJ];rw [hb,e];rfl);have c:(w.setCell ⟨b,i,none⟩ (.u v)).heap.size=w.heap.size:=aT _ _ _;have j:aG (cM M (M.cs.set i v)) a=[aJ a.ax M.x.length a.cx M.x]++⟨(aJ a.ac M.cs.length a.cc M.cs).t,(aJ a.ac M.cs.length a.cc M.cs).v,(aJ a.ac M.cs.length a.cc M.cs).n,(M.cs.set i v).map (Value.int .u64)⟩::[aD a.ar M.ram.length a.cr M.ram,aD a.ai M.d.xs.length a.ci M.d.xs,aD a.ao M.d.ys.length a.co M.d.ys]:=by simp [aG,cM,aJ]
 refine ⟨⟨?_,?_,?_,h.lo⟩,⟨rfl,rfl,rfl,by rw [c];exact Nat.le_refl _,λk p=>Below.heap_setCell _ _ _ k di⟩⟩;·have:=gH h.row ⟨b,i,none⟩ (.u v) d;simpa [aj,cM] using this
 ·rw [j,c];exact o.1
 ·rw [j];intro q l;simp only [List.cons_append,List.nil_append,List.mem_cons,List.not_mem_nil,or_false] at l;rcases l with rfl|rfl|rfl|rfl|rfl;·exact h.ne _ dv
  ·exact A
  ·exact h.ne _ dv
  ·exact h.ne _ dv
  ·exact h.ne _ dv
theorem GJ (h:∀ j,U (k.getD j 0)) (i:Nat) (hv:U E):∀ j,U ((k.set i E).getD j 0):=by
 intro j;have:=h j;simp only [List.getD,List.getElem?_set];split
 ·split;·exact hv
  ·exact ⟨cp,cp⟩
 ·exact this
theorem Mp.setF (h:Mp B r M a w) (i:Nat) (v:Value) (b:aj M' a=(aj M a).setIfInBounds i v) (A:aG M' a=aG M a):Mp B r M' a (w.setCell ⟨r,i,none⟩ v)/\Below B w (w.setCell ⟨r,i,none⟩ v):=by
 have c:=h.lo;refine ⟨⟨?_,?_,by rw [A];exact h.ne,h.lo⟩,⟨rfl,rfl,rfl,eo,λk d=>Below.heap_setCell _ _ _ k di⟩⟩;·rw [b];exact bI h.row i v
 ·rw [A];exact Mp.fam_set h.fam h.ne i v
theorem ui {P:Program} (t ty:TypeId) (old cells:Array Value) (d:D.heap[m]?=some (.cells old t (0,0))) (b:(P.info? ty).map (·.size)=some cells.size) (h:s+cells.size<=old.size) (c:cells.all (·.oneCell')=true): (storeVar ty ⟨m,s,none⟩ (.agg cells)).run P D=.ok () (D.setRow m (old.toList.take s++cells.toList++old.toList.drop (s+cells.size)).toArray):=by
 have:=run_storeCells_at (P:=P) m s t cells.toList 0 old D d bv (λv f=>(Array.all_eq_true_iff_forall_mem.1 c) v kd);cases a:P.info? ty with
 | none=>simp [a] at b
 | some i =>have e:cells.size=i.size:=(by simp [a] at b;omega);simp only [Nat.add_zero,Array.length_toList] at this;simp only [List.append_assoc] at this ⊢;simp [storeVar,sizeOf,typeInfo,a,Value.cells,e,this]
theorem Mp.fld (h:Mp B r M a w) (i:Nat) (v:Value) (b:aj M' a=(aj M a).setIfInBounds i v) (A:aG M' a=aG M a):Mp B r M' a (w.setCell ⟨r,i,none⟩ v)/\Kx r (aG M a) (aG M' a) w (w.setCell ⟨r,i,none⟩ v):=by refine ⟨⟨?_,by rw [A];exact Mp.fam_set h.fam h.ne i v,by rw [A];exact h.ne,h.lo⟩,by rw [A];exact Kx.set w i v⟩;rw [b];exact bI h.row i v
theorem GK {L:List FRow} (j:q ∈ L) (e:q.v.ownBlock=some B) (hs:∀ q ∈ l,∃ c ∈ L,c.v=q.v) (w:World) (i:Nat) (v:Value):Kx r L l w (w.setCell ⟨B,i,none⟩ v):=
 ⟨rfl,rfl,rfl,eo,λk _ _ h=>Below.heap_setCell w ⟨B,i,none⟩ v k (λe2=>h q j (by rw [e];exact congrArg some e2.symm)),λL' a k d _=>by obtain ⟨c,g,f⟩:=hs L' a;exact ⟨c,g,by rw [f];exact d⟩⟩
structure Kr where
 b:Nat
 cs:Array Value
 t:TypeId
 tg:List (Nat × Nat)
structure Hx (B r:Nat) (L:List Kr) (M0:MV) (A0:MA) (w0:World) (M:MV) (A:MA) (W:World):Prop where
 mp:Mp B r M A W
 kx:Kx r (aG M0 A0) (aG M A) w0 W
 rows:∀ x ∈ L,W.heap[x.b]?=some (.cells x.cs x.t (0,0))/\x.b≠r/\∀ q ∈ aG M A,q.v.ownBlock≠some x.b
section
variable {B r : Nat} {L : List Kr} {M0 M M' : MV} {A0 A A' : MA} {w0 W W' : World}
theorem Hx.step (h:Hx B r L M0 A0 w0 M A W) (p:Mp B r M' A' W') (k:Kx r (aG M A) (aG M' A') W W'):Hx B r L M0 A0 w0 M' A' W' :=
 ⟨p,h.kx.trans k,λx j=>by
  obtain ⟨b,c,d⟩:=h.rows x j
  have a:=(Array.getElem?_eq_some_iff.1 b).1
  exact ⟨(k.block x.b a c d).trans b,c,λq i e=>by obtain ⟨l,g,f⟩:=k.own q i x.b e a;exact d l g f⟩⟩
theorem Hx.below (h:Hx B r L M0 A0 w0 M A W) (k:Bw W W'):Hx B r L M0 A0 w0 M A W':=h.step (h.mp.below k) (Kx.of_below k)
def VD (r:Nat) (M:MV) (A:MA) (L:List Kr):List Rw:=⟨r,aj M A,[]⟩::L.map (λx=>⟨x.b,x.cs,x.tg⟩)
theorem Hx.eng {P:Program} {fn:Func} {dr:Bool} {Rs:Ending->World->Prop}:nZ P (Hx B r L M0 A0 w0 M A) (Hx B r L M0 A0 w0 M A) (VD r M A L) dr (bodyPost P fn Rs):=
 ⟨λ_ h=>h,λW h x a=>by
  rcases List.mem_cons.1 a with rfl|a
  ·exact ⟨_,_,h.mp.row⟩
  ·obtain ⟨y,b,rfl⟩:=List.mem_map.1 a
   exact ⟨_,_,(h.rows y b).1⟩,λ_ W h=>h.below (Below.refl _ _).drew,cH⟩
theorem Hx.engL {P:Program} {fn:Func} {dr:Bool} {Rs:Ending->World->Prop} {L':List Kr} (a:∀ x ∈ L,x ∈ L'):nZ P (Hx B r L M0 A0 w0 M A) (Hx B r L' M0 A0 w0 M A) (VD r M A L) dr (bodyPost P fn Rs):=
 ⟨λ_ h=>⟨h.mp,h.kx,λx b=>h.rows x (a x b)⟩,(Hx.eng (P:=P) (fn:=fn) (dr:=dr) (Rs:=Rs)).rows,λ_ W h=>h.below (Below.refl _ _).drew,cH⟩
def Hs (r:Nat) (L:List Kr) (cs:Array Value) (W:World):Prop:=W.heap[r]?=some (.cells cs 32 (0,0))/\∀ x ∈ L,W.heap[x.b]?=some (.cells x.cs x.t (0,0))
theorem Hx.hs (h:Hx B r L M0 A0 w0 M A W):Hs r L (aj M A) W:=⟨h.mp.row,λx a=>(h.rows x a).1⟩
def VU (r:Nat) (cs:Array Value) (L:List Kr):List Rw:=⟨r,cs,[]⟩::L.map (λx=>⟨x.b,x.cs,x.tg⟩)
theorem Hs.eng {P:Program} {fn:Func} {dr:Bool} {Rs:Ending->World->Prop} {cs:Array Value} (hs:∀ W,Hx B r L M0 A0 w0 M A W->Hs r L cs W):nZ P (Hs r L cs) (Hx B r L M0 A0 w0 M A) (VU r cs L) dr (bodyPost P fn Rs):=
 ⟨hs,λW h x a=>by
  rcases List.mem_cons.1 a with rfl|a
  ·exact ⟨_,_,h.1⟩
  ·obtain ⟨y,b,rfl⟩:=List.mem_map.1 a
   exact ⟨_,_,h.2 y b⟩,λ_ W h=>h.below (Below.refl _ _).drew,cH⟩
theorem Hx.fld (h:Hx B r L M0 A0 w0 M A W) (i:Nat) (v:Value) (a:aj M' A=(aj M A).setIfInBounds i v) (b:aG M' A=aG M A):Hx B r L M0 A0 w0 M' A (W.setCell ⟨r,i,none⟩ v):=h.step (h.mp.fld i v a b).1 (h.mp.fld i v a b).2
theorem Hx.setX (h:Hx B r L M0 A0 w0 M A W) (b:Nat) (hb:A.ax=some ⟨b,0,none⟩) (i:Nat) (v:Int):Hx B r L M0 A0 w0 (xM M (M.x.set i v)) A (W.setCell ⟨b,i,none⟩ (.u v)):=
 h.step (h.mp.setX b hb i v).1 (GK (L:=aG M A) (q:=aJ A.ax M.x.length A.cx M.x) dv (by show (Value.slice A.ax M.x.length A.cx).ownBlock=_;rw [hb];rfl) (jy (M:=M) (M':=xM M (M.x.set i v)) (show (M.x.set i v).length=M.x.length by simp) rfl rfl rfl rfl) W i _)
theorem Hx.setC (h:Hx B r L M0 A0 w0 M A W) (b:Nat) (hb:A.ac=some ⟨b,0,none⟩) (i:Nat) (v:Int):Hx B r L M0 A0 w0 (cM M (M.cs.set i v)) A (W.setCell ⟨b,i,none⟩ (.u v)):=
 h.step (h.mp.setC b hb i v).1 (GK (L:=aG M A) (q:=aJ A.ac M.cs.length A.cc M.cs) dv (by show (Value.slice A.ac M.cs.length A.cc).ownBlock=_;rw [hb];rfl) (jy (M:=M) (M':=cM M (M.cs.set i v)) rfl (show (M.cs.set i v).length=M.cs.length by simp) rfl rfl rfl) W i _)
theorem Hx.var (h:Hx B r L M0 A0 w0 M A W) (hb:Bw W W') (x:Kr) (hx:W'.heap[x.b]?=some (.cells x.cs x.t (0,0))) (hn:W.heap.size<=x.b):Hx B r (L++[x]) M0 A0 w0 M A W':=by
 have b:=h.below hb;refine ⟨b.mp,b.kx,λy a=>?_⟩;rcases List.mem_append.1 a with a | a;·exact b.rows y a
 ·rw [List.mem_singleton] at a;subst a;refine ⟨hx,by have:=h.mp.lt;omega,λq c e=>?_⟩;have:=((h.mp.fam.own q c).lt y.b e).2;omega
end
theorem jB:ik D []:=trivial
structure Vs (w:World) (L:List Kr) (W:World):Prop where
 rows:∀ x ∈ L,W.heap[x.b]?=some (.cells x.cs x.t (0,0))
 below:Bw w W
section
variable {P : Program} {fn : Func} {Rs : Ending -> World -> Prop} {w W W' : World} {L : List Kr} {B E B' E' : Nat} {Q R : List FRow}
theorem Vs.to (h:Vs w L W) (hb:Bw W W'):Vs w L W':=⟨λx a=>bq hb (h.rows x a),aa h.below hb⟩
theorem Vs.at (h:Vs w L W):Vs W L W:=⟨h.rows,Below.refl _ _⟩
theorem Vs.eng:nZ P (Vs w L) (Vs w L) (L.map λx=>⟨x.b,x.cs,x.tg⟩) true (bodyPost P fn Rs):=
 ⟨λ_ h=>h,λW h r a=>by obtain ⟨y,b,rfl⟩:=List.mem_map.1 a;exact ⟨_,_,h.rows y b⟩,λ_ W h=>h.to (Below.refl _ _).drew,cH⟩
theorem lm (W:World) (old cs:Array Value) (t:TypeId):Bw W ((W.alloc (.cells old t)).setRow W.heap.size cs):=aR (bal _ _) (Nat.le_refl _) _
theorem Vs.new {cs:Array Value} (h:Vs w L W) (old:Array Value) (t:TypeId):Vs w (L++[⟨W.heap.size,cs,t,[]⟩]) ((W.alloc (.cells old t)).setRow W.heap.size cs):=by
 have b:=lm W old cs t;refine ⟨λx a=>?_,aa h.below b⟩;rcases List.mem_append.1 a with a | a;·exact bq b (h.rows x a)
 ·rw [List.mem_singleton.1 a];exact setRow_heap _ _ _ _ _ _ (heap_alloc_new _ _)
theorem qQ {b n:Nat} {t:TypeId} {v:Value} {xs:List Value} (h:W.ownsRow b t 1 v n xs):bA b W.heap.size W [⟨t,v,n,xs⟩]:=
 ⟨λr a=>by rw [List.mem_singleton.1 a];exact h,λr a k e=>by rw [List.mem_singleton.1 a] at e;exact (h.lt k e).2,List.pairwise_singleton _ _⟩
end
theorem bA.li {c:Nat} {t:TypeId} (h:bA B r w [⟨t,.slice b A c,A,k.map (Value.int .i64)⟩]):Sl .i64 w b k:=fO (h.own _ (List.mem_singleton.2 rfl))
def gv (n:Nat) (x:List Int):Bool:=decide (n=32)&&(x.getD 0 0==0)
theorem EP (x:List Int) (w:World) (hx:x.length=m) (hs:Sl .u64 w j x): CE 67 #[.slice j m s] w (.bool (gv m x)):=by
 by_cases h:m=32;·subst h;obtain ⟨b,off,rfl,l,f⟩:=hs 0 ab;have F:Hid (gv 32 x=(x.getD 0 0==0)):=(by show _=_;unfold gv;simp);have g:w.cell? ⟨b,off,none⟩=some (.u (x.getD 0 0)):=f;generalize gv 32 x=V at *;generalize x.getD 0 0=y at *;clear hs hx f;go_enter func67,ntmps67;exact a03
 ·have F:Hid (gv m x=false):=(by show _=_;unfold gv;rw [decide_eq_false h];rfl);have d:((m:Int)==32)=false:=bv;generalize gv m x=V at *;clear hs hx h;go_enter func67,ntmps67;exact a03
def lK (M:MV):Bool:=bits .and .u64 (M.cs.getD 9 0) 2184==dP M.d
def dI (M:MV):Bool:=(bits .and .u64 M.pc 3==0)&&gv M.x.length M.x&&bn M.cs.length M.cs M.pr&&bf M.ram.length&&nY M.d.xs.length M.d.ys.length M.d.ir&&(M.hl||(M.hd==0))&&lK M
theorem qR (h:bn B k E=true):B=22:=by unfold bn bE at h;simp only [Bool.and_eq_true,decide_eq_true_eq] at h;exact h.1.1
theorem mn (M:MV) (A:MA) (w:World) (hl:jR M) (hs:nR w M A):CB 24 #[.agg (aj M A)] w (.bool (dI M)):=by
 have s:=λW g=>EP A.ax M.x.length A.cx _ W rfl (hs.x.below g);have r:=λW g=>xz A.ac M.cs.length A.cc _ M.pr W rfl (hs.cs.below g);have L:=λW (_:Bw w W)=>pN A.ar M.ram.length A.cr W hl.ram;have K:=λW (_:Bw w W)=>xv M.d.t M.d.cm M.d.so A.ai M.d.xs.length A.ci A.ao M.d.ys.length A.co M.d.ir W hl.xs hl.ys;have N:=λW (_:Bw w W)=>tf M.d.t M.d.cm M.d.so A.ai M.d.xs.length A.ci A.ao M.d.ys.length A.co M.d.ir W hl.xs;unfold dI lK;generalize q:(bits .and .u64 M.pc 3==0)=o;generalize gv M.x.length M.x=p at *;generalize H:bn M.cs.length M.cs M.pr=u at *;generalize bf M.ram.length=y at *;generalize nY M.d.xs.length M.d.ys.length M.d.ir=z at *;generalize I:(M.hd==0)=B;generalize J:(bits .and .u64 (M.cs.getD 9 0) 2184==dP M.d)=C;cases u with
 | false =>
   refine bC (S:=Bs w [(aj M A,32)]) [(aj M A,32)] func24 ?_;cases o;case' true=>cases p
   all_goals exact bm (t:=2) (v:=.bool false) Bs.eng {eq:=[(6,ak q)],cv:=[(10,mI s),(17,mI r)]} 300 (Bs.start _ _) (λm h=>⟨cp,h.2⟩)
 | true =>
   have G:=qR H;obtain ⟨E,F,f,i,j⟩:=hs.cs 9 ab;obtain ⟨pc,x,l,b,a,d,k,c,n⟩:=M;dsimp only at *;refine bC (S:=Bs w [(aj ⟨pc,x,l,b,a,d,k,c,n⟩ A,32)]) [(aj ⟨pc,x,l,b,a,d,k,c,n⟩ A,32)] func24 ?_;have D:∀ W,Bs w [(aj ⟨pc,x,l,b,a,d,k,c,n⟩ A,32)] W->W.cell? ⟨E,F+9,none⟩=some (.u (b.getD 9 0)):=λW h=>(h.2.cell (by exact i)).trans j;cases o;case' true =>cases p;case' true =>cases y;case' true =>cases z;case' true=>cases c<;>cases B<;>cases C
   all_goals exact bm (t:=2) (v:=.bool _) Bs.eng {eq:=[(6,ak q),(35,ak I),(47,ak J)],ov:=[(41,kF b.length A.cc .i64 9 f ab underlying23 ba),(42,iL _ _ underlying22 rfl D)],cv:=[(10,mI s),(17,mI r),(22,mI L),(27,fQ K),(46,fQ N)]} 300 (Bs.start _ _) (λm h=>⟨rfl,h.2⟩)
inductive CK where
 | plain (b:Int) | mst | mie | mip | satp | cfg | addr (e:Nat)
def CK.ty:CK->Nat
 | .plain _=>230 | .mst=>228 | .mie=>231 | .mip=>232 | .satp=>233 | .cfg=>234 | .addr _=>236
def CK.val:CK->Value
 | .plain b=>.agg #[.u b] | .mst=>.agg #[] | .mie=>.agg #[] | .mip=>.agg #[] | .satp=>.agg #[] | .cfg=>.agg #[] | .addr e=>.agg #[.i e]
def TF:List (Int × CK):=[(768,.mst),(770,.plain 46079),(771,.plain 546),(772,.mie),(773,.plain 18446744073709551613),(832,.plain 18446744073709551615),(833,.plain 18446744073709551612),(834,.plain 9223372036854775823),
 (835,.plain 18446744073709551615),(836,.mip),(261,.plain 18446744073709551613),(320,.plain 18446744073709551615),(321,.plain 18446744073709551612),(322,.plain 9223372036854775823),(323,.plain 18446744073709551615),(384,.satp),
 (928,.cfg),(944,.addr 0),(945,.addr 1),(946,.addr 2),(947,.addr 3),(2818,.plain 18446744073709551615)]
def zV (r:Int × CK):List Value:=[.i r.1,.iface r.2.ty r.2.val]
def gx:Array Value:=(TF.flatMap zV).toArray
def qS:Array Value:=(List.replicate 22 [Value.int .i64 0,.nilIface]).flatten.toArray
theorem zW:qS.size=44:=by kernel_rfl
theorem mD:gx.size=44:=by kernel_rfl
theorem zX:(prog.info? 149).bind (·.zero)=some (.agg qS):=by kernel_rfl
theorem zY:gx.all (·.oneCell')=true:=by kernel_rfl
theorem qU:(prog.info? 149).map (·.size)=some 44:=by kernel_rfl
def nC (P:Program):List Oper->Act->Option Act
 | [],a=>some a
 | o::l,a =>
   match o.guard,o.op with
   | none,.build t parts =>
     match P.built t (parts.map λ(i,x)=>(i,a.eval x)).toList with
     | some cells=>nC P l (a.put o.dst (.agg cells))
     | none=>none
   | none,.makeInterface t x=>if P.concrete t=true then nC P l (a.put o.dst (.iface t (a.eval x))) else none
   | _,_=>none
theorem vP:∀ (l rest:List Oper) (a c:Act),nC f l a=some c->wpList f p e rest c w->wpList f p e (l++rest) a w:=by
 intro l;induction l with
 | nil=>intro rest a c h d;simp [nC] at h;subst h;exact d
 | cons o l i =>
   intro rest a c h d;unfold nC at h;split at h
   ·rename_i t parts P g;split at h;·rename_i cells Q;exact wpList_buildTo P t parts g o.dst rfl cells Q (i _ _ _ h d)
    ·cases h
   ·rename_i t x P g;split at h;·rename_i Q;exact nt P o.dst rfl (.iface t (a.eval x)) (by simp [execOp,g,run_makeInterface w t _ Q]) (i _ _ _ h d)
    ·cases h
   ·cases h
theorem sg (v x:Value) (h:(nC f (g.take m) o).map (λb=>(b.tmps.getD s undef,b.tmps.getD C undef,b.defers))=some (v,x,[])) (hr:∀ b:Act,b.tmps.getD s undef=v->b.tmps.getD C undef=x->b.defers=[]->wpList f p e (g.drop m) b w):wpList f p e g o w:=by
 rw [<- List.take_append_drop m g];cases d:nC f (g.take m) o with
 | none=>rw [d] at h;cases h
 | some b =>rw [d] at h;simp only [Option.map_some,Option.some.injEq,Prod.mk.injEq] at h;exact vP _ _ _ _ d (hr b h.1 h.2.1 h.2.2)
theorem Cc:CB 121 #[] D (.agg gx):=by go_enter func121,ntmps121;apply wp_seq_k;intro c b;apply wp_region_list;refine cO rfl 149 rfl (some 0) rfl _ zX ?_;apply wpList_nil;refine b _ _ ?_;clear b c;apply wp_seq_k;intro c b;apply wp_region_lit;refine sg 67 0 67 (.p D.heap.size 0) (.agg gx) ba ?_;intro m f d j;have g:(D.alloc (.cells (Value.agg qS).cells 149)).heap[D.heap.size]?=some (.cells qS 149 (0,0)):=heap_alloc_new _ _;refine wpList_store_rowTo rfl 149 (.tmp 0) (.tmp 67) rfl rfl D.heap.size gx f d 149 qS g (by rw [qU,mD]) (by rw [zW,mD]) zY ?_;apply wpList_nil;refine b _ _ ?_;clear b c;apply wp_ret;refine bodyPost_ret (results_cell_row results121 _ _ _ _ _ _ _ f (setRow_heap _ _ _ _ _ _ g) underlying149 rfl (by rw [qU,mD])) j ⟨rfl,?_⟩;exact aF (bal _ _) (Nat.le_refl _) _
theorem pz:Calls prog 121 #[] D λe a=>∃ T,e=.returned T/\Hid (T=.agg gx)/\Bw D a :=
 (Cc D).mono λe a h=>⟨.agg gx,h.1,(rfl:Value.agg gx=.agg gx),h.2⟩
theorem zZ:TF.length=22:=by rfl
def ge (k:Nat):Int × CK:=TF.getD k (0,.mst)
theorem LE (h:m<22):TF[m]'(by rw [zZ];exact h)=ge m:=by simp [ge,List.getD,List.getElem?_eq_getElem (show m<TF.length by rw [zZ];exact h)]
theorem xG (h:m<22):gx.extract (m*2) (m*2+2)=(zV (ge m)).toArray:=by have:=rT zV 2 TF (by intro x _;rfl) m (by rw [zZ];exact h);rw [LE m h] at this;rw [<- this];simp [gx]
theorem EQ (kk:IntKind) (k:Nat) (hk:k<22):(Instr.index 149 (.agg gx) (.int kk (k:Int))).run prog D=.ok (.agg #[.i (ge k).1,.iface (ge k).2.ty (ge k).2.val]) D:=by
 have f:(sizeOf 148).run prog D=.ok 2 D:=by
  obtain ⟨g,e,a⟩:∃ i,prog.info? 148=some i/\i.size=2:=by
   have h:(prog.info? 148).map (·.size)=some 2:=ba;cases b:prog.info? 148 with
   | none=>rw [b] at h;cases h
   | some i=>rw [b] at h;exact ⟨i,rfl,el⟩
  simp [sizeOf,typeInfo,e,a]
 have c:(isAgg 148).run prog D=.ok true D:=by simp [isAgg,run_underlying underlying148]
 have d:(0:Int)<=(k:Int)/\(k:Int)<((22:Nat):Int):=ab
 unfold Instr.index;simp only [asIntOf,Sem.run_bind,Sem.run_pure,Result.andThen_ok,run_underlying underlying149];rw [if_pos d];simp only [Sem.run_bind,f,Result.andThen_ok,part,c,Int.toNat_natCast,if_true,Sem.run_pure];rw [xG k hk];rfl
theorem gV {a:Oper} {T:Value} (Q:Hid (T=.agg gx)) (kk:IntKind) (k:Nat) (hk:k<22) (r:Int × CK) (hr:Hid (r=ge k)) (f:a.guard=none) (x i:Operand) (j:a.op=.index 149 x i) (hx:o.eval x=T) (rest:o.eval i=.int kk (k:Int)) (h:wpList prog p e g (o.put a.dst (.agg #[.i r.1,.iface r.2.ty r.2.val])) w):wpList prog p e (a::g) o w:=by
 refine wpList_plain f λK d=>?_;have b:(execOp o.eval a).run prog w=.ok (.value (.agg #[.i r.1,.iface r.2.ty r.2.val])) w:=by simp [execOp,j,hx,rest,Q.out,hr.out,EQ w kk k hk]
 unfold Oper.wp;rw [b,Oper.upon_value];exact d _ _ h
def iu (x:Int):Bool:=(dc x 60 4==0)||(dc x 60 4==8)
def Cd (x:Int) (k:Nat):Int:=if (bits .and .u64 (bits .and .u64 (dc x (8*k) 8) 159) 1==0)=true then bits .andNot .u64 (bits .and .u64 (dc x (8*k) 8) 159) 2 else bits .and .u64 (dc x (8*k) 8) 159
def qi (x:Int):Nat->Int
 | 0=>0
 | k+1=>bits .or .u64 (qi x k) (Uz.wrap (Cd x k*2^(8*k)))
def hZ:CK->Int->Int
 | .plain b,x=>bits .and .u64 x b
 | .mst,x=>if (bits .and .u64 x 6144==4096)=true then bits .andNot .u64 (bits .and .u64 x 924074) 6144 else bits .and .u64 x 924074
 | .mie,x=>bits .and .u64 x 2730
 | .mip,x=>bits .and .u64 x 2730
 | .satp,x=>if iu x=true then x else 0
 | .cfg,x=>qi x 4
 | .addr _,x=>bits .and .u64 x 18014398509481983
def fR (c:Int) (e:Nat):Bool:=(bits .and .u64 (dc c (8*e) 8) 128 != 0)
def iI (c:Int) (e:Nat):Int:=dc c (8*e+3) 2
def gQ (c:Int):Nat->Int
 | 0=>0
 | k+1=>if fR c k=true then bits .or .u64 (gQ c k) (Uz.wrap (255*2^(8*k))) else gQ c k
def jC (c:Int):CK->Int->Int
 | .mip,_=>2184
 | .satp,x=>if iu x=true then 0 else 18446744073709551615
 | .cfg,_=>gQ c 4
 | .addr e,_=>if (fR c e||(fR c (e+1)&&(iI c (e+1)==1)))=true then 18446744073709551615 else 0
 | _,_=>0
def CK.fitF:CK->Nat
 | .plain _=>336 | .mst=>334 | .mie=>337 | .mip=>339 | .satp=>342 | .cfg=>345 | .addr _=>348
def CK.staysF:CK->Nat
 | .mip=>340 | .satp=>343 | .cfg=>346 | .addr _=>349 | _=>0
def CK.viewF:CK->Nat
 | .mst=>335 | .mie=>338 | .mip=>341 | _=>0
theorem oI (g:0<=d) (j:d<18446744073709551616) (w:World):Calls prog 344 #[.u d] w λe c=>e=.returned (.bool (iu d))/\c=w.drew:=by
 have x:Hid (∀ w,Calls prog 76 #[.u d,.i 60,.i 4] w λe c=>e=.returned (.u (dc d 60 4))/\c=w.drew):=λw=>bG d 60 4 g j ab ab w;have F:Hid (iu d=((dc d 60 4==0)||(dc d 60 4==8))):=(rfl:iu d=_);generalize dc d 60 4=y at *;cases f:(y==0) with
 | true =>rw [f] at F;go_enter func344,ntmps344;go_wp2_with fail;refine (x.out _).mono ?_;rintro e l ⟨rfl,b⟩;exact a06
 | false =>rw [f] at F;go_enter func344,ntmps344;go_wp2_with fail;refine (x.out _).mono ?_;rintro e l ⟨rfl,b⟩;exact a06
theorem oJ (hk:m<5) (g:0<=d) (j:d<18446744073709551616) (w:World):Calls prog 124 #[.u d,.i m] w λe c=>e=.returned (.u (dc d (8*m) 8))/\c=w.drew:=by
 obtain ⟨q,x⟩:∃ q,8*m=q:=⟨_,rfl⟩;have l:wrap64 (8*(m:Int))=(q:Int):=by unfold wrap64;omega
 rw [x];have f:Hid (∀ w,Calls prog 76 #[.u d,.i q,.i 8] w λe c=>e=.returned (.u (dc d q 8))/\c=w.drew):=λw=>bG d q 8 g j ab ab w;clear x hk;generalize dc d q 8=y at *;go_enter func124,ntmps124;go_wp2_with fail;refine (f.out _).mono ?_;rintro e k ⟨rfl,b⟩;subst b;exact x8
theorem qV (hk:m<5) (l:0<=d) (k:d<18446744073709551616) (w:World):Calls prog 190 #[.u d,.i m] w λe f=>e=.returned (.u (iI d m))/\f=w.drew:=by
 obtain ⟨q,g⟩:∃ q,8*m+3=q:=⟨_,rfl⟩;obtain ⟨b,c⟩:∃ b,8*m=b:=⟨_,rfl⟩;have p:wrap64 (8*(m:Int))=(b:Int):=by unfold wrap64;omega
 have o:wrap64 ((b:Int)+3)=(q:Int):=by unfold wrap64;omega
 unfold iI;rw [g];have j:Hid (∀ w,Calls prog 76 #[.u d,.i q,.i 2] w λe f=>e=.returned (.u (dc d q 2))/\f=w.drew):=λw=>bG d q 2 l k ab ab w;clear g c hk;generalize dc d q 2=y at *;go_enter func190,ntmps190;go_wp2_with fail;refine (j.out _).mono ?_;rintro e r ⟨rfl,x⟩;subst x;exact x8
theorem mE (hk:m<5) (f:0<=d) (g:d<18446744073709551616) (w:World):Calls prog 347 #[.u d,.i m] w λe c=>e=.returned (.bool (fR d m))/\c=w.drew:=by have x:Hid (∀ w,Calls prog 124 #[.u d,.i m] w λe c=>e=.returned (.u (dc d (8*m) 8))/\c=w.drew):=λw=>oJ d m hk f g w;have F:Hid (fR d m=(bits .and .u64 (dc d (8*m) 8) 128 != 0)):=(rfl:fR d m=_);generalize dc d (8*m) 8=q at *;go_enter func347,ntmps347;go_wp2_with fail;refine (x.out _).mono ?_;rintro e j ⟨rfl,b⟩;exact a06
theorem Jn:CB 336 #[.agg #[.u d],.u v] D (.u (bits .and .u64 v d)):=by go_enter func336,ntmps336;go_wp2_with fail;go_ret;exact ⟨rfl,bal _ _⟩
theorem LF:CB 348 #[.agg #[.i m],.u T] F (.u (bits .and .u64 T 18014398509481983)):=by go_enter func348,ntmps348;go_wp2_with fail;go_ret;exact ⟨rfl,bal _ _⟩
theorem Pb:CB 337 #[.agg #[],.u d] D (.u (bits .and .u64 d 2730)):=by go_enter func337,ntmps337;go_wp2_with fail;go_ret;exact ⟨rfl,by go_grown⟩
theorem Pc:CB 339 #[.agg #[],.u d] D (.u (bits .and .u64 d 2730)):=by go_enter func339,ntmps339;go_wp2_with fail;go_ret;exact ⟨rfl,by go_grown⟩
theorem Pd (x:Int) (w:World):CB 334 #[.agg #[],.u x] w (.u (hZ .mst x)):=by
 have b:hZ .mst x=if (bits .and .u64 x 6144==4096)=true then bits .andNot .u64 (bits .and .u64 x 924074) 6144 else bits .and .u64 x 924074:=rfl
 cases d:(bits .and .u64 x 6144==4096) with
 | true =>rw [if_pos d] at b;have F:Hid (hZ .mst x=bits .andNot .u64 (bits .and .u64 x 924074) 6144):=b;clear b;go_enter func334,ntmps334;go_wp2_with fail;go_ret;exact ⟨bh,by go_grown⟩
 | false =>rw [if_neg (by rw [d];decide)] at b;have F:Hid (hZ .mst x=bits .and .u64 x 924074):=b;clear b;go_enter func334,ntmps334;go_wp2_with fail;go_ret;exact ⟨bh,by go_grown⟩
theorem LH (x:Int) (j:0<=x) (l:x<18446744073709551616) (w:World):CB 342 #[.agg #[],.u x] w (.u (hZ .satp x)):=by
 have f:Hid (∀ w,Calls prog 344 #[.u x] w λe g=>e=.returned (.bool (iu x))/\g=w.drew):=λw=>oI x j l w;have c:hZ .satp x=if iu x=true then x else 0:=rfl
 cases d:iu x with
 | true =>rw [if_pos d] at c;rw [d] at f;have F:Hid (hZ .satp x=x):=c;clear c;go_enter func342,ntmps342;go_wp2_with fail;refine (f.out _).mono ?_;rintro e m ⟨rfl,b⟩;subst b;go_wp2_with fail;go_ret;exact ⟨bh,by go_grown⟩
 | false =>rw [if_neg (by rw [d];decide)] at c;rw [d] at f;have F:Hid (hZ .satp x=0):=c;clear c;go_enter func342,ntmps342;go_wp2_with fail;refine (f.out _).mono ?_;rintro e m ⟨rfl,b⟩;subst b;go_wp2_with fail;go_ret;exact ⟨bh,by go_grown⟩
theorem Pe (D:0<=d) (E:d<18446744073709551616) (w:World):CB 345 #[.agg #[],.u d] w (.u (hZ .cfg d)):=by
 have C:Hid (∀ k:Nat,k<5->∀ w,Calls prog 124 #[.u d,.i k] w λe m=>e=.returned (.u (dc d (8*k) 8))/\m=w.drew):=λk u w=>oJ d k u D E w;have B:Hid (hZ .cfg d=qi d 4):=(rfl:hZ .cfg d=_);go_enter func345,ntmps345;go_wp2_with fail;go_loopw [5,8] (λy i wr=>∃ k:Nat,k<=4/\i=.i k/\y=.u (qi d k)/\Bw w wr)
  (λ_ i _=>4-(intOf i).toNat)
 case atStart=>exact ⟨0,ab,rfl,rfl,by go_grown⟩
 case round =>
  obtain ⟨k,u,rfl,rfl,c⟩:=hrel;by_cases H:k<4
  ·have f:qi d (k+1)=bits .or .u64 (qi d k) (Uz.wrap (Cd d k*2^(8*k))):=rfl;unfold Cd at f;have g:=C.out k ab;generalize dc d (8*k) 8=z at *;obtain ⟨q,o⟩:∃ q,8*k=q:=⟨_,rfl⟩;have J:wrap64 (8*(k:Int))=(q:Int):=ka;have A:q<64:=ab;rw [o] at f;have x:decide ((k:Int)<4)=true:=bv;obtain ⟨b,G⟩:∃ b,bits .and .u64 z 159=b:=⟨_,rfl⟩;obtain ⟨y,p⟩:∃ y,y=qi d k:=⟨_,rfl⟩;rw [G,<- p] at f;rw [<- p];cases t:(bits .and .u64 b 1==0) with
   | true =>
     rw [if_pos t] at f;have F:Hid (qi d (k+1)=bits .or .u64 y (Uz.wrap (bits .andNot .u64 b 2*2^q))):=f;have j:Hid (∀ w,Calls prog 124 #[.u d,.i k] w λe m=>e=.returned (.u z)/\m=w.drew):=g;have r:Hid (8*k=q):=o;clear f p g o;go_wp2_with fail;refine (j.out _).mono ?_;rintro e I ⟨rfl,l⟩;subst l;go_wp2_with fail;go_roundw;case rel=>exact ⟨k+1,ab,by go_num,by rw [F.out,r.out],c.drew⟩
     case measure=>simp [intOf];omega
   | false =>
     rw [if_neg (by rw [t];decide)] at f;have F:Hid (qi d (k+1)=bits .or .u64 y (Uz.wrap (b*2^q))):=f;have j:Hid (∀ w,Calls prog 124 #[.u d,.i k] w λe m=>e=.returned (.u z)/\m=w.drew):=g;have r:Hid (8*k=q):=o;clear f p g o;go_wp2_with fail;refine (j.out _).mono ?_;rintro e I ⟨rfl,l⟩;subst l;go_wp2_with fail;go_roundw;case rel=>exact ⟨k+1,ab,by go_num,by rw [F.out,r.out],c.drew⟩
     case measure=>simp [intOf];omega
  ·have s:k=4:=ab;subst s;generalize qi d 4=y at *;go_wp2_with fail;go_ret;exact ⟨by rw [B.out];rfl,c⟩
theorem GL (k:CK) (x:Int) (a:0<=x) (c:x<18446744073709551616) (w:World):CB k.fitF #[k.val,.u x] w (.u (hZ k x)):=by
 cases k with
 | plain b=>exact Jn b x w
 | mst=>exact Pd x w
 | mie=>exact Pb x w
 | mip=>exact Pc x w
 | satp=>exact LH x a c w
 | cfg=>exact Pe x a c w
 | addr e=>exact LF e x w
theorem Jo:CB 340 #[.agg #[],.slice j 22 m,.u T] F (.u 2184):=by go_enter func340,ntmps340;go_wp2_with fail;go_ret;exact ⟨rfl,by go_grown⟩
theorem ER (l:0<=W) (cap:W<18446744073709551616) (w:World):CB 343 #[.agg #[],.slice j 22 m,.u W] w (.u (jC T .satp W)):=by
 have g:Hid (∀ w,Calls prog 344 #[.u W] w λe a=>e=.returned (.bool (iu W))/\a=w.drew):=λw=>oI W l cap w;have f:jC T .satp W=if iu W=true then 0 else 18446744073709551615:=rfl
 cases d:iu W with
 | true =>rw [if_pos d] at f;rw [d] at g;have F:Hid (jC T .satp W=0):=f;clear f;go_enter func343,ntmps343;go_wp2_with fail;refine (g.out _).mono ?_;rintro e o ⟨rfl,b⟩;subst b;go_wp2_with fail;go_ret;exact ⟨bh,by go_grown⟩
 | false =>rw [if_neg (by rw [d];decide)] at f;rw [d] at g;have F:Hid (jC T .satp W=18446744073709551615):=f;clear f;go_enter func343,ntmps343;go_wp2_with fail;refine (g.out _).mono ?_;rintro e o ⟨rfl,b⟩;subst b;go_wp2_with fail;go_ret;exact ⟨bh,by go_grown⟩
theorem Jp (hz:y.length=22) (hs:Sl .u64 F j y) (hl:∀ a,0<=y.getD a 0/\y.getD a 0<18446744073709551616): CB 346 #[.agg #[],.slice j 22 m,.u T] F (.u (jC (y.getD 16 0) .cfg T)):=by
 obtain ⟨I,off,rfl,u,z⟩:=hs 16 ab;have D:=hl 16;have E:Hid (jC (y.getD 16 0) .cfg T=gQ (y.getD 16 0) 4):=(rfl:jC (y.getD 16 0) .cfg T=_);generalize y.getD 16 0=c at *;have G:Hid (∀ k:Nat,k<5->∀ F,Calls prog 347 #[.u c,.i k] F λe r=>e=.returned (.bool (fR c k))/\r=F.drew):=λk B F=>mE c k B D.1 D.2 F;clear hs hl hz;go_enter func346,ntmps346;go_wp2_with fail;go_loopw [7,9] (λl i wr=>∃ k:Nat,k<=4/\i=.i k/\l=.u (gQ c k)/\Bw F wr)
  (λ_ i _=>4-(intOf i).toNat)
 case atStart=>exact ⟨0,ab,rfl,rfl,by go_grown⟩
 case round =>
  obtain ⟨k,B,rfl,rfl,b⟩:=hrel;by_cases K:k<4
  ·have cap:gQ c (k+1)=if fR c k=true then bits .or .u64 (gQ c k) (Uz.wrap (255*2^(8*k))) else gQ c k:=rfl
   have f:=G.out k ab;have J:wr.cell? ⟨I,off+16,none⟩=some (.u c):=(b.cell (by exact u)).trans z;obtain ⟨q,s⟩:∃ q,8*k=q:=⟨_,rfl⟩;have M:wrap64 (8*(k:Int))=(q:Int):=ka;have C:q<64:=ab;rw [s] at cap;have d:decide ((k:Int)<4)=true:=bv;obtain ⟨l,t⟩:∃ l,l=gQ c k:=⟨_,rfl⟩;rw [<- t] at cap;rw [<- t];cases g:fR c k with
   | true =>
     rw [if_pos g] at cap;rw [g] at f;have w:Hid (gQ c (k+1)=bits .or .u64 l (Uz.wrap (255*2^q))):=cap;have o:Hid (∀ F,Calls prog 347 #[.u c,.i k] F λe r=>e=.returned (.bool true)/\r=F.drew):=f;have H:Hid (8*k=q):=s;clear cap t f s z g;go_wp2_with fail;refine (o.out _).mono ?_;rintro e L ⟨rfl,p⟩;subst p;go_wp2_with fail;go_roundw;case rel=>exact ⟨k+1,ab,by go_num,by rw [w.out,H.out],b.drew⟩
     case measure=>simp [intOf];omega
   | false =>
     rw [if_neg (by rw [g];decide)] at cap;rw [g] at f;have w:Hid (gQ c (k+1)=l):=cap;have o:Hid (∀ F,Calls prog 347 #[.u c,.i k] F λe r=>e=.returned (.bool false)/\r=F.drew):=f;clear cap t f s z g;go_wp2_with fail;refine (o.out _).mono ?_;rintro e L ⟨rfl,p⟩;subst p;go_wp2_with fail;go_roundw;case rel=>exact ⟨k+1,ab,by go_num,by rw [w.out],b.drew⟩
     case measure=>simp [intOf];omega
  ·have A:k=4:=ab;subst A;generalize gQ c 4=l at *;go_wp2_with fail;go_ret;exact ⟨by rw [E.out];rfl,b⟩
theorem ES (C:m<4) (a:Option Addr) (cap:Nat) (l:List Int) (x:Int) (w:World) (hz:l.length=22) (hs:Sl .u64 w a l) (hl:∀ j,0<=l.getD j 0/\l.getD j 0<18446744073709551616): CB 349 #[.agg #[.i m],.slice a 22 cap,.u x] w (.u (jC (l.getD 16 0) (.addr m) x)):=by
 obtain ⟨B,off,rfl,z,t⟩:=hs 16 ab;have s:=hl 16;have G:∀ o,(w.alloc o).cell? ⟨B,off+16,none⟩=some (.u (l.getD 16 0)):=λo=>(((Below.refl w.heap.size w).alloc (Nat.le_refl _) o).cell (by exact z)).trans t;have f:jC (l.getD 16 0) (.addr m) x=if (fR (l.getD 16 0) m||(fR (l.getD 16 0) (m+1)&&(iI (l.getD 16 0) (m+1)==1)))=true then 18446744073709551615 else 0:=rfl
 generalize l.getD 16 0=c at *;have u:Hid (∀ w,Calls prog 347 #[.u c,.i m] w λe q=>e=.returned (.bool (fR c m))/\q=w.drew):=λw=>mE c m ab s.1 s.2 w;have y:Hid (∀ w,Calls prog 347 #[.u c,.i ((m:Int)+1)] w λe q=>e=.returned (.bool (fR c (m+1)))/\q=w.drew):=λw=>mE c (m+1) ab s.1 s.2 w;have A:Hid (∀ w,Calls prog 190 #[.u c,.i ((m:Int)+1)] w λe q=>e=.returned (.u (iI c (m+1)))/\q=w.drew):=λw=>qV c (m+1) ab s.1 s.2 w;generalize jC c (.addr m) x=g at *;generalize fR c m=D at *;generalize fR c (m+1)=E at *;generalize iI c (m+1)=r at *;clear hs hl hz t;cases D with
 | true =>have F:Hid (g=18446744073709551615):=(by show g=_;rw [f];rfl);clear f;go_enter func349,ntmps349;go_wp2_with fail;refine (u.out _).mono ?_;rintro e p ⟨rfl,b⟩;subst b;go_wp2_with fail;go_ret;exact ⟨bh,by go_grown⟩
 | false =>
   cases E with
   | false =>have F:Hid (g=0):=(by show g=_;rw [f];rfl);clear f;go_enter func349,ntmps349;go_wp2_with fail;refine (u.out _).mono ?_;rintro e p ⟨rfl,b⟩;subst b;go_wp2_with fail;refine (y.out _).mono ?_;rintro e p ⟨rfl,b⟩;subst b;go_wp2_with fail;go_ret;exact ⟨bh,by go_grown⟩
   | true =>
     cases d:(r==1) with
     | true =>have F:Hid (g=18446744073709551615):=(by show g=_;rw [f,d];rfl);clear f;go_enter func349,ntmps349;go_wp2_with fail;refine (u.out _).mono ?_;rintro e p ⟨rfl,b⟩;subst b;go_wp2_with fail;refine (y.out _).mono ?_;rintro e p ⟨rfl,b⟩;subst b;go_wp2_with fail;refine (A.out _).mono ?_;rintro e p ⟨rfl,b⟩;subst b;go_wp2_with fail;go_ret;exact ⟨bh,by go_grown⟩
     | false =>have F:Hid (g=0):=(by show g=_;rw [f,d];rfl);clear f;go_enter func349,ntmps349;go_wp2_with fail;refine (u.out _).mono ?_;rintro e p ⟨rfl,b⟩;subst b;go_wp2_with fail;refine (y.out _).mono ?_;rintro e p ⟨rfl,b⟩;subst b;go_wp2_with fail;refine (A.out _).mono ?_;rintro e p ⟨rfl,b⟩;subst b;go_wp2_with fail;go_ret;exact ⟨bh,by go_grown⟩
def CK.sees:CK->Bool
 | .mst=>true | .mie=>true | .mip=>true | _=>false
def CK.holds:CK->Bool
 | .mip=>true | .satp=>true | .cfg=>true | .addr _=>true | _=>false
def nS:CK->Int
 | .mst=>256 | .mie=>260 | .mip=>324 | _=>0
def vQ (m:Int):CK->Int
 | .mst=>786722 | .mie=>m | .mip=>m | _=>0
def vS (m:Int):CK->Int
 | .mst=>786722 | .mie=>m | .mip=>bits .and .u64 m 2 | _=>0
theorem LK (k:CK) (hk:k.sees=true) (m:Int) (w:World):CB k.viewF #[k.val,.u m] w (.agg #[.i (nS k),.u (vQ m k),.u (vS m k)]):=by
 cases k with
 | plain b=>cases hk
 | satp=>cases hk
 | cfg=>cases hk
 | addr e=>cases hk
 | mst =>simp only [CK.viewF,CK.val,nS,vQ,vS];go_enter func335,ntmps335;go_wp2_with fail;go_returns;exact ⟨rfl,by go_grown⟩
 | mie =>simp only [CK.viewF,CK.val,nS,vQ,vS];go_enter func338,ntmps338;go_wp2_with fail;go_returns;exact ⟨rfl,by go_grown⟩
 | mip =>simp only [CK.viewF,CK.val,nS,vQ,vS];go_enter func341,ntmps341;go_wp2_with fail;go_returns;exact ⟨rfl,by go_grown⟩
def dM (l:List Int):Nat->Nat->Bool
 | 0,_=>true
 | n+1,k=>(hZ (ge k).2 (l.getD k 0)==l.getD k 0)&&dM l n (k+1)
def jW (n:Nat) (l:List Int):Bool:=decide (n=22)&&dM l 22 0
theorem Aa (hk:m<22) (h:(hZ (ge m).2 (Q.getD m 0)==Q.getD m 0)=true):dM Q (22-m) m=dM Q (22-(m+1)) (m+1):=by rw [show 22-m=(22-(m+1))+1 from ab,dM,h,Bool.true_and]
theorem Ce (hk:m<22) (h:(hZ (ge m).2 (Q.getD m 0)==Q.getD m 0)=false):dM Q (22-m) m=false:=by rw [show 22-m=(22-(m+1))+1 from ab,dM,h,Bool.false_and]
theorem yF (k:CK) (w:World):(method 453 k.ty k.val "loop.example/g00134/impl.fit").run prog w=.ok (k.fitF,k.val) w:=by cases k<;>kernel_rfl
theorem qW (h:(prog.funcs[B]?).map (λfn=>(fn.name == "runtime.NumGoroutine",fn.body.isSome))=some (false,true)) (args:Array Value) (w:World):(callFunc B args).run prog w=.ok (.enter B args) w:=by
 cases a:prog.funcs[B]? with
 | none=>rw [a] at h;cases h
 | some fn =>rw [a] at h;simp only [Option.map_some,Option.some.injEq,Prod.mk.injEq] at h;have b:fn.name≠ "runtime.NumGoroutine":=(by simpa using h.1);obtain ⟨c,d⟩:=Option.isSome_iff_exists.mp h.2;simp [callFunc,a,b,d,mark]
theorem vT (k:CK):(prog.funcs[k.fitF]?).map (λfn=>(fn.name == "runtime.NumGoroutine",fn.body.isSome))=some (false,true):=by cases k<;>kernel_rfl
theorem Jq (k:CK) (x:Int) (c:0<=x) (d:x<18446744073709551616) (w:World) (p q:Addr) (u v:Value) (a:w.cell? p=some u/\w.cell? q=some v) :
 Calls prog k.fitF #[k.val,.u x] w λe b=>e=.returned (.u (hZ k x))/\Bw w b/\b.cell? p=some u/\b.cell? q=some v :=
 (GL k x c d w).mono λe b h=>⟨h.1,h.2,(h.2.cell (World.block_lt_of_cell? _ _ a.1)).trans a.1,(h.2.cell (World.block_lt_of_cell? _ _ a.2)).trans a.2⟩
theorem lL (hz:y.length=m) (hs:Sl .u64 F j y) (hl:∀ a,0<=y.getD a 0/\y.getD a 0<18446744073709551616): CB 72 #[.slice j m s] F (.bool (jW m y)):=by
 by_cases C:m=22
 ·have p:jW m y=dM y 22 0:=(by simp [jW,C]);rw [p];have M:Hid (y.length=m):=hz;have K:Hid (∀ a,0<=y.getD a 0/\y.getD a 0<18446744073709551616):=hl;subst C;clear hz p hl;go_enter func72,ntmps72;go_wp2_with fail;refine (pz _).mono ?_;rintro e w1 ⟨T,rfl,L,O⟩;go_wp2_with fail;go_loopw [9] (λi wr=>∃ k:Nat,k<=22/\i=.i k/\Hid (dM y (22-k) k=dM y 22 0)/\Bw F wr)
   (λi _=>22-(intOf i).toNat)
  case atStart=>exact ⟨0,ab,rfl,(rfl:dM y (22-0) 0=dM y 22 0),O⟩
  case round =>
   obtain ⟨k,X,rfl,A,c⟩:=hrel;by_cases g:k<22
   ·obtain ⟨b,off,rfl,z,P⟩:=hs k (by rw [M.out];exact g);have I:=K.out k;obtain ⟨r,cap⟩:∃ r,r=ge k:=⟨_,rfl⟩;have HR:Hid (r=ge k):=cap;have n:(hZ r.2 (y.getD k 0)==y.getD k 0)=true->Hid (dM y (22-(k+1)) (k+1)=dM y 22 0):=λh=>(Aa y k g (by rw [<- cap];exact h)).symm.trans A.out;have H:(hZ r.2 (y.getD k 0)==y.getD k 0)=false->Hid (dM y 22 0=false):=λh=>A.out.symm.trans (Ce y k g (by rw [<- cap];exact h));have f:Hid ((hZ r.2 (y.getD k 0)==y.getD k 0)=true->Hid (dM y (22-(k+1)) (k+1)=dM y 22 0)):=n;have q:Hid ((hZ r.2 (y.getD k 0)==y.getD k 0)=false->Hid (dM y 22 0=false)):=H;clear cap n H;have W:decide ((k:Int)<22)=true:=bv;have R:(0:Int)<=(k:Int):=ab;have S:(k:Int)<22:=ab;have U:=yF r.2;have N:=qW (vT r.2);have Q:wr.cell? ⟨b,off+k,none⟩=some (.u (y.getD k 0)):=(c.cell (by exact z)).trans P;generalize y.getD k 0=x at *;go_wp2_with (first | refine gV L .i64 k g r HR rfl (.tmp 8) (.tmp 9) rfl rfl rfl ?_);go_region_held3 (λt=>t.cell? ⟨wr.heap.size,1,none⟩=some (.iface r.2.ty r.2.val)/\t.cell? ⟨b,off+k,none⟩=some (.u x)) (go_keep) (first | (refine (Jq r.2 x I.1 I.2 _ ⟨wr.heap.size,1,none⟩ ⟨b,off+k,none⟩ (.iface r.2.ty r.2.val) (.u x) ?_).mono ?_;(first | assumption | (simp [*]));rintro e V ⟨rfl,o,D,E⟩));have G:Hid (Bw F V):=(by show Below _ _ _;refine aa (w1:=(wr.alloc (Obj.cells #[.i r.1,.iface r.2.ty r.2.val] 148)).drew) ?_ o;exact (c.alloc c.size _).drew);clear o D E U N;obtain ⟨l,J⟩:∃ l,hZ r.2 x=l:=⟨_,rfl⟩;rw [J] at f q ⊢;clear J;cases d:(l==x) with
    | true =>
      have w:=f.out d;have u:(l != x)=false:=(by simp [bne,d]);clear f q d;rw [u];go_wp2_with fail;go_roundw;case rel=>exact ⟨k+1,ab,by go_num,w,G.out⟩
      case measure=>simp [intOf];omega
    | false =>have w:=q.out d;have u:(l != x)=true:=(by simp [bne,d]);clear f q d;rw [u];go_wp2_with fail;go_ret;exact ⟨by rw [w.out];rfl,G.out⟩
   ·have B:k=22:=ab;subst B;have w:Hid (dM y 22 0=true):=A.out.symm;go_wp2_with fail;go_ret;exact ⟨by rw [w.out];rfl,c⟩
 ·have w:Hid (jW m y=false):=(by show _=_;simp [jW,C]);have d:((m:Int) != 22)=true:=bv;clear hz hs;go_enter func72,ntmps72;go_wp2_with fail;go_ret;exact ⟨by rw [w.out];rfl,Below.refl _ _⟩
end Go.Proofs.YtfagphfjfhpmjaaGreatDoor
