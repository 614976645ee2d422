/- Own lemmas. -/
import Derived.Test.YtjifdmoehfbihaaGreatDoorAut
import Derived.Test.YtjifdmoehfbihaaGreatDoorK08
import Derived.Test.YtjifdmoehfbihaaGreatDoorK13
import Derived.Test.YtjifdmoehfbihaaGreatDoorK14
set_option maxRecDepth 100000
namespace Go.Proofs.YtjifdmoehfbihaaGreatDoor
open Go.RowKit Tryz
set_option linter.unusedVariables false
def qd:Go.Code->Go.Code
 | .block _ c | .loop c | .cond _ _ c=>c
 | c=>c
def Qd:Go.Code->Array Oper
 | .region _ o _=>o
 | _=>#[]
theorem n6 {P:Program} {n:Nat} {fn:Func} {Rs:Ending->World->Prop} {k:List KI} {F:Fr} {w W:World} {bs:List (Array Value × TypeId)} (hS:Bs w bs W) (H:Hn P (Bs w bs) (Bs w bs)) (m:Nat) {i:Nat} {old:Array Value} {t T:TypeId} {d:TypeDesc} {cs:Array Value} {p:Nat} (hb:bs[i]?=some (old,t)) (l:old.size=cs.size) (g:(P.info? T).map (·.size)=some cs.size) (c:cs.all (·.oneCell')=true) (o:P.underlying T=some d) (hd:(match d with | .struct _ | .array _ _=>true | _=>false)=true) (e:fn.results=#[.cell p T]) (hx:(λ(y:Bool × List KI × Fr)=>(y.1,Da n y.2.2 y.2.1,yJ y.2.2 y.2.1,gZ (oI y.2.2 y.2.1))) (be P (kW w.heap.size bs) H n true m k F).1=(false,some (do Instr.storeAt T (.p (w.heap.size+i) 0) (.agg cs);pure Next.skip),false,true)) (he:(be P (kW w.heap.size bs) H n true m k F).2.map Prod.fst=(be P (kW w.heap.size bs) H n true m k F).2.map Prod.snd) (hy:∀ X,(λ(z:(Bool × List KI × Fr) × List (Oe × Oe))=>(z.1.1,(lk z.1.2.2 p).map Prod.fst,z.2.map Prod.fst)) (be P [] ({}:Hn P (λx=>x=X) (λx=>x=X)) n false m (oI (be P (kW w.heap.size bs) H n true m k F).1.2.2 (be P (kW w.heap.size bs) H n true m k F).1.2.1) (pP (be P (kW w.heap.size bs) H n true m k F).1.2.2 (be P (kW w.heap.size bs) H n true m k F).1.2.1 undef 0))=(true,some (.p (w.heap.size+i) 0),(be P [] ({}:Hn P (λx=>x=X) (λx=>x=X)) n false m (oI (be P (kW w.heap.size bs) H n true m k F).1.2.2 (be P (kW w.heap.size bs) H n true m k F).1.2.1) (pP (be P (kW w.heap.size bs) H n true m k F).1.2.2 (be P (kW w.heap.size bs) H n true m k F).1.2.1 undef 0)).2.map Prod.snd)) (h:∀ V,Bw w V->Rs (.returned (.agg cs)) V):Wg P (Bs w bs) (bodyPost P fn Rs) n k F W:=by simp only [Prod.mk.injEq] at hx hy;refine ae Bs.eng H m hS (hret:=hx.1) (he:=he) λq f=>?_;have b:=f.1 i _ hb;refine bJ (hx:=hx.2.1) (aG b g l c) (hS:=gm hx.2.2.1) ?_;refine fP (R:=[]) trivial {} m (hx:=by rw [hx.2.2.2,(hy _).1]) (he:=(hy _).2.2) λa j=>⟨_,results_cell_row e _ _ _ _ _ _ _ (j.slot (hy _).2.1) (setRow_heap _ _ _ _ _ _ b) o hd g,h _ (aE f.2 ab _)⟩
theorem qe {bs:List Nat} {a b c:World} (h:Bw a b) (k:Ag bs b c) (hb:∀ x ∈ bs,a.heap.size<=x):Bw a c :=
 ⟨k.os.trans h.os,k.tape.trans h.tape,k.output.trans h.output,Nat.le_trans h.size k.size,λi d=>(k.block i (Nat.lt_of_lt_of_le d h.size) λe=>by have:=hb i e;omega).trans (h.block i d)⟩
theorem sE (x:Int) (n:Nat) (m:Int) (h:(2:Int)^n=m):x.fdiv (2^n)=x/m:=by subst h;exact Int.fdiv_eq_ediv_of_nonneg _ (Int.le_of_lt (Int.pow_pos ab))
theorem Ta {α:Type} (a b:Bool) (x y:α):(if (a||b)=true then x else y)=if a=true then x else if b=true then x else y:=by cases a<;>rfl
noncomputable abbrev wD:Go.Code:=qd (i8 (qd (qd (az 5 (aW Tryz.f177)))))
noncomputable abbrev wT (R:Act->World->Prop):List KI:=[.blk 1,.code (az 1 (qd (qd (az 5 (aW Tryz.f177))))),.fin R,.blk 0]
abbrev wR (V:Fd) (w:World):Ending->World->Prop:=λe a=>e=.returned (.agg V.cells)/\Bw w a
abbrev wB:List (Array Value × TypeId):=[(i7,215)]
noncomputable abbrev wW (V:Fd) (w:World) (k:List KI) (F:Fr) (W:World):Prop:=Wg prog (Bs w wB) (bodyPost prog Tryz.f177 (wR V w)) Tryz.f177.ntmps k F W
abbrev wF (ra:Option Addr) (n rcap b off cap:Nat) (p va kind:Int) (w:World) (L:Fr):Fr:=(0,.slice ra n rcap,0)::(1,.slice (some ⟨b,off,none⟩) 22 cap,0)::(2,.i p,0)::(3,.u va,0)::(4,.i kind,0)::(10,.p w.heap.size 0,1)::L
abbrev wL (lv:Nat) (X e:Int) (L:Fr):Fr:=(12,.u lv,0)::(13,.u X,0)::(14,.u e,0)::(15,.u (ak e 1),0)::(16,.u (ak e 2),0)::(17,.u (ak e 3),0)::(18,.u (dQ e),0)::L
section
variable {ra : Option Addr} {n rcap : Nat} {zs : List Int} {b off cap : Nat} {l : List Int} {p va kind : Int} {w : World} {V : Fd} {R : Act -> World -> Prop} {X e : Int} {lv : Nat}
variable (FT : ∀ W, Calls Tryz.prog 225 #[.int .i64 kind] W λe w' => e = .returned (.agg (fA kind).cells) /\ Below W.heap.size W w')
variable (PG : ∀ W, Calls Tryz.prog 224 #[.int .i64 kind] W λe w' => e = .returned (.agg (bO kind).cells) /\ Below W.heap.size W w')
variable (hlz : l.length = 22) (hl : Sl .u64 w (some ⟨b, off, none⟩) l)
include FT hlz hl in
theorem Io {W:World} (P:lv<=2) (s:Bs w wB W) (m:V=if (cq e kind != e)=true then (if aA l 1 X (aZ X 8) 3 4 0=true then ⟨gt e va lv,0,true,X,cq e kind⟩ else fA kind) else ⟨gt e va lv,0,false,0,0⟩):wW V w (.code (az 12 wD)::wT R) (wF ra n rcap b off cap p va kind w [(12,.u lv,0),(13,.u X,0),(14,.u e,0),(18,.u (dQ e),0)]) W:=by
 obtain ⟨L,J⟩:∃ L,gt e va lv=L:=⟨_,rfl⟩
 rw [J] at m
 have N:∀ W,Bs w wB W->Wg prog (Bs w wB) (bodyPost prog Tryz.f177 (wR V w)) Tryz.f177.ntmps (.ops (Qd (i8 (az 13 wD))) (((Qd (i8 (az 13 wD))).toList).drop 9)::.code (az 14 wD)::wT R) (wF ra n rcap b off cap p va kind w [(13,.u X,0),(14,.u e,0),(216,.agg #[.u L,.i 0,.bool false,.u 0,.u 0],0)]) W:=by
  intro W s
  refine dU 2 (dW (T:=215) (z:=.agg i7) al W) ?_
  have K:=s.1 0 _ rfl
  have I:w.heap.size<W.heap.size:=(Array.getElem?_eq_some_iff.1 K).1
  have g:Bw w (W.alloc (.cells i7 215)):=s.2.alloc s.2.size _
  have F:Iv [w.heap.size,W.heap.size] (W.alloc (.cells i7 215)) [⟨w.heap.size,i7,[]⟩,⟨W.heap.size,i7,[]⟩] (W.alloc (.cells i7 215)):=⟨λr o=>by
   simp only [List.mem_cons,List.not_mem_nil,or_false] at o
   rcases o with rfl|rfl
   ·exact ⟨_,(Below.heap_alloc _ _ _ I).trans K⟩
   ·exact ⟨_,heap_alloc_new _ _⟩,Ag.refl _ _,cp,bh⟩
  have j:∀ x ∈ [w.heap.size,W.heap.size],w.heap.size<=x:=by simp;omega
  refine aH (λ_=>True) ?_
  show Wg _ _ _ _ _ _ (W.alloc (.cells i7 215))
  generalize W.heap.size=h at F j ⊢
  generalize W.alloc (.cells i7 215)=G at F g ⊢
  have u:∀ (f:Fd) (i:World) (a:Act) {G:World} (g:Bw w G) (L:List Rw),V=f->Iv [w.heap.size,h] G (⟨w.heap.size,f.cells,[]⟩::L) i->a.tmps.getD 10 undef=.p w.heap.size 0->∃ v,(results Tryz.f177 a.tmps).run prog i=.ok v i/\wR V w (.returned v) i:=λf i a G g L O d Q=>by
   obtain ⟨t,C⟩:=d.rows _ (List.mem_cons_self ..)
   exact ⟨_,results_cell_row results177 _ _ _ _ _ _ _ Q C underlying215 rfl al,by rw [O],qe g d.ag j⟩
  obtain ⟨z,c⟩:∃ z,cq e kind=z:=⟨_,rfl⟩
  rw [c] at m
  obtain ⟨q,M⟩:∃ q,aA l 1 X (aZ X 8) 3 4 0=q:=⟨_,rfl⟩
  rw [M] at m
  cases d:(kind==3)<;>(
   unfold cq at c
   rw [d] at c
   first | rw [if_pos rfl] at c | rw [if_neg bb] at c)
  all_goals
   cases k:(z != e) with
   | false =>
     rw [k,if_neg bb] at m
     exact iw F {eq:=[(220,aj d),(225,aj k)]} 100 (R1:=[⟨w.heap.size,#[.u L,.i 0,.bool false,.u 0,.u 0],[]⟩,⟨h,#[.u L,.i 0,.bool false,.u 0,.u 0],[]⟩]) (hx:=fb) (he:=fb) λi a d B=>u _ i a g _ m d (B.slot fb)
   | true =>
     rw [k,if_pos rfl] at m
     refine fx F {eq:=[(220,aj d),(225,aj k)]} 100 (R1:=[⟨w.heap.size,i7,[]⟩,⟨h,#[.u L,.i 0,.bool false,.u 0,.u 0],[]⟩]) (λi d=>l4 (some ⟨b,off,none⟩) cap l 1 X 8 3 i hlz (hl.below (qe g d.ag j))) (hx:=fb) (he:=fb) λi e3 S d o=>⟨.bool q,0,by rw [o.1,M],?_⟩
     rw [o.2]
     have A:=qe g d.ag j
     have y:Iv [w.heap.size,h] i [⟨w.heap.size,i7,[]⟩,⟨h,#[.u L,.i 0,.bool false,.u 0,.u 0],[]⟩] i:=⟨d.rows,Ag.refl _ _,d.sub,d.nd⟩
     cases q with
     | true=>exact iw y {} 100 (R1:=[⟨w.heap.size,#[.u L,.i 0,.bool true,.u X,.u z],[]⟩,⟨h,#[.u L,.i 0,.bool true,.u X,.u z],[]⟩]) (hx:=fb) (he:=fb) λD a k B=>u _ D a A _ m k (B.slot fb)
     | false =>
       refine fx y {} 100 (R1:=[⟨w.heap.size,i7,[]⟩,⟨h,#[.u L,.i 0,.bool false,.u 0,.u 0],[]⟩]) (λi d=>FT i) (hx:=fb) (he:=fb) λD e4 U k o=>⟨.agg (fA kind).cells,0,o.1,?_⟩
       have E:=k.below o.2
       have H:=qe A E.ag j
       exact iw (bs:=[w.heap.size,h]) (R:=[⟨w.heap.size,i7,[]⟩,⟨h,#[.u L,.i 0,.bool false,.u 0,.u 0],[]⟩]) ⟨E.rows,Ag.refl _ _,E.sub,E.nd⟩ {} 100 (R1:=[⟨w.heap.size,(fA kind).cells,[]⟩,⟨h,#[.u L,.i 0,.bool false,.u 0,.u 0],[]⟩]) (hx:=fb) (he:=fb) λD a k B=>u _ D a H _ m k (B.slot fb)
 obtain rfl|rfl|rfl:lv=0\/lv=1\/lv=2:=ab
 all_goals exact ae Bs.eng {eq:=[(215,dI .u64 J)]} 20 s λW s=>ah _ _ (N W s)
include FT PG hlz hl in
theorem Ip {W:World} (r:lv<=2) (d:Bs w wB W) (a:V=db l p va kind e X lv):wW V w (.code (az 9 wD)::wT R) (wF ra n rcap b off cap p va kind w (wL lv X e [])) W:=by
 obtain ⟨G,t,s,j,o⟩:=hl 0 ab
 simp only [Option.some.injEq,Addr.mk.injEq,and_true] at s
 obtain ⟨rfl,rfl⟩:=s
 have o:∀ W,Bs w wB W->W.cell? ⟨b,off,none⟩=some (.u (l.getD 0 0)):=λW d=>(d.2.cell (by exact j)).trans o
 have q:∀ (x:Int) (i:Nat),i<64->∀ W,Bw w W->CE 111 #[.u x,.u i] W (.u (ak x i)):=λx i y W _=>gH x i y W
 unfold db gA gB at a
 simp only [Ta] at a
 generalize v:(if (cq e kind != e)=true then (if aA l 1 X (aZ X 8) 3 4 0=true then ⟨gt e va lv,0,true,X,cq e kind⟩ else fA kind) else ⟨gt e va lv,0,false,0,0⟩)=Y at a
 have E:∀ c W,Bs w wB W->(V=if c=true then bO kind else Y)->wW V w (.code (az 1 (qd (az 1 (qd (az 1 (qd (az 1 (qd (az 1 (qd (az 1 (qd (i8 (az 11 wD))))))))))))))::.blk 2::.code (az 12 wD)::wT R) (wF ra n rcap b off cap p va kind w (wL lv X e [(20,.u (ak e 4),0),(183,.bool c,0)])) W:=by
  intro c W d a
  cases c with
  | true=>rw [if_pos rfl] at a;exact n6 (i:=0) (cs:=(bO kind:Fd).cells) d {cv:=[(202,fW λW _=>PG W)]} 20 rfl rfl al (lf _) underlying215 rfl results177 al al (λ_=>al) λW h=>⟨by rw [a],h⟩
  | false =>
    rw [if_neg bb] at a
    rw [<- v] at a
    exact ae Bs.eng {} 3 d λW d=>ah _ _ (Io (ra:=ra) (n:=n) (rcap:=rcap) (cap:=cap) (p:=p) (R:=R) FT hlz hl r d a)
 have D:∀ c W,Bs w wB W->(V=if c=true then bO kind else if ((p==1)&&(ak e 4==1)&&((kind==1)||(ak (l.getD 0 0) 18==0)))=true then bO kind else Y)->wW V w (.code (az 1 (qd (az 1 (qd (az 1 (qd (az 1 (qd (az 1 (qd (i8 (az 11 wD))))))))))))::.blk 2::.code (az 12 wD)::wT R) (wF ra n rcap b off cap p va kind w (wL lv X e [(20,.u (ak e 4),0),(174,.bool c,0)])) W:=by
  intro c W d a
  cases c with
  | true=>rw [if_pos rfl] at a;exact n6 (i:=0) (cs:=(bO kind:Fd).cells) d {cv:=[(182,fW λW _=>PG W)]} 20 rfl rfl al (lf _) underlying215 rfl results177 al al (λ_=>al) λW h=>⟨by rw [a],h⟩
  | false =>
    rw [if_neg bb] at a
    obtain ⟨c,f⟩:∃ c,c=((p==1)&&(ak e 4==1)&&((kind==1)||(ak (l.getD 0 0) 18==0))):=⟨_,rfl⟩
    rw [<- f] at a
    cases t0:(p==1)<;>cases g:(ak e 4==1)<;>cases k:(kind==1)<;>cases m:(ak (l.getD 0 0) 18==0)<;>(
     rw [t0,g,k,m] at f
     subst f
     exact ae Bs.eng {eq:=[(185,aj t0),(188,aj g),(192,aj k),(198,aj m)],ov:=[(196,iR ⟨b,off,none⟩ _ underlying22 rfl o)],cv:=[(197,mM (q (l.getD 0 0) 18 ab))]} 22 d λW d=>ah _ _ (E _ W d a))
 have C:∀ c W,Bs w wB W->(V=if c=true then bO kind else if ((p==0)&&(ak e 4==0))=true then bO kind else if ((p==1)&&(ak e 4==1)&&((kind==1)||(ak (l.getD 0 0) 18==0)))=true then bO kind else Y)->wW V w (.code (az 1 (qd (az 1 (qd (az 1 (qd (az 1 (qd (i8 (az 11 wD))))))))))::.blk 2::.code (az 12 wD)::wT R) (wF ra n rcap b off cap p va kind w (wL lv X e [(20,.u (ak e 4),0),(165,.bool c,0)])) W:=by
  intro c W d a
  cases c with
  | true=>rw [if_pos rfl] at a;exact n6 (i:=0) (cs:=(bO kind:Fd).cells) d {cv:=[(173,fW λW _=>PG W)]} 20 rfl rfl al (lf _) underlying215 rfl results177 al al (λ_=>al) λW h=>⟨by rw [a],h⟩
  | false =>
    rw [if_neg bb] at a
    obtain ⟨c,f⟩:∃ c,c=((p==0)&&(ak e 4==0)):=⟨_,rfl⟩
    rw [<- f] at a
    cases t0:(p==0)<;>cases g:(ak e 4==0)<;>(
     rw [t0,g] at f
     subst f
     exact ae Bs.eng {eq:=[(176,aj t0),(179,aj g)]} 11 d λW d=>ah _ _ (D _ W d a))
 have B:∀ c W,Bs w wB W->(V=if c=true then bO kind else if ((kind==3)&&(ak e 2==0))=true then bO kind else if ((p==0)&&(ak e 4==0))=true then bO kind else if ((p==1)&&(ak e 4==1)&&((kind==1)||(ak (l.getD 0 0) 18==0)))=true then bO kind else Y)->wW V w (.code (az 1 (qd (az 1 (qd (az 1 (qd (i8 (az 11 wD))))))))::.blk 2::.code (az 12 wD)::wT R) (wF ra n rcap b off cap p va kind w (wL lv X e [(20,.u (ak e 4),0),(145,.bool c,0)])) W:=by
  intro c W d a
  cases c with
  | true=>rw [if_pos rfl] at a;exact n6 (i:=0) (cs:=(bO kind:Fd).cells) d {cv:=[(164,fW λW _=>PG W)]} 20 rfl rfl al (lf _) underlying215 rfl results177 al al (λ_=>al) λW h=>⟨by rw [a],h⟩
  | false =>
    rw [if_neg bb] at a
    obtain ⟨c,f⟩:∃ c,c=((kind==3)&&(ak e 2==0)):=⟨_,rfl⟩
    rw [<- f] at a
    cases t0:(kind==3)<;>cases g:(ak e 2==0)<;>(
     rw [t0,g] at f
     subst f
     exact ae Bs.eng {eq:=[(167,aj t0),(170,aj g)]} 11 d λW d=>ah _ _ (C _ W d a))
 have A:∀ c W,Bs w wB W->(V=if c=true then bO kind else if ((kind==2)&&(ak e 1==0)&&((ak e 3==0)||(ak (l.getD 0 0) 19==0)))=true then bO kind else if ((kind==3)&&(ak e 2==0))=true then bO kind else if ((p==0)&&(ak e 4==0))=true then bO kind else if ((p==1)&&(ak e 4==1)&&((kind==1)||(ak (l.getD 0 0) 18==0)))=true then bO kind else Y)->wW V w (.code (az 1 (qd (az 1 (qd (i8 (az 11 wD))))))::.blk 2::.code (az 12 wD)::wT R) (wF ra n rcap b off cap p va kind w (wL lv X e [(20,.u (ak e 4),0),(136,.bool c,0)])) W:=by
  intro c W d a
  cases c with
  | true=>rw [if_pos rfl] at a;exact n6 (i:=0) (cs:=(bO kind:Fd).cells) d {cv:=[(144,fW λW _=>PG W)]} 20 rfl rfl al (lf _) underlying215 rfl results177 al al (λ_=>al) λW h=>⟨by rw [a],h⟩
  | false =>
    rw [if_neg bb] at a
    obtain ⟨c,f⟩:∃ c,c=((kind==2)&&(ak e 1==0)&&((ak e 3==0)||(ak (l.getD 0 0) 19==0))):=⟨_,rfl⟩
    rw [<- f] at a
    cases t0:(kind==2)<;>cases g:(ak e 1==0)<;>cases k:(ak e 3==0)<;>cases m:(ak (l.getD 0 0) 19==0)<;>(
     rw [t0,g,k,m] at f
     subst f
     exact ae Bs.eng {eq:=[(147,aj t0),(150,aj g),(154,aj k),(160,aj m)],ov:=[(158,iR ⟨b,off,none⟩ _ underlying22 rfl o)],cv:=[(159,mM (q (l.getD 0 0) 19 ab))]} 22 d λW d=>ah _ _ (B _ W d a))
 have z:∀ c W,Bs w wB W->(V=if c=true then bO kind else if ((kind==1)&&(ak e 3==0))=true then bO kind else if ((kind==2)&&(ak e 1==0)&&((ak e 3==0)||(ak (l.getD 0 0) 19==0)))=true then bO kind else if ((kind==3)&&(ak e 2==0))=true then bO kind else if ((p==0)&&(ak e 4==0))=true then bO kind else if ((p==1)&&(ak e 4==1)&&((kind==1)||(ak (l.getD 0 0) 18==0)))=true then bO kind else Y)->wW V w (.code (az 1 (qd (i8 (az 11 wD))))::.blk 2::.code (az 12 wD)::wT R) (wF ra n rcap b off cap p va kind w (wL lv X e [(20,.u (ak e 4),0),(129,.bool c,0)])) W:=by
  intro c W d a
  cases c with
  | true=>rw [if_pos rfl] at a;exact n6 (i:=0) (cs:=(bO kind:Fd).cells) d {cv:=[(135,fW λW _=>PG W)]} 20 rfl rfl al (lf _) underlying215 rfl results177 al al (λ_=>al) λW h=>⟨by rw [a],h⟩
  | false =>
    rw [if_neg bb] at a
    obtain ⟨c,f⟩:∃ c,c=((kind==1)&&(ak e 3==0)):=⟨_,rfl⟩
    rw [<- f] at a
    cases t0:(kind==1)<;>cases g:(ak e 3==0)<;>(
     rw [t0,g] at f
     subst f
     exact ae Bs.eng {eq:=[(138,aj t0),(141,aj g)]} 11 d λW d=>ah _ _ (A _ W d a))
 obtain ⟨c,f⟩:∃ c,ma e lv=c:=⟨_,rfl⟩
 rw [f] at a
 obtain rfl|rfl|rfl:lv=0\/lv=1\/lv=2:=ab
 all_goals exact ae Bs.eng {eq:=[(133,aj f)],cv:=[(128,mM (q e 4 ab))]} 24 d λW d=>ah _ _ (z c W d a)
include FT PG hlz hl in
theorem DM {T:Int} {W:World} (hr:aU n=true) (hz:zs.length=n) (hs:Sl .u8 w ra zs) (C:∀ y ∈ zs,(Lit.int .u8 y).wf=true) (A:lv<=2) (g:Bs w wB W) (d:V=bK zs n l p va kind lv T) (N:∀ a k G,0<lv->V=bK zs n l p va kind (lv-1) G->bP (wF ra n rcap b off cap p va kind w [(11,.u G,0),(12,.u ((lv-1:Nat):Int),0)]) Tryz.f177.ntmps a->Bs w wB k->R a k):wW V w [.code (qd (qd (az 5 (aW Tryz.f177)))),.fin R,.blk 0] (wF ra n rcap b off cap p va kind w [(11,.u T,0),(12,.u lv,0)]) W:=by
 rw [gC] at d
 obtain ⟨X,r⟩:∃ X,bF T va lv=X:=⟨_,rfl⟩
 have H:=sE va (12+9*lv) _ rfl
 have z:0<=X/\X<18446744073709551616:=by rw [<- r];exact SY _
 obtain ⟨e,J⟩:∃ e,fs zs X=e:=⟨_,rfl⟩
 rw [r,J] at d
 have s:∀ (x:Int) (i:Nat),i<64->∀ W,Bw w W->CE 111 #[.u x,.u i] W (.u (ak x i)):=λx i P W _=>gH x i P W
 have t:∀ W,Bw w W->CE 117 #[.slice ra n rcap,.u X,.i 8] W (.bool (gn n X 8)):=λW _=>uh ra n rcap X 8 W hr rfl z.1 ab
 have u:∀ W,Bw w W->CE 115 #[.slice (some ⟨b,off,none⟩) 22 cap,.i 1,.u X,.i 8,.i 2] W (.bool (aA l 1 X (aZ X 8) 2 4 0)):=λW m=>l4 (some ⟨b,off,none⟩) cap l 1 X 8 2 W hlz (hl.below m)
 have F:∀ c W,Bs w wB W->(V=if c=true then if iZ e lv=true then bO kind else bK zs n l p va kind (lv-1) (IntKind.u64.wrap (dQ e*4096)) else db l p va kind e X lv)->wW V w (.code (az 1 (i8 (az 8 wD)))::.code (az 9 wD)::wT R) (wF ra n rcap b off cap p va kind w (wL lv X e [(104,.bool c,0)])) W:=by
  intro c W g d
  cases c with
  | false =>
    rw [if_neg bb] at d
    exact ae Bs.eng {} 2 g λW g=>ah _ _ (Ip (ra:=ra) (n:=n) (rcap:=rcap) (cap:=cap) (R:=R) FT PG hlz hl A g d)
  | true =>
    rw [if_pos rfl] at d
    unfold iZ at d
    cases t0:(bits .and .u64 (e/16) 1==1)<;>cases j:(bits .and .u64 (e/64) 3 != 0)<;>rw [t0,j] at d<;>obtain rfl|rfl|rfl:lv=0\/lv=1\/lv=2:=ab
    all_goals first
     | (rw [if_pos (by rfl)] at d
        exact n6 (i:=0) (cs:=(bO kind:Fd).cells) g {eq:=[(109,dI .u64 (sE e 4 16 bb)),(115,dI .u64 (sE e 6 64 bb)),(111,aj t0),(117,aj j)],cv:=[(120,fW λW _=>PG W)]} 60 rfl rfl al (lf _) underlying215 rfl results177 al al (λ_=>al) λW m=>⟨by rw [d],m⟩)
     | (rw [if_neg bb] at d
        exact J4 Bs.eng {eq:=[(109,dI .u64 (sE e 4 16 bb)),(115,dI .u64 (sE e 6 64 bb)),(111,aj t0),(117,aj j)]} 60 g λa k S Q=>N a k _ ab d (Q.less al) S)
 have E:∀ c W,Bs w wB W->(V=if c=true then bO kind else if l8 e=true then if iZ e lv=true then bO kind else bK zs n l p va kind (lv-1) (IntKind.u64.wrap (dQ e*4096)) else db l p va kind e X lv)->wW V w (.code (az 1 (i8 (az 6 wD)))::.code (az 7 wD)::wT R) (wF ra n rcap b off cap p va kind w [(12,.u lv,0),(13,.u X,0),(14,.u e,0),(15,.u (ak e 1),0),(16,.u (ak e 2),0),(17,.u (ak e 3),0),(93,.bool c,0)]) W:=by
  intro c W g d
  cases c with
  | true=>rw [if_pos rfl] at d;exact n6 (i:=0) (cs:=(bO kind:Fd).cells) g {cv:=[(95,fW λW _=>PG W)]} 20 rfl rfl al (lf _) underlying215 rfl results177 al al (λ_=>al) λW m=>⟨by rw [d],m⟩
  | false =>
    rw [if_neg bb] at d
    obtain ⟨c,o⟩:∃ c,c=l8 e:=⟨_,rfl⟩
    rw [<- o] at d
    unfold l8 at o
    cases t0:(ak e 1==0)<;>cases j:(ak e 3==0)<;>(
     rw [t0,j] at o
     subst o
     exact ae Bs.eng {eq:=[(97,dI .u64 (sE e 10 1024 bb)),(100,aj t0),(103,aj j)]} 19 g λW g=>ah _ _ (F _ W g d))
 have D:gn n X 8=true->∀ W,Bs w wB W->(V=if oZ e=true then bO kind else if l8 e=true then if iZ e lv=true then bO kind else bK zs n l p va kind (lv-1) (IntKind.u64.wrap (dQ e*4096)) else db l p va kind e X lv)->wW V w (.code (az 2 wD)::wT R) (wF ra n rcap b off cap p va kind w [(12,.u lv,0),(13,.u X,0)]) W:=by
  intro B W g d
  have M:∀ W,Bw w W->CE 118 #[.slice ra n rcap,.u X,.i 8] W (.u e):=λW m=>by
   have O:=yY B
   obtain ⟨f,q⟩:∃ f:Nat,X=2147483648+(f:Int):=⟨(X-2147483648).toNat,ab⟩
   have I:=gc hr
   have h:=ui ra n rcap f 8 zs W hz ab (hs.below m) C ab ab ab
   have e2:le zs f 8=e:=by rw [<- J];unfold fs;rw [q,show (2147483648+(f:Int)-2147483648).toNat=f from ab]
   rw [e2,<- q] at h
   exact h
  obtain ⟨c,o⟩:∃ c,c=oZ e:=⟨_,rfl⟩
  rw [<- o] at d
  unfold oZ at o
  cases t0:(bits .and .u64 e 1==0)<;>cases j:(ak e 1==0)<;>cases K:(ak e 2==1)<;>cases L:(e/18014398509481984 != 0)<;>(
   rw [t0,j,K,L] at o
   subst o
   exact ae Bs.eng {eq:=[(91,dI .u64 (sE e 54 18014398509481984 bb)),(80,aj t0),(83,aj j),(86,aj K),(92,aj L)],cv:=[(71,mM M),(73,mM (s e 1 ab)),(75,mM (s e 2 ab)),(77,mM (s e 3 ab))]} 45 g λW g=>ah _ _ (E _ W g d))
 cases t0:gn n X 8<;>cases j:aA l 1 X (aZ X 8) 2 4 0<;>rw [t0] at t<;>rw [j] at u<;>rw [t0] at d<;>(try rw [j] at d)<;>obtain rfl|rfl|rfl:lv=0\/lv=1\/lv=2:=ab
 all_goals first
  | (rw [if_pos rfl,if_pos rfl] at d
     exact ae Bs.eng {eq:=[(53,dI .u64 H),(13,dI .u64 r)],cv:=[(59,mM t),(64,mM u)]} 31 g λW g=>ah _ _ (D t0 W g d))
  | (first | rw [if_pos rfl,if_neg bb] at d | rw [if_neg bb] at d
     exact n6 (i:=0) (cs:=(fA kind:Fd).cells) g {eq:=[(53,dI .u64 H),(13,dI .u64 r)],cv:=[(68,fW λW _=>FT W),(59,mM t),(64,mM u)]} 60 rfl rfl al (lf _) underlying215 rfl results177 al al (λ_=>al) λW m=>⟨by rw [d],m⟩)
end
theorem DO (ra:Option Addr) (n rcap:Nat) (zs:List Int) (b off cap:Nat) (l:List Int) (p va kind:Int) (w:World) (hr:aU n=true) (hz:zs.length=n) (hs:Sl .u8 w ra zs) (t:∀ y ∈ zs,(Lit.int .u8 y).wf=true) (hlz:l.length=22) (hl:Sl .u64 w (some ⟨b,off,none⟩) l) (K:bC p=true) (k:1<=kind) (m:kind<=3) (G:0<=va/\va<18446744073709551616):CB 177 #[.slice ra n rcap,.slice (some ⟨b,off,none⟩) 22 cap,.i p,.u va,.i kind] w (.agg (bW zs n l p va kind).cells):=by
 have FT:=AT kind k m;have PG:=DI kind k m;obtain ⟨I,z,v,h,c⟩:=hl 15 ab;simp only [Option.some.injEq,Addr.mk.injEq,and_true] at v;obtain ⟨rfl,rfl⟩:=v;have c:∀ W,Bs w wB W->W.cell? ⟨b,off+15,none⟩=some (.u (l.getD 15 0)):=λW f=>(f.2.cell (by exact h)).trans c;have u:∀ W,Bw w W->CE 127 #[.u va,.u 39] W (.u (ap 39 va)):=λW _=>dV va 39 ab ab W;obtain ⟨V,d⟩:∃ V,V=bW zs n l p va kind:=⟨_,rfl⟩;rw [<- d];unfold bW at d;refine bz (S:=Bs w wB) (args:=[.slice ra n rcap,.slice (some ⟨b,off,none⟩) 22 cap,.i p,.u va,.i kind]) wB func177 ?_;have f:=Bs.start w wB;have g:=sE (l.getD 15 0) 60 1152921504606846976 bb;generalize bM w wB=W at f ⊢;cases t0:(p==3)<;>cases q:(l.getD 15 0/1152921504606846976==0)<;>rw [t0,q] at d;all_goals try (rw [if_pos (by rfl)] at d;exact n6 (i:=0) (cs:=(⟨va,0,false,0,0⟩:Fd).cells) f {eq:=[(30,dI .u64 g),(25,aj t0),(31,aj q)],ov:=[(29,iR ⟨b,off+15,none⟩ _ underlying22 rfl c)]} 60 rfl rfl al (lf _) underlying215 rfl results177 al al (λ_=>al) λW s=>⟨by rw [d],s⟩)
 rw [if_neg bb] at d;cases r:(ap 39 va != va);case true=>rw [r,if_pos rfl] at d;exact n6 (i:=0) (cs:=(bO kind:Fd).cells) f {eq:=[(30,dI .u64 g),(25,aj t0),(31,aj q),(38,aj r)],ov:=[(29,iR ⟨b,off+15,none⟩ _ underlying22 rfl c)],cv:=[(40,fW λW _=>PG W),(36,mM u)]} 60 rfl rfl al (lf _) underlying215 rfl results177 al al (λ_=>al) λW s=>⟨by rw [d],s⟩
 rw [r,if_neg bb] at d;refine ae Bs.eng {eq:=[(30,dI .u64 g),(25,aj t0),(31,aj q),(38,aj r)],ov:=[(29,iR ⟨b,off+15,none⟩ _ underlying22 rfl c),(43,iR ⟨b,off+15,none⟩ _ underlying22 rfl c)],cv:=[(36,mM u)]} 100 f λW f=>ah [.code (qd (az 5 (aW Tryz.f177))),.blk 0] (wF ra n rcap b off cap p va kind w [(11,.u (kH l),0),(12,.u ((2:Nat):Int),0)]) ?_;refine pQ (α:=Nat × Int) (λx=>wF ra n rcap b off cap p va kind w [(11,.u x.2,0),(12,.u (x.1:Int),0)]) (λj x W=>j=x.1/\x.1<=2/\V=bK zs n l p va kind x.1 x.2/\Bs w wB W) 2 (2,kH l) al al ⟨rfl,Nat.le_refl _,d,f⟩ λj x W D R E=>?_;obtain ⟨rfl,C,d,f⟩:=D;exact DM FT PG hlz hl hr hz hs t C f d λa o A J B F H=>E a o (x.1-1) (x.1-1,A) ab F ⟨rfl,by show x.1-1<=2;omega,B,H⟩
theorem mc (e kind:Int):U (cq e kind):=by
 unfold cq;split;·exact af _ _ _
 ·exact af _ _ _
theorem xK (l:List Int) (p va kind e x:Int) (lv:Nat) (h:(db l p va kind e x lv).marked=true):(db l p va kind e x lv).at_=x/\U (db l p va kind e x lv).entry:=by
 unfold db at h ⊢;split at h;·cases h
 ·rename_i a;split at h;·cases h
  ·rename_i b;split at h;·cases h
   ·rename_i c;rw [if_neg a,if_neg b,if_neg c];split at h
    ·rename_i d;rw [if_pos d];split at h;·rename_i f;rw [if_pos f];exact ⟨rfl,mc e kind⟩
     ·cases h
    ·cases h
theorem DQ (zs:List Int) (n:Nat) (l:List Int) (p va kind:Int):∀ lv T,(bK zs n l p va kind lv T).marked=true->gn n (bK zs n l p va kind lv T).at_ 8=true/\U (bK zs n l p va kind lv T).entry:=by
 intro lv;induction lv with
 | zero =>
   intro T h;rw [bK] at h ⊢;split at h
   ·rename_i a;rw [if_pos a];split at h
    ·rename_i d;rw [if_pos d];split at h;·cases h
     ·rename_i e;rw [if_neg e];split at h;·cases h
      ·rename_i b;rw [if_neg b];obtain ⟨c,e2⟩:=xK _ _ _ _ _ _ _ h;rw [c];exact ⟨a,e2⟩
    ·cases h
   ·cases h
 | succ lv g =>
   intro T h;rw [bK] at h ⊢;split at h
   ·rename_i a;rw [if_pos a];split at h
    ·rename_i d;rw [if_pos d];split at h;·cases h
     ·rename_i e;rw [if_neg e];split at h
      ·rename_i b;rw [if_pos b];split at h;·cases h
       ·rename_i f;rw [if_neg f];exact g _ h
      ·rename_i b;rw [if_neg b];obtain ⟨c,e2⟩:=xK _ _ _ _ _ _ _ h;rw [c];exact ⟨a,e2⟩
    ·cases h
   ·cases h
theorem Iq (zs:List Int) (n:Nat) (l:List Int) (p va kind:Int) (h:(bW zs n l p va kind).marked=true):gn n (bW zs n l p va kind).at_ 8=true/\U (bW zs n l p va kind).entry:=by
 unfold bW at h ⊢;split at h;·cases h
 ·rename_i a;rw [if_neg a];split at h;·cases h
  ·rename_i b;rw [if_neg b];exact DQ _ _ _ _ _ _ _ _ h
def iU (kind:Int):Bool:=decide (1<=kind/\kind<=3)
def mY (n m:Nat) (l:List Int) (p kind:Int):Bool:=aU n&&aX m l p&&iU kind
def FC (zs:List Int) (n m:Nat) (l:List Int) (p va kind:Int):Int:=if mY n m l p kind=true then (bW zs n l p va kind).addr else 0
def FD (zs:List Int) (n m:Nat) (l:List Int) (p va kind:Int):Int:=if mY n m l p kind=true then (bW zs n l p va kind).code else if iU kind=true then dy kind else 1
def bn (zs:List Int) (f:Fd):List Int:=if f.marked=true then jZ zs (f.at_-2147483648).toNat f.entry 8 else zs
def uT (zs:List Int) (n m:Nat) (l:List Int) (p va kind:Int):List Int:=if mY n m l p kind=true then bn zs (bW zs n l p va kind) else []
theorem j9 (zs:List Int) (f:Fd):(bn zs f).length=zs.length:=by
 unfold bn;split;·rw [jd]
 ·rfl
theorem n7 {W:World} {g:Nat} {o:Obj} (h:W.heap[g]?=some o) (a:Obj):(W.alloc a).heap[g]?=some o:=(Below.heap_alloc W a g (Array.getElem?_eq_some_iff.1 h).1).trans h
theorem DR (w:World) (base:Nat) (hb:base<=w.heap.size) (o:Obj) (a:o=.cells #[] 5 (0,0)):(w.alloc o).ownsRow base 5 1 (.slice (some ⟨w.heap.size,0,none⟩) 0 0) 0 (([]:List Int).map (Value.int .u8)):=by subst a;exact World.ownsRow_lit w #[] 0 hb et rfl
def gR (kind:Int):Int:=if kind=1 then 17 else if kind=2 then 21 else 23
def n8 (kind:Int):Int:=if kind=1 then 16 else if kind=2 then 20 else 22
def bL (M:MV) (R:List Int):MV:=⟨M.pc,M.x,M.pr,M.cs,R,M.d,M.hd,M.hl,M.wt⟩
def cP (M:MV) (D:DV):MV:=⟨M.pc,M.x,M.pr,M.cs,M.ram,D,M.hd,M.hl,M.wt⟩
def lm (M:MV):MV:=⟨M.pc,M.x,M.pr,M.cs,M.ram,M.d,0,false,M.wt⟩
def lq (M:MV) (pa:Int):Bool:=M.hl&&(bits .andNot .u64 M.hd 7==bits .andNot .u64 pa 7)
def mB (M:MV) (pa:Int):MV:=if lq M pa=true then lm M else M
def qU (M:MV) (pa size kind x:Int):Int × MV × Int :=
 if gn M.ram.length pa size=true then
  (if (kind==3)=true then (0,mB (bL M (jZ M.ram (pa-2147483648).toNat x size.toNat)) pa,0) else (le M.ram (pa-2147483648).toNat size.toNat,M,0))
 else if (kind==2)=true then
  (if (jc M.d (gj pa size)).2.2=true then ((jc M.d (gj pa size)).1,cC (cP M (jc M.d (gj pa size)).2.1),0) else (0,M,gR kind))
 else if (kind==3)=true then
  (if (fI M.d x (gj pa size)).2=true then (0,mB (cC (cP M (fI M.d x (gj pa size)).1)) pa,0) else (0,M,gR kind))
 else (0,M,gR kind)
def Ir (l:List Int) (p pa size kind:Int):Bool:=decide (aZ pa size<pa)||!aA l p pa (aZ pa size) kind 4 0
def wP (M:MV) (p addr size kind x:Int) (F:Fd):Int × MV × Int :=
 if (F.code != 0)=true then (0,bL M (bn M.ram F),wrap64 (F.code+16))
 else if Ir M.cs p F.addr size kind=true then (0,bL M (bn M.ram F),gR kind)
 else qU (bL M (bn M.ram F)) F.addr size kind x
def aC (M:MV) (addr size kind x:Int):Int × MV × Int :=
 if (addr%size != 0)=true then (0,M,n8 kind)
 else wP M (fR M.cs M.pr kind) addr size kind x (bW M.ram M.ram.length M.cs (fR M.cs M.pr kind) addr kind)
theorem bx.sub {B E:Nat} {w:World} {L L':List FRow} (h:bx B E w L) (hs:L'.Sublist L):bx B E w L' :=
 ⟨λq a=>h.own q (hs.subset a),λq a=>h.hi q (hs.subset a),h.ne.sublist hs⟩
theorem bx.ins {B E E':Nat} {w:World} {L1 L2:List FRow} {q:FRow} (h:bx B E w (L1++L2)) (g:w.ownsRow E q.t 1 q.v q.n q.xs) (i:B<=E) (j:w.heap.size<=E') (l:E<=E'):bx B E' w (L1++q::L2):=by
 have b:=List.pairwise_append.1 h.ne;have c:∀ s ∈ L1++L2,∀ k,s.v.ownBlock=some k->k<E:=λs a k e=>h.hi s a k e;have f:∀ k,q.v.ownBlock=some k->E<=k/\k<w.heap.size:=λk e=>g.lt k e;refine ⟨λs a=>?_,λs a k e=>?_,List.pairwise_append.2 ⟨b.1,List.pairwise_cons.2 ⟨λs a k e e2=>?_,b.2.1⟩,λs a t d k e e2=>?_⟩⟩
 ·rcases List.mem_append.1 a with a|a;·exact h.own s (List.mem_append_left _ a)
  ·rcases List.mem_cons.1 a with rfl|a;·exact cN g i
   ·exact h.own s (List.mem_append_right _ a)
 ·rcases List.mem_append.1 a with a|a;·have:=c s (List.mem_append_left _ a) k e;omega
  ·rcases List.mem_cons.1 a with rfl|a;·have:=f k e;omega
   ·have:=c s (List.mem_append_right _ a) k e;omega
 ·have:=f k e;have:=c s (List.mem_append_right _ a) k e2;omega
 ·rcases List.mem_cons.1 d with rfl|d;·have:=f k e2;have:=c s (List.mem_append_left _ a) k e;omega
  ·exact b.2.2 s a t d k e e2
theorem bx.app {B E E':Nat} {w:World} {L1 L2:List FRow} (h:bx B E w L1) (b:bx E E' w L2) (c:B<=E) (f:E<=E'):bx B E' w (L1++L2):=by
 refine ⟨λs a=>?_,λs a k e=>?_,List.pairwise_append.2 ⟨h.ne,b.ne,λs a t d k e e2=>?_⟩⟩
 ·rcases List.mem_append.1 a with a|a;·exact h.own s a
  ·exact cN (b.own s a) c
 ·rcases List.mem_append.1 a with a|a;·have:=h.hi s a k e;omega
  ·exact b.hi s a k e
 ·have:=h.hi s a k e;have:=((b.own t d).lt k e2).1;omega
def ke (A:MA) (a:Option Addr) (b:Nat) (b2:Option Addr) (c:Nat):MA:=⟨A.ax,A.cx,A.ac,A.cc,A.ar,A.cr,a,b,b2,c⟩
theorem N6 {B:Nat} {M:MV} {A:MA} {w w':World} (h:bx B w.heap.size w (aI M A)) (i:B<=w.heap.size) (hb:Bw w w') (D:DV) {d:Option Addr} {e:Nat} {b2:Option Addr} {f:Nat} (hr:fq w w' A.ai A.ci M.d.xs A.ao A.co M.d.ys d e D.xs b2 f D.ys):bx B w'.heap.size w' (aI (cP M D) (ke A d e b2 f)):=by
 have c:=h.below hb;rcases hr with ⟨⟨rfl,rfl,g⟩,rfl,rfl,e2⟩|⟨a,rfl,rfl,e2⟩|⟨⟨rfl,rfl,g⟩,a⟩|a;·unfold aI cP ke;dsimp only;rw [g,e2];exact c.low (Nat.le_refl _) hb.size
 ·have b:bx B w.heap.size w' ([aJ A.ax M.x.length A.cx M.x,aJ A.ac M.cs.length A.cc M.cs,aF A.ar M.ram.length A.cr M.ram]++[aF A.ao M.d.ys.length A.co M.d.ys]):=c.sub (by unfold aI;simp);unfold aI cP ke;dsimp only;rw [e2];exact b.ins (q:=aF d D.xs.length e D.xs) a i (Nat.le_refl _) hb.size
 ·have b:bx B w.heap.size w' ([aJ A.ax M.x.length A.cx M.x,aJ A.ac M.cs.length A.cc M.cs,aF A.ar M.ram.length A.cr M.ram,aF A.ai M.d.xs.length A.ci M.d.xs]++[]):=c.sub (by unfold aI;simp);unfold aI cP ke;dsimp only;rw [g];exact b.ins (q:=aF b2 D.ys.length f D.ys) a i (Nat.le_refl _) hb.size
 ·have b:bx B w.heap.size w' [aJ A.ax M.x.length A.cx M.x,aJ A.ac M.cs.length A.cc M.cs,aF A.ar M.ram.length A.cr M.ram]:=c.sub (by unfold aI;simp);exact b.app a i hb.size
theorem N7 {M:MV} {A:MA} {w w':World} (D:DV) {g:Option Addr} {i:Nat} {b2:Option Addr} {j:Nat} (hr:fq w w' A.ai A.ci M.d.xs A.ao A.co M.d.ys g i D.xs b2 j D.ys):∀ q ∈ aI (cP M D) (ke A g i b2 j),∀ k,q.v.ownBlock=some k->k<w.heap.size->∃ q0 ∈ aI M A,q0.v.ownBlock=some k:=by
 intro q m k e c;simp only [aI,cP,ke,List.mem_cons,List.not_mem_nil,or_false] at m;have f:∀ (b:Option Addr) (d:Nat) (zs:List Int),w'.ownsRow w.heap.size 5 1 (.slice b zs.length d) zs.length (zs.map (Value.int .u8))->∀ k,(Value.slice b zs.length d).ownBlock=some k->k<w.heap.size->False:=λb d zs h k e c=>by have:=(h.lt k e).1;omega
 have m4:aF A.ai M.d.xs.length A.ci M.d.xs ∈ aI M A:=dm
 have n:aF A.ao M.d.ys.length A.co M.d.ys ∈ aI M A:=dm
 rcases m with rfl|rfl|rfl|rfl|rfl;·exact ⟨_,dm,e⟩
 ·exact ⟨aJ A.ac M.cs.length A.cc M.cs,dm,e⟩
 ·exact ⟨aF A.ar M.ram.length A.cr M.ram,dm,e⟩
 ·rcases hr with ⟨⟨rfl,rfl,l⟩,_⟩|⟨a,_⟩|⟨⟨rfl,rfl,l⟩,_⟩|a;·rw [l] at e;exact ⟨_,m4,e⟩
  ·exact (f _ _ _ a k e c).elim
  ·rw [l] at e;exact ⟨_,m4,e⟩
  ·exact (f _ _ _ (a.own (aF g D.xs.length i D.xs) tk) k e c).elim
 ·rcases hr with ⟨_,rfl,rfl,e2⟩|⟨_,rfl,rfl,e2⟩|⟨_,a⟩|a;·rw [e2] at e;exact ⟨_,n,e⟩
  ·rw [e2] at e;exact ⟨_,n,e⟩
  ·exact (f _ _ _ a k e c).elim
  ·exact (f _ _ _ (a.own (aF b2 D.ys.length j D.ys) tk) k e c).elim
def FF (w:World) (r:Nat) (D:DV) (a:Option Addr) (b:Nat) (b2:Option Addr) (c:Nat):World:=(((((w.setCell ⟨r,5,none⟩ (.u D.t)).setCell ⟨r,6,none⟩ (.u D.cm)).setCell ⟨r,7,none⟩ (.bool D.so)).setCell ⟨r,8,none⟩ (.slice a D.xs.length b)).setCell ⟨r,9,none⟩ (.slice b2 D.ys.length c)).setCell ⟨r,10,none⟩ (.i D.ir)
theorem Kx.put6r {r:Nat} {L:List FRow} (w:World) (D:DV) (a:Option Addr) (b:Nat) (b2:Option Addr) (c:Nat):Kx r L L w (FF w r D a b b2 c):=
 (((((Kx.set w 5 _).trans (Kx.set _ 6 _)).trans (Kx.set _ 7 _)).trans (Kx.set _ 8 _)).trans (Kx.set _ 9 _)).trans (Kx.set _ 10 _)
theorem Mp.fam_set {B r:Nat} {L:List FRow} {w:World} (h:bx B w.heap.size w L) (b:∀ q ∈ L,q.v.ownBlock≠some r) (i:Nat) (v:Value):bx B (w.setCell ⟨r,i,none⟩ v).heap.size (w.setCell ⟨r,i,none⟩ v) L :=
 ⟨λq a=>fH (h.own q a) (λk e=>Below.heap_setCell w ⟨r,i,none⟩ v k (λe2=>b q a (by rw [show r=k from e2.symm];exact e))),λq a k e=>by rw [aO];exact h.hi q a k e,h.ne⟩
theorem Mp.dev {B r:Nat} {M:MV} {A:MA} {w w':World} (h:Mp B r M A w) (hb:Bw w w') (D:DV) {b:Option Addr} {c:Nat} {b2:Option Addr} {d:Nat} (hr:fq w w' A.ai A.ci M.d.xs A.ao A.co M.d.ys b c D.xs b2 d D.ys):Mp B r (cP M D) (ke A b c b2 d) (FF w' r D b c b2 d)/\Kx r (aI M A) (aI (cP M D) (ke A b c b2 d)) w (FF w' r D b c b2 d):=by
 have g:=h.lt;have p:B<=w.heap.size:=by have:=h.lo;omega
 have f:=N7 D hr;have a:∀ q ∈ aI (cP M D) (ke A b c b2 d),q.v.ownBlock≠some r:=λq u e=>by obtain ⟨x,o,n⟩:=f q u r e g;exact h.ne x o n
 have s:=N6 h.fam p hb D hr;refine ⟨⟨?_,?_,a,h.lo⟩,?_⟩;·have i:=bA hb h.row;unfold aq at i;have R1:=bD i 5 (.u D.t);have R2:=bD R1 6 (.u D.cm);have j:=bD R2 7 (.bool D.so);have l:=bD j 8 (.slice b D.xs.length c);have m:=bD l 9 (.slice b2 D.ys.length d);exact bD m 10 (.i D.ir)
 ·exact Mp.fam_set (Mp.fam_set (Mp.fam_set (Mp.fam_set (Mp.fam_set (Mp.fam_set s a 5 _) a 6 _) a 7 _) a 8 _) a 9 _) a 10 _
 ·have v:Kx r (aI M A) (aI (cP M D) (ke A b c b2 d)) w w':=⟨hb.os,hb.tape,hb.output,hb.size,λk t _ _=>hb.block k t,f⟩;exact v.trans (Kx.put6r w' D b c b2 d)
theorem uU (M:MV) (A:MA) (B r:Nat) (addr size x:Int) (w:World) (hl:M.ram.length<=1048576) (p:gn M.ram.length addr size=true) (u:0<=x) (v:x<=18446744073709551615) (h:Mp B r M A w):Calls prog 119 #[.slice A.ar M.ram.length A.cr,.u addr,.i size,.u x] w λe c=>e=.returned (.tuple #[])/\Mp B r (bL M (jZ M.ram (addr-2147483648).toNat x size.toNat)) A c/\Kx r (aI M A) (aI (bL M (jZ M.ram (addr-2147483648).toNat x size.toNat)) A) w c:=by
 have O:=jY p;obtain ⟨f,J⟩:∃ f:Nat,f=(addr-2147483648).toNat:=⟨_,rfl⟩;obtain ⟨m,K⟩:∃ m:Nat,m=size.toNat:=⟨_,rfl⟩;have E:addr=2147483648+(f:Int):=ab
 have F:size=(m:Int):=ab
 have j:aF A.ar M.ram.length A.cr M.ram ∈ aI M A:=dm
 have C:=h.fam.own _ j;have l:f+m<=M.ram.length:=ab
 have i:∃ g,A.ar=some ⟨g,0,none⟩:=by
  rcases C.2 with ⟨e,k⟩|⟨y,cap,D,e,_⟩;·have:M.ram.length=0:=k;omega
  ·have e2:Value.slice A.ar M.ram.length A.cr=.slice (some ⟨y,0,none⟩) M.ram.length cap:=e;injection e2 with e3
   exact ⟨y,e3⟩
 obtain ⟨g,i⟩:=i;have a:(jZ M.ram f x m).length=M.ram.length:=jd _ _ _ _;rw [<- J,<- K];rw [E,F];have o:w.ownsRow B 5 1 (.slice (some ⟨g,0,none⟩) M.ram.length A.cr) M.ram.length (M.ram.map (Value.int .u8)):=by rw [<- i];exact C
 rw [i];refine (xt g M.ram.length A.cr f m B M.ram x w hl ab l u v o).mono λe c ⟨H,I,z⟩=>⟨H,?_⟩;have n:w.grownBy c (aF A.ar M.ram.length A.cr M.ram).v.ownBlock:=by have e:(aF A.ar M.ram.length A.cr M.ram).v.ownBlock=some g:=(by show (Value.slice A.ar M.ram.length A.cr).ownBlock=_;rw [i];rfl);rw [e];exact z
 have t:c.ownsRow B 5 1 (aF A.ar M.ram.length A.cr M.ram).v M.ram.length ((jZ M.ram f x m).map (Value.int .u8)):=by show c.ownsRow B 5 1 (.slice A.ar M.ram.length A.cr) _ _;rw [i];exact I
 have d:=bx.markL (L1:=[aJ A.ax M.x.length A.cx M.x,aJ A.ac M.cs.length A.cc M.cs]) (L2:=[aF A.ai M.d.xs.length A.ci M.d.xs,aF A.ao M.d.ys.length A.co M.d.ys]) (r:=aF A.ar M.ram.length A.cr M.ram) h.fam n _ t;have b:=jj (M:=M) (M':=bL M (jZ M.ram f x m)) (A:=A) rfl rfl a rfl rfl;have hF:bx B w.heap.size c (aI (bL M (jZ M.ram f x m)) A):=by unfold aI bL;dsimp only;rw [a];exact d.1
 refine ⟨⟨?_,hF.low (Nat.le_refl _) z.size,λq s e=>?_,h.lo⟩,Kx.of_keepL d.2 b⟩;·have L:c.heap[r]?=w.heap[r]?:=d.2.block r h.lt (λq s e=>h.ne q s e);rw [L,h.row];unfold aq bL;dsimp only;rw [a]
 ·obtain ⟨N,G,k⟩:=b q s;exact h.ne N G (by rw [k];exact e)
theorem Mp.xrow {B r:Nat} {M:MV} {A:MA} {w:World} (h:Mp B r M A w):w.ownsRow B 22 1 (.slice A.ax M.x.length A.cx) M.x.length (M.x.map (Value.int .u64)):=h.fam.own (aJ A.ax M.x.length A.cx M.x) dm
theorem Mp.crow {B r:Nat} {M:MV} {A:MA} {w:World} (h:Mp B r M A w):w.ownsRow B 22 1 (.slice A.ac M.cs.length A.cc) M.cs.length (M.cs.map (Value.int .u64)):=h.fam.own (aJ A.ac M.cs.length A.cc M.cs) dm
theorem Mp.rrow {B r:Nat} {M:MV} {A:MA} {w:World} (h:Mp B r M A w):w.ownsRow B 5 1 (.slice A.ar M.ram.length A.cr) M.ram.length (M.ram.map (Value.int .u8)):=h.fam.own (aF A.ar M.ram.length A.cr M.ram) dm
theorem mC (zs:List Int) (i:Nat) (y:Int):(zs.map (Value.int .u64)).set i (.u y)=(zs.set i y).map (Value.int .u64):=by rw [List.map_set]
def xM (M:MV) (xs:List Int):MV:={M with x:=xs}
def cM (M:MV) (cs:List Int):MV:={M with cs:=cs}
theorem Mp.setX {B r:Nat} {M:MV} {A:MA} {w:World} (h:Mp B r M A w) (b:Nat) (hb:A.ax=some ⟨b,0,none⟩) (i:Nat) (v:Int):Mp B r (xM M (M.x.set i v)) A (w.setCell ⟨b,i,none⟩ (.u v))/\Below B w (w.setCell ⟨b,i,none⟩ (.u v)):=by
 have g:=h.xrow;rw [hb] at g;have f:=g.stored i (.u v);rw [mC] at f;have m:=((g.lt b rfl)).1;have n:w.grownBy (w.setCell ⟨b,i,none⟩ (.u v)) (aJ A.ax M.x.length A.cx M.x).v.ownBlock:=by simp only [aJ];rw [hb];exact f.2
 have o:=bx.mark (L1:=[]) (r:=aJ A.ax M.x.length A.cx M.x) (L2:=[aJ A.ac M.cs.length A.cc M.cs,aF A.ar M.ram.length A.cr M.ram,aF A.ai M.d.xs.length A.ci M.d.xs,aF A.ao M.d.ys.length A.co M.d.ys]) h.fam n ((M.x.set i v).map (Value.int .u64)) qh;have a:=h.ne (aJ A.ax M.x.length A.cx M.x) dm;have d:r≠b:=λe=>a (by simp only [aJ];rw [hb,e];rfl);have c:(w.setCell ⟨b,i,none⟩ (.u v)).heap.size=w.heap.size:=aO _ _ _;have j:aI (xM M (M.x.set i v)) A=[]++⟨(aJ A.ax M.x.length A.cx M.x).t,(aJ A.ax M.x.length A.cx M.x).v,(aJ A.ax M.x.length A.cx M.x).n,(M.x.set i v).map (Value.int .u64)⟩::[aJ A.ac M.cs.length A.cc M.cs,aF A.ar M.ram.length A.cr M.ram,aF A.ai M.d.xs.length A.ci M.d.xs,aF A.ao M.d.ys.length A.co M.d.ys]:=by simp [aI,xM,aJ]
 refine ⟨⟨?_,?_,?_,h.lo⟩,⟨rfl,rfl,rfl,by rw [c];exact Nat.le_refl _,λk p=>Below.heap_setCell _ _ _ k cb⟩⟩;·have:=gy h.row ⟨b,i,none⟩ (.u v) d;simpa [aq,xM] using this
 ·rw [j,c];exact o.1
 ·rw [j];intro q l;simp only [List.nil_append,List.mem_cons,List.not_mem_nil,or_false] at l;rcases l with rfl|rfl|rfl|rfl|rfl;·exact a
  ·exact h.ne _ dm
  ·exact h.ne _ dm
  ·exact h.ne _ dm
  ·exact h.ne _ dm
theorem Mp.setC {B r:Nat} {M:MV} {A:MA} {w:World} (h:Mp B r M A w) (b:Nat) (hb:A.ac=some ⟨b,0,none⟩) (i:Nat) (v:Int):Mp B r (cM M (M.cs.set i v)) A (w.setCell ⟨b,i,none⟩ (.u v))/\Below B w (w.setCell ⟨b,i,none⟩ (.u v)):=by
 have g:=h.crow;rw [hb] at g;have f:=g.stored i (.u v);rw [mC] at f;have m:=((g.lt b rfl)).1;have n:w.grownBy (w.setCell ⟨b,i,none⟩ (.u v)) (aJ A.ac M.cs.length A.cc M.cs).v.ownBlock:=by simp only [aJ];rw [hb];exact f.2
 have o:=bx.mark (L1:=[aJ A.ax M.x.length A.cx M.x]) (r:=aJ A.ac M.cs.length A.cc M.cs) (L2:=[aF A.ar M.ram.length A.cr M.ram,aF A.ai M.d.xs.length A.ci M.d.xs,aF A.ao M.d.ys.length A.co M.d.ys]) h.fam n ((M.cs.set i v).map (Value.int .u64)) qh;have a:=h.ne (aJ A.ac M.cs.length A.cc M.cs) dm;have d:r≠b:=λe=>a (by simp only [aJ];rw [hb,e];rfl);have c:(w.setCell ⟨b,i,none⟩ (.u v)).heap.size=w.heap.size:=aO _ _ _;have j:aI (cM M (M.cs.set i v)) A=[aJ A.ax M.x.length A.cx M.x]++⟨(aJ A.ac M.cs.length A.cc M.cs).t,(aJ A.ac M.cs.length A.cc M.cs).v,(aJ A.ac M.cs.length A.cc M.cs).n,(M.cs.set i v).map (Value.int .u64)⟩::[aF A.ar M.ram.length A.cr M.ram,aF A.ai M.d.xs.length A.ci M.d.xs,aF A.ao M.d.ys.length A.co M.d.ys]:=by simp [aI,cM,aJ]
 refine ⟨⟨?_,?_,?_,h.lo⟩,⟨rfl,rfl,rfl,by rw [c];exact Nat.le_refl _,λk p=>Below.heap_setCell _ _ _ k cb⟩⟩;·have:=gy h.row ⟨b,i,none⟩ (.u v) d;simpa [aq,cM] using this
 ·rw [j,c];exact o.1
 ·rw [j];intro q l;simp only [List.cons_append,List.nil_append,List.mem_cons,List.not_mem_nil,or_false] at l;rcases l with rfl|rfl|rfl|rfl|rfl;·exact h.ne _ dm
  ·exact a
  ·exact h.ne _ dm
  ·exact h.ne _ dm
  ·exact h.ne _ dm
theorem FG {l:List Int} (h:∀ j,U (l.getD j 0)) (i:Nat) {v:Int} (hv:U v):∀ j,U ((l.set i v).getD j 0):=by
 intro j;have:=h j;simp only [List.getD,List.getElem?_set];split
 ·split;·exact hv
  ·exact ⟨cp,cp⟩
 ·exact this
theorem Mp.setF {B r:Nat} {M M':MV} {A:MA} {w:World} (h:Mp B r M A w) (i:Nat) (v:Value) (b:aq M' A=(aq M A).setIfInBounds i v) (a:aI M' A=aI M A):Mp B r M' A (w.setCell ⟨r,i,none⟩ v)/\Below B w (w.setCell ⟨r,i,none⟩ v):=by
 have c:=h.lo;refine ⟨⟨?_,?_,by rw [a];exact h.ne,h.lo⟩,⟨rfl,rfl,rfl,ef,λk d=>Below.heap_setCell _ _ _ k cb⟩⟩;·rw [b];exact bD h.row i v
 ·rw [a];exact Mp.fam_set h.fam h.ne i v
theorem tq {P:Program} (w:World) (g o:Nat) (t ty:TypeId) (old cells:Array Value) (d:w.heap[g]?=some (.cells old t (0,0))) (b:(P.info? ty).map (·.size)=some cells.size) (h:o+cells.size<=old.size) (c:cells.all (·.oneCell')=true):(storeVar ty ⟨g,o,none⟩ (.agg cells)).run P w=.ok () (w.setRow g (old.toList.take o++cells.toList++old.toList.drop (o+cells.size)).toArray):=by
 have:=run_storeCells_at (P:=P) g o t cells.toList 0 old w d bh (λv f=>(Array.all_eq_true_iff_forall_mem.1 c) v i6);cases a:P.info? ty with
 | none=>simp [a] at b
 | some i =>have e:cells.size=i.size:=(by simp [a] at b;omega);simp only [Nat.add_zero,Array.length_toList] at this;simp only [List.append_assoc] at this ⊢;simp [storeVar,sizeOf,typeInfo,a,Value.cells,e,this]
end Go.Proofs.YtjifdmoehfbihaaGreatDoor
