/- Own lemmas. -/
import Derived.Test.YtjifdmoehfbihaaGreatDoorAuj
import Derived.Test.YtjifdmoehfbihaaGreatDoorJ05
import Derived.Test.YtjifdmoehfbihaaGreatDoorJ08
import Derived.Test.YtjifdmoehfbihaaGreatDoorJ09
import Derived.Stop.Asserts
import Derived.Handy
set_option maxRecDepth 100000
set_option maxHeartbeats 6400000
namespace Go.Proofs.YtjifdmoehfbihaaGreatDoor
open Go.RowKit Tryz
open IntKind renaming u64->Uz
set_option linter.unusedVariables false
variable {w B r:World} {A M x:Nat} {l n M':MV} {W a:MA} {b c:List FRow} {k p:Option Addr} {t:List Int} {e P:Program} {E:Array Oper} {f:Exit->Act->World->Prop} {g:Int} {o:Array Value} {L:TypeId} {Q:Value} {d:List Oper} {D:Act} {fn:Func} {dr:Bool} {Rs:Ending->World->Prop} {q:FRow} (j:MV) (m:List Int) (s:Option Addr) (y T:Nat) (z:List Int) (C F:Int) (G:World) (I:DV) (J:Option Addr) (K N:Nat) (S:Int)
def qM:Go.Code->Go.Code
 | .block _ c | .loop c | .cond _ _ c=>c
 | c=>c
def Sd:Go.Code->Array Oper
 | .region _ o _=>o
 | _=>#[]
theorem oJ {P:Program} {n:Nat} {fn:Func} {Rs:Ending->World->Prop} {k:List KI} {F:Fr} {w W:World} {bs:List (Array Value × TypeId)} (hS:Bs w bs W) (H:Hn P (Bs w bs) (Bs w bs)) (m:Nat) {i:Nat} {old:Array Value} {t T:TypeId} {d:TypeDesc} {cs:Array Value} {p:Nat} (hb:bs[i]?=some (old,t)) (l:old.size=cs.size) (g:(P.info? T).map (·.size)=some cs.size) (c:cs.all (·.oneCell')=true) (o:P.underlying T=some d) (hd:(match d with | .struct _ | .array _ _=>true | _=>false)=true) (e:fn.results=#[.cell p T]) (hx:(λ(y:Bool × List KI × Fr)=>(y.1,Eo n y.2.2 y.2.1,zL y.2.2 y.2.1,io (pq y.2.2 y.2.1))) (bq P (lF w.heap.size bs) H n true m k F).1=(false,some (do Instr.storeAt T (.p (w.heap.size+i) 0) (.agg cs);pure Next.skip),false,true)) (he:(bq P (lF w.heap.size bs) H n true m k F).2.map Prod.fst=(bq P (lF w.heap.size bs) H n true m k F).2.map Prod.snd) (hy:∀ X,(λ(z:(Bool × List KI × Fr) × List (Oe × Oe))=>(z.1.1,(lk z.1.2.2 p).map Prod.fst,z.2.map Prod.fst)) (bq P [] ({}:Hn P (λx=>x=X) (λx=>x=X)) n false m (pq (bq P (lF w.heap.size bs) H n true m k F).1.2.2 (bq P (lF w.heap.size bs) H n true m k F).1.2.1) (qA (bq P (lF w.heap.size bs) H n true m k F).1.2.2 (bq P (lF w.heap.size bs) H n true m k F).1.2.1 undef 0))=(true,some (.p (w.heap.size+i) 0),(bq P [] ({}:Hn P (λx=>x=X) (λx=>x=X)) n false m (pq (bq P (lF w.heap.size bs) H n true m k F).1.2.2 (bq P (lF w.heap.size bs) H n true m k F).1.2.1) (qA (bq P (lF w.heap.size bs) H n true m k F).1.2.2 (bq P (lF w.heap.size bs) H n true m k F).1.2.1 undef 0)).2.map Prod.snd)) (h:∀ V,Bw w V->Rs (.returned (.agg cs)) V):Wg P (Bs w bs) (bodyPost P fn Rs) n k F W:=by simp only [Prod.mk.injEq] at hx hy;refine ae Bs.eng H m hS (hret:=hx.1) (he:=he) λq f=>?_;have b:=f.1 i _ hb;refine bM (hx:=hx.2.1) (aD b g l c) (hS:=gE hx.2.2.1) ?_;refine gz (R:=[]) trivial {} m (hx:=by rw [hx.2.2.2,(hy _).1]) (he:=(hy _).2.2) λa j=>⟨_,results_cell_row e _ _ _ _ _ _ _ (j.slot (hy _).2.1) (setRow_heap _ _ _ _ _ _ b) o hd g,h _ (aI f.2 ab _)⟩
theorem qN {bs:List Nat} (h:Bw w B) (k:Ag bs B r) (hb:∀ x ∈ bs,w.heap.size<=x):Bw w r :=
 ⟨k.os.trans h.os,k.tape.trans h.tape,k.output.trans h.output,Nat.le_trans h.size k.size,λi d=>(k.block i (Nat.lt_of_lt_of_le d h.size) λe=>by have:=hb i e;omega).trans (h.block i d)⟩
theorem tJ (h:(2:Int)^K=S):C.fdiv (2^K)=C/S:=by subst h;exact Int.fdiv_eq_ediv_of_nonneg _ (Int.le_of_lt (Int.pow_pos ab))
theorem US {α:Type} (a b:Bool) (x y:α):(if (a||b)=true then x else y)=if a=true then x else if b=true then x else y:=by cases a<;>rfl
noncomputable abbrev wD:Go.Code:=qM (iM (qM (qM (aw 5 (aM Tryz.f177)))))
noncomputable abbrev wT (R:Act->World->Prop):List KI:=[.blk 1,.code (aw 1 (qM (qM (aw 5 (aM Tryz.f177))))),.fin R,.blk 0]
abbrev wR (V:Fd) (w:World):Ending->World->Prop:=λe a=>e=.returned (.agg V.cells)/\Bw w a
abbrev wB:List (Array Value × TypeId):=[(ju,215)]
noncomputable abbrev wW (V:Fd) (w:World) (k:List KI) (F:Fr) (W:World):Prop:=Wg prog (Bs w wB) (bodyPost prog Tryz.f177 (wR V w)) Tryz.f177.ntmps k F W
abbrev wF (ra:Option Addr) (n rcap b off cap:Nat) (p va kind:Int) (w:World) (L:Fr):Fr:=(0,.slice ra n rcap,0)::(1,.slice (some ⟨b,off,none⟩) 22 cap,0)::(2,.i p,0)::(3,.u va,0)::(4,.i kind,0)::(10,.p w.heap.size 0,1)::L
abbrev wL (lv:Nat) (X e:Int) (L:Fr):Fr:=(12,.u lv,0)::(13,.u X,0)::(14,.u e,0)::(15,.u (ap e 1),0)::(16,.u (ap e 2),0)::(17,.u (ap e 3),0)::(18,.u (eB e),0)::L
section
variable {ra : Option Addr} {n rcap : Nat} {zs : List Int} {b off cap : Nat} {l : List Int} {p va kind : Int} {w : World} {V : Fd} {R : Act -> World -> Prop} {X e : Int} {lv : Nat}
variable (FT : ∀ W, Calls Tryz.prog 225 #[.int .i64 kind] W λe w' => e = .returned (.agg (fR kind).cells) /\ Below W.heap.size W w')
variable (PG : ∀ W, Calls Tryz.prog 224 #[.int .i64 kind] W λe w' => e = .returned (.agg (bZ kind).cells) /\ Below W.heap.size W w')
variable (hlz : l.length = 22) (hl : Sl .u64 w (some ⟨b, off, none⟩) l)
include FT hlz hl in
theorem JC {W:World} (P:lv<=2) (s:Bs w wB W) (m:V=if (cn e kind != e)=true then (if ay l 1 X (aU X 8) 3 4 0=true then ⟨gH e va lv,0,true,X,cn e kind⟩ else fR kind) else ⟨gH e va lv,0,false,0,0⟩):wW V w (.code (aw 12 wD)::wT R) (wF ra n rcap b off cap p va kind w [(12,.u lv,0),(13,.u X,0),(14,.u e,0),(18,.u (eB e),0)]) W:=by
 obtain ⟨L,J⟩:∃ L,gH e va lv=L:=⟨_,rfl⟩
 rw [J] at m
 have N:∀ W,Bs w wB W->Wg prog (Bs w wB) (bodyPost prog Tryz.f177 (wR V w)) Tryz.f177.ntmps (.ops (Sd (iM (aw 13 wD))) (((Sd (iM (aw 13 wD))).toList).drop 9)::.code (aw 14 wD)::wT R) (wF ra n rcap b off cap p va kind w [(13,.u X,0),(14,.u e,0),(216,.agg #[.u L,.i 0,.bool false,.u 0,.u 0],0)]) W:=by
  intro W s
  refine dM 2 (dQ (T:=215) (z:=.agg ju) ba W) ?_
  have K:=s.1 0 _ rfl
  have I:w.heap.size<W.heap.size:=(Array.getElem?_eq_some_iff.1 K).1
  have g:Bw w (W.alloc (.cells ju 215)):=s.2.alloc s.2.size _
  have F:Iv [w.heap.size,W.heap.size] (W.alloc (.cells ju 215)) [⟨w.heap.size,ju,[]⟩,⟨W.heap.size,ju,[]⟩] (W.alloc (.cells ju 215)):=⟨λr o=>by
   simp only [List.mem_cons,List.not_mem_nil,or_false] at o
   rcases o with rfl|rfl
   ·exact ⟨_,(Below.heap_alloc _ _ _ I).trans K⟩
   ·exact ⟨_,heap_alloc_new _ _⟩,Ag.refl _ _,cp,bv⟩
  have j:∀ x ∈ [w.heap.size,W.heap.size],w.heap.size<=x:=by simp;omega
  refine aJ (λ_=>True) ?_
  show Wg _ _ _ _ _ _ (W.alloc (.cells ju 215))
  generalize W.heap.size=h at F j ⊢
  generalize W.alloc (.cells ju 215)=G at F g ⊢
  have u:∀ (f:Fd) (i:World) (a:Act) {G:World} (g:Bw w G) (L:List Rw),V=f->Iv [w.heap.size,h] G (⟨w.heap.size,f.cells,[]⟩::L) i->a.tmps.getD 10 undef=.p w.heap.size 0->∃ v,(results Tryz.f177 a.tmps).run prog i=.ok v i/\wR V w (.returned v) i:=λf i a G g L O d Q=>by
   obtain ⟨t,C⟩:=d.rows _ (List.mem_cons_self ..)
   exact ⟨_,results_cell_row results177 _ _ _ _ _ _ _ Q C underlying215 rfl ba,by rw [O],qN g d.ag j⟩
  obtain ⟨z,c⟩:∃ z,cn e kind=z:=⟨_,rfl⟩
  rw [c] at m
  obtain ⟨q,M⟩:∃ q,ay l 1 X (aU X 8) 3 4 0=q:=⟨_,rfl⟩
  rw [M] at m
  cases d:(kind==3)<;>(
   unfold cn at c
   rw [d] at c
   first | rw [if_pos rfl] at c | rw [if_neg bc] at c)
  all_goals
   cases k:(z != e) with
   | false =>
     rw [k,if_neg bc] at m
     exact iO F {eq:=[(220,ak d),(225,ak k)]} 100 (R1:=[⟨w.heap.size,#[.u L,.i 0,.bool false,.u 0,.u 0],[]⟩,⟨h,#[.u L,.i 0,.bool false,.u 0,.u 0],[]⟩]) (hx:=g5) (he:=g5) λi a d B=>u _ i a g _ m d (B.slot g5)
   | true =>
     rw [k,if_pos rfl] at m
     refine fN F {eq:=[(220,ak d),(225,ak k)]} 100 (R1:=[⟨w.heap.size,ju,[]⟩,⟨h,#[.u L,.i 0,.bool false,.u 0,.u 0],[]⟩]) (λi d=>mB (some ⟨b,off,none⟩) cap l 1 X 8 3 i hlz (hl.below (qN g d.ag j))) (hx:=g5) (he:=g5) λi e3 S d o=>⟨.bool q,0,by rw [o.1,M],?_⟩
     rw [o.2]
     have A:=qN g d.ag j
     have y:Iv [w.heap.size,h] i [⟨w.heap.size,ju,[]⟩,⟨h,#[.u L,.i 0,.bool false,.u 0,.u 0],[]⟩] i:=⟨d.rows,Ag.refl _ _,d.sub,d.nd⟩
     cases q with
     | true=>exact iO y {} 100 (R1:=[⟨w.heap.size,#[.u L,.i 0,.bool true,.u X,.u z],[]⟩,⟨h,#[.u L,.i 0,.bool true,.u X,.u z],[]⟩]) (hx:=g5) (he:=g5) λD a k B=>u _ D a A _ m k (B.slot g5)
     | false =>
       refine fN y {} 100 (R1:=[⟨w.heap.size,ju,[]⟩,⟨h,#[.u L,.i 0,.bool false,.u 0,.u 0],[]⟩]) (λi d=>FT i) (hx:=g5) (he:=g5) λD e4 U k o=>⟨.agg (fR kind).cells,0,o.1,?_⟩
       have E:=k.below o.2
       have H:=qN A E.ag j
       exact iO (bs:=[w.heap.size,h]) (R:=[⟨w.heap.size,ju,[]⟩,⟨h,#[.u L,.i 0,.bool false,.u 0,.u 0],[]⟩]) ⟨E.rows,Ag.refl _ _,E.sub,E.nd⟩ {} 100 (R1:=[⟨w.heap.size,(fR kind).cells,[]⟩,⟨h,#[.u L,.i 0,.bool false,.u 0,.u 0],[]⟩]) (hx:=g5) (he:=g5) λD a k B=>u _ D a H _ m k (B.slot g5)
 obtain rfl|rfl|rfl:lv=0\/lv=1\/lv=2:=ab
 all_goals exact ae Bs.eng {eq:=[(215,dP .u64 J)]} 20 s λW s=>af _ _ (N W s)
include FT PG hlz hl in
theorem JD {W:World} (r:lv<=2) (d:Bs w wB W) (a:V=cH l p va kind e X lv):wW V w (.code (aw 9 wD)::wT R) (wF ra n rcap b off cap p va kind w (wL lv X e [])) W:=by
 obtain ⟨G,t,s,j,o⟩:=hl 0 ab
 simp only [Option.some.injEq,Addr.mk.injEq,and_true] at s
 obtain ⟨rfl,rfl⟩:=s
 have o:∀ W,Bs w wB W->W.cell? ⟨b,off,none⟩=some (.u (l.getD 0 0)):=λW d=>(d.2.cell (by exact j)).trans o
 have q:∀ (x:Int) (i:Nat),i<64->∀ W,Bw w W->CE 111 #[.u x,.u i] W (.u (ap x i)):=λx i y W _=>gW x i y W
 unfold cH gO gQ at a
 simp only [US] at a
 generalize v:(if (cn e kind != e)=true then (if ay l 1 X (aU X 8) 3 4 0=true then ⟨gH e va lv,0,true,X,cn e kind⟩ else fR kind) else ⟨gH e va lv,0,false,0,0⟩)=Y at a
 have E:∀ c W,Bs w wB W->(V=if c=true then bZ kind else Y)->wW V w (.code (aw 1 (qM (aw 1 (qM (aw 1 (qM (aw 1 (qM (aw 1 (qM (aw 1 (qM (iM (aw 11 wD))))))))))))))::.blk 2::.code (aw 12 wD)::wT R) (wF ra n rcap b off cap p va kind w (wL lv X e [(20,.u (ap e 4),0),(183,.bool c,0)])) W:=by
  intro c W d a
  cases c with
  | true=>rw [if_pos rfl] at a;exact oJ (i:=0) (cs:=(bZ kind:Fd).cells) d {cv:=[(202,fY λW _=>PG W)]} 20 rfl rfl ba (lI _) underlying215 rfl results177 ba ba (λ_=>ba) λW h=>⟨by rw [a],h⟩
  | false =>
    rw [if_neg bc] at a
    rw [<- v] at a
    exact ae Bs.eng {} 3 d λW d=>af _ _ (JC (ra:=ra) (n:=n) (rcap:=rcap) (cap:=cap) (p:=p) (R:=R) FT hlz hl r d a)
 have D:∀ c W,Bs w wB W->(V=if c=true then bZ kind else if ((p==1)&&(ap e 4==1)&&((kind==1)||(ap (l.getD 0 0) 18==0)))=true then bZ kind else Y)->wW V w (.code (aw 1 (qM (aw 1 (qM (aw 1 (qM (aw 1 (qM (aw 1 (qM (iM (aw 11 wD))))))))))))::.blk 2::.code (aw 12 wD)::wT R) (wF ra n rcap b off cap p va kind w (wL lv X e [(20,.u (ap e 4),0),(174,.bool c,0)])) W:=by
  intro c W d a
  cases c with
  | true=>rw [if_pos rfl] at a;exact oJ (i:=0) (cs:=(bZ kind:Fd).cells) d {cv:=[(182,fY λW _=>PG W)]} 20 rfl rfl ba (lI _) underlying215 rfl results177 ba ba (λ_=>ba) λW h=>⟨by rw [a],h⟩
  | false =>
    rw [if_neg bc] at a
    obtain ⟨c,f⟩:∃ c,c=((p==1)&&(ap e 4==1)&&((kind==1)||(ap (l.getD 0 0) 18==0))):=⟨_,rfl⟩
    rw [<- f] at a
    cases t0:(p==1)<;>cases g:(ap e 4==1)<;>cases k:(kind==1)<;>cases m:(ap (l.getD 0 0) 18==0)<;>(
     rw [t0,g,k,m] at f
     subst f
     exact ae Bs.eng {eq:=[(185,ak t0),(188,ak g),(192,ak k),(198,ak m)],ov:=[(196,je ⟨b,off,none⟩ _ underlying22 rfl o)],cv:=[(197,mL (q (l.getD 0 0) 18 ab))]} 22 d λW d=>af _ _ (E _ W d a))
 have C:∀ c W,Bs w wB W->(V=if c=true then bZ kind else if ((p==0)&&(ap e 4==0))=true then bZ kind else if ((p==1)&&(ap e 4==1)&&((kind==1)||(ap (l.getD 0 0) 18==0)))=true then bZ kind else Y)->wW V w (.code (aw 1 (qM (aw 1 (qM (aw 1 (qM (aw 1 (qM (iM (aw 11 wD))))))))))::.blk 2::.code (aw 12 wD)::wT R) (wF ra n rcap b off cap p va kind w (wL lv X e [(20,.u (ap e 4),0),(165,.bool c,0)])) W:=by
  intro c W d a
  cases c with
  | true=>rw [if_pos rfl] at a;exact oJ (i:=0) (cs:=(bZ kind:Fd).cells) d {cv:=[(173,fY λW _=>PG W)]} 20 rfl rfl ba (lI _) underlying215 rfl results177 ba ba (λ_=>ba) λW h=>⟨by rw [a],h⟩
  | false =>
    rw [if_neg bc] at a
    obtain ⟨c,f⟩:∃ c,c=((p==0)&&(ap e 4==0)):=⟨_,rfl⟩
    rw [<- f] at a
    cases t0:(p==0)<;>cases g:(ap e 4==0)<;>(
     rw [t0,g] at f
     subst f
     exact ae Bs.eng {eq:=[(176,ak t0),(179,ak g)]} 11 d λW d=>af _ _ (D _ W d a))
 have B:∀ c W,Bs w wB W->(V=if c=true then bZ kind else if ((kind==3)&&(ap e 2==0))=true then bZ kind else if ((p==0)&&(ap e 4==0))=true then bZ kind else if ((p==1)&&(ap e 4==1)&&((kind==1)||(ap (l.getD 0 0) 18==0)))=true then bZ kind else Y)->wW V w (.code (aw 1 (qM (aw 1 (qM (aw 1 (qM (iM (aw 11 wD))))))))::.blk 2::.code (aw 12 wD)::wT R) (wF ra n rcap b off cap p va kind w (wL lv X e [(20,.u (ap e 4),0),(145,.bool c,0)])) W:=by
  intro c W d a
  cases c with
  | true=>rw [if_pos rfl] at a;exact oJ (i:=0) (cs:=(bZ kind:Fd).cells) d {cv:=[(164,fY λW _=>PG W)]} 20 rfl rfl ba (lI _) underlying215 rfl results177 ba ba (λ_=>ba) λW h=>⟨by rw [a],h⟩
  | false =>
    rw [if_neg bc] at a
    obtain ⟨c,f⟩:∃ c,c=((kind==3)&&(ap e 2==0)):=⟨_,rfl⟩
    rw [<- f] at a
    cases t0:(kind==3)<;>cases g:(ap e 2==0)<;>(
     rw [t0,g] at f
     subst f
     exact ae Bs.eng {eq:=[(167,ak t0),(170,ak g)]} 11 d λW d=>af _ _ (C _ W d a))
 have A:∀ c W,Bs w wB W->(V=if c=true then bZ kind else if ((kind==2)&&(ap e 1==0)&&((ap e 3==0)||(ap (l.getD 0 0) 19==0)))=true then bZ kind else if ((kind==3)&&(ap e 2==0))=true then bZ kind else if ((p==0)&&(ap e 4==0))=true then bZ kind else if ((p==1)&&(ap e 4==1)&&((kind==1)||(ap (l.getD 0 0) 18==0)))=true then bZ kind else Y)->wW V w (.code (aw 1 (qM (aw 1 (qM (iM (aw 11 wD))))))::.blk 2::.code (aw 12 wD)::wT R) (wF ra n rcap b off cap p va kind w (wL lv X e [(20,.u (ap e 4),0),(136,.bool c,0)])) W:=by
  intro c W d a
  cases c with
  | true=>rw [if_pos rfl] at a;exact oJ (i:=0) (cs:=(bZ kind:Fd).cells) d {cv:=[(144,fY λW _=>PG W)]} 20 rfl rfl ba (lI _) underlying215 rfl results177 ba ba (λ_=>ba) λW h=>⟨by rw [a],h⟩
  | false =>
    rw [if_neg bc] at a
    obtain ⟨c,f⟩:∃ c,c=((kind==2)&&(ap e 1==0)&&((ap e 3==0)||(ap (l.getD 0 0) 19==0))):=⟨_,rfl⟩
    rw [<- f] at a
    cases t0:(kind==2)<;>cases g:(ap e 1==0)<;>cases k:(ap e 3==0)<;>cases m:(ap (l.getD 0 0) 19==0)<;>(
     rw [t0,g,k,m] at f
     subst f
     exact ae Bs.eng {eq:=[(147,ak t0),(150,ak g),(154,ak k),(160,ak m)],ov:=[(158,je ⟨b,off,none⟩ _ underlying22 rfl o)],cv:=[(159,mL (q (l.getD 0 0) 19 ab))]} 22 d λW d=>af _ _ (B _ W d a))
 have z:∀ c W,Bs w wB W->(V=if c=true then bZ kind else if ((kind==1)&&(ap e 3==0))=true then bZ kind else if ((kind==2)&&(ap e 1==0)&&((ap e 3==0)||(ap (l.getD 0 0) 19==0)))=true then bZ kind else if ((kind==3)&&(ap e 2==0))=true then bZ kind else if ((p==0)&&(ap e 4==0))=true then bZ kind else if ((p==1)&&(ap e 4==1)&&((kind==1)||(ap (l.getD 0 0) 18==0)))=true then bZ kind else Y)->wW V w (.code (aw 1 (qM (iM (aw 11 wD))))::.blk 2::.code (aw 12 wD)::wT R) (wF ra n rcap b off cap p va kind w (wL lv X e [(20,.u (ap e 4),0),(129,.bool c,0)])) W:=by
  intro c W d a
  cases c with
  | true=>rw [if_pos rfl] at a;exact oJ (i:=0) (cs:=(bZ kind:Fd).cells) d {cv:=[(135,fY λW _=>PG W)]} 20 rfl rfl ba (lI _) underlying215 rfl results177 ba ba (λ_=>ba) λW h=>⟨by rw [a],h⟩
  | false =>
    rw [if_neg bc] at a
    obtain ⟨c,f⟩:∃ c,c=((kind==1)&&(ap e 3==0)):=⟨_,rfl⟩
    rw [<- f] at a
    cases t0:(kind==1)<;>cases g:(ap e 3==0)<;>(
     rw [t0,g] at f
     subst f
     exact ae Bs.eng {eq:=[(138,ak t0),(141,ak g)]} 11 d λW d=>af _ _ (A _ W d a))
 obtain ⟨c,f⟩:∃ c,mD e lv=c:=⟨_,rfl⟩
 rw [f] at a
 obtain rfl|rfl|rfl:lv=0\/lv=1\/lv=2:=ab
 all_goals exact ae Bs.eng {eq:=[(133,ak f)],cv:=[(128,mL (q e 4 ab))]} 24 d λW d=>af _ _ (z c W d a)
include FT PG hlz hl in
theorem EY {T:Int} {W:World} (hr:bf n=true) (hz:zs.length=n) (hs:Sl .u8 w ra zs) (C:∀ y ∈ zs,(Lit.int .u8 y).wf=true) (A:lv<=2) (g:Bs w wB W) (d:V=bC zs n l p va kind lv T) (N:∀ a k G,0<lv->V=bC zs n l p va kind (lv-1) G->ch (wF ra n rcap b off cap p va kind w [(11,.u G,0),(12,.u ((lv-1:Nat):Int),0)]) Tryz.f177.ntmps a->Bs w wB k->R a k):wW V w [.code (qM (qM (aw 5 (aM Tryz.f177)))),.fin R,.blk 0] (wF ra n rcap b off cap p va kind w [(11,.u T,0),(12,.u lv,0)]) W:=by
 rw [gR] at d
 obtain ⟨X,r⟩:∃ X,bK T va lv=X:=⟨_,rfl⟩
 have H:=tJ va (12+9*lv) _ rfl
 have z:0<=X/\X<18446744073709551616:=by rw [<- r];exact UN _
 obtain ⟨e,J⟩:∃ e,fI zs X=e:=⟨_,rfl⟩
 rw [r,J] at d
 have s:∀ (x:Int) (i:Nat),i<64->∀ W,Bw w W->CE 111 #[.u x,.u i] W (.u (ap x i)):=λx i P W _=>gW x i P W
 have t:∀ W,Bw w W->CE 117 #[.slice ra n rcap,.u X,.i 8] W (.bool (gi n X 8)):=λW _=>vh ra n rcap X 8 W hr rfl z.1 ab
 have u:∀ W,Bw w W->CE 115 #[.slice (some ⟨b,off,none⟩) 22 cap,.i 1,.u X,.i 8,.i 2] W (.bool (ay l 1 X (aU X 8) 2 4 0)):=λW m=>mB (some ⟨b,off,none⟩) cap l 1 X 8 2 W hlz (hl.below m)
 have F:∀ c W,Bs w wB W->(V=if c=true then if jt e lv=true then bZ kind else bC zs n l p va kind (lv-1) (Uz.wrap (eB e*4096)) else cH l p va kind e X lv)->wW V w (.code (aw 1 (iM (aw 8 wD)))::.code (aw 9 wD)::wT R) (wF ra n rcap b off cap p va kind w (wL lv X e [(104,.bool c,0)])) W:=by
  intro c W g d
  cases c with
  | false =>
    rw [if_neg bc] at d
    exact ae Bs.eng {} 2 g λW g=>af _ _ (JD (ra:=ra) (n:=n) (rcap:=rcap) (cap:=cap) (R:=R) FT PG hlz hl A g d)
  | true =>
    rw [if_pos rfl] at d
    unfold jt at d
    cases t0:(bits .and .u64 (e/16) 1==1)<;>cases j:(bits .and .u64 (e/64) 3 != 0)<;>rw [t0,j] at d<;>obtain rfl|rfl|rfl:lv=0\/lv=1\/lv=2:=ab
    all_goals first
     | (rw [if_pos (by rfl)] at d
        exact oJ (i:=0) (cs:=(bZ kind:Fd).cells) g {eq:=[(109,dP .u64 (tJ e 4 16 bc)),(115,dP .u64 (tJ e 6 64 bc)),(111,ak t0),(117,ak j)],cv:=[(120,fY λW _=>PG W)]} 60 rfl rfl ba (lI _) underlying215 rfl results177 ba ba (λ_=>ba) λW m=>⟨by rw [d],m⟩)
     | (rw [if_neg bc] at d
        exact Ep Bs.eng {eq:=[(109,dP .u64 (tJ e 4 16 bc)),(115,dP .u64 (tJ e 6 64 bc)),(111,ak t0),(117,ak j)]} 60 g λa k S Q=>N a k _ ab d (Q.less ba) S)
 have E:∀ c W,Bs w wB W->(V=if c=true then bZ kind else if mC e=true then if jt e lv=true then bZ kind else bC zs n l p va kind (lv-1) (Uz.wrap (eB e*4096)) else cH l p va kind e X lv)->wW V w (.code (aw 1 (iM (aw 6 wD)))::.code (aw 7 wD)::wT R) (wF ra n rcap b off cap p va kind w [(12,.u lv,0),(13,.u X,0),(14,.u e,0),(15,.u (ap e 1),0),(16,.u (ap e 2),0),(17,.u (ap e 3),0),(93,.bool c,0)]) W:=by
  intro c W g d
  cases c with
  | true=>rw [if_pos rfl] at d;exact oJ (i:=0) (cs:=(bZ kind:Fd).cells) g {cv:=[(95,fY λW _=>PG W)]} 20 rfl rfl ba (lI _) underlying215 rfl results177 ba ba (λ_=>ba) λW m=>⟨by rw [d],m⟩
  | false =>
    rw [if_neg bc] at d
    obtain ⟨c,o⟩:∃ c,c=mC e:=⟨_,rfl⟩
    rw [<- o] at d
    unfold mC at o
    cases t0:(ap e 1==0)<;>cases j:(ap e 3==0)<;>(
     rw [t0,j] at o
     subst o
     exact ae Bs.eng {eq:=[(97,dP .u64 (tJ e 10 1024 bc)),(100,ak t0),(103,ak j)]} 19 g λW g=>af _ _ (F _ W g d))
 have D:gi n X 8=true->∀ W,Bs w wB W->(V=if pL e=true then bZ kind else if mC e=true then if jt e lv=true then bZ kind else bC zs n l p va kind (lv-1) (Uz.wrap (eB e*4096)) else cH l p va kind e X lv)->wW V w (.code (aw 2 wD)::wT R) (wF ra n rcap b off cap p va kind w [(12,.u lv,0),(13,.u X,0)]) W:=by
  intro B W g d
  have M:∀ W,Bw w W->CE 118 #[.slice ra n rcap,.u X,.i 8] W (.u e):=λW m=>by
   have O:=zY B
   obtain ⟨f,q⟩:∃ f:Nat,X=2147483648+(f:Int):=⟨(X-2147483648).toNat,ab⟩
   have I:=fT hr
   have h:=vi ra n rcap f 8 zs W hz ab (hs.below m) C ab ab ab
   have e2:le zs f 8=e:=by rw [<- J];unfold fI;rw [q,show (2147483648+(f:Int)-2147483648).toNat=f from ab]
   rw [e2,<- q] at h
   exact h
  obtain ⟨c,o⟩:∃ c,c=pL e:=⟨_,rfl⟩
  rw [<- o] at d
  unfold pL at o
  cases t0:(bits .and .u64 e 1==0)<;>cases j:(ap e 1==0)<;>cases K:(ap e 2==1)<;>cases L:(e/18014398509481984 != 0)<;>(
   rw [t0,j,K,L] at o
   subst o
   exact ae Bs.eng {eq:=[(91,dP .u64 (tJ e 54 18014398509481984 bc)),(80,ak t0),(83,ak j),(86,ak K),(92,ak L)],cv:=[(71,mL M),(73,mL (s e 1 ab)),(75,mL (s e 2 ab)),(77,mL (s e 3 ab))]} 45 g λW g=>af _ _ (E _ W g d))
 cases t0:gi n X 8<;>cases j:ay l 1 X (aU X 8) 2 4 0<;>rw [t0] at t<;>rw [j] at u<;>rw [t0] at d<;>(try rw [j] at d)<;>obtain rfl|rfl|rfl:lv=0\/lv=1\/lv=2:=ab
 all_goals first
  | (rw [if_pos rfl,if_pos rfl] at d
     exact ae Bs.eng {eq:=[(53,dP .u64 H),(13,dP .u64 r)],cv:=[(59,mL t),(64,mL u)]} 31 g λW g=>af _ _ (D t0 W g d))
  | (first | rw [if_pos rfl,if_neg bc] at d | rw [if_neg bc] at d
     exact oJ (i:=0) (cs:=(fR kind:Fd).cells) g {eq:=[(53,dP .u64 H),(13,dP .u64 r)],cv:=[(68,fY λW _=>FT W),(59,mL t),(64,mL u)]} 60 rfl rfl ba (lI _) underlying215 rfl results177 ba ba (λ_=>ba) λW m=>⟨by rw [d],m⟩)
end
theorem EZ (n rcap:Nat) (zs:List Int) (b off cap:Nat) (l:List Int) (p va kind:Int) (w:World) (hr:bf n=true) (hz:zs.length=n) (hs:Sl .u8 w s zs) (t:∀ y ∈ zs,(Lit.int .u8 y).wf=true) (hlz:l.length=22) (hl:Sl .u64 w (some ⟨b,off,none⟩) l) (K:cg p=true) (k:1<=kind) (m:kind<=3) (G:0<=va/\va<18446744073709551616): CB 177 #[.slice s n rcap,.slice (some ⟨b,off,none⟩) 22 cap,.i p,.u va,.i kind] w (.agg (bN zs n l p va kind).cells):=by
 have FT:=Ce kind k m;have PG:=EU kind k m;obtain ⟨I,z,v,h,c⟩:=hl 15 ab;simp only [Option.some.injEq,Addr.mk.injEq,and_true] at v;obtain ⟨rfl,rfl⟩:=v;have c:∀ W,Bs w wB W->W.cell? ⟨b,off+15,none⟩=some (.u (l.getD 15 0)):=λW f=>(f.2.cell (by exact h)).trans c;have u:∀ W,Bw w W->CE 127 #[.u va,.u 39] W (.u (au 39 va)):=λW _=>eE va 39 ab ab W;obtain ⟨V,d⟩:∃ V,V=bN zs n l p va kind:=⟨_,rfl⟩;rw [<- d];unfold bN at d;refine bD (S:=Bs w wB) (args:=[.slice s n rcap,.slice (some ⟨b,off,none⟩) 22 cap,.i p,.u va,.i kind]) wB func177 ?_;have f:=Bs.start w wB;have g:=tJ (l.getD 15 0) 60 1152921504606846976 bc;generalize bT w wB=W at f ⊢;cases t0:(p==3)<;>cases q:(l.getD 15 0/1152921504606846976==0)<;>rw [t0,q] at d;all_goals try (rw [if_pos (by rfl)] at d;exact oJ (i:=0) (cs:=(⟨va,0,false,0,0⟩:Fd).cells) f {eq:=[(30,dP .u64 g),(25,ak t0),(31,ak q)],ov:=[(29,je ⟨b,off+15,none⟩ _ underlying22 rfl c)]} 60 rfl rfl ba (lI _) underlying215 rfl results177 ba ba (λ_=>ba) λW ra=>⟨by rw [d],ra⟩)
 rw [if_neg bc] at d;cases r:(au 39 va != va);case true=>rw [r,if_pos rfl] at d;exact oJ (i:=0) (cs:=(bZ kind:Fd).cells) f {eq:=[(30,dP .u64 g),(25,ak t0),(31,ak q),(38,ak r)],ov:=[(29,je ⟨b,off+15,none⟩ _ underlying22 rfl c)],cv:=[(40,fY λW _=>PG W),(36,mL u)]} 60 rfl rfl ba (lI _) underlying215 rfl results177 ba ba (λ_=>ba) λW ra=>⟨by rw [d],ra⟩
 rw [r,if_neg bc] at d;refine ae Bs.eng {eq:=[(30,dP .u64 g),(25,ak t0),(31,ak q),(38,ak r)],ov:=[(29,je ⟨b,off+15,none⟩ _ underlying22 rfl c),(43,je ⟨b,off+15,none⟩ _ underlying22 rfl c)],cv:=[(36,mL u)]} 100 f λW f=>af [.code (qM (aw 5 (aM Tryz.f177))),.blk 0] (wF s n rcap b off cap p va kind w [(11,.u (kY l),0),(12,.u ((2:Nat):Int),0)]) ?_;refine mh (A:=Nat × Int) (λx=>wF s n rcap b off cap p va kind w [(11,.u x.2,0),(12,.u (x.1:Int),0)]) (λj x W=>j=x.1/\x.1<=2/\V=bC zs n l p va kind x.1 x.2/\Bs w wB W) 2 (2,kY l) ba ba ⟨rfl,Nat.le_refl _,d,f⟩ λj x W D R E=>?_;obtain ⟨rfl,C,d,f⟩:=D;exact EY FT PG hlz hl hr hz hs t C f d λa o A J B F H=>E a o (x.1-1) (x.1-1,A) ab F ⟨rfl,by show x.1-1<=2;omega,B,H⟩
theorem mF:U (cn C F):=by
 unfold cn;split;·exact ah _ _ _
 ·exact ah _ _ _
theorem yN (e x:Int) (lv:Nat) (h:(cH m C F S e x lv).marked=true):(cH m C F S e x lv).at_=x/\U (cH m C F S e x lv).entry:=by
 unfold cH at h ⊢;split at h;·cases h
 ·rename_i a;split at h;·cases h
  ·rename_i b;split at h;·cases h
   ·rename_i c;rw [if_neg a,if_neg b,if_neg c];split at h
    ·rename_i d;rw [if_pos d];split at h;·rename_i f;rw [if_pos f];exact ⟨rfl,mF e S⟩
     ·cases h
    ·cases h
theorem E5:∀ lv T,(bC m y z C F S lv T).marked=true->gi y (bC m y z C F S lv T).at_ 8=true/\U (bC m y z C F S lv T).entry:=by
 intro lv;induction lv with
 | zero =>
   intro T h;rw [bC] at h ⊢;split at h
   ·rename_i a;rw [if_pos a];split at h
    ·rename_i d;rw [if_pos d];split at h;·cases h
     ·rename_i e;rw [if_neg e];split at h;·cases h
      ·rename_i b;rw [if_neg b];obtain ⟨c,e2⟩:=yN _ _ _ _ _ _ _ h;rw [c];exact ⟨a,e2⟩
    ·cases h
   ·cases h
 | succ lv g =>
   intro T h;rw [bC] at h ⊢;split at h
   ·rename_i a;rw [if_pos a];split at h
    ·rename_i d;rw [if_pos d];split at h;·cases h
     ·rename_i e;rw [if_neg e];split at h
      ·rename_i b;rw [if_pos b];split at h;·cases h
       ·rename_i f;rw [if_neg f];exact g _ h
      ·rename_i b;rw [if_neg b];obtain ⟨c,e2⟩:=yN _ _ _ _ _ _ _ h;rw [c];exact ⟨a,e2⟩
    ·cases h
   ·cases h
theorem JE (h:(bN m y z C F S).marked=true):gi y (bN m y z C F S).at_ 8=true/\U (bN m y z C F S).entry:=by
 unfold bN at h ⊢;split at h;·cases h
 ·rename_i a;rw [if_neg a];split at h;·cases h
  ·rename_i b;rw [if_neg b];exact E5 _ _ _ _ _ _ _ _ h
def jl (kind:Int):Bool:=decide (1<=kind/\kind<=3)
def nF (n m:Nat) (l:List Int) (p kind:Int):Bool:=bf n&&bj m l p&&jl kind
def GU (zs:List Int) (n m:Nat) (l:List Int) (p va kind:Int):Int:=if nF n m l p kind=true then (bN zs n l p va kind).addr else 0
def GV (zs:List Int) (n m:Nat) (l:List Int) (p va kind:Int):Int:=if nF n m l p kind=true then (bN zs n l p va kind).code else if jl kind=true then dJ kind else 1
def bp (zs:List Int) (f:Fd):List Int:=if f.marked=true then jT zs (f.at_-2147483648).toNat f.entry 8 else zs
def vU (zs:List Int) (n m:Nat) (l:List Int) (p va kind:Int):List Int:=if nF n m l p kind=true then bp zs (bN zs n l p va kind) else []
theorem kB (f:Fd):(bp m f).length=m.length:=by
 unfold bp;split;·rw [jc]
 ·rfl
theorem oK {o:Obj} (h:w.heap[A]?=some o) (a:Obj):(w.alloc a).heap[A]?=some o:=(Below.heap_alloc w a A (Array.getElem?_eq_some_iff.1 h).1).trans h
theorem E6 (hb:K<=G.heap.size) (o:Obj) (a:o=.cells #[] 5 (0,0)):(G.alloc o).ownsRow K 5 1 (.slice (some ⟨G.heap.size,0,none⟩) 0 0) 0 (([]:List Int).map (Value.int .u8)):=by subst a;exact World.ownsRow_lit G #[] 0 hb et rfl
def hH (kind:Int):Int:=if kind=1 then 17 else if kind=2 then 21 else 23
def oL (kind:Int):Int:=if kind=1 then 16 else if kind=2 then 20 else 22
def bP (M:MV) (R:List Int):MV:=⟨M.pc,M.x,M.pr,M.cs,R,M.d,M.hd,M.hl,M.wt⟩
def dc (M:MV) (D:DV):MV:=⟨M.pc,M.x,M.pr,M.cs,M.ram,D,M.hd,M.hl,M.wt⟩
def lL (M:MV):MV:=⟨M.pc,M.x,M.pr,M.cs,M.ram,M.d,0,false,M.wt⟩
def lM (M:MV) (pa:Int):Bool:=M.hl&&(bits .andNot .u64 M.hd 7==bits .andNot .u64 pa 7)
def mW (M:MV) (pa:Int):MV:=if lM M pa=true then lL M else M
def rN (M:MV) (pa size kind x:Int):Int × MV × Int :=
 if gi M.ram.length pa size=true then
  (if (kind==3)=true then (0,mW (bP M (jT M.ram (pa-2147483648).toNat x size.toNat)) pa,0) else (le M.ram (pa-2147483648).toNat size.toNat,M,0))
 else if (kind==2)=true then
  (if (jw M.d (gD pa size)).2.2=true then ((jw M.d (gD pa size)).1,cL (dc M (jw M.d (gD pa size)).2.1),0) else (0,M,hH kind))
 else if (kind==3)=true then
  (if (fX M.d x (gD pa size)).2=true then (0,mW (cL (dc M (fX M.d x (gD pa size)).1)) pa,0) else (0,M,hH kind))
 else (0,M,hH kind)
def Ac (l:List Int) (p pa size kind:Int):Bool:=decide (aU pa size<pa)||!ay l p pa (aU pa size) kind 4 0
def xQ (M:MV) (p addr size kind x:Int) (F:Fd):Int × MV × Int :=
 if (F.code != 0)=true then (0,bP M (bp M.ram F),wrap64 (F.code+16))
 else if Ac M.cs p F.addr size kind=true then (0,bP M (bp M.ram F),hH kind)
 else rN (bP M (bp M.ram F)) F.addr size kind x
def aE (M:MV) (addr size kind x:Int):Int × MV × Int :=
 if (addr%size != 0)=true then (0,M,oL kind)
 else xQ M (fO M.cs M.pr kind) addr size kind x (bN M.ram M.ram.length M.cs (fO M.cs M.pr kind) addr kind)
theorem L9:∀ lv T,(bC m y z C F S lv T).marked=true->gi y (bC m y z C F S lv T).at_ 8=true/\∃ e,(bC m y z C F S lv T).entry=cn e S:=by
 have a:∀ e x k,gi y x 8=true->(cH z C F S e x k).marked=true->gi y (cH z C F S e x k).at_ 8=true/\∃ c,(cH z C F S e x k).entry=cn c S:=by
  intro e x k d;unfold cH;split;·intro h;cases h
  ·split;·intro h;cases h
   ·split;·intro h;cases h
    ·split
     ·split;·intro _;exact ⟨d,e,rfl⟩
      ·intro h;cases h
     ·intro h;cases h
 intro lv;induction lv with
 | zero =>
   intro T;rw [bC];split
   ·rename_i b;split
    ·split;·intro h;cases h
     ·split;·intro h;cases h
      ·exact a _ _ _ b
    ·intro h;cases h
   ·intro h;cases h
 | succ lv f =>
   intro T;rw [bC];split
   ·rename_i b;split
    ·split;·intro h;cases h
     ·split
      ·split;·intro h;cases h
       ·exact f _
      ·exact a _ _ _ b
    ·intro h;cases h
   ·intro h;cases h
theorem Mb (h:(bN m y z C F S).marked=true):gi y (bN m y z C F S).at_ 8=true/\∃ e,(bN m y z C F S).entry=cn e S:=by
 unfold bN at h ⊢;split at h;·cases h
 ·rename_i a;rw [if_neg a];split at h;·cases h
  ·rename_i b;rw [if_neg b];exact L9 _ _ _ _ _ _ _ _ h
theorem bz.sub (h:bz A M w b) (hs:c.Sublist b):bz A M w c :=
 ⟨λq a=>h.own q (hs.subset a),λq a=>h.hi q (hs.subset a),h.ne.sublist hs⟩
theorem bz.ins {E':Nat} (h:bz A M w (b++c)) (g:w.ownsRow M q.t 1 q.v q.n q.xs) (i:A<=M) (j:w.heap.size<=E') (l:M<=E'):bz A E' w (b++q::c):=by
 have L1:=List.pairwise_append.1 h.ne;have L2:∀ s ∈ b++c,∀ k,s.v.ownBlock=some k->k<M:=λs a k e=>h.hi s a k e;have f:∀ k,q.v.ownBlock=some k->M<=k/\k<w.heap.size:=λk e=>g.lt k e;refine ⟨λs a=>?_,λs a k e=>?_,List.pairwise_append.2 ⟨L1.1,List.pairwise_cons.2 ⟨λs a k e e2=>?_,L1.2.1⟩,λs a t d k e e2=>?_⟩⟩
 ·rcases List.mem_append.1 a with a|a;·exact h.own s (List.mem_append_left _ a)
  ·rcases List.mem_cons.1 a with rfl|a;·exact cF g i
   ·exact h.own s (List.mem_append_right _ a)
 ·rcases List.mem_append.1 a with a|a;·have:=L2 s (List.mem_append_left _ a) k e;omega
  ·rcases List.mem_cons.1 a with rfl|a;·have:=f k e;omega
   ·have:=L2 s (List.mem_append_right _ a) k e;omega
 ·have:=f k e;have:=L2 s (List.mem_append_right _ a) k e2;omega
 ·rcases List.mem_cons.1 d with rfl|d;·have:=f k e2;have:=L2 s (List.mem_append_left _ a) k e;omega
  ·exact L1.2.2 s a t d k e e2
theorem bz.app (h:bz A M w b) (L1:bz M x w c) (L2:A<=M) (f:M<=x):bz A x w (b++c):=by
 refine ⟨λs a=>?_,λs a k e=>?_,List.pairwise_append.2 ⟨h.ne,L1.ne,λs a t d k e e2=>?_⟩⟩
 ·rcases List.mem_append.1 a with a|a;·exact h.own s a
  ·exact cF (L1.own s a) L2
 ·rcases List.mem_append.1 a with a|a;·have:=h.hi s a k e;omega
  ·exact L1.hi s a k e
 ·have:=h.hi s a k e;have:=((L1.own t d).lt k e2).1;omega
def kC (A:MA) (a:Option Addr) (b:Nat) (b2:Option Addr) (c:Nat):MA:=⟨A.ax,A.cx,A.ac,A.cc,A.ar,A.cr,a,b,b2,c⟩
theorem PP (h:bz A w.heap.size w (aH l W)) (i:A<=w.heap.size) (hb:Bw w B) (D:DV) (hr:fJ w B W.ai W.ci l.d.xs W.ao W.co l.d.ys k M D.xs p x D.ys):bz A B.heap.size B (aH (dc l D) (kC W k M p x)):=by
 have c:=h.below hb;rcases hr with ⟨⟨rfl,rfl,g⟩,rfl,rfl,e2⟩|⟨a,rfl,rfl,e2⟩|⟨⟨rfl,rfl,g⟩,a⟩|a;·unfold aH dc kC;dsimp only;rw [g,e2];exact c.low (Nat.le_refl _) hb.size
 ·have b:bz A w.heap.size B ([aK W.ax l.x.length W.cx l.x,aK W.ac l.cs.length W.cc l.cs,aF W.ar l.ram.length W.cr l.ram]++[aF W.ao l.d.ys.length W.co l.d.ys]):=c.sub (by unfold aH;simp);unfold aH dc kC;dsimp only;rw [e2];exact b.ins (q:=aF k D.xs.length M D.xs) a i (Nat.le_refl _) hb.size
 ·have b:bz A w.heap.size B ([aK W.ax l.x.length W.cx l.x,aK W.ac l.cs.length W.cc l.cs,aF W.ar l.ram.length W.cr l.ram,aF W.ai l.d.xs.length W.ci l.d.xs]++[]):=c.sub (by unfold aH;simp);unfold aH dc kC;dsimp only;rw [g];exact b.ins (q:=aF p D.ys.length x D.ys) a i (Nat.le_refl _) hb.size
 ·have b:bz A w.heap.size B [aK W.ax l.x.length W.cx l.x,aK W.ac l.cs.length W.cc l.cs,aF W.ar l.ram.length W.cr l.ram]:=c.sub (by unfold aH;simp);exact b.app a i hb.size
theorem PQ (hr:fJ w B W.ai W.ci l.d.xs W.ao W.co l.d.ys k A I.xs p M I.ys):∀ q ∈ aH (dc l I) (kC W k A p M),∀ i,q.v.ownBlock=some i->i<w.heap.size->∃ q0 ∈ aH l W,q0.v.ownBlock=some i:=by
 intro q m i e c;simp only [aH,dc,kC,List.mem_cons,List.not_mem_nil,or_false] at m;have f:∀ (b:Option Addr) (d:Nat) (zs:List Int),B.ownsRow w.heap.size 5 1 (.slice b zs.length d) zs.length (zs.map (Value.int .u8))->∀ i,(Value.slice b zs.length d).ownBlock=some i->i<w.heap.size->False:=λb d zs h i e c=>by have:=(h.lt i e).1;omega
 have m4:aF W.ai l.d.xs.length W.ci l.d.xs ∈ aH l W:=dv
 have n:aF W.ao l.d.ys.length W.co l.d.ys ∈ aH l W:=dv
 rcases m with rfl|rfl|rfl|rfl|rfl;·exact ⟨_,dv,e⟩
 ·exact ⟨aK W.ac l.cs.length W.cc l.cs,dv,e⟩
 ·exact ⟨aF W.ar l.ram.length W.cr l.ram,dv,e⟩
 ·rcases hr with ⟨⟨rfl,rfl,w'⟩,_⟩|⟨a,_⟩|⟨⟨rfl,rfl,w'⟩,_⟩|a;·rw [w'] at e;exact ⟨_,m4,e⟩
  ·exact (f _ _ _ a i e c).elim
  ·rw [w'] at e;exact ⟨_,m4,e⟩
  ·exact (f _ _ _ (a.own (aF k I.xs.length A I.xs) t5) i e c).elim
 ·rcases hr with ⟨_,rfl,rfl,e2⟩|⟨_,rfl,rfl,e2⟩|⟨_,a⟩|a;·rw [e2] at e;exact ⟨_,n,e⟩
  ·rw [e2] at e;exact ⟨_,n,e⟩
  ·exact (f _ _ _ a i e c).elim
  ·exact (f _ _ _ (a.own (aF p I.ys.length M I.ys) t5) i e c).elim
def GW (w:World) (r:Nat) (D:DV) (a:Option Addr) (b:Nat) (b2:Option Addr) (c:Nat):World:=(((((w.setCell ⟨r,5,none⟩ (.u D.t)).setCell ⟨r,6,none⟩ (.u D.cm)).setCell ⟨r,7,none⟩ (.bool D.so)).setCell ⟨r,8,none⟩ (.slice a D.xs.length b)).setCell ⟨r,9,none⟩ (.slice b2 D.ys.length c)).setCell ⟨r,10,none⟩ (.i D.ir)
theorem Kx.put6r (b2:Option Addr) (c:Nat):Kx A b b G (GW G A I J K b2 c):=
 (((((Kx.set G 5 _).trans (Kx.set _ 6 _)).trans (Kx.set _ 7 _)).trans (Kx.set _ 8 _)).trans (Kx.set _ 9 _)).trans (Kx.set _ 10 _)
theorem Mp.fam_set (h:bz A w.heap.size w b) (L:∀ q ∈ b,q.v.ownBlock≠some M) (i:Nat) (v:Value):bz A (w.setCell ⟨M,i,none⟩ v).heap.size (w.setCell ⟨M,i,none⟩ v) b :=
 ⟨λq a=>eu (h.own q a) (λk e=>Below.heap_setCell w ⟨M,i,none⟩ v k (λe2=>L q a (by rw [show M=k from e2.symm];exact e))),λq a k e=>by rw [aX];exact h.hi q a k e,h.ne⟩
theorem Mp.dev (h:Mp A M l W w) (hb:Bw w B) (D:DV) {d:Nat} (hr:fJ w B W.ai W.ci l.d.xs W.ao W.co l.d.ys k x D.xs p d D.ys):Mp A M (dc l D) (kC W k x p d) (GW B M D k x p d)/\Kx M (aH l W) (aH (dc l D) (kC W k x p d)) w (GW B M D k x p d):=by
 have g:=h.lt;have b2:A<=w.heap.size:=by have:=h.lo;omega
 have f:=PQ D hr;have a:∀ q ∈ aH (dc l D) (kC W k x p d),q.v.ownBlock≠some M:=λq u e=>by obtain ⟨r,o,n⟩:=f q u M e g;exact h.ne r o n
 have s:=PP h.fam b2 hb D hr;refine ⟨⟨?_,?_,a,h.lo⟩,?_⟩;·have i:=br hb h.row;unfold aj at i;have R1:=bH i 5 (.u D.t);have R2:=bH R1 6 (.u D.cm);have j:=bH R2 7 (.bool D.so);have c:=bH j 8 (.slice k D.xs.length x);have m:=bH c 9 (.slice p D.ys.length d);exact bH m 10 (.i D.ir)
 ·exact Mp.fam_set (Mp.fam_set (Mp.fam_set (Mp.fam_set (Mp.fam_set (Mp.fam_set s a 5 _) a 6 _) a 7 _) a 8 _) a 9 _) a 10 _
 ·have v:Kx M (aH l W) (aH (dc l D) (kC W k x p d)) w B:=⟨hb.os,hb.tape,hb.output,hb.size,λb t _ _=>hb.block b t,f⟩;exact v.trans (Kx.put6r B D k x p d)
theorem vV (A:MA) (B r:Nat) (addr size x:Int) (w:World) (hl:j.ram.length<=1048576) (p:gi j.ram.length addr size=true) (u:0<=x) (v:x<=18446744073709551615) (h:Mp B r j A w): Calls prog 119 #[.slice A.ar j.ram.length A.cr,.u addr,.i size,.u x] w λe c=>e=.returned (.tuple #[])/\Mp B r (bP j (jT j.ram (addr-2147483648).toNat x size.toNat)) A c/\Kx r (aH j A) (aH (bP j (jT j.ram (addr-2147483648).toNat x size.toNat)) A) w c:=by
 have O:=iR p;obtain ⟨f,J⟩:∃ f:Nat,f=(addr-2147483648).toNat:=⟨_,rfl⟩;obtain ⟨m,K⟩:∃ m:Nat,m=size.toNat:=⟨_,rfl⟩;have E:addr=2147483648+(f:Int):=ab
 have F:size=(m:Int):=ab
 have M:aF A.ar j.ram.length A.cr j.ram ∈ aH j A:=dv
 have C:=h.fam.own _ M;have l:f+m<=j.ram.length:=ab
 have i:∃ g,A.ar=some ⟨g,0,none⟩:=by
  rcases C.2 with ⟨e,k⟩|⟨y,cap,D,e,_⟩;·have:j.ram.length=0:=k;omega
  ·have e2:Value.slice A.ar j.ram.length A.cr=.slice (some ⟨y,0,none⟩) j.ram.length cap:=e;injection e2 with e3
   exact ⟨y,e3⟩
 obtain ⟨g,i⟩:=i;have a:(jT j.ram f x m).length=j.ram.length:=jc _ _ _ _;rw [<- J,<- K];rw [E,F];have o:w.ownsRow B 5 1 (.slice (some ⟨g,0,none⟩) j.ram.length A.cr) j.ram.length (j.ram.map (Value.int .u8)):=by rw [<- i];exact C
 rw [i];refine (yv g j.ram.length A.cr f m B j.ram x w hl ab l u v o).mono λe c ⟨H,I,z⟩=>⟨H,?_⟩;have n:w.grownBy c (aF A.ar j.ram.length A.cr j.ram).v.ownBlock:=by have e:(aF A.ar j.ram.length A.cr j.ram).v.ownBlock=some g:=(by show (Value.slice A.ar j.ram.length A.cr).ownBlock=_;rw [i];rfl);rw [e];exact z
 have t:c.ownsRow B 5 1 (aF A.ar j.ram.length A.cr j.ram).v j.ram.length ((jT j.ram f x m).map (Value.int .u8)):=by show c.ownsRow B 5 1 (.slice A.ar j.ram.length A.cr) _ _;rw [i];exact I
 have d:=bz.markL (L1:=[aK A.ax j.x.length A.cx j.x,aK A.ac j.cs.length A.cc j.cs]) (L2:=[aF A.ai j.d.xs.length A.ci j.d.xs,aF A.ao j.d.ys.length A.co j.d.ys]) (r:=aF A.ar j.ram.length A.cr j.ram) h.fam n _ t;have b:=jB (M:=j) (M':=bP j (jT j.ram f x m)) (A:=A) rfl rfl a rfl rfl;have hF:bz B w.heap.size c (aH (bP j (jT j.ram f x m)) A):=by unfold aH bP;dsimp only;rw [a];exact d.1
 refine ⟨⟨?_,hF.low (Nat.le_refl _) z.size,λq s e=>?_,h.lo⟩,Kx.of_keepL d.2 b⟩;·have L:c.heap[r]?=w.heap[r]?:=d.2.block r h.lt (λq s e=>h.ne q s e);rw [L,h.row];unfold aj bP;dsimp only;rw [a]
 ·obtain ⟨N,G,k⟩:=b q s;exact h.ne N G (by rw [k];exact e)
theorem Mp.xrow (h:Mp A M l W w):w.ownsRow A 22 1 (.slice W.ax l.x.length W.cx) l.x.length (l.x.map (Value.int .u64)):=h.fam.own (aK W.ax l.x.length W.cx l.x) dv
theorem Mp.crow (h:Mp A M l W w):w.ownsRow A 22 1 (.slice W.ac l.cs.length W.cc) l.cs.length (l.cs.map (Value.int .u64)):=h.fam.own (aK W.ac l.cs.length W.cc l.cs) dv
theorem Mp.rrow (h:Mp A M l W w):w.ownsRow A 5 1 (.slice W.ar l.ram.length W.cr) l.ram.length (l.ram.map (Value.int .u8)):=h.fam.own (aF W.ar l.ram.length W.cr l.ram) dv
theorem mX:(m.map (Value.int .u64)).set y (.u C)=(m.set y C).map (Value.int .u64):=by rw [List.map_set]
def xM (M:MV) (xs:List Int):MV:={M with x:=xs}
def cM (M:MV) (cs:List Int):MV:={M with cs:=cs}
theorem Mp.setX (h:Mp A M l W w) (b:Nat) (hb:W.ax=some ⟨b,0,none⟩) (i:Nat) (v:Int):Mp A M (xM l (l.x.set i v)) W (w.setCell ⟨b,i,none⟩ (.u v))/\Below A w (w.setCell ⟨b,i,none⟩ (.u v)):=by
 have g:=h.xrow;rw [hb] at g;have f:=g.stored i (.u v);rw [mX] at f;have m:=((g.lt b rfl)).1;have n:w.grownBy (w.setCell ⟨b,i,none⟩ (.u v)) (aK W.ax l.x.length W.cx l.x).v.ownBlock:=by simp only [aK];rw [hb];exact f.2
 have o:=bz.mark (L1:=[]) (r:=aK W.ax l.x.length W.cx l.x) (L2:=[aK W.ac l.cs.length W.cc l.cs,aF W.ar l.ram.length W.cr l.ram,aF W.ai l.d.xs.length W.ci l.d.xs,aF W.ao l.d.ys.length W.co l.d.ys]) h.fam n ((l.x.set i v).map (Value.int .u64)) sb;have a:=h.ne (aK W.ax l.x.length W.cx l.x) dv;have d:M≠b:=λe=>a (by simp only [aK];rw [hb,e];rfl);have c:(w.setCell ⟨b,i,none⟩ (.u v)).heap.size=w.heap.size:=aX _ _ _;have j:aH (xM l (l.x.set i v)) W=[]++⟨(aK W.ax l.x.length W.cx l.x).t,(aK W.ax l.x.length W.cx l.x).v,(aK W.ax l.x.length W.cx l.x).n,(l.x.set i v).map (Value.int .u64)⟩::[aK W.ac l.cs.length W.cc l.cs,aF W.ar l.ram.length W.cr l.ram,aF W.ai l.d.xs.length W.ci l.d.xs,aF W.ao l.d.ys.length W.co l.d.ys]:=by simp [aH,xM,aK]
 refine ⟨⟨?_,?_,?_,h.lo⟩,⟨rfl,rfl,rfl,by rw [c];exact Nat.le_refl _,λk p=>Below.heap_setCell _ _ _ k di⟩⟩;·have:=gL h.row ⟨b,i,none⟩ (.u v) d;simpa [aj,xM] using this
 ·rw [j,c];exact o.1
 ·rw [j];intro q B;simp only [List.nil_append,List.mem_cons,List.not_mem_nil,or_false] at B;rcases B with rfl|rfl|rfl|rfl|rfl;·exact a
  ·exact h.ne _ dv
  ·exact h.ne _ dv
  ·exact h.ne _ dv
  ·exact h.ne _ dv
theorem Mp.setC (h:Mp A M l W w) (b:Nat) (hb:W.ac=some ⟨b,0,none⟩) (i:Nat) (v:Int):Mp A M (cM l (l.cs.set i v)) W (w.setCell ⟨b,i,none⟩ (.u v))/\Below A w (w.setCell ⟨b,i,none⟩ (.u v)):=by
 have g:=h.crow;rw [hb] at g;have f:=g.stored i (.u v);rw [mX] at f;have m:=((g.lt b rfl)).1;have n:w.grownBy (w.setCell ⟨b,i,none⟩ (.u v)) (aK W.ac l.cs.length W.cc l.cs).v.ownBlock:=by simp only [aK];rw [hb];exact f.2
 have o:=bz.mark (L1:=[aK W.ax l.x.length W.cx l.x]) (r:=aK W.ac l.cs.length W.cc l.cs) (L2:=[aF W.ar l.ram.length W.cr l.ram,aF W.ai l.d.xs.length W.ci l.d.xs,aF W.ao l.d.ys.length W.co l.d.ys]) h.fam n ((l.cs.set i v).map (Value.int .u64)) sb;have a:=h.ne (aK W.ac l.cs.length W.cc l.cs) dv;have d:M≠b:=λe=>a (by simp only [aK];rw [hb,e];rfl);have c:(w.setCell ⟨b,i,none⟩ (.u v)).heap.size=w.heap.size:=aX _ _ _;have j:aH (cM l (l.cs.set i v)) W=[aK W.ax l.x.length W.cx l.x]++⟨(aK W.ac l.cs.length W.cc l.cs).t,(aK W.ac l.cs.length W.cc l.cs).v,(aK W.ac l.cs.length W.cc l.cs).n,(l.cs.set i v).map (Value.int .u64)⟩::[aF W.ar l.ram.length W.cr l.ram,aF W.ai l.d.xs.length W.ci l.d.xs,aF W.ao l.d.ys.length W.co l.d.ys]:=by simp [aH,cM,aK]
 refine ⟨⟨?_,?_,?_,h.lo⟩,⟨rfl,rfl,rfl,by rw [c];exact Nat.le_refl _,λk p=>Below.heap_setCell _ _ _ k di⟩⟩;·have:=gL h.row ⟨b,i,none⟩ (.u v) d;simpa [aj,cM] using this
 ·rw [j,c];exact o.1
 ·rw [j];intro q B;simp only [List.cons_append,List.nil_append,List.mem_cons,List.not_mem_nil,or_false] at B;rcases B with rfl|rfl|rfl|rfl|rfl;·exact h.ne _ dv
  ·exact a
  ·exact h.ne _ dv
  ·exact h.ne _ dv
  ·exact h.ne _ dv
theorem GX (h:∀ j,U (t.getD j 0)) (i:Nat) (hv:U g):∀ j,U ((t.set i g).getD j 0):=by
 intro j;have:=h j;simp only [List.getD,List.getElem?_set];split
 ·split;·exact hv
  ·exact ⟨cp,cp⟩
 ·exact this
theorem Mp.setF (h:Mp A M l W w) (i:Nat) (v:Value) (b:aj M' W=(aj l W).setIfInBounds i v) (a:aH M' W=aH l W):Mp A M M' W (w.setCell ⟨M,i,none⟩ v)/\Below A w (w.setCell ⟨M,i,none⟩ v):=by
 have c:=h.lo;refine ⟨⟨?_,?_,by rw [a];exact h.ne,h.lo⟩,⟨rfl,rfl,rfl,ek,λk d=>Below.heap_setCell _ _ _ k di⟩⟩;·rw [b];exact bH h.row i v
 ·rw [a];exact Mp.fam_set h.fam h.ne i v
theorem ur (t ty:TypeId) (old cells:Array Value) (d:G.heap[K]?=some (.cells old t (0,0))) (b:(P.info? ty).map (·.size)=some cells.size) (h:N+cells.size<=old.size) (c:cells.all (·.oneCell')=true): (storeVar ty ⟨K,N,none⟩ (.agg cells)).run P G=.ok () (G.setRow K (old.toList.take N++cells.toList++old.toList.drop (N+cells.size)).toArray):=by
 have:=run_storeCells_at (P:=P) K N t cells.toList 0 old G d bv (λv f=>(Array.all_eq_true_iff_forall_mem.1 c) v i3);cases a:P.info? ty with
 | none=>simp [a] at b
 | some i =>have e:cells.size=i.size:=(by simp [a] at b;omega);simp only [Nat.add_zero,Array.length_toList] at this;simp only [List.append_assoc] at this ⊢;simp [storeVar,sizeOf,typeInfo,a,Value.cells,e,this]
theorem Mp.fld (h:Mp A M l W w) (i:Nat) (v:Value) (b:aj M' W=(aj l W).setIfInBounds i v) (a:aH M' W=aH l W):Mp A M M' W (w.setCell ⟨M,i,none⟩ v)/\Kx M (aH l W) (aH M' W) w (w.setCell ⟨M,i,none⟩ v):=by refine ⟨⟨?_,by rw [a];exact Mp.fam_set h.fam h.ne i v,by rw [a];exact h.ne,h.lo⟩,by rw [a];exact Kx.set w i v⟩;rw [b];exact bH h.row i v
theorem GY {L:List FRow} (j:q ∈ L) (e:q.v.ownBlock=some M) (hs:∀ q ∈ b,∃ c ∈ L,c.v=q.v) (w:World) (i:Nat) (v:Value):Kx A L b w (w.setCell ⟨M,i,none⟩ v):=
 ⟨rfl,rfl,rfl,ek,λk _ _ h=>Below.heap_setCell w ⟨M,i,none⟩ v k (λe2=>h q j (by rw [e];exact congrArg some e2.symm)),λl a k d _=>by obtain ⟨c,g,f⟩:=hs l a;exact ⟨c,g,by rw [f];exact d⟩⟩
structure Kr where
 b:Nat
 cs:Array Value
 t:TypeId
 tg:List (Nat × Nat)
structure Hx (B r:Nat) (L:List Kr) (M0:MV) (A0:MA) (w0:World) (M:MV) (A:MA) (W:World):Prop where
 mp:Mp B r M A W
 kx:Kx r (aH M0 A0) (aH M A) w0 W
 rows:∀ x ∈ L,W.heap[x.b]?=some (.cells x.cs x.t (0,0))/\x.b≠r/\∀ q ∈ aH M A,q.v.ownBlock≠some x.b
theorem Hx.step {L:List Kr} {M':MV} {A':MA} (h:Hx A M L l W w n a B) (p:Mp A M M' A' r) (k:Kx M (aH n a) (aH M' A') B r):Hx A M L l W w M' A' r :=
 ⟨p,h.kx.trans k,λx j=>by
  obtain ⟨b,c,d⟩:=h.rows x j
  have w0:=(Array.getElem?_eq_some_iff.1 b).1
  exact ⟨(k.block x.b w0 c d).trans b,c,λq i e=>by obtain ⟨M0,g,f⟩:=k.own q i x.b e w0;exact d M0 g f⟩⟩
theorem Hx.below {L:List Kr} (h:Hx A M L l W w n a B) (k:Bw B r):Hx A M L l W w n a r:=h.step (h.mp.below k) (Kx.of_below k)
def WB (r:Nat) (M:MV) (A:MA) (L:List Kr):List Rw:=⟨r,aj M A,[]⟩::L.map (λx=>⟨x.b,x.cs,x.tg⟩)
theorem Hx.eng {L:List Kr}:n6 P (Hx A M L l W w n a) (Hx A M L l W w n a) (WB M n a L) dr (bodyPost P fn Rs):=
 ⟨λ_ h=>h,λM0 h x A0=>by
  rcases List.mem_cons.1 A0 with rfl|A0
  ·exact ⟨_,_,h.mp.row⟩
  ·obtain ⟨y,b,rfl⟩:=List.mem_map.1 A0
   exact ⟨_,_,(h.rows y b).1⟩,λ_ M0 h=>h.below (Below.refl _ _).drew,cJ⟩
theorem Hx.engL {L:List Kr} {fn:Func} {Rs:Ending->World->Prop} {L':List Kr} (A0:∀ x ∈ L,x ∈ L'):n6 e (Hx A M L l W w n a) (Hx A M L' l W w n a) (WB M n a L) dr (bodyPost e fn Rs):=
 ⟨λ_ h=>⟨h.mp,h.kx,λx b=>h.rows x (A0 x b)⟩,(Hx.eng (P:=e) (fn:=fn) (dr:=dr) (Rs:=Rs)).rows,λ_ M0 h=>h.below (Below.refl _ _).drew,cJ⟩
def Hs (r:Nat) (L:List Kr) (cs:Array Value) (W:World):Prop:=W.heap[r]?=some (.cells cs 32 (0,0))/\∀ x ∈ L,W.heap[x.b]?=some (.cells x.cs x.t (0,0))
theorem Hx.hs {L:List Kr} (h:Hx A M L l W w n a B):Hs M L (aj n a) B:=⟨h.mp.row,λx A0=>(h.rows x A0).1⟩
def WU (r:Nat) (cs:Array Value) (L:List Kr):List Rw:=⟨r,cs,[]⟩::L.map (λx=>⟨x.b,x.cs,x.tg⟩)
theorem Hs.eng {L:List Kr} (hs:∀ M0,Hx A M L l W w n a M0->Hs M L o M0):n6 P (Hs M L o) (Hx A M L l W w n a) (WU M o L) dr (bodyPost P fn Rs):=
 ⟨hs,λM0 h x A0=>by
  rcases List.mem_cons.1 A0 with rfl|A0
  ·exact ⟨_,_,h.1⟩
  ·obtain ⟨y,b,rfl⟩:=List.mem_map.1 A0
   exact ⟨_,_,h.2 y b⟩,λ_ M0 h=>h.below (Below.refl _ _).drew,cJ⟩
theorem Hx.fld {L:List Kr} (h:Hx A M L l W w n a B) (i:Nat) (v:Value) (A0:aj M' a=(aj n a).setIfInBounds i v) (b:aH M' a=aH n a):Hx A M L l W w M' a (B.setCell ⟨M,i,none⟩ v):=h.step (h.mp.fld i v A0 b).1 (h.mp.fld i v A0 b).2
theorem Hx.setX {L:List Kr} (h:Hx A M L l W w n a B) (b:Nat) (hb:a.ax=some ⟨b,0,none⟩) (i:Nat) (v:Int):Hx A M L l W w (xM n (n.x.set i v)) a (B.setCell ⟨b,i,none⟩ (.u v)):=
 h.step (h.mp.setX b hb i v).1 (GY (L:=aH n a) (q:=aK a.ax n.x.length a.cx n.x) dv (by show (Value.slice a.ax n.x.length a.cx).ownBlock=_;rw [hb];rfl) (jB (M:=n) (M':=xM n (n.x.set i v)) (show (n.x.set i v).length=n.x.length by simp) rfl rfl rfl rfl) B i _)
theorem Hx.setC {L:List Kr} (h:Hx A M L l W w n a B) (b:Nat) (hb:a.ac=some ⟨b,0,none⟩) (i:Nat) (v:Int):Hx A M L l W w (cM n (n.cs.set i v)) a (B.setCell ⟨b,i,none⟩ (.u v)):=
 h.step (h.mp.setC b hb i v).1 (GY (L:=aH n a) (q:=aK a.ac n.cs.length a.cc n.cs) dv (by show (Value.slice a.ac n.cs.length a.cc).ownBlock=_;rw [hb];rfl) (jB (M:=n) (M':=cM n (n.cs.set i v)) rfl (show (n.cs.set i v).length=n.cs.length by simp) rfl rfl rfl) B i _)
theorem Hx.var {L:List Kr} (h:Hx A M L l W w n a B) (hb:Bw B r) (x:Kr) (hx:r.heap[x.b]?=some (.cells x.cs x.t (0,0))) (hn:B.heap.size<=x.b):Hx A M (L++[x]) l W w n a r:=by
 have b:=h.below hb;refine ⟨b.mp,b.kx,λy w0=>?_⟩;rcases List.mem_append.1 w0 with w0 | w0;·exact b.rows y w0
 ·rw [List.mem_singleton] at w0;subst w0;refine ⟨hx,by have:=h.mp.lt;omega,λq c e=>?_⟩;have:=((h.mp.fam.own q c).lt y.b e).2;omega
theorem mY:iq G []:=trivial
structure Vs (w:World) (L:List Kr) (W:World):Prop where
 rows:∀ x ∈ L,W.heap[x.b]?=some (.cells x.cs x.t (0,0))
 below:Bw w W
theorem Vs.to {L:List Kr} (h:Vs w L B) (hb:Bw B r):Vs w L r:=⟨λx a=>br hb (h.rows x a),aa h.below hb⟩
theorem Vs.at {W:World} {L:List Kr} (h:Vs W L w):Vs w L w:=⟨h.rows,Below.refl _ _⟩
theorem Vs.eng {L:List Kr}:n6 P (Vs w L) (Vs w L) (L.map λx=>⟨x.b,x.cs,x.tg⟩) true (bodyPost P fn Rs):=
 ⟨λ_ h=>h,λW h r a=>by obtain ⟨y,b,rfl⟩:=List.mem_map.1 a;exact ⟨_,_,h.rows y b⟩,λ_ W h=>h.to (Below.refl _ _).drew,cJ⟩
theorem pA (old cs:Array Value) (t:TypeId):Bw G ((G.alloc (.cells old t)).setRow G.heap.size cs):=aS (bal _ _) (Nat.le_refl _) _
theorem Vs.new {L:List Kr} (h:Vs w L B) (old:Array Value) (t:TypeId):Vs w (L++[⟨B.heap.size,o,t,[]⟩]) ((B.alloc (.cells old t)).setRow B.heap.size o):=by
 have b:=pA B old o t;refine ⟨λx a=>?_,aa h.below b⟩;rcases List.mem_append.1 a with a | a;·exact br b (h.rows x a)
 ·rw [List.mem_singleton.1 a];exact setRow_heap _ _ _ _ _ _ (heap_alloc_new _ _)
theorem Cl {xs:List Value} (h:w.ownsRow A L 1 Q M xs):bz A w.heap.size w [⟨L,Q,M,xs⟩]:=
 ⟨λr a=>by rw [List.mem_singleton.1 a];exact h,λr a k e=>by rw [List.mem_singleton.1 a] at e;exact (h.lt k e).2,List.pairwise_singleton _ _⟩
theorem bz.li {c:Nat} (h:bz A M w [⟨L,.slice k x c,x,t.map (Value.int .i64)⟩]):Sl .i64 w k t:=fL (h.own _ (List.mem_singleton.2 rfl))
def gA (n:Nat) (x:List Int):Bool:=decide (n=32)&&(x.getD 0 0==0)
theorem E7 (n c:Nat) (x:List Int) (w:World) (hx:x.length=n) (hs:Sl .u64 w s x): CE 57 #[.slice s n c] w (.bool (gA n x)):=by
 by_cases h:n=32;·subst h;obtain ⟨b,off,rfl,l,f⟩:=hs 0 ab;have F:Hid (gA 32 x=(x.getD 0 0==0)):=(by show _=_;unfold gA;simp);have g:w.cell? ⟨b,off,none⟩=some (.u (x.getD 0 0)):=f;generalize gA 32 x=V at *;generalize x.getD 0 0=y at *;clear hs hx f;go_enter func57,ntmps57;exact a02
 ·have F:Hid (gA n x=false):=(by show _=_;unfold gA;rw [decide_eq_false h];rfl);have d:((n:Int)==32)=false:=bv;generalize gA n x=V at *;clear hs hx h;go_enter func57,ntmps57;exact a02
def lN (M:MV):Bool:=bits .and .u64 (M.cs.getD 9 0) 2184==dO M.d
def dU (M:MV):Bool:=(bits .and .u64 M.pc 3==0)&&gA M.x.length M.x&&bj M.cs.length M.cs M.pr&&bf M.ram.length&&nZ M.d.xs.length M.d.ys.length M.d.ir&&(M.hl||(M.hd==0))&&lN M
theorem qO (h:bj A t g=true):A=22:=by unfold bj bo at h;simp only [Bool.and_eq_true,decide_eq_true_eq] at h;exact h.1.1
theorem mn (A:MA) (w:World) (hl:kV j) (hs:pn w j A): CB 22 #[.agg (aj j A)] w (.bool (dU j)):=by
 have s:=λW g=>E7 A.ax j.x.length A.cx _ W rfl (hs.x.below g);have r:=λW g=>xI A.ac j.cs.length A.cc _ j.pr W rfl (hs.cs.below g);have L:=λW (_:Bw w W)=>pN A.ar j.ram.length A.cr W hl.ram;have K:=λW (_:Bw w W)=>xE j.d.t j.d.cm j.d.so A.ai j.d.xs.length A.ci A.ao j.d.ys.length A.co j.d.ir W hl.xs hl.ys;have N:=λW (_:Bw w W)=>tz j.d.t j.d.cm j.d.so A.ai j.d.xs.length A.ci A.ao j.d.ys.length A.co j.d.ir W hl.xs;unfold dU lN;generalize q:(bits .and .u64 j.pc 3==0)=o;generalize gA j.x.length j.x=p at *;generalize H:bj j.cs.length j.cs j.pr=u at *;generalize bf j.ram.length=y at *;generalize nZ j.d.xs.length j.d.ys.length j.d.ir=z at *;generalize I:(j.hd==0)=B;generalize J:(bits .and .u64 (j.cs.getD 9 0) 2184==dO j.d)=C;cases u with
 | false =>
   refine bD (S:=Bs w [(aj j A,32)]) [(aj j A,32)] func22 ?_;cases o;case' true=>cases p
   all_goals exact bm (t:=2) (v:=.bool false) Bs.eng {eq:=[(6,ak q)],cv:=[(10,mL s),(17,mL r)]} 300 (Bs.start _ _) (λm h=>⟨cp,h.2⟩)
 | true =>
   have G:=qO H;obtain ⟨E,F,f,i,M⟩:=hs.cs 9 ab;obtain ⟨pc,x,l,b,a,d,k,c,n⟩:=j;dsimp only at *;refine bD (S:=Bs w [(aj ⟨pc,x,l,b,a,d,k,c,n⟩ A,32)]) [(aj ⟨pc,x,l,b,a,d,k,c,n⟩ A,32)] func22 ?_;have D:∀ W,Bs w [(aj ⟨pc,x,l,b,a,d,k,c,n⟩ A,32)] W->W.cell? ⟨E,F+9,none⟩=some (.u (b.getD 9 0)):=λW h=>(h.2.cell (by exact i)).trans M;cases o;case' true =>cases p;case' true =>cases y;case' true =>cases z;case' true=>cases c<;>cases B<;>cases C
   all_goals exact bm (t:=2) (v:=.bool _) Bs.eng {eq:=[(6,ak q),(35,ak I),(47,ak J)],ov:=[(41,kJ b.length A.cc .i64 9 f ab underlying23 ba),(42,je _ _ underlying22 rfl D)],cv:=[(10,mL s),(17,mL r),(22,mL L),(27,fY K),(46,fY N)]} 300 (Bs.start _ _) (λm h=>⟨rfl,h.2⟩)
inductive CK where
 | plain (b:Int) | mst | mie | mip | satp | cfg | addr (e:Nat)
def CK.ty:CK->Nat
 | .plain _=>203 | .mst=>201 | .mie=>204 | .mip=>205 | .satp=>206 | .cfg=>207 | .addr _=>209
def CK.val:CK->Value
 | .plain b=>.agg #[.u b] | .mst=>.agg #[] | .mie=>.agg #[] | .mip=>.agg #[] | .satp=>.agg #[] | .cfg=>.agg #[] | .addr e=>.agg #[.i e]
def Ut:List (Int × CK):=[(768,.mst),(770,.plain 46079),(771,.plain 546),(772,.mie),(773,.plain 18446744073709551613),(832,.plain 18446744073709551615),(833,.plain 18446744073709551612),(834,.plain 9223372036854775823),
 (835,.plain 18446744073709551615),(836,.mip),(261,.plain 18446744073709551613),(320,.plain 18446744073709551615),(321,.plain 18446744073709551612),(322,.plain 9223372036854775823),(323,.plain 18446744073709551615),(384,.satp),
 (928,.cfg),(944,.addr 0),(945,.addr 1),(946,.addr 2),(947,.addr 3),(2818,.plain 18446744073709551615)]
def Ad (r:Int × CK):List Value:=[.i r.1,.iface r.2.ty r.2.val]
def gB:Array Value:=(Ut.flatMap Ad).toArray
def qP:Array Value:=(List.replicate 22 [Value.int .i64 0,.nilIface]).flatten.toArray
theorem Ae:qP.size=44:=by kernel_rfl
theorem mG:gB.size=44:=by kernel_rfl
theorem Af:(prog.info? 127).bind (·.zero)=some (.agg qP):=by kernel_rfl
theorem Ah:gB.all (·.oneCell')=true:=by kernel_rfl
theorem qQ:(prog.info? 127).map (·.size)=some 44:=by kernel_rfl
def nG (P:Program):List Oper->Act->Option Act
 | [],a=>some a
 | o::l,a =>
   match o.guard,o.op with
   | none,.build t parts =>
     match P.built t (parts.map λ(i,x)=>(i,a.eval x)).toList with
     | some cells=>nG P l (a.put o.dst (.agg cells))
     | none=>none
   | none,.makeInterface t x=>if P.concrete t=true then nG P l (a.put o.dst (.iface t (a.eval x))) else none
   | _,_=>none
theorem vX:∀ (l rest:List Oper) (a c:Act),nG e l a=some c->wpList e E f rest c w->wpList e E f (l++rest) a w:=by
 intro l;induction l with
 | nil=>intro rest a c h d;simp [nG] at h;subst h;exact d
 | cons o l i =>
   intro rest a c h d;unfold nG at h;split at h
   ·rename_i t parts Q g;split at h;·rename_i cells P;exact wpList_buildTo Q t parts g o.dst rfl cells P (i _ _ _ h d)
    ·cases h
   ·rename_i t x Q g;split at h;·rename_i P;exact nz Q o.dst rfl (.iface t (a.eval x)) (by simp [execOp,g,run_makeInterface w t _ P]) (i _ _ _ h d)
    ·cases h
   ·cases h
theorem sj {l:List Oper} (v x:Value) (h:(nG e (l.take y) D).map (λb=>(b.tmps.getD T undef,b.tmps.getD K undef,b.defers))=some (v,x,[])) (hr:∀ b:Act,b.tmps.getD T undef=v->b.tmps.getD K undef=x->b.defers=[]->wpList e E f (l.drop y) b w):wpList e E f l D w:=by
 rw [<- List.take_append_drop y l];cases d:nG e (l.take y) D with
 | none=>rw [d] at h;cases h
 | some b =>rw [d] at h;simp only [Option.map_some,Option.some.injEq,Prod.mk.injEq] at h;exact vX _ _ _ _ d (hr b h.1 h.2.1 h.2.2)
theorem Cm:CB 105 #[] G (.agg gB):=by go_enter func105,ntmps105;apply wp_seq_k;intro c b;apply wp_region_list;refine cT rfl 127 rfl (some 0) rfl _ Af ?_;apply wpList_nil;refine b _ _ ?_;clear b c;apply wp_seq_k;intro c b;apply wp_region_lit;refine sj 67 0 67 (.p G.heap.size 0) (.agg gB) ba ?_;intro m f d j;have g:(G.alloc (.cells (Value.agg qP).cells 127)).heap[G.heap.size]?=some (.cells qP 127 (0,0)):=heap_alloc_new _ _;refine wpList_store_rowTo rfl 127 (.tmp 0) (.tmp 67) rfl rfl G.heap.size gB f d 127 qP g (by rw [qQ,mG]) (by rw [Ae,mG]) Ah ?_;apply wpList_nil;refine b _ _ ?_;clear b c;apply wp_ret;refine bodyPost_ret (results_cell_row results105 _ _ _ _ _ _ _ f (setRow_heap _ _ _ _ _ _ g) underlying127 rfl (by rw [qQ,mG])) j ⟨rfl,?_⟩;exact aI (bal _ _) (Nat.le_refl _) _
theorem pB:Calls prog 105 #[] G λe a=>∃ T,e=.returned T/\Hid (T=.agg gB)/\Bw G a :=
 (Cm G).mono λe a h=>⟨.agg gB,h.1,(rfl:Value.agg gB=.agg gB),h.2⟩
theorem Ai:Ut.length=22:=by rfl
def gp (k:Nat):Int × CK:=Ut.getD k (0,.mst)
theorem Mc (h:y<22):Ut[y]'(by rw [Ai];exact h)=gp y:=by simp [gp,List.getD,List.getElem?_eq_getElem (show y<Ut.length by rw [Ai];exact h)]
theorem xR (h:y<22):gB.extract (y*2) (y*2+2)=(Ad (gp y)).toArray:=by have:=rV Ad 2 Ut (by intro x _;rfl) y (by rw [Ai];exact h);rw [Mc y h] at this;rw [<- this];simp [gB]
theorem E8 (kk:IntKind) (k:Nat) (hk:k<22):(Instr.index 127 (.agg gB) (.int kk (k:Int))).run prog G=.ok (.agg #[.i (gp k).1,.iface (gp k).2.ty (gp k).2.val]) G:=by
 have f:(sizeOf 126).run prog G=.ok 2 G:=by
  obtain ⟨g,e,a⟩:∃ i,prog.info? 126=some i/\i.size=2:=by
   have h:(prog.info? 126).map (·.size)=some 2:=ba;cases b:prog.info? 126 with
   | none=>rw [b] at h;cases h
   | some i=>rw [b] at h;exact ⟨i,rfl,eo⟩
  simp [sizeOf,typeInfo,e,a]
 have c:(isAgg 126).run prog G=.ok true G:=by simp [isAgg,run_underlying underlying126]
 have d:(0:Int)<=(k:Int)/\(k:Int)<((22:Nat):Int):=ab
 unfold Instr.index;simp only [asIntOf,Sem.run_bind,Sem.run_pure,Result.andThen_ok,run_underlying underlying127];rw [if_pos d];simp only [Sem.run_bind,f,Result.andThen_ok,part,c,Int.toNat_natCast,if_true,Sem.run_pure];rw [xR k hk];rfl
theorem gY {o:Oper} (e:Hid (Q=.agg gB)) (kk:IntKind) (k:Nat) (hk:k<22) (r:Int × CK) (hr:Hid (r=gp k)) (T:o.guard=none) (x i:Operand) (j:o.op=.index 127 x i) (hx:D.eval x=Q) (g:D.eval i=.int kk (k:Int)) (h:wpList prog E f d (D.put o.dst (.agg #[.i r.1,.iface r.2.ty r.2.val])) w):wpList prog E f (o::d) D w:=by
 refine wpList_plain T λK rest=>?_;have b:(execOp D.eval o).run prog w=.ok (.value (.agg #[.i r.1,.iface r.2.ty r.2.val])) w:=by simp [execOp,j,hx,g,e.out,hr.out,E8 w kk k hk]
 unfold Oper.wp;rw [b,Oper.upon_value];exact rest _ _ h
def iz (x:Int):Bool:=(dg x 60 4==0)||(dg x 60 4==8)
def Cn (x:Int) (k:Nat):Int:=if (bits .and .u64 (bits .and .u64 (dg x (8*k) 8) 159) 1==0)=true then bits .andNot .u64 (bits .and .u64 (dg x (8*k) 8) 159) 2 else bits .and .u64 (dg x (8*k) 8) 159
def qj (x:Int):Nat->Int
 | 0=>0
 | k+1=>bits .or .u64 (qj x k) (Uz.wrap (Cn x k*2^(8*k)))
def ig:CK->Int->Int
 | .plain b,x=>bits .and .u64 x b
 | .mst,x=>if (bits .and .u64 x 6144==4096)=true then bits .andNot .u64 (bits .and .u64 x 924074) 6144 else bits .and .u64 x 924074
 | .mie,x=>bits .and .u64 x 2730
 | .mip,x=>bits .and .u64 x 2730
 | .satp,x=>if iz x=true then x else 0
 | .cfg,x=>qj x 4
 | .addr _,x=>bits .and .u64 x 18014398509481983
def fP (c:Int) (e:Nat):Bool:=(bits .and .u64 (dg c (8*e) 8) 128 != 0)
def iP (c:Int) (e:Nat):Int:=dg c (8*e+3) 2
def gI (c:Int):Nat->Int
 | 0=>0
 | k+1=>if fP c k=true then bits .or .u64 (gI c k) (Uz.wrap (255*2^(8*k))) else gI c k
def jF (c:Int):CK->Int->Int
 | .mip,_=>2184
 | .satp,x=>if iz x=true then 0 else 18446744073709551615
 | .cfg,_=>gI c 4
 | .addr e,_=>if (fP c e||(fP c (e+1)&&(iP c (e+1)==1)))=true then 18446744073709551615 else 0
 | _,_=>0
def CK.fitF:CK->Nat
 | .plain _=>315 | .mst=>313 | .mie=>316 | .mip=>318 | .satp=>321 | .cfg=>324 | .addr _=>327
def CK.staysF:CK->Nat
 | .mip=>319 | .satp=>322 | .cfg=>325 | .addr _=>328 | _=>0
def CK.viewF:CK->Nat
 | .mst=>314 | .mie=>317 | .mip=>320 | _=>0
theorem oM (g:0<=C) (j:C<18446744073709551616) (w:World):Calls prog 323 #[.u C] w λe c=>e=.returned (.bool (iz C))/\c=w.drew:=by
 have d:Hid (∀ w,Calls prog 66 #[.u C,.i 60,.i 4] w λe c=>e=.returned (.u (dg C 60 4))/\c=w.drew):=λw=>bF C 60 4 g j ab ab w;have F:Hid (iz C=((dg C 60 4==0)||(dg C 60 4==8))):=(rfl:iz C=_);generalize dg C 60 4=y at *;cases f:(y==0) with
 | true =>rw [f] at F;go_enter func323,ntmps323;go_wp2_with fail;refine (d.out _).mono ?_;rintro e l ⟨rfl,b⟩;exact a05
 | false =>rw [f] at F;go_enter func323,ntmps323;go_wp2_with fail;refine (d.out _).mono ?_;rintro e l ⟨rfl,b⟩;exact a05
theorem oN (hk:K<5) (g:0<=C) (j:C<18446744073709551616) (w:World):Calls prog 108 #[.u C,.i K] w λe c=>e=.returned (.u (dg C (8*K) 8))/\c=w.drew:=by
 obtain ⟨q,d⟩:∃ q,8*K=q:=⟨_,rfl⟩;have l:wrap64 (8*(K:Int))=(q:Int):=by unfold wrap64;omega
 rw [d];have f:Hid (∀ w,Calls prog 66 #[.u C,.i q,.i 8] w λe c=>e=.returned (.u (dg C q 8))/\c=w.drew):=λw=>bF C q 8 g j ab ab w;clear d hk;generalize dg C q 8=y at *;go_enter func108,ntmps108;go_wp2_with fail;refine (f.out _).mono ?_;rintro e m ⟨rfl,b⟩;subst b;exact x7
theorem qR (hk:K<5) (l:0<=C) (m:C<18446744073709551616) (w:World):Calls prog 173 #[.u C,.i K] w λe f=>e=.returned (.u (iP C K))/\f=w.drew:=by
 obtain ⟨q,g⟩:∃ q,8*K+3=q:=⟨_,rfl⟩;obtain ⟨b,c⟩:∃ b,8*K=b:=⟨_,rfl⟩;have p:wrap64 (8*(K:Int))=(b:Int):=by unfold wrap64;omega
 have o:wrap64 ((b:Int)+3)=(q:Int):=by unfold wrap64;omega
 unfold iP;rw [g];have j:Hid (∀ w,Calls prog 66 #[.u C,.i q,.i 2] w λe f=>e=.returned (.u (dg C q 2))/\f=w.drew):=λw=>bF C q 2 l m ab ab w;clear g c hk;generalize dg C q 2=y at *;go_enter func173,ntmps173;go_wp2_with fail;refine (j.out _).mono ?_;rintro e r ⟨rfl,d⟩;subst d;exact x7
theorem mH (hk:K<5) (f:0<=C) (g:C<18446744073709551616) (w:World):Calls prog 326 #[.u C,.i K] w λe c=>e=.returned (.bool (fP C K))/\c=w.drew:=by have d:Hid (∀ w,Calls prog 108 #[.u C,.i K] w λe c=>e=.returned (.u (dg C (8*K) 8))/\c=w.drew):=λw=>oN C K hk f g w;have F:Hid (fP C K=(bits .and .u64 (dg C (8*K) 8) 128 != 0)):=(rfl:fP C K=_);generalize dg C (8*K) 8=q at *;go_enter func326,ntmps326;go_wp2_with fail;refine (d.out _).mono ?_;rintro e j ⟨rfl,b⟩;exact a05
theorem JF:CB 315 #[.agg #[.u C],.u F] G (.u (bits .and .u64 F C)):=by go_enter func315,ntmps315;go_wp2_with fail;go_ret;exact ⟨rfl,bal _ _⟩
theorem Md:CB 327 #[.agg #[.i y],.u C] G (.u (bits .and .u64 C 18014398509481983)):=by go_enter func327,ntmps327;go_wp2_with fail;go_ret;exact ⟨rfl,bal _ _⟩
theorem PS:CB 316 #[.agg #[],.u C] G (.u (bits .and .u64 C 2730)):=by go_enter func316,ntmps316;go_wp2_with fail;go_ret;exact ⟨rfl,by go_grown⟩
theorem PT:CB 318 #[.agg #[],.u C] G (.u (bits .and .u64 C 2730)):=by go_enter func318,ntmps318;go_wp2_with fail;go_ret;exact ⟨rfl,by go_grown⟩
theorem PV:CB 313 #[.agg #[],.u C] G (.u (ig .mst C)):=by
 have b:ig .mst C=if (bits .and .u64 C 6144==4096)=true then bits .andNot .u64 (bits .and .u64 C 924074) 6144 else bits .and .u64 C 924074:=rfl
 cases d:(bits .and .u64 C 6144==4096) with
 | true =>rw [if_pos d] at b;have F:Hid (ig .mst C=bits .andNot .u64 (bits .and .u64 C 924074) 6144):=b;clear b;go_enter func313,ntmps313;go_wp2_with fail;go_ret;exact ⟨bh,by go_grown⟩
 | false =>rw [if_neg (by rw [d];decide)] at b;have F:Hid (ig .mst C=bits .and .u64 C 924074):=b;clear b;go_enter func313,ntmps313;go_wp2_with fail;go_ret;exact ⟨bh,by go_grown⟩
theorem Me (j:0<=C) (l:C<18446744073709551616) (w:World):CB 321 #[.agg #[],.u C] w (.u (ig .satp C)):=by
 have f:Hid (∀ w,Calls prog 323 #[.u C] w λe g=>e=.returned (.bool (iz C))/\g=w.drew):=λw=>oM C j l w;have c:ig .satp C=if iz C=true then C else 0:=rfl
 cases d:iz C with
 | true =>rw [if_pos d] at c;rw [d] at f;have F:Hid (ig .satp C=C):=c;clear c;go_enter func321,ntmps321;go_wp2_with fail;refine (f.out _).mono ?_;rintro e m ⟨rfl,b⟩;subst b;go_wp2_with fail;go_ret;exact ⟨bh,by go_grown⟩
 | false =>rw [if_neg (by rw [d];decide)] at c;rw [d] at f;have F:Hid (ig .satp C=0):=c;clear c;go_enter func321,ntmps321;go_wp2_with fail;refine (f.out _).mono ?_;rintro e m ⟨rfl,b⟩;subst b;go_wp2_with fail;go_ret;exact ⟨bh,by go_grown⟩
theorem PW (D:0<=C) (E:C<18446744073709551616) (w:World):CB 324 #[.agg #[],.u C] w (.u (ig .cfg C)):=by
 have x:Hid (∀ k:Nat,k<5->∀ w,Calls prog 108 #[.u C,.i k] w λe m=>e=.returned (.u (dg C (8*k) 8))/\m=w.drew):=λk u w=>oN C k u D E w;have B:Hid (ig .cfg C=qj C 4):=(rfl:ig .cfg C=_);go_enter func324,ntmps324;go_wp2_with fail;go_loopw [5,8] (λy i wr=>∃ k:Nat,k<=4/\i=.i k/\y=.u (qj C k)/\Bw w wr)
  (λ_ i _=>4-(intOf i).toNat)
 case atStart=>exact ⟨0,ab,rfl,rfl,by go_grown⟩
 case round =>
  obtain ⟨k,u,rfl,rfl,c⟩:=hrel;by_cases H:k<4
  ·have f:qj C (k+1)=bits .or .u64 (qj C k) (Uz.wrap (Cn C k*2^(8*k))):=rfl;unfold Cn at f;have g:=x.out k ab;generalize dg C (8*k) 8=z at *;obtain ⟨q,o⟩:∃ q,8*k=q:=⟨_,rfl⟩;have J:wrap64 (8*(k:Int))=(q:Int):=l0;have A:q<64:=ab;rw [o] at f;have d:decide ((k:Int)<4)=true:=bv;obtain ⟨b,G⟩:∃ b,bits .and .u64 z 159=b:=⟨_,rfl⟩;obtain ⟨y,p⟩:∃ y,y=qj C k:=⟨_,rfl⟩;rw [G,<- p] at f;rw [<- p];cases t:(bits .and .u64 b 1==0) with
   | true =>
     rw [if_pos t] at f;have F:Hid (qj C (k+1)=bits .or .u64 y (Uz.wrap (bits .andNot .u64 b 2*2^q))):=f;have j:Hid (∀ w,Calls prog 108 #[.u C,.i k] w λe m=>e=.returned (.u z)/\m=w.drew):=g;have r:Hid (8*k=q):=o;clear f p g o;go_wp2_with fail;refine (j.out _).mono ?_;rintro e I ⟨rfl,l⟩;subst l;go_wp2_with fail;go_roundw;case rel=>exact ⟨k+1,ab,by go_num,by rw [F.out,r.out],c.drew⟩
     case measure=>simp [intOf];omega
   | false =>
     rw [if_neg (by rw [t];decide)] at f;have F:Hid (qj C (k+1)=bits .or .u64 y (Uz.wrap (b*2^q))):=f;have j:Hid (∀ w,Calls prog 108 #[.u C,.i k] w λe m=>e=.returned (.u z)/\m=w.drew):=g;have r:Hid (8*k=q):=o;clear f p g o;go_wp2_with fail;refine (j.out _).mono ?_;rintro e I ⟨rfl,l⟩;subst l;go_wp2_with fail;go_roundw;case rel=>exact ⟨k+1,ab,by go_num,by rw [F.out,r.out],c.drew⟩
     case measure=>simp [intOf];omega
  ·have s:k=4:=ab;subst s;generalize qj C 4=y at *;go_wp2_with fail;go_ret;exact ⟨by rw [B.out];rfl,c⟩
theorem GZ (k:CK) (x:Int) (a:0<=x) (c:x<18446744073709551616) (w:World):CB k.fitF #[k.val,.u x] w (.u (ig k x)):=by
 cases k with
 | plain b=>exact JF b x w
 | mst=>exact PV x w
 | mie=>exact PS x w
 | mip=>exact PT x w
 | satp=>exact Me x a c w
 | cfg=>exact PW x a c w
 | addr e=>exact Md e x w
theorem JG:CB 319 #[.agg #[],.slice s 22 y,.u C] G (.u 2184):=by go_enter func319,ntmps319;go_wp2_with fail;go_ret;exact ⟨rfl,by go_grown⟩
theorem E9 (l:0<=F) (m:F<18446744073709551616) (w:World):CB 322 #[.agg #[],.slice s 22 y,.u F] w (.u (jF C .satp F)):=by
 have g:Hid (∀ w,Calls prog 323 #[.u F] w λe j=>e=.returned (.bool (iz F))/\j=w.drew):=λw=>oM F l m w;have f:jF C .satp F=if iz F=true then 0 else 18446744073709551615:=rfl
 cases d:iz F with
 | true =>rw [if_pos d] at f;rw [d] at g;have x:Hid (jF C .satp F=0):=f;clear f;go_enter func322,ntmps322;go_wp2_with fail;refine (g.out _).mono ?_;rintro e o ⟨rfl,b⟩;subst b;go_wp2_with fail;go_ret;exact ⟨by rw [x.out];rfl,by go_grown⟩
 | false =>rw [if_neg (by rw [d];decide)] at f;rw [d] at g;have x:Hid (jF C .satp F=18446744073709551615):=f;clear f;go_enter func322,ntmps322;go_wp2_with fail;refine (g.out _).mono ?_;rintro e o ⟨rfl,b⟩;subst b;go_wp2_with fail;go_ret;exact ⟨by rw [x.out];rfl,by go_grown⟩
theorem JH (hz:z.length=22) (hs:Sl .u64 G s z) (hl:∀ j,0<=z.getD j 0/\z.getD j 0<18446744073709551616): CB 325 #[.agg #[],.slice s 22 y,.u C] G (.u (jF (z.getD 16 0) .cfg C)):=by
 obtain ⟨I,off,rfl,u,l⟩:=hs 16 ab;have D:=hl 16;have E:Hid (jF (z.getD 16 0) .cfg C=gI (z.getD 16 0) 4):=(rfl:jF (z.getD 16 0) .cfg C=_);generalize z.getD 16 0=c at *;have w:Hid (∀ k:Nat,k<5->∀ G,Calls prog 326 #[.u c,.i k] G λe r=>e=.returned (.bool (fP c k))/\r=G.drew):=λk B G=>mH c k B D.1 D.2 G;clear hs hl hz;go_enter func325,ntmps325;go_wp2_with fail;go_loopw [7,9] (λcap i wr=>∃ k:Nat,k<=4/\i=.i k/\cap=.u (gI c k)/\Bw G wr)
  (λ_ i _=>4-(intOf i).toNat)
 case atStart=>exact ⟨0,ab,rfl,rfl,by go_grown⟩
 case round =>
  obtain ⟨k,B,rfl,rfl,b⟩:=hrel;by_cases K:k<4
  ·have m:gI c (k+1)=if fP c k=true then bits .or .u64 (gI c k) (Uz.wrap (255*2^(8*k))) else gI c k:=rfl
   have f:=w.out k ab;have J:wr.cell? ⟨I,off+16,none⟩=some (.u c):=(b.cell (by exact u)).trans l;obtain ⟨q,a⟩:∃ q,8*k=q:=⟨_,rfl⟩;have M:wrap64 (8*(k:Int))=(q:Int):=l0;have x:q<64:=ab;rw [a] at m;have d:decide ((k:Int)<4)=true:=bv;obtain ⟨cap,t⟩:∃ cap,cap=gI c k:=⟨_,rfl⟩;rw [<- t] at m;rw [<- t];cases g:fP c k with
   | true =>
     rw [if_pos g] at m;rw [g] at f;have F:Hid (gI c (k+1)=bits .or .u64 cap (Uz.wrap (255*2^q))):=m;have o:Hid (∀ G,Calls prog 326 #[.u c,.i k] G λe r=>e=.returned (.bool true)/\r=G.drew):=f;have H:Hid (8*k=q):=a;clear m t f a l g;go_wp2_with fail;refine (o.out _).mono ?_;rintro e L ⟨rfl,p⟩;subst p;go_wp2_with fail;go_roundw;case rel=>exact ⟨k+1,ab,by go_num,by rw [F.out,H.out],b.drew⟩
     case measure=>simp [intOf];omega
   | false =>
     rw [if_neg (by rw [g];decide)] at m;rw [g] at f;have F:Hid (gI c (k+1)=cap):=m;have o:Hid (∀ G,Calls prog 326 #[.u c,.i k] G λe r=>e=.returned (.bool false)/\r=G.drew):=f;clear m t f a l g;go_wp2_with fail;refine (o.out _).mono ?_;rintro e L ⟨rfl,p⟩;subst p;go_wp2_with fail;go_roundw;case rel=>exact ⟨k+1,ab,by go_num,by rw [F.out],b.drew⟩
     case measure=>simp [intOf];omega
  ·have A:k=4:=ab;subst A;generalize gI c 4=cap at *;go_wp2_with fail;go_ret;exact ⟨by rw [E.out];rfl,b⟩
theorem Fa (C:y<4) (a:Option Addr) (cap:Nat) (l:List Int) (x:Int) (w:World) (hz:l.length=22) (hs:Sl .u64 w a l) (hl:∀ j,0<=l.getD j 0/\l.getD j 0<18446744073709551616): CB 328 #[.agg #[.i y],.slice a 22 cap,.u x] w (.u (jF (l.getD 16 0) (.addr y) x)):=by
 obtain ⟨B,off,rfl,z,t⟩:=hs 16 ab;have s:=hl 16;have G:∀ o,(w.alloc o).cell? ⟨B,off+16,none⟩=some (.u (l.getD 16 0)):=λo=>(((Below.refl w.heap.size w).alloc (Nat.le_refl _) o).cell (by exact z)).trans t;have m:jF (l.getD 16 0) (.addr y) x=if (fP (l.getD 16 0) y||(fP (l.getD 16 0) (y+1)&&(iP (l.getD 16 0) (y+1)==1)))=true then 18446744073709551615 else 0:=rfl
 generalize l.getD 16 0=c at *;have u:Hid (∀ w,Calls prog 326 #[.u c,.i y] w λe q=>e=.returned (.bool (fP c y))/\q=w.drew):=λw=>mH c y ab s.1 s.2 w;have f:Hid (∀ w,Calls prog 326 #[.u c,.i ((y:Int)+1)] w λe q=>e=.returned (.bool (fP c (y+1)))/\q=w.drew):=λw=>mH c (y+1) ab s.1 s.2 w;have A:Hid (∀ w,Calls prog 173 #[.u c,.i ((y:Int)+1)] w λe q=>e=.returned (.u (iP c (y+1)))/\q=w.drew):=λw=>qR c (y+1) ab s.1 s.2 w;generalize jF c (.addr y) x=g at *;generalize fP c y=D at *;generalize fP c (y+1)=E at *;generalize iP c (y+1)=r at *;clear hs hl hz t;cases D with
 | true =>have F:Hid (g=18446744073709551615):=(by show g=_;rw [m];rfl);clear m;go_enter func328,ntmps328;go_wp2_with fail;refine (u.out _).mono ?_;rintro e p ⟨rfl,b⟩;subst b;go_wp2_with fail;go_ret;exact ⟨bh,by go_grown⟩
 | false =>
   cases E with
   | false =>have F:Hid (g=0):=(by show g=_;rw [m];rfl);clear m;go_enter func328,ntmps328;go_wp2_with fail;refine (u.out _).mono ?_;rintro e p ⟨rfl,b⟩;subst b;go_wp2_with fail;refine (f.out _).mono ?_;rintro e p ⟨rfl,b⟩;subst b;go_wp2_with fail;go_ret;exact ⟨bh,by go_grown⟩
   | true =>
     cases d:(r==1) with
     | true =>have F:Hid (g=18446744073709551615):=(by show g=_;rw [m,d];rfl);clear m;go_enter func328,ntmps328;go_wp2_with fail;refine (u.out _).mono ?_;rintro e p ⟨rfl,b⟩;subst b;go_wp2_with fail;refine (f.out _).mono ?_;rintro e p ⟨rfl,b⟩;subst b;go_wp2_with fail;refine (A.out _).mono ?_;rintro e p ⟨rfl,b⟩;subst b;go_wp2_with fail;go_ret;exact ⟨bh,by go_grown⟩
     | false =>have F:Hid (g=0):=(by show g=_;rw [m,d];rfl);clear m;go_enter func328,ntmps328;go_wp2_with fail;refine (u.out _).mono ?_;rintro e p ⟨rfl,b⟩;subst b;go_wp2_with fail;refine (f.out _).mono ?_;rintro e p ⟨rfl,b⟩;subst b;go_wp2_with fail;refine (A.out _).mono ?_;rintro e p ⟨rfl,b⟩;subst b;go_wp2_with fail;go_ret;exact ⟨bh,by go_grown⟩
def CK.sees:CK->Bool
 | .mst=>true | .mie=>true | .mip=>true | _=>false
def CK.holds:CK->Bool
 | .mip=>true | .satp=>true | .cfg=>true | .addr _=>true | _=>false
def nT:CK->Int
 | .mst=>256 | .mie=>260 | .mip=>324 | _=>0
def vY (m:Int):CK->Int
 | .mst=>786722 | .mie=>m | .mip=>m | _=>0
def vZ (m:Int):CK->Int
 | .mst=>786722 | .mie=>m | .mip=>bits .and .u64 m 2 | _=>0
theorem Mg (k:CK) (hk:k.sees=true) (m:Int) (w:World):CB k.viewF #[k.val,.u m] w (.agg #[.i (nT k),.u (vY m k),.u (vZ m k)]):=by
 cases k with
 | plain b=>cases hk
 | satp=>cases hk
 | cfg=>cases hk
 | addr e=>cases hk
 | mst =>simp only [CK.viewF,CK.val,nT,vY,vZ];go_enter func314,ntmps314;go_wp2_with fail;go_returns;exact ⟨rfl,by go_grown⟩
 | mie =>simp only [CK.viewF,CK.val,nT,vY,vZ];go_enter func317,ntmps317;go_wp2_with fail;go_returns;exact ⟨rfl,by go_grown⟩
 | mip =>simp only [CK.viewF,CK.val,nT,vY,vZ];go_enter func320,ntmps320;go_wp2_with fail;go_returns;exact ⟨rfl,by go_grown⟩
def dK (l:List Int):Nat->Nat->Bool
 | 0,_=>true
 | n+1,k=>(ig (gp k).2 (l.getD k 0)==l.getD k 0)&&dK l n (k+1)
def j5 (n:Nat) (l:List Int):Bool:=decide (n=22)&&dK l 22 0
theorem Aj (hk:y<22) (h:(ig (gp y).2 (m.getD y 0)==m.getD y 0)=true):dK m (22-y) y=dK m (22-(y+1)) (y+1):=by rw [show 22-y=(22-(y+1))+1 from ab,dK,h,Bool.true_and]
theorem Co (hk:y<22) (h:(ig (gp y).2 (m.getD y 0)==m.getD y 0)=false):dK m (22-y) y=false:=by rw [show 22-y=(22-(y+1))+1 from ab,dK,h,Bool.false_and]
theorem yO (k:CK) (w:World):(method 425 k.ty k.val "loop.example/g00134/impl.fit").run prog w=.ok (k.fitF,k.val) w:=by cases k<;>kernel_rfl
theorem qS (h:(prog.funcs[A]?).map (λfn=>(fn.name == "runtime.NumGoroutine",fn.body.isSome))=some (false,true)) (args:Array Value) (w:World):(callFunc A args).run prog w=.ok (.enter A args) w:=by
 cases a:prog.funcs[A]? with
 | none=>rw [a] at h;cases h
 | some fn =>rw [a] at h;simp only [Option.map_some,Option.some.injEq,Prod.mk.injEq] at h;have b:fn.name≠ "runtime.NumGoroutine":=(by simpa using h.1);obtain ⟨c,d⟩:=Option.isSome_iff_exists.mp h.2;simp [callFunc,a,b,d,mark]
theorem wg (k:CK):(prog.funcs[k.fitF]?).map (λfn=>(fn.name == "runtime.NumGoroutine",fn.body.isSome))=some (false,true):=by cases k<;>kernel_rfl
theorem JI (k:CK) (x:Int) (c:0<=x) (d:x<18446744073709551616) (w:World) (p q:Addr) (u v:Value) (a:w.cell? p=some u/\w.cell? q=some v) :
 Calls prog k.fitF #[k.val,.u x] w λe b=>e=.returned (.u (ig k x))/\Bw w b/\b.cell? p=some u/\b.cell? q=some v :=
 (GZ k x c d w).mono λe b h=>⟨h.1,h.2,(h.2.cell (World.block_lt_of_cell? _ _ a.1)).trans a.1,(h.2.cell (World.block_lt_of_cell? _ _ a.2)).trans a.2⟩
theorem jG (hz:z.length=y) (hs:Sl .u64 G s z) (hl:∀ j,0<=z.getD j 0/\z.getD j 0<18446744073709551616): CB 62 #[.slice s y T] G (.bool (j5 y z)):=by
 by_cases C:y=22
 ·have p:j5 y z=dK z 22 0:=(by simp [j5,C]);rw [p];have M:Hid (z.length=y):=hz;have K:Hid (∀ j,0<=z.getD j 0/\z.getD j 0<18446744073709551616):=hl;subst C;clear hz p hl;go_enter func62,ntmps62;go_wp2_with fail;refine (pB _).mono ?_;rintro e w1 ⟨cap,rfl,L,O⟩;go_wp2_with fail;go_loopw [9] (λi wr=>∃ k:Nat,k<=22/\i=.i k/\Hid (dK z (22-k) k=dK z 22 0)/\Bw G wr)
   (λi _=>22-(intOf i).toNat)
  case atStart=>exact ⟨0,ab,rfl,(rfl:dK z (22-0) 0=dK z 22 0),O⟩
  case round =>
   obtain ⟨k,X,rfl,A,c⟩:=hrel;by_cases g:k<22
   ·obtain ⟨b,off,rfl,l,P⟩:=hs k (by rw [M.out];exact g);have I:=K.out k;obtain ⟨r,a⟩:∃ r,r=gp k:=⟨_,rfl⟩;have HR:Hid (r=gp k):=a;have m:(ig r.2 (z.getD k 0)==z.getD k 0)=true->Hid (dK z (22-(k+1)) (k+1)=dK z 22 0):=λh=>(Aj z k g (by rw [<- a];exact h)).symm.trans A.out;have H:(ig r.2 (z.getD k 0)==z.getD k 0)=false->Hid (dK z 22 0=false):=λh=>A.out.symm.trans (Co z k g (by rw [<- a];exact h));have f:Hid ((ig r.2 (z.getD k 0)==z.getD k 0)=true->Hid (dK z (22-(k+1)) (k+1)=dK z 22 0)):=m;have q:Hid ((ig r.2 (z.getD k 0)==z.getD k 0)=false->Hid (dK z 22 0=false)):=H;clear a m H;have W:decide ((k:Int)<22)=true:=bv;have R:(0:Int)<=(k:Int):=ab;have S:(k:Int)<22:=ab;have U:=yO r.2;have N:=qS (wg r.2);have Q:wr.cell? ⟨b,off+k,none⟩=some (.u (z.getD k 0)):=(c.cell (by exact l)).trans P;generalize z.getD k 0=x at *;go_wp2_with (first | refine gY L .i64 k g r HR rfl (.tmp 8) (.tmp 9) rfl rfl rfl ?_);go_region_held3 (λt=>t.cell? ⟨wr.heap.size,1,none⟩=some (.iface r.2.ty r.2.val)/\t.cell? ⟨b,off+k,none⟩=some (.u x)) (go_keep) (first | (refine (JI r.2 x I.1 I.2 _ ⟨wr.heap.size,1,none⟩ ⟨b,off+k,none⟩ (.iface r.2.ty r.2.val) (.u x) ?_).mono ?_;(first | assumption | (simp [*]));rintro e V ⟨rfl,o,D,E⟩));have w:Hid (Bw G V):=(by show Below _ _ _;refine aa (w1:=(wr.alloc (Obj.cells #[.i r.1,.iface r.2.ty r.2.val] 126)).drew) ?_ o;exact (c.alloc c.size _).drew);clear o D E U N;obtain ⟨n,J⟩:∃ n,ig r.2 x=n:=⟨_,rfl⟩;rw [J] at f q ⊢;clear J;cases d:(n==x) with
    | true =>
      have F:=f.out d;have u:(n != x)=false:=(by simp [bne,d]);clear f q d;rw [u];go_wp2_with fail;go_roundw;case rel=>exact ⟨k+1,ab,by go_num,F,w.out⟩
      case measure=>simp [intOf];omega
    | false =>have F:=q.out d;have u:(n != x)=true:=(by simp [bne,d]);clear f q d;rw [u];go_wp2_with fail;go_ret;exact ⟨bh,w.out⟩
   ·have B:k=22:=ab;subst B;have F:Hid (dK z 22 0=true):=A.out.symm;go_wp2_with fail;go_ret;exact ⟨bh,c⟩
 ·have F:Hid (j5 y z=false):=(by show _=_;simp [j5,C]);have d:((y:Int) != 22)=true:=bv;clear hz hs;go_enter func62,ntmps62;exact a04
end Go.Proofs.YtjifdmoehfbihaaGreatDoor
