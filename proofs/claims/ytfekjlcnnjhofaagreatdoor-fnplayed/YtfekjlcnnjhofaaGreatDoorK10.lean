/- Own lemmas. -/
import Derived.Test.YtfekjlcnnjhofaaGreatDoorAut
import Derived.Test.YtfekjlcnnjhofaaGreatDoorK05
import Derived.Test.YtfekjlcnnjhofaaGreatDoorK08
import Derived.Test.YtfekjlcnnjhofaaGreatDoorK09
import Derived.Stop.Asserts
import Derived.Handy
set_option maxRecDepth 100000
set_option maxHeartbeats 6400000
namespace Go.Proofs.YtfekjlcnnjhofaaGreatDoor
open Go.RowKit Tryz
open IntKind renaming u64->Uz
open Below renaming heap_setCell->R6,refl->R7,heap_alloc->R8
open Go renaming World->A5,bits->A6,Calls->A8,Value->A9,bodyPost->C5,Addr->C6,results_cell_row->D1,heap_alloc_new->D2,TypeId->D3,Code->D4,setRow_heap->D8,run_underlying->F0,Oper->F3,Ending->G1,Program->H8
open Go.RowKit renaming wrap64->S5,Below->T3
open List renaming mem_cons->I4,mem_append->I5,not_mem_nil->K0,mem_append_right->K1,pairwise_append->L0,mem_append_left->L6,mem_map->N1,mem_singleton->O1,nil_append->P2,getD->R4
open Nat renaming le_refl->R5
open Value renaming int->I1,slice->I2,agg->I3
open _root_.Array renaming getElem?_eq_some_iff->S2
set_option linter.unusedVariables false
variable {w B r:A5} {A M:Nat} {x W M':MV} {l a:MA} {n k:List FRow} {b P:H8} {c:Array F3} {p:Exit->Act->A5->Prop} {e:List Int} {o:List F3} {t:Act} {dr:Bool} {Rs:G1->A5->Prop} {q:FRow} (E:MV) (L:MA) (Q:List Int) (f g:Int) (D:A5) (m:DV) (s:Option C6) (y T:Nat) (d:List Int) (j z C:Int) (F:Nat) (G:A5)
def nV:D4->D4
 | .block _ c | .loop c | .cond _ _ c=>c
 | c=>c
def RC:D4->Array F3
 | .region _ o _=>o
 | _=>#[]
theorem nW {P:H8} {n:Nat} {fn:Func} {Rs:G1->A5->Prop} {k:List KI} {F:Fr} {w W:A5} {bs:List (Array A9 × D3)} (hS:Bs w bs W) (H:Hn P (Bs w bs) (Bs w bs)) (m:Nat) {i:Nat} {old:Array A9} {t T:D3} {d:TypeDesc} {cs:Array A9} {p:Nat} (hb:bs[i]?=some (old,t)) (l:old.size=cs.size) (g:(P.info? T).map (·.size)=some cs.size) (c:cs.all (·.oneCell')) (o:P.underlying T=some d) (hd:(match d with | .struct _ | .array _ _=>true | _=>false)=true) (e:fn.results=#[.cell p T]) (hx:(λ(y:Bool × List KI × Fr)=>(y.1,Em n y.2.2 y.2.1,xr y.2.2 y.2.1,iw (n7 y.2.2 y.2.1))) (be P (lH w.heap.size bs) H n true m k F).1=(false,some (do Instr.storeAt T (.p (w.heap.size+i) 0) (.agg cs);pure Next.skip),false,true)) (he:(be P (lH w.heap.size bs) H n true m k F).2.map Prod.fst=(be P (lH w.heap.size bs) H n true m k F).2.map Prod.snd) (hy:∀ X,(λ(z:(Bool × List KI × Fr) × List (Oe × Oe))=>(z.1.1,(lk z.1.2.2 p).map Prod.fst,z.2.map Prod.fst)) (be P [] ({}:Hn P (λx=>x=X) (λx=>x=X)) n false m (n7 (be P (lH w.heap.size bs) H n true m k F).1.2.2 (be P (lH w.heap.size bs) H n true m k F).1.2.1) (pV (be P (lH w.heap.size bs) H n true m k F).1.2.2 (be P (lH w.heap.size bs) H n true m k F).1.2.1 undef 0))=(true,some (.p (w.heap.size+i) 0),(be P [] ({}:Hn P (λx=>x=X) (λx=>x=X)) n false m (n7 (be P (lH w.heap.size bs) H n true m k F).1.2.2 (be P (lH w.heap.size bs) H n true m k F).1.2.1) (pV (be P (lH w.heap.size bs) H n true m k F).1.2.2 (be P (lH w.heap.size bs) H n true m k F).1.2.1 undef 0)).2.map Prod.snd)) (h:∀ V,Bw w V->Rs (.returned (.agg cs)) V):Wg P (Bs w bs) (C5 P fn Rs) n k F W:=by simp only [Prod.mk.injEq] at hx hy;refine ae Bs.eng H m hS (hret:=hx.1) (he:=he) λq f=>?_;have b:=f.1 i _ hb;refine bE (hx:=hx.2.1) (av b g l c) (hS:=gi hx.2.2.1) ?_;refine ix (R:=[]) trivial {} m (hx:=by rw [hx.2.2.2,(hy _).1]) (he:=(hy _).2.2) λa j=>⟨_,D1 e _ _ _ _ _ _ _ (j.slot (hy _).2.1) (D8 _ _ _ _ _ _ b) o hd g,h _ (aK f.2 ab _)⟩
theorem qR {bs:List Nat} (h:Bw w B) (k:Ag bs B r) (hb:∀ x ∈ bs,w.heap.size<=x):Bw w r :=
 ⟨k.os.trans h.os,k.tape.trans h.tape,k.output.trans h.output,Nat.le_trans h.size k.size,λi d=>(k.block i (Nat.lt_of_lt_of_le d h.size) λe=>by have:=hb i e;omega).trans (h.block i d)⟩
theorem tF (h:(2:Int)^y=j):f.fdiv (2^y)=f/j:=by subst h;exact Int.fdiv_eq_ediv_of_nonneg _ (Int.le_of_lt (Int.pow_pos ab))
theorem UB {α:Type} (a b:Bool) (x y:α):(if (a||b)=true then x else y)=if a=true then x else if b=true then x else y:=by cases a<;>rfl
noncomputable abbrev wD:D4:=nV (fW (nV (nV (au 5 (aM Tryz.f114)))))
noncomputable abbrev wT (R:Act->A5->Prop):List KI:=[.blk 1,.code (au 1 (nV (nV (au 5 (aM Tryz.f114))))),.fin R,.blk 0]
abbrev wR (V:Fd) (w:A5):G1->A5->Prop:=λe a=>e=.returned (.agg V.cells)/\Bw w a
abbrev wB:List (Array A9 × D3):=[(jx,169)]
noncomputable abbrev wW (V:Fd) (w:A5) (k:List KI) (F:Fr) (W:A5):Prop:=Wg prog (Bs w wB) (C5 prog Tryz.f114 (wR V w)) Tryz.f114.ntmps k F W
abbrev wF (ra:Option C6) (n rcap b off cap:Nat) (p va kind:Int) (w:A5) (L:Fr):Fr:=(0,.slice ra n rcap,0)::(1,.slice (some ⟨b,off,none⟩) 22 cap,0)::(2,.i p,0)::(3,.u va,0)::(4,.i kind,0)::(10,.p w.heap.size 0,1)::L
abbrev wL (lv:Nat) (X e:Int) (L:Fr):Fr:=(12,.u lv,0)::(13,.u X,0)::(14,.u e,0)::(15,.u (aw e 1),0)::(16,.u (aw e 2),0)::(17,.u (aw e 3),0)::(18,.u (fu e),0)::L
section
variable {ra : Option C6} {n rcap : Nat} {zs : List Int} {b off cap : Nat} {l : List Int} {p va kind : Int} {w : A5} {V : Fd} {R : Act -> A5 -> Prop} {X e : Int} {lv : Nat}
variable (FT : ∀ W, A8 Tryz.prog 127 #[.int .i64 kind] W λe w' => e = .returned (.agg (gc kind).cells) /\ T3 W.heap.size W w')
variable (PG : ∀ W, A8 Tryz.prog 126 #[.int .i64 kind] W λe w' => e = .returned (.agg (ch kind).cells) /\ T3 W.heap.size W w')
variable (hlz : l.length = 22) (hl : Sl .u64 w (some ⟨b, off, none⟩) l)
include FT hlz hl in
theorem JD {W:A5} (P:lv<=2) (s:Bs w wB W) (m:V=if (cW e kind != e)=true then (if aJ l 1 X (bu X 8) 3 4 0=true then ⟨gS e va lv,0,true,X,cW e kind⟩ else gc kind) else ⟨gS e va lv,0,false,0,0⟩):wW V w (.code (au 12 wD)::wT R) (wF ra n rcap b off cap p va kind w [(12,.u lv,0),(13,.u X,0),(14,.u e,0),(18,.u (fu e),0)]) W:=by
 obtain ⟨L,J⟩:∃ L,gS e va lv=L:=⟨_,rfl⟩
 rw [J] at m
 have N:∀ W,Bs w wB W->Wg prog (Bs w wB) (C5 prog Tryz.f114 (wR V w)) Tryz.f114.ntmps (.ops (RC (fW (au 13 wD))) (((RC (fW (au 13 wD))).toList).drop 9)::.code (au 14 wD)::wT R) (wF ra n rcap b off cap p va kind w [(13,.u X,0),(14,.u e,0),(216,.agg #[.u L,.i 0,.bool false,.u 0,.u 0],0)]) W:=by
  intro W s
  refine dt 2 (ct (T:=169) (z:=.agg jx) ba W) ?_
  have K:=s.1 0 _ rfl
  have I:w.heap.size<W.heap.size:=(S2.1 K).1
  have g:Bw w (W.alloc (.cells jx 169)):=s.2.alloc s.2.size _
  have F:Iv [w.heap.size,W.heap.size] (W.alloc (.cells jx 169)) [⟨w.heap.size,jx,[]⟩,⟨W.heap.size,jx,[]⟩] (W.alloc (.cells jx 169)):=⟨λr o=>by
   simp only [I4,K0,or_false] at o
   rcases o with rfl|rfl
   ·exact ⟨_,(R8 _ _ _ I).trans K⟩
   ·exact ⟨_,D2 _ _⟩,Ag.refl _ _,di,bv⟩
  have j:∀ x ∈ [w.heap.size,W.heap.size],w.heap.size<=x:=by simp;omega
  refine aL (λ_=>True) ?_
  show Wg _ _ _ _ _ _ (W.alloc (.cells jx 169))
  generalize W.heap.size=h at F j ⊢
  generalize W.alloc (.cells jx 169)=G at F g ⊢
  have u:∀ (f:Fd) (i:A5) (a:Act) {G:A5} (g:Bw w G) (L:List Rw),V=f->Iv [w.heap.size,h] G (⟨w.heap.size,f.cells,[]⟩::L) i->a.tmps.getD 10 undef=.p w.heap.size 0->∃ v,(results Tryz.f114 a.tmps).run prog i=.ok v i/\wR V w (.returned v) i:=λf i a G g L O d Q=>by
   obtain ⟨t,C⟩:=d.rows _ (List.mem_cons_self ..)
   exact ⟨_,D1 results114 _ _ _ _ _ _ _ Q C underlying169 rfl ba,by rw [O],qR g d.ag j⟩
  obtain ⟨z,c⟩:∃ z,cW e kind=z:=⟨_,rfl⟩
  rw [c] at m
  obtain ⟨q,M⟩:∃ q,aJ l 1 X (bu X 8) 3 4 0=q:=⟨_,rfl⟩
  rw [M] at m
  cases d:(kind==3)<;>(
   unfold cW at c
   rw [d] at c
   first | rw [JZ8 rfl] at c | rw [JZ9 bc] at c)
  all_goals
   cases k:(z != e) with
   | false =>
     rw [k,JZ9 bc] at m
     exact iS F {eq:=[(220,an d),(225,an k)]} 100 (R1:=[⟨w.heap.size,#[.u L,.i 0,.bool false,.u 0,.u 0],[]⟩,⟨h,#[.u L,.i 0,.bool false,.u 0,.u 0],[]⟩]) (hx:=i4) (he:=i4) λi a d B=>u _ i a g _ m d (B.slot i4)
   | true =>
     rw [k,JZ8 rfl] at m
     refine fK F {eq:=[(220,an d),(225,an k)]} 100 (R1:=[⟨w.heap.size,jx,[]⟩,⟨h,#[.u L,.i 0,.bool false,.u 0,.u 0],[]⟩]) (λi d=>mF (some ⟨b,off,none⟩) cap l 1 X 8 3 i hlz (hl.below (qR g d.ag j))) (hx:=i4) (he:=i4) λi e3 S d o=>⟨.bool q,0,by rw [o.1,M],?_⟩
     rw [o.2]
     have A:=qR g d.ag j
     have y:Iv [w.heap.size,h] i [⟨w.heap.size,jx,[]⟩,⟨h,#[.u L,.i 0,.bool false,.u 0,.u 0],[]⟩] i:=⟨d.rows,Ag.refl _ _,d.sub,d.nd⟩
     cases q with
     | true=>exact iS y {} 100 (R1:=[⟨w.heap.size,#[.u L,.i 0,.bool true,.u X,.u z],[]⟩,⟨h,#[.u L,.i 0,.bool true,.u X,.u z],[]⟩]) (hx:=i4) (he:=i4) λD a k B=>u _ D a A _ m k (B.slot i4)
     | false =>
       refine fK y {} 100 (R1:=[⟨w.heap.size,jx,[]⟩,⟨h,#[.u L,.i 0,.bool false,.u 0,.u 0],[]⟩]) (λi d=>FT i) (hx:=i4) (he:=i4) λD e4 U k o=>⟨.agg (gc kind).cells,0,o.1,?_⟩
       have E:=k.below o.2
       have H:=qR A E.ag j
       exact iS (bs:=[w.heap.size,h]) (R:=[⟨w.heap.size,jx,[]⟩,⟨h,#[.u L,.i 0,.bool false,.u 0,.u 0],[]⟩]) ⟨E.rows,Ag.refl _ _,E.sub,E.nd⟩ {} 100 (R1:=[⟨w.heap.size,(gc kind).cells,[]⟩,⟨h,#[.u L,.i 0,.bool false,.u 0,.u 0],[]⟩]) (hx:=i4) (he:=i4) λD a k B=>u _ D a H _ m k (B.slot i4)
 obtain rfl|rfl|rfl:lv=0\/lv=1\/lv=2:=ab
 all_goals exact ae Bs.eng {eq:=[(215,cR .u64 J)]} 20 s λW s=>af _ _ (N W s)
include FT PG hlz hl in
theorem JE {W:A5} (r:lv<=2) (d:Bs w wB W) (a:V=du l p va kind e X lv):wW V w (.code (au 9 wD)::wT R) (wF ra n rcap b off cap p va kind w (wL lv X e [])) W:=by
 obtain ⟨G,t,s,j,o⟩:=hl 0 ab
 simp only [Option.some.injEq,Addr.mk.injEq,and_true] at s
 obtain ⟨rfl,rfl⟩:=s
 have o:∀ W,Bs w wB W->W.cell? ⟨b,off,none⟩=some (.u (l.getD 0 0)):=λW d=>(d.2.cell (by exact j)).trans o
 have q:∀ (x:Int) (i:Nat),i<64->∀ W,Bw w W->CE 88 #[.u x,.u i] W (.u (aw x i)):=λx i y W _=>gY x i y W
 unfold du hZ ic at a
 simp only [UB] at a
 generalize v:(if (cW e kind != e)=true then (if aJ l 1 X (bu X 8) 3 4 0=true then ⟨gS e va lv,0,true,X,cW e kind⟩ else gc kind) else ⟨gS e va lv,0,false,0,0⟩)=Y at a
 have E:∀ c W,Bs w wB W->(V=if c=true then ch kind else Y)->wW V w (.code (au 1 (nV (au 1 (nV (au 1 (nV (au 1 (nV (au 1 (nV (au 1 (nV (fW (au 11 wD))))))))))))))::.blk 2::.code (au 12 wD)::wT R) (wF ra n rcap b off cap p va kind w (wL lv X e [(20,.u (aw e 4),0),(183,.bool c,0)])) W:=by
  intro c W d a
  cases c with
  | true=>rw [JZ8 rfl] at a;exact nW (i:=0) (cs:=(ch kind:Fd).cells) d {cv:=[(202,fM λW _=>PG W)]} 20 rfl rfl ba (lM _) underlying169 rfl results114 ba ba (λ_=>ba) λW h=>⟨by rw [a],h⟩
  | false =>
    rw [JZ9 bc] at a
    rw [<- v] at a
    exact ae Bs.eng {} 3 d λW d=>af _ _ (JD (ra:=ra) (n:=n) (rcap:=rcap) (cap:=cap) (p:=p) (R:=R) FT hlz hl r d a)
 have D:∀ c W,Bs w wB W->(V=if c=true then ch kind else if ((p==1)&&(aw e 4==1)&&((kind==1)||(aw (l.getD 0 0) 18==0)))=true then ch kind else Y)->wW V w (.code (au 1 (nV (au 1 (nV (au 1 (nV (au 1 (nV (au 1 (nV (fW (au 11 wD))))))))))))::.blk 2::.code (au 12 wD)::wT R) (wF ra n rcap b off cap p va kind w (wL lv X e [(20,.u (aw e 4),0),(174,.bool c,0)])) W:=by
  intro c W d a
  cases c with
  | true=>rw [JZ8 rfl] at a;exact nW (i:=0) (cs:=(ch kind:Fd).cells) d {cv:=[(182,fM λW _=>PG W)]} 20 rfl rfl ba (lM _) underlying169 rfl results114 ba ba (λ_=>ba) λW h=>⟨by rw [a],h⟩
  | false =>
    rw [JZ9 bc] at a
    obtain ⟨c,f⟩:∃ c,c=((p==1)&&(aw e 4==1)&&((kind==1)||(aw (l.getD 0 0) 18==0))):=⟨_,rfl⟩
    rw [<- f] at a
    cases t0:(p==1)<;>cases g:(aw e 4==1)<;>cases k:(kind==1)<;>cases m:(aw (l.getD 0 0) 18==0)<;>(
     rw [t0,g,k,m] at f
     subst f
     exact ae Bs.eng {eq:=[(185,an t0),(188,an g),(192,an k),(198,an m)],ov:=[(196,iP ⟨b,off,none⟩ _ underlying24 rfl o)],cv:=[(197,nt (q (l.getD 0 0) 18 ab))]} 22 d λW d=>af _ _ (E _ W d a))
 have C:∀ c W,Bs w wB W->(V=if c=true then ch kind else if ((p==0)&&(aw e 4==0))=true then ch kind else if ((p==1)&&(aw e 4==1)&&((kind==1)||(aw (l.getD 0 0) 18==0)))=true then ch kind else Y)->wW V w (.code (au 1 (nV (au 1 (nV (au 1 (nV (au 1 (nV (fW (au 11 wD))))))))))::.blk 2::.code (au 12 wD)::wT R) (wF ra n rcap b off cap p va kind w (wL lv X e [(20,.u (aw e 4),0),(165,.bool c,0)])) W:=by
  intro c W d a
  cases c with
  | true=>rw [JZ8 rfl] at a;exact nW (i:=0) (cs:=(ch kind:Fd).cells) d {cv:=[(173,fM λW _=>PG W)]} 20 rfl rfl ba (lM _) underlying169 rfl results114 ba ba (λ_=>ba) λW h=>⟨by rw [a],h⟩
  | false =>
    rw [JZ9 bc] at a
    obtain ⟨c,f⟩:∃ c,c=((p==0)&&(aw e 4==0)):=⟨_,rfl⟩
    rw [<- f] at a
    cases t0:(p==0)<;>cases g:(aw e 4==0)<;>(
     rw [t0,g] at f
     subst f
     exact ae Bs.eng {eq:=[(176,an t0),(179,an g)]} 11 d λW d=>af _ _ (D _ W d a))
 have B:∀ c W,Bs w wB W->(V=if c=true then ch kind else if ((kind==3)&&(aw e 2==0))=true then ch kind else if ((p==0)&&(aw e 4==0))=true then ch kind else if ((p==1)&&(aw e 4==1)&&((kind==1)||(aw (l.getD 0 0) 18==0)))=true then ch kind else Y)->wW V w (.code (au 1 (nV (au 1 (nV (au 1 (nV (fW (au 11 wD))))))))::.blk 2::.code (au 12 wD)::wT R) (wF ra n rcap b off cap p va kind w (wL lv X e [(20,.u (aw e 4),0),(145,.bool c,0)])) W:=by
  intro c W d a
  cases c with
  | true=>rw [JZ8 rfl] at a;exact nW (i:=0) (cs:=(ch kind:Fd).cells) d {cv:=[(164,fM λW _=>PG W)]} 20 rfl rfl ba (lM _) underlying169 rfl results114 ba ba (λ_=>ba) λW h=>⟨by rw [a],h⟩
  | false =>
    rw [JZ9 bc] at a
    obtain ⟨c,f⟩:∃ c,c=((kind==3)&&(aw e 2==0)):=⟨_,rfl⟩
    rw [<- f] at a
    cases t0:(kind==3)<;>cases g:(aw e 2==0)<;>(
     rw [t0,g] at f
     subst f
     exact ae Bs.eng {eq:=[(167,an t0),(170,an g)]} 11 d λW d=>af _ _ (C _ W d a))
 have A:∀ c W,Bs w wB W->(V=if c=true then ch kind else if ((kind==2)&&(aw e 1==0)&&((aw e 3==0)||(aw (l.getD 0 0) 19==0)))=true then ch kind else if ((kind==3)&&(aw e 2==0))=true then ch kind else if ((p==0)&&(aw e 4==0))=true then ch kind else if ((p==1)&&(aw e 4==1)&&((kind==1)||(aw (l.getD 0 0) 18==0)))=true then ch kind else Y)->wW V w (.code (au 1 (nV (au 1 (nV (fW (au 11 wD))))))::.blk 2::.code (au 12 wD)::wT R) (wF ra n rcap b off cap p va kind w (wL lv X e [(20,.u (aw e 4),0),(136,.bool c,0)])) W:=by
  intro c W d a
  cases c with
  | true=>rw [JZ8 rfl] at a;exact nW (i:=0) (cs:=(ch kind:Fd).cells) d {cv:=[(144,fM λW _=>PG W)]} 20 rfl rfl ba (lM _) underlying169 rfl results114 ba ba (λ_=>ba) λW h=>⟨by rw [a],h⟩
  | false =>
    rw [JZ9 bc] at a
    obtain ⟨c,f⟩:∃ c,c=((kind==2)&&(aw e 1==0)&&((aw e 3==0)||(aw (l.getD 0 0) 19==0))):=⟨_,rfl⟩
    rw [<- f] at a
    cases t0:(kind==2)<;>cases g:(aw e 1==0)<;>cases k:(aw e 3==0)<;>cases m:(aw (l.getD 0 0) 19==0)<;>(
     rw [t0,g,k,m] at f
     subst f
     exact ae Bs.eng {eq:=[(147,an t0),(150,an g),(154,an k),(160,an m)],ov:=[(158,iP ⟨b,off,none⟩ _ underlying24 rfl o)],cv:=[(159,nt (q (l.getD 0 0) 19 ab))]} 22 d λW d=>af _ _ (B _ W d a))
 have z:∀ c W,Bs w wB W->(V=if c=true then ch kind else if ((kind==1)&&(aw e 3==0))=true then ch kind else if ((kind==2)&&(aw e 1==0)&&((aw e 3==0)||(aw (l.getD 0 0) 19==0)))=true then ch kind else if ((kind==3)&&(aw e 2==0))=true then ch kind else if ((p==0)&&(aw e 4==0))=true then ch kind else if ((p==1)&&(aw e 4==1)&&((kind==1)||(aw (l.getD 0 0) 18==0)))=true then ch kind else Y)->wW V w (.code (au 1 (nV (fW (au 11 wD))))::.blk 2::.code (au 12 wD)::wT R) (wF ra n rcap b off cap p va kind w (wL lv X e [(20,.u (aw e 4),0),(129,.bool c,0)])) W:=by
  intro c W d a
  cases c with
  | true=>rw [JZ8 rfl] at a;exact nW (i:=0) (cs:=(ch kind:Fd).cells) d {cv:=[(135,fM λW _=>PG W)]} 20 rfl rfl ba (lM _) underlying169 rfl results114 ba ba (λ_=>ba) λW h=>⟨by rw [a],h⟩
  | false =>
    rw [JZ9 bc] at a
    obtain ⟨c,f⟩:∃ c,c=((kind==1)&&(aw e 3==0)):=⟨_,rfl⟩
    rw [<- f] at a
    cases t0:(kind==1)<;>cases g:(aw e 3==0)<;>(
     rw [t0,g] at f
     subst f
     exact ae Bs.eng {eq:=[(138,an t0),(141,an g)]} 11 d λW d=>af _ _ (A _ W d a))
 obtain ⟨c,f⟩:∃ c,nE e lv=c:=⟨_,rfl⟩
 rw [f] at a
 obtain rfl|rfl|rfl:lv=0\/lv=1\/lv=2:=ab
 all_goals exact ae Bs.eng {eq:=[(133,an f)],cv:=[(128,nt (q e 4 ab))]} 24 d λW d=>af _ _ (z c W d a)
include FT PG hlz hl in
theorem EW {T:Int} {W:A5} (hr:bf n) (hz:zs.length=n) (hs:Sl .u8 w ra zs) (C:∀ y ∈ zs,(Lit.int .u8 y).wf) (A:lv<=2) (g:Bs w wB W) (d:V=bT zs n l p va kind lv T) (N:∀ a k G,0<lv->V=bT zs n l p va kind (lv-1) G->bU (wF ra n rcap b off cap p va kind w [(11,.u G,0),(12,.u ((lv-1:Nat):Int),0)]) Tryz.f114.ntmps a->Bs w wB k->R a k):wW V w [.code (nV (nV (au 5 (aM Tryz.f114)))),.fin R,.blk 0] (wF ra n rcap b off cap p va kind w [(11,.u T,0),(12,.u lv,0)]) W:=by
 rw [gM] at d
 obtain ⟨X,r⟩:∃ X,bL T va lv=X:=⟨_,rfl⟩
 have H:=tF va (12+9*lv) _ rfl
 have z:0<=X/\X<18446744073709551616:=by rw [<- r];exact Uu _
 obtain ⟨e,J⟩:∃ e,fP zs X=e:=⟨_,rfl⟩
 rw [r,J] at d
 have s:∀ (x:Int) (i:Nat),i<64->∀ W,Bw w W->CE 88 #[.u x,.u i] W (.u (aw x i)):=λx i P W _=>gY x i P W
 have t:∀ W,Bw w W->CE 94 #[.slice ra n rcap,.u X,.i 8] W (.bool (gQ n X 8)):=λW _=>uY ra n rcap X 8 W hr rfl z.1 ab
 have u:∀ W,Bw w W->CE 92 #[.slice (some ⟨b,off,none⟩) 22 cap,.i 1,.u X,.i 8,.i 2] W (.bool (aJ l 1 X (bu X 8) 2 4 0)):=λW m=>mF (some ⟨b,off,none⟩) cap l 1 X 8 2 W hlz (hl.below m)
 have F:∀ c W,Bs w wB W->(V=if c=true then if kY e lv=true then ch kind else bT zs n l p va kind (lv-1) (Uz.wrap (fu e*4096)) else du l p va kind e X lv)->wW V w (.code (au 1 (fW (au 8 wD)))::.code (au 9 wD)::wT R) (wF ra n rcap b off cap p va kind w (wL lv X e [(104,.bool c,0)])) W:=by
  intro c W g d
  cases c with
  | false =>
    rw [JZ9 bc] at d
    exact ae Bs.eng {} 2 g λW g=>af _ _ (JE (ra:=ra) (n:=n) (rcap:=rcap) (cap:=cap) (R:=R) FT PG hlz hl A g d)
  | true =>
    rw [JZ8 rfl] at d
    unfold kY at d
    cases t0:(A6 .and .u64 (e/16) 1==1)<;>cases j:(A6 .and .u64 (e/64) 3 != 0)<;>rw [t0,j] at d<;>obtain rfl|rfl|rfl:lv=0\/lv=1\/lv=2:=ab
    all_goals first
     | (rw [JZ8 (by rfl)] at d
        exact nW (i:=0) (cs:=(ch kind:Fd).cells) g {eq:=[(109,cR .u64 (tF e 4 16 bc)),(115,cR .u64 (tF e 6 64 bc)),(111,an t0),(117,an j)],cv:=[(120,fM λW _=>PG W)]} 60 rfl rfl ba (lM _) underlying169 rfl results114 ba ba (λ_=>ba) λW m=>⟨by rw [d],m⟩)
     | (rw [JZ9 bc] at d
        exact Lk Bs.eng {eq:=[(109,cR .u64 (tF e 4 16 bc)),(115,cR .u64 (tF e 6 64 bc)),(111,an t0),(117,an j)]} 60 g λa k S Q=>N a k _ ab d (Q.less ba) S)
 have E:∀ c W,Bs w wB W->(V=if c=true then ch kind else if mG e=true then if kY e lv=true then ch kind else bT zs n l p va kind (lv-1) (Uz.wrap (fu e*4096)) else du l p va kind e X lv)->wW V w (.code (au 1 (fW (au 6 wD)))::.code (au 7 wD)::wT R) (wF ra n rcap b off cap p va kind w [(12,.u lv,0),(13,.u X,0),(14,.u e,0),(15,.u (aw e 1),0),(16,.u (aw e 2),0),(17,.u (aw e 3),0),(93,.bool c,0)]) W:=by
  intro c W g d
  cases c with
  | true=>rw [JZ8 rfl] at d;exact nW (i:=0) (cs:=(ch kind:Fd).cells) g {cv:=[(95,fM λW _=>PG W)]} 20 rfl rfl ba (lM _) underlying169 rfl results114 ba ba (λ_=>ba) λW m=>⟨by rw [d],m⟩
  | false =>
    rw [JZ9 bc] at d
    obtain ⟨c,o⟩:∃ c,c=mG e:=⟨_,rfl⟩
    rw [<- o] at d
    unfold mG at o
    cases t0:(aw e 1==0)<;>cases j:(aw e 3==0)<;>(
     rw [t0,j] at o
     subst o
     exact ae Bs.eng {eq:=[(97,cR .u64 (tF e 10 1024 bc)),(100,an t0),(103,an j)]} 19 g λW g=>af _ _ (F _ W g d))
 have D:gQ n X 8->∀ W,Bs w wB W->(V=if pQ e=true then ch kind else if mG e=true then if kY e lv=true then ch kind else bT zs n l p va kind (lv-1) (Uz.wrap (fu e*4096)) else du l p va kind e X lv)->wW V w (.code (au 2 wD)::wT R) (wF ra n rcap b off cap p va kind w [(12,.u lv,0),(13,.u X,0)]) W:=by
  intro B W g d
  have M:∀ W,Bw w W->CE 95 #[.slice ra n rcap,.u X,.i 8] W (.u e):=λW m=>by
   have O:=zQ B
   obtain ⟨f,q⟩:∃ f:Nat,X=2147483648+(f:Int):=⟨(X-2147483648).toNat,ab⟩
   have I:=gu hr
   have h:=uZ ra n rcap f 8 zs W hz ab (hs.below m) C ab ab ab
   have e2:le zs f 8=e:=by rw [<- J];unfold fP;rw [q,show (2147483648+(f:Int)-2147483648).toNat=f from ab]
   rw [e2,<- q] at h
   exact h
  obtain ⟨c,o⟩:∃ c,c=pQ e:=⟨_,rfl⟩
  rw [<- o] at d
  unfold pQ at o
  cases t0:(A6 .and .u64 e 1==0)<;>cases j:(aw e 1==0)<;>cases K:(aw e 2==1)<;>cases L:(e/18014398509481984 != 0)<;>(
   rw [t0,j,K,L] at o
   subst o
   exact ae Bs.eng {eq:=[(91,cR .u64 (tF e 54 18014398509481984 bc)),(80,an t0),(83,an j),(86,an K),(92,an L)],cv:=[(71,nt M),(73,nt (s e 1 ab)),(75,nt (s e 2 ab)),(77,nt (s e 3 ab))]} 45 g λW g=>af _ _ (E _ W g d))
 cases t0:gQ n X 8<;>cases j:aJ l 1 X (bu X 8) 2 4 0<;>rw [t0] at t<;>rw [j] at u<;>rw [t0] at d<;>(try rw [j] at d)<;>obtain rfl|rfl|rfl:lv=0\/lv=1\/lv=2:=ab
 all_goals first
  | (rw [JZ8 rfl,JZ8 rfl] at d
     exact ae Bs.eng {eq:=[(53,cR .u64 H),(13,cR .u64 r)],cv:=[(59,nt t),(64,nt u)]} 31 g λW g=>af _ _ (D t0 W g d))
  | (first | rw [JZ8 rfl,JZ9 bc] at d | rw [JZ9 bc] at d
     exact nW (i:=0) (cs:=(gc kind:Fd).cells) g {eq:=[(53,cR .u64 H),(13,cR .u64 r)],cv:=[(68,fM λW _=>FT W),(59,nt t),(64,nt u)]} 60 rfl rfl ba (lM _) underlying169 rfl results114 ba ba (λ_=>ba) λW m=>⟨by rw [d],m⟩)
end
theorem EX (n rcap:Nat) (zs:List Int) (b off cap:Nat) (l:List Int) (p va kind:Int) (w:A5) (hr:bf n) (hz:zs.length=n) (hs:Sl .u8 w s zs) (t:∀ y ∈ zs,(Lit.int .u8 y).wf) (hlz:l.length=22) (hl:Sl .u64 w (some ⟨b,off,none⟩) l) (K:bZ p) (k:1<=kind) (m:kind<=3) (G:0<=va/\va<18446744073709551616): CB 114 #[.slice s n rcap,.slice (some ⟨b,off,none⟩) 22 cap,.i p,.u va,.i kind] w (.agg (cj zs n l p va kind).cells):=by
 have FT:=Cg kind k m;have PG:=ES kind k m;obtain ⟨I,z,v,h,c⟩:=hl 15 ab;simp only [Option.some.injEq,Addr.mk.injEq,and_true] at v;obtain ⟨rfl,rfl⟩:=v;have c:∀ W,Bs w wB W->W.cell? ⟨b,off+15,none⟩=some (.u (l.getD 15 0)):=λW f=>(f.2.cell (by exact h)).trans c;have u:∀ W,Bw w W->CE 101 #[.u va,.u 39] W (.u (ay 39 va)):=λW _=>ei va 39 ab ab W;obtain ⟨V,d⟩:∃ V,V=cj zs n l p va kind:=⟨_,rfl⟩;rw [<- d];unfold cj at d;refine br (S:=Bs w wB) (args:=[.slice s n rcap,.slice (some ⟨b,off,none⟩) 22 cap,.i p,.u va,.i kind]) wB func114 ?_;have f:=Bs.start w wB;have g:=tF (l.getD 15 0) 60 1152921504606846976 bc;generalize bP w wB=W at f ⊢;cases t0:(p==3)<;>cases q:(l.getD 15 0/1152921504606846976==0)<;>rw [t0,q] at d;all_goals try (rw [JZ8 (by rfl)] at d;exact nW (i:=0) (cs:=(⟨va,0,false,0,0⟩:Fd).cells) f {eq:=[(30,cR .u64 g),(25,an t0),(31,an q)],ov:=[(29,iP ⟨b,off+15,none⟩ _ underlying24 rfl c)]} 60 rfl rfl ba (lM _) underlying169 rfl results114 ba ba (λ_=>ba) λW ra=>⟨by rw [d],ra⟩)
 rw [JZ9 bc] at d;cases r:(ay 39 va != va);case true=>rw [r,JZ8 rfl] at d;exact nW (i:=0) (cs:=(ch kind:Fd).cells) f {eq:=[(30,cR .u64 g),(25,an t0),(31,an q),(38,an r)],ov:=[(29,iP ⟨b,off+15,none⟩ _ underlying24 rfl c)],cv:=[(40,fM λW _=>PG W),(36,nt u)]} 60 rfl rfl ba (lM _) underlying169 rfl results114 ba ba (λ_=>ba) λW ra=>⟨by rw [d],ra⟩
 rw [r,JZ9 bc] at d;refine ae Bs.eng {eq:=[(30,cR .u64 g),(25,an t0),(31,an q),(38,an r)],ov:=[(29,iP ⟨b,off+15,none⟩ _ underlying24 rfl c),(43,iP ⟨b,off+15,none⟩ _ underlying24 rfl c)],cv:=[(36,nt u)]} 100 f λW f=>af [.code (nV (au 5 (aM Tryz.f114))),.blk 0] (wF s n rcap b off cap p va kind w [(11,.u (n9 l),0),(12,.u ((2:Nat):Int),0)]) ?_;refine gJ (α:=Nat × Int) (λx=>wF s n rcap b off cap p va kind w [(11,.u x.2,0),(12,.u (x.1:Int),0)]) (λj x W=>j=x.1/\x.1<=2/\V=bT zs n l p va kind x.1 x.2/\Bs w wB W) 2 (2,n9 l) ba ba ⟨rfl,R5 _,d,f⟩ λj x W D R E=>?_;obtain ⟨rfl,C,d,f⟩:=D;exact EW FT PG hlz hl hr hz hs t C f d λa o A J B F H=>E a o (x.1-1) (x.1-1,A) ab F ⟨rfl,by show x.1-1<=2;omega,B,H⟩
theorem mI:U (cW f g):=by
 unfold cW;split;·exact ah _ _ _
 ·exact ah _ _ _
theorem yG (h:(du Q f g j z C F).marked):(du Q f g j z C F).at_=C/\U (du Q f g j z C F).entry:=by
 unfold du at h ⊢;split at h;·cases h
 ·rename_i a;split at h;·cases h
  ·rename_i b;split at h;·cases h
   ·rename_i c;rw [JZ9 a,JZ9 b,JZ9 c];split at h
    ·rename_i d;rw [JZ8 d];split at h;·rename_i p;rw [JZ8 p];exact ⟨rfl,mI z j⟩
     ·cases h
    ·cases h
theorem EY (va kind:Int):∀ lv T,(bT Q y d j va kind lv T).marked->gQ y (bT Q y d j va kind lv T).at_ 8/\U (bT Q y d j va kind lv T).entry:=by
 intro lv;induction lv with
 | zero =>
   intro T h;rw [bT] at h ⊢;split at h
   ·rename_i a;rw [JZ8 a];split at h
    ·rename_i l;rw [JZ8 l];split at h;·cases h
     ·rename_i e;rw [JZ9 e];split at h;·cases h
      ·rename_i b;rw [JZ9 b];obtain ⟨c,e2⟩:=yG _ _ _ _ _ _ _ h;rw [c];exact ⟨a,e2⟩
    ·cases h
   ·cases h
 | succ lv g =>
   intro T h;rw [bT] at h ⊢;split at h
   ·rename_i a;rw [JZ8 a];split at h
    ·rename_i l;rw [JZ8 l];split at h;·cases h
     ·rename_i e;rw [JZ9 e];split at h
      ·rename_i b;rw [JZ8 b];split at h;·cases h
       ·rename_i f;rw [JZ9 f];exact g _ h
      ·rename_i b;rw [JZ9 b];obtain ⟨c,e2⟩:=yG _ _ _ _ _ _ _ h;rw [c];exact ⟨a,e2⟩
    ·cases h
   ·cases h
theorem JF (h:(cj Q y d j z C).marked):gQ y (cj Q y d j z C).at_ 8/\U (cj Q y d j z C).entry:=by
 unfold cj at h ⊢;split at h;·cases h
 ·rename_i a;rw [JZ9 a];split at h;·cases h
  ·rename_i b;rw [JZ9 b];exact EY _ _ _ _ _ _ _ _ h
def jp (kind:Int):Bool:=decide (1<=kind/\kind<=3)
def nG (n m:Nat) (l:List Int) (p kind:Int):Bool:=bf n&&bm m l p&&jp kind
def GW (zs:List Int) (n m:Nat) (l:List Int) (p va kind:Int):Int:=if nG n m l p kind=true then (cj zs n l p va kind).addr else 0
def GX (zs:List Int) (n m:Nat) (l:List Int) (p va kind:Int):Int:=if nG n m l p kind=true then (cj zs n l p va kind).code else if jp kind=true then dI kind else 1
def bz (zs:List Int) (f:Fd):List Int:=if f.marked=true then kU zs (f.at_-2147483648).toNat f.entry 8 else zs
def vI (zs:List Int) (n m:Nat) (l:List Int) (p va kind:Int):List Int:=if nG n m l p kind=true then bz zs (cj zs n l p va kind) else []
theorem kB (f:Fd):(bz Q f).length=Q.length:=by
 unfold bz;split;·rw [jA]
 ·rfl
theorem oL {o:Obj} (h:w.heap[A]?=some o) (a:Obj):(w.alloc a).heap[A]?=some o:=(R8 w a A (S2.1 h).1).trans h
theorem EZ (hb:y<=D.heap.size) (o:Obj) (a:o=.cells #[] 5 (0,0)):(D.alloc o).ownsRow y 5 1 (.slice (some ⟨D.heap.size,0,none⟩) 0 0) 0 (([]:List Int).map (I1 .u8)):=by subst a;exact World.ownsRow_lit D #[] 0 hb fb rfl
def ig (kind:Int):Int:=if kind=1 then 17 else if kind=2 then 21 else 23
def oM (kind:Int):Int:=if kind=1 then 16 else if kind=2 then 20 else 22
def bN (M:MV) (R:List Int):MV:=⟨M.pc,M.x,M.pr,M.cs,R,M.d,M.hd,M.hl,M.wt⟩
def bW (M:MV) (D:DV):MV:=⟨M.pc,M.x,M.pr,M.cs,M.ram,D,M.hd,M.hl,M.wt⟩
def lP (M:MV):MV:=⟨M.pc,M.x,M.pr,M.cs,M.ram,M.d,0,false,M.wt⟩
def lQ (M:MV) (pa:Int):Bool:=M.hl&&(A6 .andNot .u64 M.hd 7==A6 .andNot .u64 pa 7)
def oa (M:MV) (pa:Int):MV:=if lQ M pa=true then lP M else M
def tG (M:MV) (pa size kind x:Int):Int × MV × Int :=
 if gQ M.ram.length pa size=true then
  (if (kind==3)=true then (0,oa (bN M (kU M.ram (pa-2147483648).toNat x size.toNat)) pa,0) else (le M.ram (pa-2147483648).toNat size.toNat,M,0))
 else if (kind==2)=true then
  (if (jz M.d (gF pa size)).2.2=true then ((jz M.d (gF pa size)).1,bK (bW M (jz M.d (gF pa size)).2.1),0) else (0,M,ig kind))
 else if (kind==3)=true then
  (if (fU M.d x (gF pa size)).2=true then (0,oa (bK (bW M (fU M.d x (gF pa size)).1)) pa,0) else (0,M,ig kind))
 else (0,M,ig kind)
def JG (l:List Int) (p pa size kind:Int):Bool:=decide (bu pa size<pa)||!aJ l p pa (bu pa size) kind 4 0
def zX (M:MV) (p addr size kind x:Int) (F:Fd):Int × MV × Int :=
 if (F.code != 0)=true then (0,bN M (bz M.ram F),S5 (F.code+16))
 else if JG M.cs p F.addr size kind=true then (0,bN M (bz M.ram F),ig kind)
 else tG (bN M (bz M.ram F)) F.addr size kind x
def aH (M:MV) (addr size kind x:Int):Int × MV × Int :=
 if (addr%size != 0)=true then (0,M,oM kind)
 else zX M (gg M.cs M.pr kind) addr size kind x (cj M.ram M.ram.length M.cs (gg M.cs M.pr kind) addr kind)
theorem bj.sub (h:bj A M w n) (hs:k.Sublist n):bj A M w k :=
 ⟨λq a=>h.own q (hs.subset a),λq a=>h.hi q (hs.subset a),h.ne.sublist hs⟩
theorem bj.ins {E':Nat} (h:bj A M w (n++k)) (g:w.ownsRow M q.t 1 q.v q.n q.xs) (i:A<=M) (j:w.heap.size<=E') (l:M<=E'):bj A E' w (n++q::k):=by
 have b:=L0.1 h.ne;have c:∀ s ∈ n++k,∀ L2,s.v.ownBlock=some L2->L2<M:=λs a L2 e=>h.hi s a L2 e;have f:∀ L2,q.v.ownBlock=some L2->M<=L2/\L2<w.heap.size:=λL2 e=>g.lt L2 e;refine ⟨λs a=>?_,λs a L2 e=>?_,L0.2 ⟨b.1,List.pairwise_cons.2 ⟨λs a L2 e e2=>?_,b.2.1⟩,λs a t d L2 e e2=>?_⟩⟩
 ·rcases I5.1 a with a|a;·exact h.own s (L6 _ a)
  ·rcases I4.1 a with rfl|a;·exact cQ g i
   ·exact h.own s (K1 _ a)
 ·rcases I5.1 a with a|a;·have:=c s (L6 _ a) L2 e;omega
  ·rcases I4.1 a with rfl|a;·have:=f L2 e;omega
   ·have:=c s (K1 _ a) L2 e;omega
 ·have:=f L2 e;have:=c s (K1 _ a) L2 e2;omega
 ·rcases I4.1 d with rfl|d;·have:=f L2 e2;have:=c s (L6 _ a) L2 e;omega
  ·exact b.2.2 s a t d L2 e e2
theorem bj.app {E':Nat} (h:bj A M w n) (b:bj M E' w k) (c:A<=M) (f:M<=E'):bj A E' w (n++k):=by
 refine ⟨λs a=>?_,λs a L2 e=>?_,L0.2 ⟨h.ne,b.ne,λs a t d L2 e e2=>?_⟩⟩
 ·rcases I5.1 a with a|a;·exact h.own s a
  ·exact cQ (b.own s a) c
 ·rcases I5.1 a with a|a;·have:=h.hi s a L2 e;omega
  ·exact b.hi s a L2 e
 ·have:=h.hi s a L2 e;have:=((b.own t d).lt L2 e2).1;omega
def jG (A:MA) (a:Option C6) (b:Nat) (b2:Option C6) (c:Nat):MA:=⟨A.ax,A.cx,A.ac,A.cc,A.ar,A.cr,a,b,b2,c⟩
theorem GY (h:bj A w.heap.size w (aF x l)) (i:A<=w.heap.size) (hb:Bw w B) (D:DV) {d:Option C6} {e:Nat} {b2:Option C6} {f:Nat} (hr:fE w B l.ai l.ci x.d.xs l.ao l.co x.d.ys d e D.xs b2 f D.ys):bj A B.heap.size B (aF (bW x D) (jG l d e b2 f)):=by
 have c:=h.below hb;rcases hr with ⟨⟨rfl,rfl,g⟩,rfl,rfl,e2⟩|⟨a,rfl,rfl,e2⟩|⟨⟨rfl,rfl,g⟩,a⟩|a;·unfold aF bW jG;dsimp only;rw [g,e2];exact c.low (R5 _) hb.size
 ·have b:bj A w.heap.size B ([aG l.ax x.x.length l.cx x.x,aG l.ac x.cs.length l.cc x.cs,aE l.ar x.ram.length l.cr x.ram]++[aE l.ao x.d.ys.length l.co x.d.ys]):=c.sub (by unfold aF;simp);unfold aF bW jG;dsimp only;rw [e2];exact b.ins (q:=aE d D.xs.length e D.xs) a i (R5 _) hb.size
 ·have b:bj A w.heap.size B ([aG l.ax x.x.length l.cx x.x,aG l.ac x.cs.length l.cc x.cs,aE l.ar x.ram.length l.cr x.ram,aE l.ai x.d.xs.length l.ci x.d.xs]++[]):=c.sub (by unfold aF;simp);unfold aF bW jG;dsimp only;rw [g];exact b.ins (q:=aE b2 D.ys.length f D.ys) a i (R5 _) hb.size
 ·have b:bj A w.heap.size B [aG l.ax x.x.length l.cx x.x,aG l.ac x.cs.length l.cc x.cs,aE l.ar x.ram.length l.cr x.ram]:=c.sub (by unfold aF;simp);exact b.app a i hb.size
theorem GZ {g:Option C6} {i:Nat} {b2:Option C6} {j:Nat} (hr:fE w B l.ai l.ci x.d.xs l.ao l.co x.d.ys g i m.xs b2 j m.ys):∀ q ∈ aF (bW x m) (jG l g i b2 j),∀ k,q.v.ownBlock=some k->k<w.heap.size->∃ q0 ∈ aF x l,q0.v.ownBlock=some k:=by
 intro q D k e c;simp only [aF,bW,jG,I4,K0,or_false] at D;have f:∀ (b:Option C6) (d:Nat) (zs:List Int),B.ownsRow w.heap.size 5 1 (.slice b zs.length d) zs.length (zs.map (I1 .u8))->∀ k,(I2 b zs.length d).ownBlock=some k->k<w.heap.size->False:=λb d zs h k e c=>by have:=(h.lt k e).1;omega
 have m4:aE l.ai x.d.xs.length l.ci x.d.xs ∈ aF x l:=ef
 have n:aE l.ao x.d.ys.length l.co x.d.ys ∈ aF x l:=ef
 rcases D with rfl|rfl|rfl|rfl|rfl;·exact ⟨_,ef,e⟩
 ·exact ⟨aG l.ac x.cs.length l.cc x.cs,ef,e⟩
 ·exact ⟨aE l.ar x.ram.length l.cr x.ram,ef,e⟩
 ·rcases hr with ⟨⟨rfl,rfl,A⟩,_⟩|⟨a,_⟩|⟨⟨rfl,rfl,A⟩,_⟩|a;·rw [A] at e;exact ⟨_,m4,e⟩
  ·exact (f _ _ _ a k e c).elim
  ·rw [A] at e;exact ⟨_,m4,e⟩
  ·exact (f _ _ _ (a.own (aE g m.xs.length i m.xs) tk) k e c).elim
 ·rcases hr with ⟨_,rfl,rfl,e2⟩|⟨_,rfl,rfl,e2⟩|⟨_,a⟩|a;·rw [e2] at e;exact ⟨_,n,e⟩
  ·rw [e2] at e;exact ⟨_,n,e⟩
  ·exact (f _ _ _ a k e c).elim
  ·exact (f _ _ _ (a.own (aE b2 m.ys.length j m.ys) tk) k e c).elim
def G4 (w:A5) (r:Nat) (D:DV) (a:Option C6) (b:Nat) (b2:Option C6) (c:Nat):World:=(((((w.setCell ⟨r,5,none⟩ (.u D.t)).setCell ⟨r,6,none⟩ (.u D.cm)).setCell ⟨r,7,none⟩ (.bool D.so)).setCell ⟨r,8,none⟩ (.slice a D.xs.length b)).setCell ⟨r,9,none⟩ (.slice b2 D.ys.length c)).setCell ⟨r,10,none⟩ (.i D.ir)
theorem Kx.put6r (b2:Option C6) (c:Nat):Kx A n n D (G4 D A m s y b2 c):=
 (((((Kx.set D 5 _).trans (Kx.set _ 6 _)).trans (Kx.set _ 7 _)).trans (Kx.set _ 8 _)).trans (Kx.set _ 9 _)).trans (Kx.set _ 10 _)
theorem Mp.fam_set (h:bj A w.heap.size w n) (b:∀ q ∈ n,q.v.ownBlock≠some M) (i:Nat) (v:A9):bj A (w.setCell ⟨M,i,none⟩ v).heap.size (w.setCell ⟨M,i,none⟩ v) n :=
 ⟨λq a=>dQ (h.own q a) (λk e=>R6 w ⟨M,i,none⟩ v k (λe2=>b q a (by rw [show M=k from e2.symm];exact e))),λq a k e=>by rw [aO];exact h.hi q a k e,h.ne⟩
theorem Mp.dev (h:Mp A M x l w) (hb:Bw w B) (D:DV) {b:Option C6} {c:Nat} {b2:Option C6} {d:Nat} (hr:fE w B l.ai l.ci x.d.xs l.ao l.co x.d.ys b c D.xs b2 d D.ys):Mp A M (bW x D) (jG l b c b2 d) (G4 B M D b c b2 d)/\Kx M (aF x l) (aF (bW x D) (jG l b c b2 d)) w (G4 B M D b c b2 d):=by
 have g:=h.lt;have p:A<=w.heap.size:=by have:=h.lo;omega
 have f:=GZ D hr;have a:∀ q ∈ aF (bW x D) (jG l b c b2 d),q.v.ownBlock≠some M:=λq u e=>by obtain ⟨r,o,n⟩:=f q u M e g;exact h.ne r o n
 have s:=GY h.fam p hb D hr;refine ⟨⟨?_,?_,a,h.lo⟩,?_⟩;·have i:=aD hb h.row;unfold ak at i;have R1:=bH i 5 (.u D.t);have R2:=bH R1 6 (.u D.cm);have j:=bH R2 7 (.bool D.so);have w':=bH j 8 (.slice b D.xs.length c);have m:=bH w' 9 (.slice b2 D.ys.length d);exact bH m 10 (.i D.ir)
 ·exact Mp.fam_set (Mp.fam_set (Mp.fam_set (Mp.fam_set (Mp.fam_set (Mp.fam_set s a 5 _) a 6 _) a 7 _) a 8 _) a 9 _) a 10 _
 ·have v:Kx M (aF x l) (aF (bW x D) (jG l b c b2 d)) w B:=⟨hb.os,hb.tape,hb.output,hb.size,λk t _ _=>hb.block k t,f⟩;exact v.trans (Kx.put6r B D b c b2 d)
theorem vJ (size x:Int) (w:A5) (hl:E.ram.length<=1048576) (p:gQ E.ram.length j size) (u:0<=x) (v:x<=18446744073709551615) (h:Mp y T E L w): A8 prog 55 #[.slice L.ar E.ram.length L.cr,.u j,.i size,.u x] w λe c=>e=.returned (.tuple #[])/\Mp y T (bN E (kU E.ram (j-2147483648).toNat x size.toNat)) L c/\Kx T (aF E L) (aF (bN E (kU E.ram (j-2147483648).toNat x size.toNat)) L) w c:=by
 have O:=ku p;obtain ⟨f,J⟩:∃ f:Nat,f=(j-2147483648).toNat:=⟨_,rfl⟩;obtain ⟨m,K⟩:∃ m:Nat,m=size.toNat:=⟨_,rfl⟩;have M:j=2147483648+(f:Int):=ab
 have F:size=(m:Int):=ab
 have addr:aE L.ar E.ram.length L.cr E.ram ∈ aF E L:=ef
 have C:=h.fam.own _ addr;have l:f+m<=E.ram.length:=ab
 have i:∃ g,L.ar=some ⟨g,0,none⟩:=by
  rcases C.2 with ⟨e,k⟩|⟨B,cap,D,e,_⟩;·have:E.ram.length=0:=k;omega
  ·have e2:I2 L.ar E.ram.length L.cr=.slice (some ⟨B,0,none⟩) E.ram.length cap:=e;injection e2 with e3
   exact ⟨B,e3⟩
 obtain ⟨g,i⟩:=i;have a:(kU E.ram f x m).length=E.ram.length:=jA _ _ _ _;rw [<- J,<- K];rw [M,F];have o:w.ownsRow y 5 1 (.slice (some ⟨g,0,none⟩) E.ram.length L.cr) E.ram.length (E.ram.map (I1 .u8)):=by rw [<- i];exact C
 rw [i];refine (yo g E.ram.length L.cr f m y E.ram x w hl ab l u v o).mono λe c ⟨H,I,z⟩=>⟨H,?_⟩;have n:w.grownBy c (aE L.ar E.ram.length L.cr E.ram).v.ownBlock:=by have e:(aE L.ar E.ram.length L.cr E.ram).v.ownBlock=some g:=(by show (I2 L.ar E.ram.length L.cr).ownBlock=_;rw [i];rfl);rw [e];exact z
 have t:c.ownsRow y 5 1 (aE L.ar E.ram.length L.cr E.ram).v E.ram.length ((kU E.ram f x m).map (I1 .u8)):=by show c.ownsRow y 5 1 (.slice L.ar E.ram.length L.cr) _ _;rw [i];exact I
 have d:=bj.markL (L1:=[aG L.ax E.x.length L.cx E.x,aG L.ac E.cs.length L.cc E.cs]) (L2:=[aE L.ai E.d.xs.length L.ci E.d.xs,aE L.ao E.d.ys.length L.co E.d.ys]) (r:=aE L.ar E.ram.length L.cr E.ram) h.fam n _ t;have b:=i7 (M:=E) (M':=bN E (kU E.ram f x m)) (A:=L) rfl rfl a rfl rfl;have hF:bj y w.heap.size c (aF (bN E (kU E.ram f x m)) L):=by unfold aF bN;dsimp only;rw [a];exact d.1
 refine ⟨⟨?_,hF.low (R5 _) z.size,λq s e=>?_,h.lo⟩,Kx.of_keepL d.2 b⟩;·have A:c.heap[T]?=w.heap[T]?:=d.2.block T h.lt (λq s e=>h.ne q s e);rw [A,h.row];unfold ak bN;dsimp only;rw [a]
 ·obtain ⟨N,G,k⟩:=b q s;exact h.ne N G (by rw [k];exact e)
theorem Mp.xrow (h:Mp A M x l w):w.ownsRow A 24 1 (.slice l.ax x.x.length l.cx) x.x.length (x.x.map (I1 .u64)):=h.fam.own (aG l.ax x.x.length l.cx x.x) ef
theorem Mp.crow (h:Mp A M x l w):w.ownsRow A 24 1 (.slice l.ac x.cs.length l.cc) x.cs.length (x.cs.map (I1 .u64)):=h.fam.own (aG l.ac x.cs.length l.cc x.cs) ef
theorem Mp.rrow (h:Mp A M x l w):w.ownsRow A 5 1 (.slice l.ar x.ram.length l.cr) x.ram.length (x.ram.map (I1 .u8)):=h.fam.own (aE l.ar x.ram.length l.cr x.ram) ef
theorem lC:(Q.map (I1 .u64)).set y (.u j)=(Q.set y j).map (I1 .u64):=by rw [List.map_set]
def xM (M:MV) (xs:List Int):MV:={M with x:=xs}
def cM (M:MV) (cs:List Int):MV:={M with cs:=cs}
theorem Mp.setX (h:Mp A M x l w) (b:Nat) (hb:l.ax=some ⟨b,0,none⟩) (i:Nat) (v:Int):Mp A M (xM x (x.x.set i v)) l (w.setCell ⟨b,i,none⟩ (.u v))/\T3 A w (w.setCell ⟨b,i,none⟩ (.u v)):=by
 have g:=h.xrow;rw [hb] at g;have f:=g.stored i (.u v);rw [lC] at f;have m:=((g.lt b rfl)).1;have n:w.grownBy (w.setCell ⟨b,i,none⟩ (.u v)) (aG l.ax x.x.length l.cx x.x).v.ownBlock:=by simp only [aG];rw [hb];exact f.2
 have o:=bj.mark (L1:=[]) (r:=aG l.ax x.x.length l.cx x.x) (L2:=[aG l.ac x.cs.length l.cc x.cs,aE l.ar x.ram.length l.cr x.ram,aE l.ai x.d.xs.length l.ci x.d.xs,aE l.ao x.d.ys.length l.co x.d.ys]) h.fam n ((x.x.set i v).map (I1 .u64)) ti;have a:=h.ne (aG l.ax x.x.length l.cx x.x) ef;have d:M≠b:=λe=>a (by simp only [aG];rw [hb,e];rfl);have c:(w.setCell ⟨b,i,none⟩ (.u v)).heap.size=w.heap.size:=aO _ _ _;have j:aF (xM x (x.x.set i v)) l=[]++⟨(aG l.ax x.x.length l.cx x.x).t,(aG l.ax x.x.length l.cx x.x).v,(aG l.ax x.x.length l.cx x.x).n,(x.x.set i v).map (I1 .u64)⟩::[aG l.ac x.cs.length l.cc x.cs,aE l.ar x.ram.length l.cr x.ram,aE l.ai x.d.xs.length l.ci x.d.xs,aE l.ao x.d.ys.length l.co x.d.ys]:=by simp [aF,xM,aG]
 refine ⟨⟨?_,?_,?_,h.lo⟩,⟨rfl,rfl,rfl,by rw [c];exact R5 _,λk p=>R6 _ _ _ k cb⟩⟩;·have:=fT h.row ⟨b,i,none⟩ (.u v) d;simpa [ak,xM] using this
 ·rw [j,c];exact o.1
 ·rw [j];intro q r;simp only [P2,I4,K0,or_false] at r;rcases r with rfl|rfl|rfl|rfl|rfl;·exact a
  ·exact h.ne _ ef
  ·exact h.ne _ ef
  ·exact h.ne _ ef
  ·exact h.ne _ ef
theorem Mp.setC (h:Mp A M x l w) (b:Nat) (hb:l.ac=some ⟨b,0,none⟩) (i:Nat) (v:Int):Mp A M (cM x (x.cs.set i v)) l (w.setCell ⟨b,i,none⟩ (.u v))/\T3 A w (w.setCell ⟨b,i,none⟩ (.u v)):=by
 have g:=h.crow;rw [hb] at g;have f:=g.stored i (.u v);rw [lC] at f;have m:=((g.lt b rfl)).1;have n:w.grownBy (w.setCell ⟨b,i,none⟩ (.u v)) (aG l.ac x.cs.length l.cc x.cs).v.ownBlock:=by simp only [aG];rw [hb];exact f.2
 have o:=bj.mark (L1:=[aG l.ax x.x.length l.cx x.x]) (r:=aG l.ac x.cs.length l.cc x.cs) (L2:=[aE l.ar x.ram.length l.cr x.ram,aE l.ai x.d.xs.length l.ci x.d.xs,aE l.ao x.d.ys.length l.co x.d.ys]) h.fam n ((x.cs.set i v).map (I1 .u64)) ti;have a:=h.ne (aG l.ac x.cs.length l.cc x.cs) ef;have d:M≠b:=λe=>a (by simp only [aG];rw [hb,e];rfl);have c:(w.setCell ⟨b,i,none⟩ (.u v)).heap.size=w.heap.size:=aO _ _ _;have j:aF (cM x (x.cs.set i v)) l=[aG l.ax x.x.length l.cx x.x]++⟨(aG l.ac x.cs.length l.cc x.cs).t,(aG l.ac x.cs.length l.cc x.cs).v,(aG l.ac x.cs.length l.cc x.cs).n,(x.cs.set i v).map (I1 .u64)⟩::[aE l.ar x.ram.length l.cr x.ram,aE l.ai x.d.xs.length l.ci x.d.xs,aE l.ao x.d.ys.length l.co x.d.ys]:=by simp [aF,cM,aG]
 refine ⟨⟨?_,?_,?_,h.lo⟩,⟨rfl,rfl,rfl,by rw [c];exact R5 _,λk p=>R6 _ _ _ k cb⟩⟩;·have:=fT h.row ⟨b,i,none⟩ (.u v) d;simpa [ak,cM] using this
 ·rw [j,c];exact o.1
 ·rw [j];intro q r;simp only [List.cons_append,P2,I4,K0,or_false] at r;rcases r with rfl|rfl|rfl|rfl|rfl;·exact h.ne _ ef
  ·exact a
  ·exact h.ne _ ef
  ·exact h.ne _ ef
  ·exact h.ne _ ef
theorem G5 (h:∀ j,U (e.getD j 0)) (i:Nat) {v:Int} (hv:U v):∀ j,U ((e.set i v).getD j 0):=by
 intro j;have:=h j;simp only [R4,List.getElem?_set];split
 ·split;·exact hv
  ·exact ⟨di,di⟩
 ·exact this
theorem Mp.setF (h:Mp A M x l w) (i:Nat) (v:A9) (b:ak M' l=(ak x l).setIfInBounds i v) (a:aF M' l=aF x l):Mp A M M' l (w.setCell ⟨M,i,none⟩ v)/\T3 A w (w.setCell ⟨M,i,none⟩ v):=by
 have c:=h.lo;refine ⟨⟨?_,?_,by rw [a];exact h.ne,h.lo⟩,⟨rfl,rfl,rfl,ep,λk d=>R6 _ _ _ k cb⟩⟩;·rw [b];exact bH h.row i v
 ·rw [a];exact Mp.fam_set h.fam h.ne i v
theorem kO (t ty:D3) (old cells:Array A9) (d:D.heap[y]?=some (.cells old t (0,0))) (b:(P.info? ty).map (·.size)=some cells.size) (h:T+cells.size<=old.size) (c:cells.all (·.oneCell')): (storeVar ty ⟨y,T,none⟩ (.agg cells)).run P D=.ok () (D.setRow y (old.toList.take T++cells.toList++old.toList.drop (T+cells.size)).toArray):=by
 have:=run_storeCells_at (P:=P) y T t cells.toList 0 old D d bv (λv f=>(Array.all_eq_true_iff_forall_mem.1 c) v kd);cases a:P.info? ty with
 | none=>simp [a] at b
 | some i =>have e:cells.size=i.size:=(by simp [a] at b;omega);simp only [Nat.add_zero,Array.length_toList] at this;simp only [List.append_assoc] at this ⊢;simp [storeVar,sizeOf,typeInfo,a,Value.cells,e,this]
theorem Mp.fld (h:Mp A M x l w) (i:Nat) (v:A9) (b:ak M' l=(ak x l).setIfInBounds i v) (a:aF M' l=aF x l):Mp A M M' l (w.setCell ⟨M,i,none⟩ v)/\Kx M (aF x l) (aF M' l) w (w.setCell ⟨M,i,none⟩ v):=by refine ⟨⟨?_,by rw [a];exact Mp.fam_set h.fam h.ne i v,by rw [a];exact h.ne,h.lo⟩,by rw [a];exact Kx.set w i v⟩;rw [b];exact bH h.row i v
theorem G9 {L:List FRow} (j:q ∈ L) {b:Nat} (e:q.v.ownBlock=some b) (hs:∀ q ∈ n,∃ c ∈ L,c.v=q.v) (w:A5) (i:Nat) (v:A9):Kx A L n w (w.setCell ⟨b,i,none⟩ v):=
 ⟨rfl,rfl,rfl,ep,λk _ _ h=>R6 w ⟨b,i,none⟩ v k (λe2=>h q j (by rw [e];exact congrArg some e2.symm)),λl a k d _=>by obtain ⟨c,g,f⟩:=hs l a;exact ⟨c,g,by rw [f];exact d⟩⟩
structure Kr where
 b:Nat
 cs:Array A9
 t:D3
 tg:List (Nat × Nat)
structure Hx (B r:Nat) (L:List Kr) (M0:MV) (A0:MA) (w0:A5) (M:MV) (A:MA) (W:A5):Prop where
 mp:Mp B r M A W
 kx:Kx r (aF M0 A0) (aF M A) w0 W
 rows:∀ x ∈ L,W.heap[x.b]?=some (.cells x.cs x.t (0,0))/\x.b≠r/\∀ q ∈ aF M A,q.v.ownBlock≠some x.b
theorem Hx.step {L:List Kr} {M':MV} {A':MA} (h:Hx A M L x l w W a B) (p:Mp A M M' A' r) (k:Kx M (aF W a) (aF M' A') B r):Hx A M L x l w M' A' r :=
 ⟨p,h.kx.trans k,λM0 j=>by
  obtain ⟨b,c,d⟩:=h.rows M0 j
  have w0:=(S2.1 b).1
  exact ⟨(k.block M0.b w0 c d).trans b,c,λq i e=>by obtain ⟨A0,g,f⟩:=k.own q i M0.b e w0;exact d A0 g f⟩⟩
theorem Hx.below {L:List Kr} (h:Hx A M L x l w W a B) (k:Bw B r):Hx A M L x l w W a r:=h.step (h.mp.below k) (Kx.of_below k)
def Wo (r:Nat) (M:MV) (A:MA) (L:List Kr):List Rw:=⟨r,ak M A,[]⟩::L.map (λx=>⟨x.b,x.cs,x.tg⟩)
theorem Hx.eng {L:List Kr} {fn:Func}:n6 P (Hx A M L x l w W a) (Hx A M L x l w W a) (Wo M W a L) dr (C5 P fn Rs):=
 ⟨λ_ h=>h,λr h B A0=>by
  rcases I4.1 A0 with rfl|A0
  ·exact ⟨_,_,h.mp.row⟩
  ·obtain ⟨y,b,rfl⟩:=N1.1 A0
   exact ⟨_,_,(h.rows y b).1⟩,λ_ r h=>h.below (R7 _ _).drew,cD⟩
theorem Hx.engL {L:List Kr} {fn:Func} {Rs:G1->A5->Prop} {L':List Kr} (A0:∀ B ∈ L,B ∈ L'):n6 b (Hx A M L x l w W a) (Hx A M L' x l w W a) (Wo M W a L) dr (C5 b fn Rs):=
 ⟨λ_ h=>⟨h.mp,h.kx,λB P=>h.rows B (A0 B P)⟩,(Hx.eng (P:=b) (fn:=fn) (dr:=dr) (Rs:=Rs)).rows,λ_ r h=>h.below (R7 _ _).drew,cD⟩
def Hs (r:Nat) (L:List Kr) (cs:Array A9) (W:A5):Prop:=W.heap[r]?=some (.cells cs 29 (0,0))/\∀ x ∈ L,W.heap[x.b]?=some (.cells x.cs x.t (0,0))
theorem Hx.hs {L:List Kr} (h:Hx A M L x l w W a B):Hs M L (ak W a) B:=⟨h.mp.row,λr A0=>(h.rows r A0).1⟩
def WN (r:Nat) (cs:Array A9) (L:List Kr):List Rw:=⟨r,cs,[]⟩::L.map (λx=>⟨x.b,x.cs,x.tg⟩)
theorem Hs.eng {L:List Kr} {fn:Func} {cs:Array A9} (hs:∀ r,Hx A M L x l w W a r->Hs M L cs r):n6 P (Hs M L cs) (Hx A M L x l w W a) (WN M cs L) dr (C5 P fn Rs):=
 ⟨hs,λr h B A0=>by
  rcases I4.1 A0 with rfl|A0
  ·exact ⟨_,_,h.1⟩
  ·obtain ⟨y,b,rfl⟩:=N1.1 A0
   exact ⟨_,_,h.2 y b⟩,λ_ r h=>h.below (R7 _ _).drew,cD⟩
theorem Hx.fld {L:List Kr} (h:Hx A M L x l w W a B) (i:Nat) (v:A9) (A0:ak M' a=(ak W a).setIfInBounds i v) (b:aF M' a=aF W a):Hx A M L x l w M' a (B.setCell ⟨M,i,none⟩ v):=h.step (h.mp.fld i v A0 b).1 (h.mp.fld i v A0 b).2
theorem Hx.setX {L:List Kr} (h:Hx A M L x l w W a B) (b:Nat) (hb:a.ax=some ⟨b,0,none⟩) (i:Nat) (v:Int):Hx A M L x l w (xM W (W.x.set i v)) a (B.setCell ⟨b,i,none⟩ (.u v)):=
 h.step (h.mp.setX b hb i v).1 (G9 (L:=aF W a) (q:=aG a.ax W.x.length a.cx W.x) ef (by show (I2 a.ax W.x.length a.cx).ownBlock=_;rw [hb];rfl) (i7 (M:=W) (M':=xM W (W.x.set i v)) (show (W.x.set i v).length=W.x.length by simp) rfl rfl rfl rfl) B i _)
theorem Hx.setC {L:List Kr} (h:Hx A M L x l w W a B) (b:Nat) (hb:a.ac=some ⟨b,0,none⟩) (i:Nat) (v:Int):Hx A M L x l w (cM W (W.cs.set i v)) a (B.setCell ⟨b,i,none⟩ (.u v)):=
 h.step (h.mp.setC b hb i v).1 (G9 (L:=aF W a) (q:=aG a.ac W.cs.length a.cc W.cs) ef (by show (I2 a.ac W.cs.length a.cc).ownBlock=_;rw [hb];rfl) (i7 (M:=W) (M':=cM W (W.cs.set i v)) rfl (show (W.cs.set i v).length=W.cs.length by simp) rfl rfl rfl) B i _)
theorem Hx.var {L:List Kr} (h:Hx A M L x l w W a B) (hb:Bw B r) (M0:Kr) (hx:r.heap[M0.b]?=some (.cells M0.cs M0.t (0,0))) (hn:B.heap.size<=M0.b):Hx A M (L++[M0]) x l w W a r:=by
 have b:=h.below hb;refine ⟨b.mp,b.kx,λy w0=>?_⟩;rcases I5.1 w0 with w0 | w0;·exact b.rows y w0
 ·rw [O1] at w0;subst w0;refine ⟨hx,by have:=h.mp.lt;omega,λq c e=>?_⟩;have:=((h.mp.fam.own q c).lt y.b e).2;omega
theorem mX:fN D []:=trivial
structure Vs (w:A5) (L:List Kr) (W:A5):Prop where
 rows:∀ x ∈ L,W.heap[x.b]?=some (.cells x.cs x.t (0,0))
 below:Bw w W
theorem Vs.to {L:List Kr} (h:Vs w L B) (hb:Bw B r):Vs w L r:=⟨λx a=>aD hb (h.rows x a),aa h.below hb⟩
theorem Vs.at {w:A5} {L:List Kr} (h:Vs w L B):Vs B L B:=⟨h.rows,R7 _ _⟩
theorem Vs.eng {fn:Func} {L:List Kr}:n6 P (Vs w L) (Vs w L) (L.map λx=>⟨x.b,x.cs,x.tg⟩) true (C5 P fn Rs):=
 ⟨λ_ h=>h,λW h r a=>by obtain ⟨y,b,rfl⟩:=N1.1 a;exact ⟨_,_,h.rows y b⟩,λ_ W h=>h.to (R7 _ _).drew,cD⟩
theorem iE (old cs:Array A9) (t:D3):Bw D ((D.alloc (.cells old t)).setRow D.heap.size cs):=aI (bal _ _) (R5 _) _
theorem Vs.new {L:List Kr} {cs:Array A9} (h:Vs w L B) (old:Array A9) (t:D3):Vs w (L++[⟨B.heap.size,cs,t,[]⟩]) ((B.alloc (.cells old t)).setRow B.heap.size cs):=by
 have b:=iE B old cs t;refine ⟨λx a=>?_,aa h.below b⟩;rcases I5.1 a with a | a;·exact aD b (h.rows x a)
 ·rw [O1.1 a];exact D8 _ _ _ _ _ _ (D2 _ _)
def gA (n:Nat) (x:List Int):Bool:=decide (n=32)&&(x.getD 0 0==0)
theorem E5 (n c:Nat) (x:List Int) (w:A5) (hx:x.length=n) (hs:Sl .u64 w s x): CE 26 #[.slice s n c] w (.bool (gA n x)):=by
 by_cases h:n=32;·subst h;obtain ⟨b,off,rfl,l,f⟩:=hs 0 ab;have F:Hid (gA 32 x=(x.getD 0 0==0)):=(by show _=_;unfold gA;simp);have g:w.cell? ⟨b,off,none⟩=some (.u (x.getD 0 0)):=f;generalize gA 32 x=V at *;generalize x.getD 0 0=y at *;clear hs hx f;go_enter func26,ntmps26;exact a09
 ·have F:Hid (gA n x=false):=(by show _=_;unfold gA;rw [decide_eq_false h];rfl);have d:((n:Int)==32)=false:=bv;generalize gA n x=V at *;clear hs hx h;go_enter func26,ntmps26;exact a09
def lR (M:MV):Bool:=A6 .and .u64 (M.cs.getD 9 0) 2184==dM M.d
def dJ (M:MV):Bool:=(A6 .and .u64 M.pc 3==0)&&gA M.x.length M.x&&bm M.cs.length M.cs M.pr&&bf M.ram.length&&lA M.d.xs.length M.d.ys.length M.d.ir&&(M.hl||(M.hd==0))&&lR M
theorem kC {p:Int} (h:bm A e p):A=22:=by unfold bm bD at h;simp only [Bool.and_eq_true,JZ6] at h;exact h.1.1
theorem mu (hl:iR E) (hs:oe D E L): CB 9 #[.agg (ak E L)] D (.bool (dJ E)):=by
 have s:=λW g=>E5 L.ax E.x.length L.cx _ W rfl (hs.x.below g);have r:=λW g=>xA L.ac E.cs.length L.cc _ E.pr W rfl (hs.cs.below g);have A:=λW (_:Bw D W)=>pS L.ar E.ram.length L.cr W hl.ram;have K:=λW (_:Bw D W)=>mD E.d.t E.d.cm E.d.so L.ai E.d.xs.length L.ci L.ao E.d.ys.length L.co E.d.ir W hl.xs hl.ys;have N:=λW (_:Bw D W)=>tj E.d.t E.d.cm E.d.so L.ai E.d.xs.length L.ci L.ao E.d.ys.length L.co E.d.ir W hl.xs;unfold dJ lR;generalize q:(A6 .and .u64 E.pc 3==0)=o;generalize gA E.x.length E.x=p at *;generalize H:bm E.cs.length E.cs E.pr=u at *;generalize bf E.ram.length=y at *;generalize lA E.d.xs.length E.d.ys.length E.d.ir=z at *;generalize I:(E.hd==0)=B;generalize J:(A6 .and .u64 (E.cs.getD 9 0) 2184==dM E.d)=C;cases u with
 | false =>
   refine br (S:=Bs D [(ak E L,29)]) [(ak E L,29)] func9 ?_;cases o;case' true=>cases p
   all_goals exact bn (t:=2) (v:=.bool false) Bs.eng {eq:=[(6,an q)],cv:=[(10,nt s),(17,nt r)]} 300 (Bs.start _ _) (λm h=>⟨di,h.2⟩)
 | true =>
   have G:=kC H;obtain ⟨M,F,f,i,j⟩:=hs.cs 9 ab;obtain ⟨pc,x,l,b,a,d,k,c,n⟩:=E;dsimp only at *;refine br (S:=Bs D [(ak ⟨pc,x,l,b,a,d,k,c,n⟩ L,29)]) [(ak ⟨pc,x,l,b,a,d,k,c,n⟩ L,29)] func9 ?_;have w:∀ W,Bs D [(ak ⟨pc,x,l,b,a,d,k,c,n⟩ L,29)] W->W.cell? ⟨M,F+9,none⟩=some (.u (b.getD 9 0)):=λW h=>(h.2.cell (by exact i)).trans j;cases o;case' true =>cases p;case' true =>cases y;case' true =>cases z;case' true=>cases c<;>cases B<;>cases C
   all_goals exact bn (t:=2) (v:=.bool _) Bs.eng {eq:=[(6,an q),(35,an I),(47,an J)],ov:=[(41,kW b.length L.cc .i64 9 f ab underlying25 ba),(42,iP _ _ underlying24 rfl w)],cv:=[(10,nt s),(17,nt r),(22,nt A),(27,fM K),(46,fM N)]} 300 (Bs.start _ _) (λm h=>⟨rfl,h.2⟩)
inductive CK where
 | plain (b:Int) | mst | mie | mip | satp | cfg | addr (e:Nat)
def CK.ty:CK->Nat
 | .plain _=>155 | .mst=>153 | .mie=>156 | .mip=>157 | .satp=>158 | .cfg=>159 | .addr _=>161
def CK.val:CK->A9
 | .plain b=>.agg #[.u b] | .mst=>.agg #[] | .mie=>.agg #[] | .mip=>.agg #[] | .satp=>.agg #[] | .cfg=>.agg #[] | .addr e=>.agg #[.i e]
def Uc:List (Int × CK):=[(768,.mst),(770,.plain 46079),(771,.plain 546),(772,.mie),(773,.plain 18446744073709551613),(832,.plain 18446744073709551615),(833,.plain 18446744073709551612),(834,.plain 9223372036854775823),
 (835,.plain 18446744073709551615),(836,.mip),(261,.plain 18446744073709551613),(320,.plain 18446744073709551615),(321,.plain 18446744073709551612),(322,.plain 9223372036854775823),(323,.plain 18446744073709551615),(384,.satp),
 (928,.cfg),(944,.addr 0),(945,.addr 1),(946,.addr 2),(947,.addr 3),(2818,.plain 18446744073709551615)]
def zY (r:Int × CK):List Value:=[.i r.1,.iface r.2.ty r.2.val]
def gB:Array Value:=(Uc.flatMap zY).toArray
def qS:Array Value:=(List.replicate 22 [I1 .i64 0,.nilIface]).flatten.toArray
theorem zZ:qS.size=44:=by kernel_rfl
theorem mJ:gB.size=44:=by kernel_rfl
theorem Aa:(prog.info? 118).bind (·.zero)=some (.agg qS):=by kernel_rfl
theorem Ab:gB.all (·.oneCell'):=by kernel_rfl
theorem qU:(prog.info? 118).map (·.size)=some 44:=by kernel_rfl
def nH (P:H8):List F3->Act->Option Act
 | [],a=>some a
 | o::l,a =>
   match o.guard,o.op with
   | none,.build t parts =>
     match P.built t (parts.map λ(i,x)=>(i,a.eval x)).toList with
     | some cells=>nH P l (a.put o.dst (.agg cells))
     | none=>none
   | none,.makeInterface t x=>if P.concrete t=true then nH P l (a.put o.dst (.iface t (a.eval x))) else none
   | _,_=>none
theorem vK {P:Array F3}:∀ (l rest:List F3) (a c:Act),nH b l a=some c->wpList b P p rest c w->wpList b P p (l++rest) a w:=by
 intro l;induction l with
 | nil=>intro rest a c h d;simp [nH] at h;subst h;exact d
 | cons o l i =>
   intro rest a c h d;unfold nH at h;split at h
   ·rename_i t parts f g;split at h;·rename_i cells e;exact wpList_buildTo f t parts g o.dst rfl cells e (i _ _ _ h d)
    ·cases h
   ·rename_i t x f g;split at h;·rename_i e;exact nB f o.dst rfl (.iface t (a.eval x)) (by simp [execOp,g,run_makeInterface w t _ e]) (i _ _ _ h d)
    ·cases h
   ·cases h
theorem si (v x:A9) (h:(nH b (o.take y) t).map (λP=>(P.tmps.getD T undef,P.tmps.getD F undef,P.defers))=some (v,x,[])) (hr:∀ P:Act,P.tmps.getD T undef=v->P.tmps.getD F undef=x->P.defers=[]->wpList b c p (o.drop y) P w):wpList b c p o t w:=by
 rw [<- List.take_append_drop y o];cases d:nH b (o.take y) t with
 | none=>rw [d] at h;cases h
 | some P =>rw [d] at h;simp only [Option.map_some,Option.some.injEq,Prod.mk.injEq] at h;exact vK _ _ _ _ d (hr P h.1 h.2.1 h.2.2)
theorem Cm:CB 79 #[] D (.agg gB):=by go_enter func79,ntmps79;apply wp_seq_k;intro c b;apply wp_region_list;refine cI rfl 118 rfl (some 0) rfl _ Aa ?_;apply wpList_nil;refine b _ _ ?_;clear b c;apply wp_seq_k;intro c b;apply wp_region_lit;refine si 67 0 67 (.p D.heap.size 0) (.agg gB) ba ?_;intro m f d j;have g:(D.alloc (.cells (I3 qS).cells 118)).heap[D.heap.size]?=some (.cells qS 118 (0,0)):=D2 _ _;refine wpList_store_rowTo rfl 118 (.tmp 0) (.tmp 67) rfl rfl D.heap.size gB f d 118 qS g (by rw [qU,mJ]) (by rw [zZ,mJ]) Ab ?_;apply wpList_nil;refine b _ _ ?_;clear b c;apply wp_ret;refine bodyPost_ret (D1 results79 _ _ _ _ _ _ _ f (D8 _ _ _ _ _ _ g) underlying118 rfl (by rw [qU,mJ])) j ⟨rfl,?_⟩;exact aK (bal _ _) (R5 _) _
theorem pB:A8 prog 79 #[] D λe a=>∃ T,e=.returned T/\Hid (T=.agg gB)/\Bw D a :=
 (Cm D).mono λe a h=>⟨.agg gB,h.1,(rfl:I3 gB=.agg gB),h.2⟩
theorem Ac:Uc.length=22:=by rfl
def gh (k:Nat):Int × CK:=Uc.getD k (0,.mst)
theorem Mc (h:y<22):Uc[y]'(by rw [Ac];exact h)=gh y:=by simp [gh,R4,List.getElem?_eq_getElem (show y<Uc.length by rw [Ac];exact h)]
theorem xH (h:y<22):gB.extract (y*2) (y*2+2)=(zY (gh y)).toArray:=by have:=rV zY 2 Uc (by intro x _;rfl) y (by rw [Ac];exact h);rw [Mc y h] at this;rw [<- this];simp [gB]
theorem E6 (kk:IntKind) (k:Nat) (hk:k<22):(Instr.index 118 (.agg gB) (.int kk (k:Int))).run prog D=.ok (.agg #[.i (gh k).1,.iface (gh k).2.ty (gh k).2.val]) D:=by
 have f:(sizeOf 117).run prog D=.ok 2 D:=by
  obtain ⟨g,e,a⟩:∃ i,prog.info? 117=some i/\i.size=2:=by
   have h:(prog.info? 117).map (·.size)=some 2:=ba;cases b:prog.info? 117 with
   | none=>rw [b] at h;cases h
   | some i=>rw [b] at h;exact ⟨i,rfl,et⟩
  simp [sizeOf,typeInfo,e,a]
 have c:(isAgg 117).run prog D=.ok true D:=by simp [isAgg,F0 underlying117]
 have d:(0:Int)<=(k:Int)/\(k:Int)<((22:Nat):Int):=ab
 unfold Instr.index;simp only [asIntOf,Sem.run_bind,Sem.run_pure,Result.andThen_ok,F0 underlying118];rw [JZ8 d];simp only [Sem.run_bind,f,Result.andThen_ok,part,c,Int.toNat_natCast,if_true,Sem.run_pure];rw [xH k hk];rfl
theorem g7 {rest:F3} {T:A9} (e:Hid (T=.agg gB)) (kk:IntKind) (k:Nat) (hk:k<22) (r:Int × CK) (hr:Hid (r=gh k)) (f:rest.guard=none) (x i:Operand) (j:rest.op=.index 118 x i) (hx:t.eval x=T) (g:t.eval i=.int kk (k:Int)) (h:wpList prog c p o (t.put rest.dst (.agg #[.i r.1,.iface r.2.ty r.2.val])) w):wpList prog c p (rest::o) t w:=by
 refine wpList_plain f λK d=>?_;have b:(execOp t.eval rest).run prog w=.ok (.value (.agg #[.i r.1,.iface r.2.ty r.2.val])) w:=by simp [execOp,j,hx,g,e.out,hr.out,E6 w kk k hk]
 unfold Oper.wp;rw [b,Oper.upon_value];exact d _ _ h
def iB (x:Int):Bool:=(de x 60 4==0)||(de x 60 4==8)
def Cn (x:Int) (k:Nat):Int:=if (A6 .and .u64 (A6 .and .u64 (de x (8*k) 8) 159) 1==0)=true then A6 .andNot .u64 (A6 .and .u64 (de x (8*k) 8) 159) 2 else A6 .and .u64 (de x (8*k) 8) 159
def qo (x:Int):Nat->Int
 | 0=>0
 | k+1=>A6 .or .u64 (qo x k) (Uz.wrap (Cn x k*2^(8*k)))
def iq:CK->Int->Int
 | .plain b,x=>A6 .and .u64 x b
 | .mst,x=>if (A6 .and .u64 x 6144==4096)=true then A6 .andNot .u64 (A6 .and .u64 x 924074) 6144 else A6 .and .u64 x 924074
 | .mie,x=>A6 .and .u64 x 2730
 | .mip,x=>A6 .and .u64 x 2730
 | .satp,x=>if iB x=true then x else 0
 | .cfg,x=>qo x 4
 | .addr _,x=>A6 .and .u64 x 18014398509481983
def fX (c:Int) (e:Nat):Bool:=(A6 .and .u64 (de c (8*e) 8) 128 != 0)
def iT (c:Int) (e:Nat):Int:=de c (8*e+3) 2
def gT (c:Int):Nat->Int
 | 0=>0
 | k+1=>if fX c k=true then A6 .or .u64 (gT c k) (Uz.wrap (255*2^(8*k))) else gT c k
def jH (c:Int):CK->Int->Int
 | .mip,_=>2184
 | .satp,x=>if iB x=true then 0 else 18446744073709551615
 | .cfg,_=>gT c 4
 | .addr e,_=>if (fX c e||(fX c (e+1)&&(iT c (e+1)==1)))=true then 18446744073709551615 else 0
 | _,_=>0
def CK.fitF:CK->Nat
 | .plain _=>291 | .mst=>289 | .mie=>292 | .mip=>294 | .satp=>297 | .cfg=>300 | .addr _=>303
def CK.staysF:CK->Nat
 | .mip=>295 | .satp=>298 | .cfg=>301 | .addr _=>304 | _=>0
def CK.viewF:CK->Nat
 | .mst=>290 | .mie=>293 | .mip=>296 | _=>0
theorem oN (x:Int) (g:0<=x) (j:x<18446744073709551616) (w:A5):A8 prog 299 #[.u x] w λe c=>e=.returned (.bool (iB x))/\c=w.drew:=by
 have d:Hid (∀ w,A8 prog 31 #[.u x,.i 60,.i 4] w λe c=>e=.returned (.u (de x 60 4))/\c=w.drew):=λw=>bJ x 60 4 g j ab ab w;have F:Hid (iB x=((de x 60 4==0)||(de x 60 4==8))):=(rfl:iB x=_);generalize de x 60 4=y at *;cases f:(y==0) with
 | true =>rw [f] at F;go_enter func299,ntmps299;go_wp2_with fail;refine (d.out _).mono ?_;rintro e l ⟨rfl,b⟩;exact a0c
 | false =>rw [f] at F;go_enter func299,ntmps299;go_wp2_with fail;refine (d.out _).mono ?_;rintro e l ⟨rfl,b⟩;exact a0c
theorem oO (k:Nat) (hk:k<5) (g:0<=f) (j:f<18446744073709551616) (w:A5):A8 prog 259 #[.u f,.i k] w λe c=>e=.returned (.u (de f (8*k) 8))/\c=w.drew:=by
 obtain ⟨q,d⟩:∃ q,8*k=q:=⟨_,rfl⟩;have l:S5 (8*(k:Int))=(q:Int):=by unfold S5;omega
 rw [d];have x:Hid (∀ w,A8 prog 31 #[.u f,.i q,.i 8] w λe c=>e=.returned (.u (de f q 8))/\c=w.drew):=λw=>bJ f q 8 g j ab ab w;clear d hk;generalize de f q 8=y at *;go_enter func259,ntmps259;go_wp2_with fail;refine (x.out _).mono ?_;rintro e m ⟨rfl,b⟩;subst b;exact a02
theorem qV (k:Nat) (hk:k<5) (l:0<=f) (m:f<18446744073709551616) (w:A5):A8 prog 265 #[.u f,.i k] w λe x=>e=.returned (.u (iT f k))/\x=w.drew:=by
 obtain ⟨q,g⟩:∃ q,8*k+3=q:=⟨_,rfl⟩;obtain ⟨b,c⟩:∃ b,8*k=b:=⟨_,rfl⟩;have p:S5 (8*(k:Int))=(b:Int):=by unfold S5;omega
 have o:S5 ((b:Int)+3)=(q:Int):=by unfold S5;omega
 unfold iT;rw [g];have j:Hid (∀ w,A8 prog 31 #[.u f,.i q,.i 2] w λe x=>e=.returned (.u (de f q 2))/\x=w.drew):=λw=>bJ f q 2 l m ab ab w;clear g c hk;generalize de f q 2=y at *;go_enter func265,ntmps265;go_wp2_with fail;refine (j.out _).mono ?_;rintro e r ⟨rfl,d⟩;subst d;exact a02
theorem mK (hk:y<5) (x:0<=f) (g:f<18446744073709551616) (w:A5):A8 prog 302 #[.u f,.i y] w λe c=>e=.returned (.bool (fX f y))/\c=w.drew:=by have d:Hid (∀ w,A8 prog 259 #[.u f,.i y] w λe c=>e=.returned (.u (de f (8*y) 8))/\c=w.drew):=λw=>oO f y hk x g w;have F:Hid (fX f y=(A6 .and .u64 (de f (8*y) 8) 128 != 0)):=(rfl:fX f y=_);generalize de f (8*y) 8=q at *;go_enter func302,ntmps302;go_wp2_with fail;refine (d.out _).mono ?_;rintro e j ⟨rfl,b⟩;exact a0c
theorem JH:CB 291 #[.agg #[.u f],.u g] D (.u (A6 .and .u64 g f)):=by go_enter func291,ntmps291;go_wp2_with fail;go_ret;exact ⟨rfl,bal _ _⟩
theorem Md:CB 303 #[.agg #[.i y],.u j] G (.u (A6 .and .u64 j 18014398509481983)):=by go_enter func303,ntmps303;go_wp2_with fail;go_ret;exact ⟨rfl,bal _ _⟩
theorem Pw:CB 292 #[.agg #[],.u f] D (.u (A6 .and .u64 f 2730)):=by go_enter func292,ntmps292;go_wp2_with fail;go_ret;exact ⟨rfl,by go_grown⟩
theorem Px:CB 294 #[.agg #[],.u f] D (.u (A6 .and .u64 f 2730)):=by go_enter func294,ntmps294;go_wp2_with fail;go_ret;exact ⟨rfl,by go_grown⟩
theorem Pz (x:Int) (w:A5):CB 289 #[.agg #[],.u x] w (.u (iq .mst x)):=by
 have b:iq .mst x=if (A6 .and .u64 x 6144==4096)=true then A6 .andNot .u64 (A6 .and .u64 x 924074) 6144 else A6 .and .u64 x 924074:=rfl
 cases d:(A6 .and .u64 x 6144==4096) with
 | true =>rw [JZ8 d] at b;have F:Hid (iq .mst x=A6 .andNot .u64 (A6 .and .u64 x 924074) 6144):=b;clear b;go_enter func289,ntmps289;go_wp2_with fail;go_ret;exact ⟨bh,by go_grown⟩
 | false =>rw [JZ9 (by rw [d];decide)] at b;have F:Hid (iq .mst x=A6 .and .u64 x 924074):=b;clear b;go_enter func289,ntmps289;go_wp2_with fail;go_ret;exact ⟨bh,by go_grown⟩
theorem Me (x:Int) (j:0<=x) (l:x<18446744073709551616) (w:A5):CB 297 #[.agg #[],.u x] w (.u (iq .satp x)):=by
 have f:Hid (∀ w,A8 prog 299 #[.u x] w λe g=>e=.returned (.bool (iB x))/\g=w.drew):=λw=>oN x j l w;have c:iq .satp x=if iB x=true then x else 0:=rfl
 cases d:iB x with
 | true =>rw [JZ8 d] at c;rw [d] at f;have F:Hid (iq .satp x=x):=c;clear c;go_enter func297,ntmps297;go_wp2_with fail;refine (f.out _).mono ?_;rintro e m ⟨rfl,b⟩;subst b;go_wp2_with fail;go_ret;exact ⟨bh,by go_grown⟩
 | false =>rw [JZ9 (by rw [d];decide)] at c;rw [d] at f;have F:Hid (iq .satp x=0):=c;clear c;go_enter func297,ntmps297;go_wp2_with fail;refine (f.out _).mono ?_;rintro e m ⟨rfl,b⟩;subst b;go_wp2_with fail;go_ret;exact ⟨bh,by go_grown⟩
theorem PA (x:Int) (D:0<=x) (E:x<18446744073709551616) (w:A5):CB 300 #[.agg #[],.u x] w (.u (iq .cfg x)):=by
 have C:Hid (∀ k:Nat,k<5->∀ w,A8 prog 259 #[.u x,.i k] w λe m=>e=.returned (.u (de x (8*k) 8))/\m=w.drew):=λk u w=>oO x k u D E w;have B:Hid (iq .cfg x=qo x 4):=(rfl:iq .cfg x=_);go_enter func300,ntmps300;go_wp2_with fail;go_loopw [5,8] (λy i wr=>∃ k:Nat,k<=4/\i=.i k/\y=.u (qo x k)/\Bw w wr)
  (λ_ i _=>4-(intOf i).toNat)
 case atStart=>exact ⟨0,ab,rfl,rfl,by go_grown⟩
 case round =>
  obtain ⟨k,u,rfl,rfl,c⟩:=hrel;by_cases H:k<4
  ·have f:qo x (k+1)=A6 .or .u64 (qo x k) (Uz.wrap (Cn x k*2^(8*k))):=rfl;unfold Cn at f;have g:=C.out k ab;generalize de x (8*k) 8=z at *;obtain ⟨q,o⟩:∃ q,8*k=q:=⟨_,rfl⟩;have J:S5 (8*(k:Int))=(q:Int):=ob;have A:q<64:=ab;rw [o] at f;have d:decide ((k:Int)<4):=bv;obtain ⟨b,G⟩:∃ b,A6 .and .u64 z 159=b:=⟨_,rfl⟩;obtain ⟨y,p⟩:∃ y,y=qo x k:=⟨_,rfl⟩;rw [G,<- p] at f;rw [<- p];cases t:(A6 .and .u64 b 1==0) with
   | true =>
     rw [JZ8 t] at f;have F:Hid (qo x (k+1)=A6 .or .u64 y (Uz.wrap (A6 .andNot .u64 b 2*2^q))):=f;have j:Hid (∀ w,A8 prog 259 #[.u x,.i k] w λe m=>e=.returned (.u z)/\m=w.drew):=g;have r:Hid (8*k=q):=o;clear f p g o;go_wp2_with fail;refine (j.out _).mono ?_;rintro e I ⟨rfl,l⟩;subst l;go_wp2_with fail;go_roundw;case rel=>exact ⟨k+1,ab,by go_num,by rw [F.out,r.out],c.drew⟩
     case measure=>simp [intOf];omega
   | false =>
     rw [JZ9 (by rw [t];decide)] at f;have F:Hid (qo x (k+1)=A6 .or .u64 y (Uz.wrap (b*2^q))):=f;have j:Hid (∀ w,A8 prog 259 #[.u x,.i k] w λe m=>e=.returned (.u z)/\m=w.drew):=g;have r:Hid (8*k=q):=o;clear f p g o;go_wp2_with fail;refine (j.out _).mono ?_;rintro e I ⟨rfl,l⟩;subst l;go_wp2_with fail;go_roundw;case rel=>exact ⟨k+1,ab,by go_num,by rw [F.out,r.out],c.drew⟩
     case measure=>simp [intOf];omega
  ·have s:k=4:=ab;subst s;generalize qo x 4=y at *;go_wp2_with fail;go_ret;exact ⟨by rw [B.out];rfl,c⟩
theorem Ha (k:CK) (x:Int) (a:0<=x) (c:x<18446744073709551616) (w:A5):CB k.fitF #[k.val,.u x] w (.u (iq k x)):=by
 cases k with
 | plain b=>exact JH b x w
 | mst=>exact Pz x w
 | mie=>exact Pw x w
 | mip=>exact Px x w
 | satp=>exact Me x a c w
 | cfg=>exact PA x a c w
 | addr e=>exact Md e x w
theorem JI:CB 295 #[.agg #[],.slice s 22 y,.u j] G (.u 2184):=by go_enter func295,ntmps295;go_wp2_with fail;go_ret;exact ⟨rfl,by go_grown⟩
theorem E7 (l:0<=z) (m:z<18446744073709551616) (w:A5):CB 298 #[.agg #[],.slice s 22 y,.u z] w (.u (jH j .satp z)):=by
 have g:Hid (∀ w,A8 prog 299 #[.u z] w λe c=>e=.returned (.bool (iB z))/\c=w.drew):=λw=>oN z l m w;have f:jH j .satp z=if iB z=true then 0 else 18446744073709551615:=rfl
 cases d:iB z with
 | true =>rw [JZ8 d] at f;rw [d] at g;have F:Hid (jH j .satp z=0):=f;clear f;go_enter func298,ntmps298;go_wp2_with fail;refine (g.out _).mono ?_;rintro e o ⟨rfl,b⟩;subst b;go_wp2_with fail;go_ret;exact ⟨bh,by go_grown⟩
 | false =>rw [JZ9 (by rw [d];decide)] at f;rw [d] at g;have F:Hid (jH j .satp z=18446744073709551615):=f;clear f;go_enter func298,ntmps298;go_wp2_with fail;refine (g.out _).mono ?_;rintro e o ⟨rfl,b⟩;subst b;go_wp2_with fail;go_ret;exact ⟨bh,by go_grown⟩
theorem JJ (hz:d.length=22) (hs:Sl .u64 G s d) (hl:∀ x,0<=d.getD x 0/\d.getD x 0<18446744073709551616): CB 301 #[.agg #[],.slice s 22 y,.u j] G (.u (jH (d.getD 16 0) .cfg j)):=by
 obtain ⟨I,off,rfl,u,z⟩:=hs 16 ab;have D:=hl 16;have E:Hid (jH (d.getD 16 0) .cfg j=gT (d.getD 16 0) 4):=(rfl:jH (d.getD 16 0) .cfg j=_);generalize d.getD 16 0=c at *;have w:Hid (∀ k:Nat,k<5->∀ G,A8 prog 302 #[.u c,.i k] G λe r=>e=.returned (.bool (fX c k))/\r=G.drew):=λk B G=>mK c k B D.1 D.2 G;clear hs hl hz;go_enter func301,ntmps301;go_wp2_with fail;go_loopw [7,9] (λcap i wr=>∃ k:Nat,k<=4/\i=.i k/\cap=.u (gT c k)/\Bw G wr)
  (λ_ i _=>4-(intOf i).toNat)
 case atStart=>exact ⟨0,ab,rfl,rfl,by go_grown⟩
 case round =>
  obtain ⟨k,B,rfl,rfl,b⟩:=hrel;by_cases K:k<4
  ·have m:gT c (k+1)=if fX c k=true then A6 .or .u64 (gT c k) (Uz.wrap (255*2^(8*k))) else gT c k:=rfl
   have f:=w.out k ab;have J:wr.cell? ⟨I,off+16,none⟩=some (.u c):=(b.cell (by exact u)).trans z;obtain ⟨q,a⟩:∃ q,8*k=q:=⟨_,rfl⟩;have M:S5 (8*(k:Int))=(q:Int):=ob;have C:q<64:=ab;rw [a] at m;have l:decide ((k:Int)<4):=bv;obtain ⟨cap,t⟩:∃ cap,cap=gT c k:=⟨_,rfl⟩;rw [<- t] at m;rw [<- t];cases g:fX c k with
   | true =>
     rw [JZ8 g] at m;rw [g] at f;have F:Hid (gT c (k+1)=A6 .or .u64 cap (Uz.wrap (255*2^q))):=m;have o:Hid (∀ G,A8 prog 302 #[.u c,.i k] G λe r=>e=.returned (.bool true)/\r=G.drew):=f;have H:Hid (8*k=q):=a;clear m t f a z g;go_wp2_with fail;refine (o.out _).mono ?_;rintro e L ⟨rfl,p⟩;subst p;go_wp2_with fail;go_roundw;case rel=>exact ⟨k+1,ab,by go_num,by rw [F.out,H.out],b.drew⟩
     case measure=>simp [intOf];omega
   | false =>
     rw [JZ9 (by rw [g];decide)] at m;rw [g] at f;have F:Hid (gT c (k+1)=cap):=m;have o:Hid (∀ G,A8 prog 302 #[.u c,.i k] G λe r=>e=.returned (.bool false)/\r=G.drew):=f;clear m t f a z g;go_wp2_with fail;refine (o.out _).mono ?_;rintro e L ⟨rfl,p⟩;subst p;go_wp2_with fail;go_roundw;case rel=>exact ⟨k+1,ab,by go_num,by rw [F.out],b.drew⟩
     case measure=>simp [intOf];omega
  ·have A:k=4:=ab;subst A;generalize gT c 4=cap at *;go_wp2_with fail;go_ret;exact ⟨by rw [E.out];rfl,b⟩
theorem E8 (C:y<4) (a:Option C6) (cap:Nat) (l:List Int) (x:Int) (w:A5) (hz:l.length=22) (hs:Sl .u64 w a l) (hl:∀ j,0<=l.getD j 0/\l.getD j 0<18446744073709551616): CB 304 #[.agg #[.i y],.slice a 22 cap,.u x] w (.u (jH (l.getD 16 0) (.addr y) x)):=by
 obtain ⟨B,off,rfl,z,t⟩:=hs 16 ab;have s:=hl 16;have G:∀ o,(w.alloc o).cell? ⟨B,off+16,none⟩=some (.u (l.getD 16 0)):=λo=>(((R7 w.heap.size w).alloc (R5 _) o).cell (by exact z)).trans t;have m:jH (l.getD 16 0) (.addr y) x=if (fX (l.getD 16 0) y||(fX (l.getD 16 0) (y+1)&&(iT (l.getD 16 0) (y+1)==1)))=true then 18446744073709551615 else 0:=rfl
 generalize l.getD 16 0=c at *;have u:Hid (∀ w,A8 prog 302 #[.u c,.i y] w λe q=>e=.returned (.bool (fX c y))/\q=w.drew):=λw=>mK c y ab s.1 s.2 w;have f:Hid (∀ w,A8 prog 302 #[.u c,.i ((y:Int)+1)] w λe q=>e=.returned (.bool (fX c (y+1)))/\q=w.drew):=λw=>mK c (y+1) ab s.1 s.2 w;have A:Hid (∀ w,A8 prog 265 #[.u c,.i ((y:Int)+1)] w λe q=>e=.returned (.u (iT c (y+1)))/\q=w.drew):=λw=>qV c (y+1) ab s.1 s.2 w;generalize jH c (.addr y) x=g at *;generalize fX c y=D at *;generalize fX c (y+1)=E at *;generalize iT c (y+1)=r at *;clear hs hl hz t;cases D with
 | true =>have F:Hid (g=18446744073709551615):=(by show g=_;rw [m];rfl);clear m;go_enter func304,ntmps304;go_wp2_with fail;refine (u.out _).mono ?_;rintro e p ⟨rfl,b⟩;subst b;go_wp2_with fail;go_ret;exact ⟨bh,by go_grown⟩
 | false =>
   cases E with
   | false =>have F:Hid (g=0):=(by show g=_;rw [m];rfl);clear m;go_enter func304,ntmps304;go_wp2_with fail;refine (u.out _).mono ?_;rintro e p ⟨rfl,b⟩;subst b;go_wp2_with fail;refine (f.out _).mono ?_;rintro e p ⟨rfl,b⟩;subst b;go_wp2_with fail;go_ret;exact ⟨bh,by go_grown⟩
   | true =>
     cases d:(r==1) with
     | true =>have F:Hid (g=18446744073709551615):=(by show g=_;rw [m,d];rfl);clear m;go_enter func304,ntmps304;go_wp2_with fail;refine (u.out _).mono ?_;rintro e p ⟨rfl,b⟩;subst b;go_wp2_with fail;refine (f.out _).mono ?_;rintro e p ⟨rfl,b⟩;subst b;go_wp2_with fail;refine (A.out _).mono ?_;rintro e p ⟨rfl,b⟩;subst b;go_wp2_with fail;go_ret;exact ⟨bh,by go_grown⟩
     | false =>have F:Hid (g=0):=(by show g=_;rw [m,d];rfl);clear m;go_enter func304,ntmps304;go_wp2_with fail;refine (u.out _).mono ?_;rintro e p ⟨rfl,b⟩;subst b;go_wp2_with fail;refine (f.out _).mono ?_;rintro e p ⟨rfl,b⟩;subst b;go_wp2_with fail;refine (A.out _).mono ?_;rintro e p ⟨rfl,b⟩;subst b;go_wp2_with fail;go_ret;exact ⟨bh,by go_grown⟩
def CK.sees:CK->Bool
 | .mst=>true | .mie=>true | .mip=>true | _=>false
def CK.holds:CK->Bool
 | .mip=>true | .satp=>true | .cfg=>true | .addr _=>true | _=>false
def nX:CK->Int
 | .mst=>256 | .mie=>260 | .mip=>324 | _=>0
def vL (m:Int):CK->Int
 | .mst=>786722 | .mie=>m | .mip=>m | _=>0
def vM (m:Int):CK->Int
 | .mst=>786722 | .mie=>m | .mip=>A6 .and .u64 m 2 | _=>0
theorem Mg (k:CK) (hk:k.sees) (m:Int) (w:A5):CB k.viewF #[k.val,.u m] w (.agg #[.i (nX k),.u (vL m k),.u (vM m k)]):=by
 cases k with
 | plain b=>cases hk
 | satp=>cases hk
 | cfg=>cases hk
 | addr e=>cases hk
 | mst =>simp only [CK.viewF,CK.val,nX,vL,vM];go_enter func290,ntmps290;go_wp2_with fail;go_returns;exact ⟨rfl,by go_grown⟩
 | mie =>simp only [CK.viewF,CK.val,nX,vL,vM];go_enter func293,ntmps293;go_wp2_with fail;go_returns;exact ⟨rfl,by go_grown⟩
 | mip =>simp only [CK.viewF,CK.val,nX,vL,vM];go_enter func296,ntmps296;go_wp2_with fail;go_returns;exact ⟨rfl,by go_grown⟩
def dK (l:List Int):Nat->Nat->Bool
 | 0,_=>true
 | n+1,k=>(iq (gh k).2 (l.getD k 0)==l.getD k 0)&&dK l n (k+1)
def j5 (n:Nat) (l:List Int):Bool:=decide (n=22)&&dK l 22 0
theorem Ad (hk:y<22) (h:(iq (gh y).2 (Q.getD y 0)==Q.getD y 0)):dK Q (22-y) y=dK Q (22-(y+1)) (y+1):=by rw [show 22-y=(22-(y+1))+1 from ab,dK,h,Bool.true_and]
theorem Co (hk:y<22) (h:(iq (gh y).2 (Q.getD y 0)==Q.getD y 0)=false):dK Q (22-y) y=false:=by rw [show 22-y=(22-(y+1))+1 from ab,dK,h,Bool.false_and]
theorem yH (k:CK) (w:A5):(method 426 k.ty k.val "loop.example/g00134/impl.fit").run prog w=.ok (k.fitF,k.val) w:=by cases k<;>kernel_rfl
theorem qW (h:(prog.funcs[A]?).map (λfn=>(fn.name == "runtime.NumGoroutine",fn.body.isSome))=some (false,true)) (args:Array A9) (w:A5):(callFunc A args).run prog w=.ok (.enter A args) w:=by
 cases a:prog.funcs[A]? with
 | none=>rw [a] at h;cases h
 | some fn =>rw [a] at h;simp only [Option.map_some,Option.some.injEq,Prod.mk.injEq] at h;have b:fn.name≠ "runtime.NumGoroutine":=(by simpa using h.1);obtain ⟨c,d⟩:=Option.isSome_iff_exists.mp h.2;simp [callFunc,a,b,d,mark]
theorem vO (k:CK):(prog.funcs[k.fitF]?).map (λfn=>(fn.name == "runtime.NumGoroutine",fn.body.isSome))=some (false,true):=by cases k<;>kernel_rfl
theorem JK (k:CK) (x:Int) (c:0<=x) (d:x<18446744073709551616) (w:A5) (p q:C6) (u v:A9) (a:w.cell? p=some u/\w.cell? q=some v) :
 A8 prog k.fitF #[k.val,.u x] w λe b=>e=.returned (.u (iq k x))/\Bw w b/\b.cell? p=some u/\b.cell? q=some v :=
 (Ha k x c d w).mono λe b h=>⟨h.1,h.2,(h.2.cell (World.block_lt_of_cell? _ _ a.1)).trans a.1,(h.2.cell (World.block_lt_of_cell? _ _ a.2)).trans a.2⟩
theorem lS (hz:d.length=y) (hs:Sl .u64 G s d) (hl:∀ j,0<=d.getD j 0/\d.getD j 0<18446744073709551616): CB 49 #[.slice s y T] G (.bool (j5 y d)):=by
 by_cases C:y=22
 ·have p:j5 y d=dK d 22 0:=(by simp [j5,C]);rw [p];have M:Hid (d.length=y):=hz;have K:Hid (∀ j,0<=d.getD j 0/\d.getD j 0<18446744073709551616):=hl;subst C;clear hz p hl;go_enter func49,ntmps49;go_wp2_with fail;refine (pB _).mono ?_;rintro e w1 ⟨cap,rfl,L,O⟩;go_wp2_with fail;go_loopw [9] (λi wr=>∃ k:Nat,k<=22/\i=.i k/\Hid (dK d (22-k) k=dK d 22 0)/\Bw G wr)
   (λi _=>22-(intOf i).toNat)
  case atStart=>exact ⟨0,ab,rfl,(rfl:dK d (22-0) 0=dK d 22 0),O⟩
  case round =>
   obtain ⟨k,X,rfl,A,c⟩:=hrel;by_cases g:k<22
   ·obtain ⟨b,off,rfl,z,P⟩:=hs k (by rw [M.out];exact g);have I:=K.out k;obtain ⟨r,a⟩:∃ r,r=gh k:=⟨_,rfl⟩;have HR:Hid (r=gh k):=a;have m:(iq r.2 (d.getD k 0)==d.getD k 0)->Hid (dK d (22-(k+1)) (k+1)=dK d 22 0):=λh=>(Ad d k g (by rw [<- a];exact h)).symm.trans A.out;have H:(iq r.2 (d.getD k 0)==d.getD k 0)=false->Hid (dK d 22 0=false):=λh=>A.out.symm.trans (Co d k g (by rw [<- a];exact h));have f:Hid ((iq r.2 (d.getD k 0)==d.getD k 0)->Hid (dK d (22-(k+1)) (k+1)=dK d 22 0)):=m;have q:Hid ((iq r.2 (d.getD k 0)==d.getD k 0)=false->Hid (dK d 22 0=false)):=H;clear a m H;have W:decide ((k:Int)<22):=bv;have R:(0:Int)<=(k:Int):=ab;have S:(k:Int)<22:=ab;have U:=yH r.2;have N:=qW (vO r.2);have Q:wr.cell? ⟨b,off+k,none⟩=some (.u (d.getD k 0)):=(c.cell (by exact z)).trans P;generalize d.getD k 0=x at *;go_wp2_with (first | refine g7 L .i64 k g r HR rfl (.tmp 8) (.tmp 9) rfl rfl rfl ?_);go_region_held3 (λt=>t.cell? ⟨wr.heap.size,1,none⟩=some (.iface r.2.ty r.2.val)/\t.cell? ⟨b,off+k,none⟩=some (.u x)) (go_keep) (first | (refine (JK r.2 x I.1 I.2 _ ⟨wr.heap.size,1,none⟩ ⟨b,off+k,none⟩ (.iface r.2.ty r.2.val) (.u x) ?_).mono ?_;(first | assumption | (simp [*]));rintro e V ⟨rfl,o,D,E⟩));have w:Hid (Bw G V):=(by show T3 _ _ _;refine aa (w1:=(wr.alloc (Obj.cells #[.i r.1,.iface r.2.ty r.2.val] 117)).drew) ?_ o;exact (c.alloc c.size _).drew);clear o D E U N;obtain ⟨n,J⟩:∃ n,iq r.2 x=n:=⟨_,rfl⟩;rw [J] at f q ⊢;clear J;cases l:(n==x) with
    | true =>
      have F:=f.out l;have u:(n != x)=false:=(by simp [bne,l]);clear f q l;rw [u];go_wp2_with fail;go_roundw;case rel=>exact ⟨k+1,ab,by go_num,F,w.out⟩
      case measure=>simp [intOf];omega
    | false =>have F:=q.out l;have u:(n != x):=(by simp [bne,l]);clear f q l;rw [u];go_wp2_with fail;go_ret;exact ⟨bh,w.out⟩
   ·have B:k=22:=ab;subst B;have F:Hid (dK d 22 0):=A.out.symm;go_wp2_with fail;go_ret;exact ⟨bh,c⟩
 ·have F:Hid (j5 y d=false):=(by show _=_;simp [j5,C]);have l:((y:Int) != 22):=bv;clear hz hs;go_enter func49,ntmps49;exact a0b
