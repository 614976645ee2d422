/- Own lemmas. -/
import Derived.Test.YtfekjlcnnjhofaaGreatDoorAut
import Derived.Test.YtfekjlcnnjhofaaGreatDoorK16
import Derived.Test.YtfekjlcnnjhofaaGreatDoorK17
set_option maxRecDepth 100000
namespace Go.Proofs.YtfekjlcnnjhofaaGreatDoor
open Go.RowKit Tryz
open IntKind renaming u64->Uz
open Below renaming refl->A8
open Bool renaming and_eq_true->K0,not_true->K1,false_or->L0,and_true->L6
open Go renaming World->F3,bits->G1,Calls->H8,heap_alloc_new->I1,Value->I2,bodyPost->I3,Addr->I4,TypeId->I5
open Go.RowKit renaming wrap64->R7
open Instr renaming buildSlice->R8,box->S2
open Int renaming tmod_eq_emod_of_nonneg->N1,toNat_natCast->O1,ediv_nonneg->P2
open IntKind renaming wrap_i64->A5,wrap_u64->A6
open List renaming getElem?_eq_getElem->D2,getD_eq_getElem?_getD->D3,length_cons->D4,length_set->D8,getD->F0
open Nat renaming le_refl->A9,zero_add->C5,le_trans->C6,zero_le->D1
open Option renaming map_eq_some_iff->R4
open Or renaming inr->R5,inl->R6
set_option linter.unusedVariables false
variable {w A M:MV} {B a r x:Nat} {l W:F3} {b n:MA} {k c:Int} {D:List Int} {f:Ins} {j:DV} {p:I2} {P:Option I4} {T:Program} {q:I5} {s:List I2} (t:F3) (E:MV) (S:Ins) (d:List Int) (e g m o y z C:Int) (F:Nat)
theorem NZ:(tG E e g 2 m).2.2=0\/(tG E e g 2 m).2.2=21:=by
 unfold tG;split;·split<;>exact R6 rfl
 ·split
  ·split;·exact R6 rfl
   ·exact R5 rfl
  ·split
   ·split;·exact R6 rfl
    ·exact R5 rfl
   ·exact R5 rfl
theorem Ky:(aH E e g 2 m).2.2=0\/∃ c:Nat,c<14/\(aH E e g 2 m).2.2=c+16:=by
 unfold aH;split;·exact R5 ⟨4,ab,rfl⟩
 ·unfold zX;split
  ·rcases yQ E.ram E.ram.length E.cs (gg E.cs E.pr 2) e 2 with addr|addr|addr;·refine R5 ⟨0,ab,?_⟩;show R7 ((cj E.ram E.ram.length E.cs (gg E.cs E.pr 2) e 2).code+16)=_;rw [addr];unfold R7;decide
   ·refine R5 ⟨13,ab,?_⟩;show R7 ((cj E.ram E.ram.length E.cs (gg E.cs E.pr 2) e 2).code+16)=_;rw [addr];unfold R7;decide
   ·refine R5 ⟨5,ab,?_⟩;show R7 ((cj E.ram E.ram.length E.cs (gg E.cs E.pr 2) e 2).code+16)=_;rw [addr];unfold R7;decide
  ·split;·exact R5 ⟨5,ab,rfl⟩
   ·refine (NZ _ _ _ _).imp id λaddr=>⟨5,ab,addr⟩
theorem AL {addr size x c:Int} (a:(aH M addr size 2 x).2.2=c) (hn:(c != 0)):IntKind.i64.wrap (c-16)=(((c-16).toNat:Nat):Int)/\IntKind.i64.wrap ((((c-16).toNat:Nat):Int)+2)=(((c-16).toNat+2:Nat):Int)/\(c-16).toNat+2<16:=by
 have h:=Ky M addr size x;rw [a] at h;rcases h with h|⟨d,b,e⟩;·rw [h] at hn;cases hn
 ·rw [A5,A5];omega
theorem UT (rd j k imm hh M:Int) (K:e=63\/e=74) (L:0<=rd) (O:rd<=31) (ha:U hh) (hb:U M) (h:Ht B a r w b l) (G:Gd w): H8 prog 75 #[.p a 0,.agg #[.i e,.i rd,.i j,.i k,.i imm],.u hh,.u M] l (HR B a r w b l (je w ⟨e,rd,j,k,imm⟩ hh M)):=by
 obtain ⟨V,J⟩:∃ V,je w ⟨e,rd,j,k,imm⟩ hh M=V:=⟨_,rfl⟩;rw [J];obtain ⟨f,q⟩:∃ f,f=bC e:=⟨_,rfl⟩;obtain p|p:=K;all_goals
  have o:=G.acc hh f 2 0
  have u:=λW (A:Mp B r w b W)=>fY w b B r hh f 2 0 W A G.len G.mw G.ok ki ab ab ha ⟨bc,bc⟩
  have H:=λc=>kq (M:=w) (addr:=hh) (size:=f) (kind:=2) (x:=0) (c:=c)
  have m:(if ((aH w hh f 2 0).2.2 != 0)=true then cH (aH w hh f 2 0) 0 hh else (aZ (cn (dA (aH w hh f 2 0).2.1 hh 2) true (cq (aH w hh f 2 0).2.1 hh 2).addr) rd (ay (8*f) (aH w hh f 2 0).1) (Uz.wrap (w.pc+4)),1))=V:=by subst p q;exact J
  clear J
  generalize aH w hh f 2 0=X at *
  obtain ⟨y,N,c⟩:=X
  dsimp only at o u H m
  refine br (S:=Hs r (aS a r::eR l.heap.size [(#[.i e,.i rd,.i j,.i k,.i imm],88)]) (ak w b)) (args:=[.p a 0,.agg #[.i e,.i rd,.i j,.i k,.i imm],.u hh,.u M]) [(#[.i e,.i rd,.i j,.i k,.i imm],88)] func75 (hn:=bb) (hs:=bb) ?_
  refine aP 0 2 (aP 5 3 ?_)
  refine aT (Hs.eng (dr:=true) (λ_ h=>h.hs)) {} 160 (Hx.start h _) (λP E=>u P E.mp) (hx:=bb) (he:=bb) ?_
  rintro P op W2 E ⟨rfl,C,Q,k2⟩
  refine ⟨_,0,rfl,gi bb,aL (Hs r (aS a r::eR l.heap.size [(#[.i e,.i rd,.i j,.i k,.i imm],88)]) (ak N C)) (hn:=bb) ?_⟩
  cases s:(c != 0) with
  | true =>
    rw [s,JZ8 rfl] at m
    subst m
    exact Hx.last (Hs.eng (dr:=true) (λ_ h=>h.hs)) {eq:=[(53,an s),(56,cR .i64 (H c rfl s).1)]} 60 (E.step Q k2) (λW A=>dU _ (H c rfl s).2 hh A.ht o) (hx:=bb) (he:=bb) (hy:=λ_=>bb)
  | false =>
    rw [s,JZ9 bc] at m
    have I:Gd (dA N hh 2):=o.marked _
    have z:=λW (A:Mp B r N C W)=>Ao N C B r hh 2 W A o.len o.mw o.ok ab ab ha (cq N hh 2) rfl
    have d:∀ W,Mp B r N C W->H8 prog 91 #[.p r 0,.slice none 0 0,.u hh,.i 2] W λop w'=>op=.returned (.tuple #[.u (cq N hh 2).addr,.i (cq N hh 2).code])/\Mp B r (dA N hh 2) C w'/\Kx r (aF N C) (aF (dA N hh 2) C) W w':=z
    clear z
    generalize dA N hh 2=g at I d m
    generalize cq N hh 2=F at d m
    obtain ⟨n,fc,fm,ft,fe⟩:=F
    dsimp only at d m
    subst m
    refine aT (Hs.eng (dr:=true) (λ_ h=>h.hs)) {eq:=[(53,an s)]} 60 (E.step Q k2) (λW A=>d W A.mp) (hx:=bb) (he:=bb) ?_
    rintro W3 op W4 h3 ⟨rfl,h4,k4⟩
    refine ⟨_,0,rfl,gi bb,aL (Hs r (aS a r::eR l.heap.size [(#[.i e,.i rd,.i j,.i k,.i imm],88)]) (ak g C)) (hn:=bb) ?_⟩
    refine ae (Hs.eng (dr:=false) (λ_ h=>h.hs)) {} 60 (h3.step h4 k4) (hret:=bb) (he:=bb) λW5 R=>?_
    refine bE (hx:=bb) (bG (i:=12) (T:=4) (v:=.bool true) R.mp.row (show 12<14 by decide) bb rfl) (hS:=gi bb) ?_
    have h6:=R.fld (M':=cn g true g.hd) 12 (.bool true) rfl rfl
    refine aL (Hs r (aS a r::eR l.heap.size [(#[.i e,.i rd,.i j,.i k,.i imm],88)]) (ak (cn g true g.hd) C)) (hn:=bb) ?_
    refine ae (Hs.eng (dr:=false) (λ_ h=>h.hs)) {} 60 h6 (hret:=bb) (he:=bb) λW7 Y=>?_
    refine bE (hx:=bb) (bG (i:=11) (T:=24) (v:=.u n) Y.mp.row (show 11<14 by decide) bb rfl) (hS:=gi bb) ?_
    have Z:=Y.fld (M':=cn g true n) 11 (.u n) rfl rfl
    refine aL (Hs r (aS a r::eR l.heap.size [(#[.i e,.i rd,.i j,.i k,.i imm],88)]) (ak (cn g true n) C)) (hn:=bb) ?_
    have n32:(cn g true n).x.length=32:=by unfold cn;exact I.x32
    have n22:(cn g true n).cs.length=22:=by unfold cn;exact (aN I.ok).1
    generalize cn g true n=N3 at Z n32 n22 ⊢
    refine ae (Hs.eng (dr:=false) (λ_ h=>h.hs)) {} 60 Z (hret:=bb) (he:=bb) λW9 h9=>?_
    refine lN 9 (hm:=bb) (hk:=bb) ?_
    refine aT (Hs.eng (dr:=true) (λ_ h=>h.hs)) {} 60 (h9.below (A8 _ _).drew) (λW _=>ei y (8*f) ki ki W) (hx:=bb) (he:=bb) ?_
    rintro W10 op W11 t ⟨rfl,D⟩
    subst D
    refine ⟨_,0,rfl,λ_=>t.hs,?_⟩
    exact Hx.last (Hs.eng (dr:=true) (λ_ h=>h.hs)) {} 60 t (λW A=>fw rd (ay (8*f) y) _ L O A.ht n32 n22) (hx:=bb) (he:=bb) (hy:=λ_=>bb)
theorem UU (hop:e=64\/e=75) (I:0<=g) (J:g<=31) (ha:U z) (hb:U C) (h:Ht B a r w b l) (P:Gd w): H8 prog 75 #[.p a 0,.agg #[.i e,.i g,.i m,.i o,.i y],.u z,.u C] l (HR B a r w b l (je w ⟨e,g,m,o,y⟩ z C)):=by
 obtain ⟨V,hV⟩:∃ V,je w ⟨e,g,m,o,y⟩ z C=V:=⟨_,rfl⟩;rw [hV];obtain ⟨A,q⟩:∃ A,A=bC e:=⟨_,rfl⟩;obtain p|p:=hop;all_goals
  have R:(A:Int)≠0:=by subst p q;decide
  have a0:z.tmod A=z%((A:Nat):Int):=N1 ha.1
  have u:Gd (dA w z 3):=P.marked _
  have Q:(dA w z 3).pc=w.pc:=rfl
  have hh:∀ W,Mp B r w b W->H8 prog 91 #[.p r 0,.slice none 0 0,.u z,.i 3] W λM w'=>M=.returned (.tuple #[.u (cq w z 3).addr,.i (cq w z 3).code])/\Mp B r (dA w z 3) b w'/\Kx r (aF w b) (aF (dA w z 3) b) W w':=λW f=>Ao w b B r z 3 W f P.len P.mw P.ok ab ab ha (cq w z 3) rfl
  obtain ⟨c,c16,H⟩:∃ c:Nat,c<16/\(cq w z 3).code=c:=l5 w.ram w.ram.length w.cs (gg w.cs w.pr 3) z 3
  have rd:(if (z%((A:Nat):Int) != 0)=true then (aR w 6 false z,2) else if ((cq w z 3).code != 0)=true then (aR (dA w z 3) (cq w z 3).code.toNat false z,2) else VV (dA w z 3) ⟨e,g,m,o,y⟩ z C (cq w z 3).addr)=V:=by subst p q;exact hV
  clear hV
  generalize dA w z 3=N at u hh rd Q
  generalize cq w z 3=F at hh H rd
  obtain ⟨pa,fc,fm,ft,fe⟩:=F
  dsimp only at hh H rd
  subst H
  rw [<- a0] at rd
  refine br (S:=Hs r (aS a r::eR l.heap.size [(#[.i e,.i g,.i m,.i o,.i y],88)]) (ak w b)) (args:=[.p a 0,.agg #[.i e,.i g,.i m,.i o,.i y],.u z,.u C]) [(#[.i e,.i g,.i m,.i o,.i y],88)] func75 (hn:=bb) (hs:=bb) ?_
  refine aP 0 2 (aP 5 3 ?_)
  cases hz:(z.tmod A != 0) with
  | true =>
    rw [hz,JZ8 rfl] at rd
    subst rd
    exact Hx.last (Hs.eng (dr:=true) (λ_ h=>h.hs)) {eq:=[(90,an hz)],ov:=[(89,Lh .u64 z A R)]} 160 (Hx.start h _) (λW f=>dU 6 bc z f.ht P) (hx:=bb) (he:=bb) (hy:=λ_=>bb)
  | false =>
  rw [hz,JZ9 bc] at rd
  refine aT (Hs.eng (dr:=true) (λ_ h=>h.hs)) {eq:=[(90,an hz)],ov:=[(89,Lh .u64 z A R)]} 160 (Hx.start h _) (λW f=>hh W f.mp) (hx:=bb) (he:=bb) ?_
  rintro W3 M W4 h3 ⟨rfl,h4,k4⟩
  refine ⟨_,0,rfl,gi bb,aL (Hs r (aS a r::eR l.heap.size [(#[.i e,.i g,.i m,.i o,.i y],88)]) (ak N b)) (hn:=bb) ?_⟩
  have op:=h3.step h4 k4
  cases K:(((c:Nat):Int) != 0) with
  | true =>
    rw [K,JZ8 rfl] at rd
    subst rd
    exact Hx.last (Hs.eng (dr:=true) (λ_ h=>h.hs)) {eq:=[(105,an K)]} 60 op (λW f=>dU c c16 z f.ht u) (hx:=bb) (he:=bb) (hy:=λ_=>bb)
  | false =>
  rw [K,JZ9 bc] at rd
  have d:(if (N.hl&&(N.hd==pa))=true then (if ((aH N z A 3 C).2.2 != 0)=true then cH (aH N z A 3 C) 0 z else (aZ (cn (aH N z A 3 C).2.1 false 0) g 0 (Uz.wrap (N.pc+4)),1)) else (aZ (cn N false 0) g 1 (Uz.wrap (N.pc+4)),1))=V:=by subst p q;exact rd
  clear rd
  rw [Q] at d
  have no:(N.hl&&(N.hd==pa))=false->(aZ (cn N false 0) g 1 (Uz.wrap (w.pc+4)),1)=V:=λhn=>by rw [hn,JZ9 bc] at d;exact d
  cases L:N.hl with
  | false =>
    have E:=no (by rw [L];rfl)
    subst E
    refine ae (Hs.eng (dr:=false) (λ_ h=>h.hs)) {eq:=[(105,an K),(115,an L)]} 60 op (hret:=bb) (he:=bb) λW5 op=>?_
    refine bE (hx:=bb) (bG (i:=12) (T:=4) (v:=.bool false) op.mp.row (show 12<14 by decide) bb rfl) (hS:=gi bb) ?_
    have k:=op.fld (M':=cn N false N.hd) 12 (.bool false) rfl rfl
    refine aL (Hs r (aS a r::eR l.heap.size [(#[.i e,.i g,.i m,.i o,.i y],88)]) (ak (cn N false N.hd) b)) (hn:=bb) ?_
    refine ae (Hs.eng (dr:=false) (λ_ h=>h.hs)) {} 60 k (hret:=bb) (he:=bb) λW7 s=>?_
    refine bE (hx:=bb) (bG (i:=11) (T:=24) (v:=.u 0) s.mp.row (show 11<14 by decide) bb rfl) (hS:=gi bb) ?_
    have D:=s.fld (M':=cn N false 0) 11 (.u 0) rfl rfl
    refine aL (Hs r (aS a r::eR l.heap.size [(#[.i e,.i g,.i m,.i o,.i y],88)]) (ak (cn N false 0) b)) (hn:=bb) ?_
    have n32:(cn N false 0).x.length=32:=by unfold cn;exact u.x32
    have n22:(cn N false 0).cs.length=22:=by unfold cn;exact (aN u.ok).1
    generalize cn N false 0=N3 at D n32 n22 ⊢
    exact Hx.last (Hs.eng (dr:=true) (λ_ h=>h.hs)) {} 60 D (λW f=>fw g 1 _ I J f.ht n32 n22) (hx:=bb) (he:=bb) (hy:=λ_=>bb)
  | true =>
  cases Z:(N.hd==pa) with
  | false =>
    have E:=no (by rw [L,Z];rfl)
    subst E
    refine ae (Hs.eng (dr:=false) (λ_ h=>h.hs)) {eq:=[(105,an K),(115,an L),(122,an Z)]} 60 op (hret:=bb) (he:=bb) λW5 op=>?_
    refine bE (hx:=bb) (bG (i:=12) (T:=4) (v:=.bool false) op.mp.row (show 12<14 by decide) bb rfl) (hS:=gi bb) ?_
    have k:=op.fld (M':=cn N false N.hd) 12 (.bool false) rfl rfl
    refine aL (Hs r (aS a r::eR l.heap.size [(#[.i e,.i g,.i m,.i o,.i y],88)]) (ak (cn N false N.hd) b)) (hn:=bb) ?_
    refine ae (Hs.eng (dr:=false) (λ_ h=>h.hs)) {} 60 k (hret:=bb) (he:=bb) λW7 s=>?_
    refine bE (hx:=bb) (bG (i:=11) (T:=24) (v:=.u 0) s.mp.row (show 11<14 by decide) bb rfl) (hS:=gi bb) ?_
    have D:=s.fld (M':=cn N false 0) 11 (.u 0) rfl rfl
    refine aL (Hs r (aS a r::eR l.heap.size [(#[.i e,.i g,.i m,.i o,.i y],88)]) (ak (cn N false 0) b)) (hn:=bb) ?_
    have n32:(cn N false 0).x.length=32:=by unfold cn;exact u.x32
    have n22:(cn N false 0).cs.length=22:=by unfold cn;exact (aN u.ok).1
    generalize cn N false 0=N3 at D n32 n22 ⊢
    exact Hx.last (Hs.eng (dr:=true) (λ_ h=>h.hs)) {} 60 D (λW f=>fw g 1 _ I J f.ht n32 n22) (hx:=bb) (he:=bb) (hy:=λ_=>bb)
  | true =>
    clear no
    rw [L,Z,JZ8 bc] at d
    have O:=u.acc z A 3 C
    have G:=λW (f:Mp B r N b W)=>fY N b B r z A 3 C W f u.len u.mw u.ok ki ab ab ha hb
    have Y:=λc=>kq (M:=N) (addr:=z) (size:=A) (kind:=3) (x:=C) (c:=c)
    generalize aH N z A 3 C=X at O G Y d
    obtain ⟨j,t,c2⟩:=X
    dsimp only at O G Y d
    refine aT (Hs.eng (dr:=true) (λ_ h=>h.hs)) {eq:=[(105,an K),(115,an L),(122,an Z)]} 90 op (λW1 h1=>G W1 h1.mp) (hx:=bb) (he:=bb) ?_
    rintro W6 M W7 k ⟨rfl,imm,s,k7⟩
    refine ⟨_,0,rfl,gi bb,aL (Hs r (aS a r::eR l.heap.size [(#[.i e,.i g,.i m,.i o,.i y],88)]) (ak t imm)) (hn:=bb) ?_⟩
    cases n:(c2 != 0) with
    | true =>
      rw [n,JZ8 rfl] at d
      subst d
      exact Hx.last (Hs.eng (dr:=true) (λ_ h=>h.hs)) {eq:=[(137,an n),(140,cR .i64 (Y c2 rfl n).1)]} 60 (k.step s k7) (λW f=>dU _ (Y c2 rfl n).2 z f.ht O) (hx:=bb) (he:=bb) (hy:=λ_=>bb)
    | false =>
    rw [n,JZ9 bc] at d
    subst d
    refine ae (Hs.eng (dr:=false) (λ_ h=>h.hs)) {eq:=[(137,an n)]} 60 (k.step s k7) (hret:=bb) (he:=bb) λW5 op=>?_
    refine bE (hx:=bb) (bG (i:=12) (T:=4) (v:=.bool false) op.mp.row (show 12<14 by decide) bb rfl) (hS:=gi bb) ?_
    have k:=op.fld (M':=cn t false t.hd) 12 (.bool false) rfl rfl
    refine aL (Hs r (aS a r::eR l.heap.size [(#[.i e,.i g,.i m,.i o,.i y],88)]) (ak (cn t false t.hd) imm)) (hn:=bb) ?_
    refine ae (Hs.eng (dr:=false) (λ_ h=>h.hs)) {} 60 k (hret:=bb) (he:=bb) λW7 s=>?_
    refine bE (hx:=bb) (bG (i:=11) (T:=24) (v:=.u 0) s.mp.row (show 11<14 by decide) bb rfl) (hS:=gi bb) ?_
    have D:=s.fld (M':=cn t false 0) 11 (.u 0) rfl rfl
    refine aL (Hs r (aS a r::eR l.heap.size [(#[.i e,.i g,.i m,.i o,.i y],88)]) (ak (cn t false 0) imm)) (hn:=bb) ?_
    have n32:(cn t false 0).x.length=32:=by unfold cn;exact O.x32
    have n22:(cn t false 0).cs.length=22:=by unfold cn;exact (aN O.ok).1
    generalize cn t false 0=N3 at D n32 n22 ⊢
    exact Hx.last (Hs.eng (dr:=true) (λ_ h=>h.hs)) {} 60 D (λW f=>fw g 0 _ I J f.ht n32 n22) (hx:=bb) (he:=bb) (hy:=λ_=>bb)
theorem N0 {B hh r:Nat} {M:MV} {A:MA} {w:F3} (op rd k l imm a b:Int) (sz:Nat) (hs:65<=op/\op<=73/\sz=4\/76<=op/\op<=84/\sz=8) (hr0:0<=rd) (hr1:rd<=31) (ha:U a) (hb:U b) (h:Ht B hh r M A w) (R:Gd M) (K:U (aH (dA M a 3) a sz 2 0).1) (hV2:∀ y,U y->U (jd op y b)): H8 prog 75 #[.p hh 0,.agg #[.i op,.i rd,.i k,.i l,.i imm],.u a,.u b] w (HR B hh r M A w (je M ⟨op,rd,k,l,imm⟩ a b)):=by
 obtain ⟨V,hV⟩:∃ V,je M ⟨op,rd,k,l,imm⟩ a b=V:=⟨_,rfl⟩;rw [hV];obtain ⟨v,eK⟩:∃ v,na op=v:=⟨_,rfl⟩;have eS:bC op=sz:=by unfold bC;split<;>omega
 obtain ⟨u,h2,q,p⟩|⟨u,h2,q,p⟩:(65<=op/\op<=73/\sz=4/\v=op-63)\/(76<=op/\op<=84/\sz=8/\v=op-74):=by rw [<- eK];unfold na;split<;>omega
 all_goals
  have n:(v==0)=false:=by simp;omega
  have m:(v==1)=false:=by simp;omega
  have eW:(if (a%((sz:Nat):Int) != 0)=true then (aR M 6 false a,2) else if ((cq M a 3).code != 0)=true then (aR (dA M a 3) (cq M a 3).code.toNat false a,2) else (if ((aH (dA M a 3) a sz 2 0).2.2 != 0)=true then cH (aH (dA M a 3) a sz 2 0) 2 a else if ((aH (aH (dA M a 3) a sz 2 0).2.1 a sz 3 (jd op (aH (dA M a 3) a sz 2 0).1 b)).2.2 != 0)=true then cH (aH (aH (dA M a 3) a sz 2 0).2.1 a sz 3 (jd op (aH (dA M a 3) a sz 2 0).1 b)) 0 a else (aZ (aH (aH (dA M a 3) a sz 2 0).2.1 a sz 3 (jd op (aH (dA M a 3) a sz 2 0).1 b)).2.1 rd (ay (8*sz) (aH (dA M a 3) a sz 2 0).1) (Uz.wrap ((dA M a 3).pc+4)),1)))=V:=by
   rw [<- hV];unfold je Tp;dsimp only;rw [eK,n,m,eS,JZ9 (show ¬ (false) by decide),JZ9 (show ¬ (false) by decide)]
  have G:IntKind.i64.wrap (op-63)=op-63:=by rw [A5];omega
  have H:IntKind.i64.wrap (op-63-11)=op-74:=by rw [A5];omega
  have I:decide (11<=op-63)=decide (sz=8):=by rw [decide_eq_decide];omega
  have Y:(sz:Int)≠0:=by subst p q;decide
  have a0:a.tmod sz=a%((sz:Nat):Int):=N1 ha.1
  have t:Gd (dA M a 3):=R.marked _
  have T:(dA M a 3).pc=M.pc:=rfl
  have i:∀ W,Mp B r M A W->H8 prog 91 #[.p r 0,.slice none 0 0,.u a,.i 3] W λe w'=>e=.returned (.tuple #[.u (cq M a 3).addr,.i (cq M a 3).code])/\Mp B r (dA M a 3) A w'/\Kx r (aF M A) (aF (dA M a 3) A) W w':=λW f=>Ao M A B r a 3 W f R.len R.mw R.ok ab ab ha (cq M a 3) rfl
  obtain ⟨c,c16,o⟩:∃ c:Nat,c<16/\(cq M a 3).code=c:=l5 M.ram M.ram.length M.cs (gg M.cs M.pr 3) a 3
  have d:(if (a%((sz:Nat):Int) != 0)=true then (aR M 6 false a,2) else if ((cq M a 3).code != 0)=true then (aR (dA M a 3) (cq M a 3).code.toNat false a,2) else (if ((aH (dA M a 3) a sz 2 0).2.2 != 0)=true then cH (aH (dA M a 3) a sz 2 0) 2 a else if ((aH (aH (dA M a 3) a sz 2 0).2.1 a sz 3 (jd op (aH (dA M a 3) a sz 2 0).1 b)).2.2 != 0)=true then cH (aH (aH (dA M a 3) a sz 2 0).2.1 a sz 3 (jd op (aH (dA M a 3) a sz 2 0).1 b)) 0 a else (aZ (aH (aH (dA M a 3) a sz 2 0).2.1 a sz 3 (jd op (aH (dA M a 3) a sz 2 0).1 b)).2.1 rd (ay (8*sz) (aH (dA M a 3) a sz 2 0).1) (Uz.wrap ((dA M a 3).pc+4)),1)))=V:=by exact eW
  clear hV
  generalize dA M a 3=N at K t i d T
  generalize cq M a 3=F at i o d
  obtain ⟨pa,fc,fm,ft,fe⟩:=F
  dsimp only at i o d
  subst o
  rw [<- a0] at d
  refine br (S:=Hs r (aS hh r::eR w.heap.size [(#[.i op,.i rd,.i k,.i l,.i imm],88)]) (ak M A)) (args:=[.p hh 0,.agg #[.i op,.i rd,.i k,.i l,.i imm],.u a,.u b]) [(#[.i op,.i rd,.i k,.i l,.i imm],88)] func75 (hn:=bb) (hs:=bb) ?_
  refine aP 0 2 (aP 5 3 ?_)
  cases hz:(a.tmod sz != 0) with
  | true =>
    rw [hz,JZ8 rfl] at d
    subst d
    exact Hx.last (Hs.eng (dr:=true) (λ_ h=>h.hs)) {eq:=[(29,cR .i64 G),(31,an I),(33,cR .i64 H),(40,an n),(90,an hz)],ov:=[(89,Lh .u64 a sz Y)]} 160 (Hx.start h _) (λW f=>dU 6 bc a f.ht R) (hx:=bb) (he:=bb) (hy:=λ_=>bb)
  | false =>
  rw [hz,JZ9 bc] at d
  refine aT (Hs.eng (dr:=true) (λ_ h=>h.hs)) {eq:=[(29,cR .i64 G),(31,an I),(33,cR .i64 H),(40,an n),(90,an hz)],ov:=[(89,Lh .u64 a sz Y)]} 160 (Hx.start h _) (λW f=>i W f.mp) (hx:=bb) (he:=bb) ?_
  rintro W3 e W4 h3 ⟨rfl,h4,k4⟩
  refine ⟨_,0,rfl,gi bb,aL (Hs r (aS hh r::eR w.heap.size [(#[.i op,.i rd,.i k,.i l,.i imm],88)]) (ak N A)) (hn:=bb) ?_⟩
  have h5:=h3.step h4 k4
  cases hc:(((c:Nat):Int) != 0) with
  | true =>
    rw [hc,JZ8 rfl] at d
    subst d
    exact Hx.last (Hs.eng (dr:=true) (λ_ h=>h.hs)) {eq:=[(105,an hc)]} 60 h5 (λW f=>dU c c16 a f.ht t) (hx:=bb) (he:=bb) (hy:=λ_=>bb)
  | false =>
  rw [hc,JZ9 bc] at d
  rw [T] at d
  have s:=t.acc a sz 2 0
  have O:=λW (f:Mp B r N A W)=>fY N A B r a sz 2 0 W f t.len t.mw t.ok ki ab ab ha ⟨bc,bc⟩
  have ec:=λc=>AL (M:=N) (addr:=a) (size:=sz) (x:=0) (c:=c)
  generalize aH N a sz 2 0=X at *
  obtain ⟨y,D,c2⟩:=X
  dsimp only at s O ec d K
  have hv:=hV2 y K
  refine aT (Hs.eng (dr:=true) (λ_ h=>h.hs)) {eq:=[(105,an hc),(111,an m)]} 90 h5 (λE u=>O E u.mp) (hx:=bb) (he:=bb) ?_
  rintro W6 e W7 h6 ⟨rfl,C,h7,k7⟩
  refine ⟨_,0,rfl,gi bb,aL (Hs r (aS hh r::eR w.heap.size [(#[.i op,.i rd,.i k,.i l,.i imm],88)]) (ak D C)) (hn:=bb) ?_⟩
  cases g:(c2 != 0) with
  | true =>
    rw [g,JZ8 rfl] at d
    subst d
    exact Hx.last (Hs.eng (dr:=true) (λ_ h=>h.hs)) {eq:=[(167,an g),(170,cR .i64 (ec c2 rfl g).1),(171,cR .i64 (ec c2 rfl g).2.1)]} 60 (h6.step h7 k7) (λW f=>dU _ (ec c2 rfl g).2.2 a f.ht s) (hx:=bb) (he:=bb) (hy:=λ_=>bb)
  | false =>
  rw [g,JZ9 bc] at d
  have gb:=s.acc a sz 3 (jd op y b)
  have Q:=λW (f:Mp B r D C W)=>fY D C B r a sz 3 (jd op y b) W f s.len s.mw s.ok ki ab ab ha hv
  have ed:=λc=>kq (M:=D) (addr:=a) (size:=sz) (kind:=3) (x:=jd op y b) (c:=c)
  have hAm:=λW=>Do op y b K.1 K.2 hb.1 hb.2 W
  generalize aH D a sz 3 (jd op y b)=X at *
  generalize jd op y b=z at *
  generalize sP op=zb at *
  obtain ⟨y2,N4,c3⟩:=X
  dsimp only at gb Q ed d
  refine aT (Hs.eng (dr:=true) (λ_ h=>h.hs)) {eq:=[(167,an g)]} 60 (h6.step h7 k7) (λE u=>hAm E) (hx:=bb) (he:=bb) ?_
  rintro W8 e W9 h8 ⟨rfl,hw9⟩
  subst hw9
  refine ⟨_,0,rfl,gi bb,?_⟩
  refine aT (Hs.eng (dr:=true) (λ_ h=>h.hs)) {} 60 h8 (λE u=>Q E u.mp) (hx:=bb) (he:=bb) ?_
  rintro Wa e Wb L ⟨rfl,C2,P,kb⟩
  refine ⟨_,0,rfl,gi bb,aL (Hs r (aS hh r::eR w.heap.size [(#[.i op,.i rd,.i k,.i l,.i imm],88)]) (ak N4 C2)) (hn:=bb) ?_⟩
  cases j:(c3 != 0) with
  | true =>
    rw [j,JZ8 rfl] at d
    subst d
    exact Hx.last (Hs.eng (dr:=true) (λ_ h=>h.hs)) {eq:=[(195,an j),(198,cR .i64 (ed c3 rfl j).1)]} 60 (L.step P kb) (λW f=>dU _ (ed c3 rfl j).2 a f.ht gb) (hx:=bb) (he:=bb) (hy:=λ_=>bb)
  | false =>
    rw [j,JZ9 bc] at d
    subst d
    refine ae (Hs.eng (dr:=false) (λ_ h=>h.hs)) {eq:=[(195,an j)]} 60 (L.step P kb) (hret:=bb) (he:=bb) λWc hc9=>?_
    refine lN 9 (hm:=bb) (hk:=bb) ?_
    refine aT (Hs.eng (dr:=true) (λ_ h=>h.hs)) {} 60 (hc9.below (A8 _ _).drew) (λW _=>ei y (8*sz) ki ki W) (hx:=bb) (he:=bb) ?_
    rintro W10 e W11 J ⟨rfl,Z⟩
    subst Z
    refine ⟨_,0,rfl,λ_=>J.hs,?_⟩
    exact Hx.last (Hs.eng (dr:=true) (λ_ h=>h.hs)) {} 60 J (λW f=>fw rd (ay (8*sz) y) _ hr0 hr1 f.ht gb.x32 (aN gb.ok).1) (hx:=bb) (he:=bb) (hy:=λ_=>bb)
def Ud (D:DV):Prop:=U D.t/\U D.cm
theorem tW (a: -9223372036854775808<=k) (b:k<9223372036854775808):(Lit.int .i64 k).wf:=by simp [Lit.wf,IntKind.min,IntKind.max,IntKind.signed,IntKind.bits];omega
theorem me:U 0:=⟨bc,bc⟩
theorem F7 (h:∀ y ∈ D,(Lit.int .u8 y).wf) (i:Nat):0<=D.getD i 0/\D.getD i 0<=255:=by
 by_cases a:i<D.length;·exact Hp (h (D.getD i 0) (by simp [F0,D2 a]))
 ·simp [F0,List.getElem?_eq_none (Nat.le_of_not_lt a)]
theorem VW (h:Ud j) (hb:cS j) (k:Nat):U (jz j k).1:=by
 unfold jz;split;·show U (gv j.so);cases j.so<;>exact ⟨bc,bc⟩
 ·exact h.2
 ·exact h.1
 ·have:=F7 hb.1 0;exact ⟨this.1,by show j.xs.getD 0 0<_;omega⟩
 ·exact aW _
 ·exact aW _
 ·exact me
theorem VX (h:Gd w) (hd:Ud w.d) (pa:Int) (n:Nat) (hn:n<=8) (kind x:Int):U (tG w pa n kind x).1:=by
 unfold tG;split
 ·split;·exact me
  ·exact uM w.ram (F7 h.mw.ram) _ _ (by rw [O1];exact hn)
 ·split
  ·split;·exact VW hd ⟨h.mw.xs,h.mw.ys⟩ _
   ·exact me
  ·split;·split<;>exact me
   ·exact me
theorem tX (h:Gd w) (hd:Ud w.d) (a:Int) (n:Nat) (hn:n<=8) (kind x:Int):U (aH w a n kind x).1:=by
 unfold aH;split;·exact me
 ·unfold zX;split;·exact me
  ·split;·exact me
   ·exact VX (h.marked _) hd _ n hn kind x
theorem UV (h:Ud j) (k:Nat):Ud (jz j k).2.1:=by
 unfold jz;split;·exact h
 ·exact h
 ·exact h
 ·exact ⟨h.1,h.2⟩
 ·exact h
 ·exact h
 ·exact ⟨me,me⟩
theorem UW (h:Ud j) {x:Int} (hx:U x) (addr size:Int):Ud (fU j x (gF addr size)).1:=by
 have a:=GH j x;have d:=GI j x;have f:=GJ j x;have b:(fU j x 3).1.t=j.t/\(fU j x 3).1.cm=j.cm:=by
  by_cases c:j.ys.length<4096;·rw [zF _ _ c];exact a0e
  ·rw [zG _ _ c];exact a0e
 obtain ⟨q,g⟩:∃ q,fU j x 4=(⟨j.t,j.cm,j.so,j.xs,j.ys,q⟩,true):=⟨_,GK j x⟩;have i:=GL j x;have D:=GM j x;generalize (G1 .and .u64 x 1==1)=r at a;refine jW addr size (λk=>Ud (fU j x k).1) (λ_ _=>?_) (λ_ _=>?_) (λ_ _=>?_) (λ_ _=>?_) (λ_ _=>?_) (λ_ _=>?_) (λ_ _ _ _ _ _=>?_);·show Ud (fU j x 0).1;rw [a];exact ⟨h.1,h.2⟩
 ·show Ud (fU j x 1).1;rw [d];exact ⟨h.1,hx⟩
 ·show Ud (fU j x 2).1;rw [f];exact ⟨hx,h.2⟩
 ·show Ud (fU j x 3).1;unfold Ud;rw [b.1,b.2];exact h
 ·have e:(fU j x 4).1=⟨j.t,j.cm,j.so,j.xs,j.ys,q⟩:=congrArg Prod.fst g;exact e ▸ (⟨h.1,h.2⟩:Ud ⟨j.t,j.cm,j.so,j.xs,j.ys,q⟩)
 ·show Ud (fU j x 5).1;rw [i];exact h
 ·show Ud (fU j x 6).1;rw [D];exact ⟨me,me⟩
theorem N5 (h:Ud M.d) (pa:Int):Ud (oa M pa).d:=by unfold oa;split<;>exact h
theorem AM (h:Ud w.d) (a n kind:Int) {x:Int} (hx:U x):Ud (aH w a n kind x).2.1.d:=by
 have key:∀ (N:MV) (b:Int),Ud N.d->Ud (tG N b n kind x).2.1.d:=by
  intro N b c;unfold tG;split
  ·split;·have k:∀ R,Ud (oa (bN N R) b).d:=λR=>N5 (M:=bN N R) c b;exact k _
   ·exact c
  ·split
   ·split;·have k:∀ D,Ud D->Ud (bK (bW N D)).d:=λD d=>d;exact k _ (UV c _)
    ·exact c
   ·split
    ·split;·have k:∀ D,Ud D->Ud (oa (bK (bW N D)) b).d:=λD d=>N5 (M:=bK (bW N D)) d b;exact k _ (UW c hx _ _)
     ·exact c
    ·exact c
 unfold aH;split;·exact h
 ·unfold zX;split;·exact h
  ·split;·exact h
   ·have k:∀ R b,Ud (tG (bN w R) b n kind x).2.1.d:=λR b=>key (bN w R) b h;exact k _ _
theorem VY (f:MF) {a b:Int} (c:U a) (hb:U b):U (f.v a b):=by
 cases f<;>unfold MF.v<;>dsimp only;·exact hb
 ·exact aW _
 ·exact ah _ _ _
 ·exact ah _ _ _
 ·exact ah _ _ _
 all_goals (split<;>assumption)
theorem Im {a b:Int} (c:U a) (hb:U b):U (jd e a b):=by
 unfold jd;split;·exact VY _ c hb
 ·split;·generalize (mL (e-65).toNat).v (ay 32 a) (ay 32 b)=y;unfold U;omega
  ·exact me
theorem N6 (n:63<=S.op) (o:S.op<=84) (c:0<=S.rd) (d:S.rd<=31) (j:U e) (hb:U g) (h:Ht B a r w b l) (i:Gd w) (hd:Ud w.d): H8 prog 75 #[.p a 0,.agg #[.i S.op,.i S.rd,.i S.a,.i S.b,.i S.imm],.u e,.u g] l (HR B a r w b l (je w S e g)):=by
 obtain ⟨f,m,k,hh,A⟩:=S;dsimp only at n o c d ⊢;by_cases q:f=63;·subst q;exact UT _ m k hh A e g (.inl rfl) c d j hb h i
 by_cases e2:f=64;·subst e2;exact UU _ m k hh A e g (.inl rfl) c d j hb h i
 by_cases e3:f<=73;·exact N0 f m k hh A e g 4 ab c d j hb h i (tX (i.marked _) hd e 4 ab 2 0) (λy p=>Im f p hb)
 by_cases e4:f=74;·subst e4;exact UT _ m k hh A e g (.inr rfl) c d j hb h i
 by_cases e5:f=75;·subst e5;exact UU _ m k hh A e g (.inr rfl) c d j hb h i
 exact N0 f m k hh A e g 8 ab c d j hb h i (tX (i.marked _) hd e 8 ab 2 0) (λy p=>Im f p hb)
theorem UY (b:U k) (n:Nat):U (k/2^n):=by have c:(0:Int)<2^n:=Int.pow_pos ab;refine ⟨P2 b.1 ab,?_⟩;have:k/2^n<=k:=Int.ediv_le_self _ b.1;have:=b.2;omega
theorem N7 (b:U k) (hb:U c):U (kX k c):=by unfold kX;refine ⟨P2 (Int.mul_nonneg b.1 hb.1) ab,Int.ediv_lt_of_lt_mul ab ?_⟩;have d:k*c<=k*18446744073709551616:=Int.mul_le_mul_of_nonneg_left (by have:=hb.2;omega) b.1;have e:k*18446744073709551616<18446744073709551616*18446744073709551616:=Int.mul_lt_mul_of_pos_right b.2 ab;omega
theorem VZ (f:AF) {a b:Int} (d:U a) (hb:U b):U (f.v a b):=by
 have g:∀ c:Bool,U (EJ c):=λc=>by cases c<;>exact ⟨bc,bc⟩
 have e:U (gp a b):=by unfold gp;split;exact aW _;exact N7 d hb
 cases f<;>unfold AF.v<;>dsimp only;·exact aW _
 ·exact g _
 ·exact g _
 ·exact ah _ _ _
 ·exact ah _ _ _
 ·exact ah _ _ _
 ·exact aW _
 ·exact UY d _
 ·exact aW _
 ·exact aW _
 ·exact aW _
 ·unfold mE;split;exact aW _;exact e
 ·exact e
 ·exact N7 d hb
 ·split;exact ⟨bc,bc⟩;exact aW _
 ·split;exact ⟨bc,bc⟩;exact aW _
 ·split;exact d;exact aW _
 ·split;·exact d
  ·rw [N1 d.1];have h:=Int.emod_nonneg a (show b≠0 by assumption);have i:=Int.emod_lt_of_pos a (show 0<b by have:=hb.1;omega);exact ⟨h,by have:=hb.2;omega⟩
theorem U1 {a b:Int} (c:U a) (hb:U b):U (nD e a b):=by
 unfold nD;split
 ·cases oG (e-22).toNat with
  | d f=>exact VZ f c hb
  | w f l r=>exact bo _
 ·exact me
theorem Gd.al4 (h:Gd w):w.pc%4=0:=by have a:=(db h.ok).1;rw [P3 _ h.pc] at a;exact eq_of_beq a
theorem Ty (h:U k) (h4:k%4=0):G1 .and .u64 k 3=0:=by rw [P3 _ h,h4]
theorem TA (h:Gd w):G1 .and .u64 (Uz.wrap (w.pc+4)) 3=0:=Ty (aW _) (by have:=h.al4;rw [A6];omega)
theorem TB (h:U k) (he:k%2=0) (g:(G1 .and .u64 k 2 != 0)=false):G1 .and .u64 k 3=0:=by
 have x:G1 .and .u64 k 2=0:=x9
 refine bF _ _ (ah _ _ _) me λi l=>?_;have d:bt k 0=false:=by have:G1 .and .u64 k 1=k%2:=cE k 1 h.1 h.2 ab;rw [he] at this;have q:=aA k 1 0;rw [this] at q;have a:bt 0 0=false:=bc;have b:bt 1 0:=bc;rw [a,b,L6] at q;exact q.symm
 have f:bt k 1=false:=by have q:=aA k 2 1;rw [x] at q;have a:bt 0 1=false:=bc;have b:bt 2 1:=bc;rw [a,b,L6] at q;exact q.symm
 rw [aA];have key:∀ j,j<64->∀ c:Bool,(j=0->c=false)->(j=1->c=false)->(c&&bt 3 j)=bt 0 j:=cp
 exact key i l _ (λe=>by rw [e];exact d) (λe=>by rw [e];exact f)
theorem Kz:G1 .andNot .u64 e 1%2=0:=by
 have a:=ah .andNot e 1;have d:G1 .and .u64 (G1 .andNot .u64 e 1) 1=G1 .andNot .u64 e 1%2:=cE _ 1 a.1 a.2 ab;rw [<- d];refine bF _ _ (ah _ _ _) me λi b=>?_;rw [aA,aB _ _ _ b];have key:∀ j,j<64->∀ c:Bool,((c&&!bt 1 j)&&bt 1 j)=bt 0 j:=cp
 exact key i b _
theorem N8 (h:∀ j,U (D.getD j 0)) (n:Int):U (dF D n):=by
 unfold dF;split;·exact me
 ·split;·exact ⟨bc,bc⟩
  ·split;·exact ah _ _ _
   ·split;·exact ah _ _ _
    ·split;·exact ah _ _ _
     ·exact h _
theorem In (h:d.length=22) (n x:Int):G1 .and .u64 ((cg d n x).getD 9 0) 2184=G1 .and .u64 (d.getD 9 0) 2184:=by
 have l:∀ m,(∀ i,i<64->(bt m i&&bt 2184 i)=false)->G1 .and .u64 (iW (d.getD 9 0) m x) 2184=G1 .and .u64 (d.getD 9 0) 2184:=λm p=>by
  refine bF _ _ (ah _ _ _) (ah _ _ _) λi f=>?_;unfold iW;rw [aA,cC,aA,aB _ _ _ f,aA];have:=p i f;cases j:bt 2184 i;·simp
  ·rw [j,L6] at this;rw [this];simp
 have set:∀ k,k≠9->∀ v,(d.set k v).getD 9 0=d.getD 9 0:=λk o v=>j7 d k 9 v o;have a:∀ v,(d.set 9 v).getD 9 0=v:=λv=>ss d 9 v ab;have q:∀ i,i<64->∀ c:Bool,((c&&bt 2 i)&&bt 2184 i)=false:=cp
 have b:∀ i,i<64->(bt 546 i&&bt 2184 i)=false:=cp
 unfold cg;split;·rfl
 ·split;·rw [set 0 ab]
  ·split;·rw [set 3 ab]
   ·split;·rw [a];exact l _ λi f=>by rw [aA];exact q i f _
    ·unfold fZ;split;·rw [a];exact l _ b
     ·split
      ·split;·rw [set 15 ab]
       ·rfl
      ·split;·rw [set 16 ab]
       ·rename_i r _ _;have s:=rO n;have g:(cN n).toNat≠9\/cN n=-1:=ab;split
        ·split;·rfl
         ·rw [set _ ab]
        ·rcases g with e|e;·rw [set _ e]
         ·rw [e];exact congrArg (λy=>G1 .and .u64 y 2184) (set 0 ab _)
theorem Gd.cs_ (h:Gd M) {l:List Int} (hz:l.length=22) (a:bD 22 l) (m:∀ j,U (l.getD j 0)) (k:G1 .and .u64 (l.getD 9 0) 2184=G1 .and .u64 (M.cs.getD 9 0) 2184):Gd (iV M l):=by
 obtain ⟨c,d,n,e,f,g,i⟩:=db h.ok;obtain ⟨_,_,b,_,_,_⟩:=aN h.ok;refine ⟨ls (M:=iV M l) c d ?_ e f g ?_,⟨m,h.mw.ram,h.mw.xs,h.mw.ys⟩,h.ux,h.pc,h.hd⟩;·show bm l.length l M.pr;unfold bm;rw [hz,a,b];rfl
 ·show (G1 .and .u64 (l.getD 9 0) 2184==dM M.d);rw [k];exact i
theorem Gd.priv (h:Gd w) {p:Int} (j:bZ p):Gd (gE w p):=by obtain ⟨c,d,k,e,f,g,i⟩:=db h.ok;obtain ⟨a,b,_,_,_,_⟩:=aN h.ok;refine ⟨ls (M:=gE w p) c d ?_ e f g i,⟨h.mw.cs,h.mw.ram,h.mw.xs,h.mw.ys⟩,h.ux,h.pc,h.hd⟩;show bm w.cs.length w.cs p;unfold bm;rw [a,b,j];rfl
def Gw (M:MV):Prop:=Gd M/\Ud M.d
theorem jj (h:Gw w) {k:Nat} (hk:k<16) (i:Bool) {v:Int} (hv:U v):Gw (aR w k i v):=⟨h.1.trap hk i hv,h.2⟩
theorem AN (h:Gw w) {rd x to:Int} (a:0<=rd) (b:rd<=31) (hx:U x) (c:U to) (h4:G1 .and .u64 to 3=0):Gw (aZ w rd x to):=⟨h.1.done a b hx c h4,h.2⟩
theorem j9 (h:Gw w) (a n kind:Int) {x:Int} (hx:U x):Gw (aH w a n kind x).2.1:=⟨h.1.acc a n kind x,AM h.2 a n kind hx⟩
theorem lE (h:Gw w) {a n kind x v:Int} (hx:U x) (b:((aH w a n kind x).2.2 != 0)) (hv:U v):Gw (cH (aH w a n kind x) 0 v).1:=by unfold cH;exact jj (j9 h a n kind hx) (kq rfl b).2 false hv
theorem N9 (h:Gw w) (a kind:Int):Gw (dA w a kind):=⟨h.1.marked _,h.2⟩
theorem iK (h:Gw w) {rd x:Int} (a:0<=rd) (b:rd<=31) (hx:U x) {N:MV} (c:Gw N) (e:N.pc=w.pc):Gw (aZ N rd x (Uz.wrap (w.pc+4))):=AN c a b hx (aW _) (by rw [<- e];exact TA c.1)
theorem Qy (h:Gw w) {i:Ins} (d:jT i) (g:3<=i.op) (e:i.op<=10) (a b:Int):Gw (qb w i a b (Uz.wrap i.imm)).1:=by
 have c:U (fQ w i a b (Uz.wrap i.imm))/\fQ w i a b (Uz.wrap i.imm)%2=0:=by
  have j:=h.1.al4;unfold fQ;split;·exact ⟨ah .andNot _ 1,Kz _⟩
  ·rename_i k;split;·refine ⟨aW _,?_⟩;rw [A6];omega
   ·refine ⟨aW _,?_⟩;have:=d.even ab;rw [A6,A6];omega
 unfold qb;split;·exact jj h bc false c.1
 ·rename_i f;refine AN h ?_ ?_ (aW _) c.1 (TB c.1 c.2 kd);·split;exact Int.le_refl 0;exact d.rd0
  ·split;decide;exact d.rd31
theorem Qz (h:Gw w) {i:Ins} (e:jT i) (c:11<=i.op) (d:i.op<=17) {a:Int} (f:U a):Gw (m9 w i a).1:=by
 have g:jP i.op<=8:=by obtain ⟨b,m,k,l,j⟩:=i;dsimp only at c d ⊢;obtain rfl|rfl|rfl|rfl|rfl|rfl|rfl:b=11\/b=12\/b=13\/b=14\/b=15\/b=16\/b=17:=ab;all_goals decide
 unfold m9;dsimp only;split;·exact lE h me ‹_› f
 ·refine iK (j9 h a _ 2 me) e.rd0 e.rd31 ?_ (j9 h a _ 2 me) rfl;split;·exact aW _
  ·exact tX h.1 h.2 a _ g 2 0
theorem Oa (h:Gw w) {i:Ins} {a b:Int} (c:U a) (hb:U b):Gw (nQ w i a b).1:=by
 unfold nQ;dsimp only;split;·exact lE h hb ‹_› c
 ·exact iK (j9 h a _ 3 hb) bc bc me (j9 h a _ 3 hb) rfl
theorem AP (h:Gw w) {b:Bool} {a:Int} (c:U a) (hb:b\/a=0):Gw (cn w b a):=⟨h.1.hold c hb,h.2⟩
theorem QA (h:Gw w) {i:Ins} (f:jT i) {a b:Int} (g:U a) (hb:U b):Gw (je w i a b).1:=by
 have p:bC i.op<=8:=by unfold bC;split<;>decide
 have d:=N9 h a 3;have q:∀ kind,(dA w a kind).pc=w.pc:=λ_=>rfl;unfold je;split
 ·unfold UR;dsimp only;split;·exact lE h me ‹_› g
  ·have o:=j9 h a (bC i.op) 2 me;have e:=(jc w a (bC i.op) 2 0).1;exact iK h f.rd0 f.rd31 (aW _) (AP (N9 o a 2) (uE _ _ _ _ _ _ g) (R6 rfl)) e
 ·split;·exact jj h bc false g
  ·split;·obtain ⟨c,j,k⟩:=l5 w.ram w.ram.length w.cs (gg w.cs w.pr 3) a 3;have l:(cq w a 3).code=c:=k;rw [l,O1];exact jj d j false g
   ·split
    ·unfold VV;split
     ·dsimp only;split;·exact lE d hb ‹_› g
      ·exact iK d f.rd0 f.rd31 me (AP (j9 d a _ 3 hb) me (R5 rfl)) (jc (dA w a 3) a (bC i.op) 3 b).1
     ·exact iK d f.rd0 f.rd31 ⟨bc,bc⟩ (AP d me (R5 rfl)) rfl
    ·unfold Tp;dsimp only;split;·rename_i k;unfold cH;exact jj (j9 d a _ 2 me) (AL rfl k).2.2 false g
     ·have m:=j9 d a (bC i.op) 2 me;have n:U (jd i.op (aH (dA w a 3) a (bC i.op) 2 0).1 b):=Im _ (tX d.1 d.2 a _ p 2 0) hb;split;·exact lE m n ‹_› g
      ·exact iK d f.rd0 f.rd31 (aW _) (j9 m a _ 3 n) ((jc _ _ _ _ _).1.trans (jc _ _ _ _ _).1)
theorem TC (h:Gw w) {i:Ins} (j:jT i) {a M:Int} (l:U a) (o:U M):Gw (nR w i a M).1:=by
 unfold nR;split;·exact jj h bc false o
 ·rename_i g;have n:=N8 h.1.mw.cs i.imm;have d:=iK h j.rd0 j.rd31 n h rfl;have b:jC w.cs.length w.cs i.imm w.pr:=by
   cases q:jC w.cs.length w.cs i.imm w.pr;·rw [q] at g;exact absurd rfl g
   ·rfl
  have f:dB i.imm:=(by unfold jC at b;simp only [K0] at b;exact b.1.1.2);have k:U (um i a (dF w.cs i.imm)):=by
   have m:U (mc i a):=(by unfold mc;split;exact aW _;exact l);unfold um;split;·exact ah _ _ _
   ·split;·exact ah _ _ _
    ·exact m
  dsimp only;split;·generalize aZ w i.rd (dF w.cs i.imm) (Uz.wrap (w.pc+4))=N at d ⊢;obtain ⟨c,e,_,_,_,_⟩:=aN d.1.ok;exact ⟨d.1.cs_ (by rw [qf];exact c) (tK _ c d.1.mw.cs e _ _ k f) (Hk _ d.1.mw.cs _ _ k) (In _ c _ _),d.2⟩
  ·exact d
theorem xc (h:U e) (a:fL 0 e) (m:Bool):bZ (dq e m):=by
 cases m with
 | true=>exact CG e h a
 | false =>show bZ (R7 (aw e 8));rw [yP e 8 h];split<;>decide +kernel
theorem TD (h:Gw w) {i:Ins} (g:jT i) {M:Int} (d:U M):Gw (kS w i M).1:=by
 obtain ⟨b,a,f,_,_,_⟩:=aN h.1.ok;have u0:=h.1.mw.cs 0;have c:=eI a 0 ab;unfold kS;split;·refine jj h ?_ false me;unfold pd;split;decide;split<;>decide
 ·split;·exact jj h bc false h.1.pc
  ·split
   ·split;·exact jj h bc false d
    ·have e:Gd (iV w (w.cs.set 0 (cP (w.cs.getD 0 0) (i.op==96)))):=h.1.cs_ (by rw [D8];exact b) (cJ _ b a 0 ab _ (CN _ u0 _ c)) (jJ _ h.1.mw.cs 0 _ (rr _ _)) (by rw [j7 _ 0 9 _ ab]);refine AN ⟨e.priv (xc _ u0 c _),h.2⟩ bc bc me ?_ ?_;·unfold eE;split;exact h.1.mw.cs 6;exact h.1.mw.cs 12
     ·unfold eE;split;·exact Ws _ (R6 (eI a 6 ab))
      ·exact Ws _ (R5 (eI a 12 ab))
   ·split;·exact jj h bc false d
    ·split;·exact iK h bc bc me (N:=gD w true) ⟨h.1.wait true,h.2⟩ rfl
     ·exact iK h bc bc me h rfl
theorem QB (h:Gw w) {i:Ins} (a:jT i) {M:Int} (d:U M):Gw (dg w i M).1:=by
 have b:=h.1.ux i.a.toNat;have c:=h.1.ux i.b.toNat;have e:=a.op1;unfold dg;dsimp only;split;·exact iK h a.rd0 a.rd31 (aW _) h rfl
 split;·exact iK h a.rd0 a.rd31 (aW _) h rfl
 split;·exact Qy h a ab ‹_› _ _
 split;·exact Qz h a ab ‹_› (aW _)
 split;·exact Oa h (aW _) c
 split;·exact iK h a.rd0 a.rd31 (U1 _ b (by split;exact c;exact aW _)) h rfl
 split;·exact QA h a b c
 split;·exact iK h bc bc me h rfl
 split;·exact TC h a b d
 ·exact TD h a d
theorem QD (h:Gw w) (g:∀ l p,0<=fS l p->∃ k:Nat,k<16/\fS l p=k):Gw (ew w).1:=by
 have a:Gw (gD w false):=⟨h.1.wait false,h.2⟩;unfold ew;split;·exact h
 ·split;·rename_i f;obtain ⟨k,b,e⟩:=g _ _ f;rw [e,O1];exact jj a b true me
  ·dsimp only;split;·exact lE a me ‹_› (j9 a w.pc 4 1 me).1.pc
   ·have c:=tX a.1 a.2 w.pc 4 ab 1 0;split;·exact jj (j9 a w.pc 4 1 me) bc false c
    ·rename_i i d;exact QB (j9 a w.pc 4 1 me) (Az d) c
theorem tY:(cg d e g).length=d.length:=by exact qf d e g
theorem Ob (h:jC w.cs.length w.cs f.imm w.pr=false):nR w f k c=(aR w 2 false c,2):=by unfold nR;rw [h,Bool.not_false,Bool.true_or,JZ8 rfl]
theorem QE (h:jC w.cs.length w.cs f.imm w.pr) (b:ee f) (hr:((R7 (f.imm.tdiv 1024)).tmod 4==3)):nR w f k c=(aR w 2 false c,2):=by unfold nR;rw [h,b,hr,K1,L0,Bool.and_self,JZ8 rfl]
theorem QF (h:jC w.cs.length w.cs f.imm w.pr) (b:ee f=false):nR w f k c=(aZ w f.rd (dF w.cs f.imm) (Uz.wrap (w.pc+4)),1):=by unfold nR;rw [h,b,K1,L0,Bool.false_and,JZ9 bc];dsimp only;rw [JZ9 bc]
theorem Oc {v:Int} (h:jC w.cs.length w.cs f.imm w.pr) (b:ee f) (hr:((R7 (f.imm.tdiv 1024)).tmod 4==3)=false) (hv:um f k (dF w.cs f.imm)=v):nR w f k c=(iV (aZ w f.rd (dF w.cs f.imm) (Uz.wrap (w.pc+4))) (cg (aZ w f.rd (dF w.cs f.imm) (Uz.wrap (w.pc+4))).cs f.imm v),1):=by unfold nR;rw [h,b,hr,K1,L0,Bool.and_false,JZ9 bc];dsimp only;rw [JZ8 rfl,hv]
theorem F8 (h:Ht B a r w b W) (hh:w.cs.length=22) (n:Int) (hk:dB n) (x:Int): H8 prog 107 #[.slice b.ac w.cs.length b.cc,.i n,.u x] W λe c=>e=.returned (.tuple #[])/\Ht B a r (iV w (cg w.cs n x)) b c/\Kx r (aF w b) (aF (iV w (cg w.cs n x)) b) W c/\(iV w (cg w.cs n x)).cs.length=w.cs.length:=by obtain ⟨g,d,M,f⟩:=h.mp.cs hh;rw [d,hh];refine (B8 B g b.cc w.cs n x hk W M).mono λe c ⟨j,k,l⟩=>?_;obtain ⟨m,i⟩:=f c _ (by rw [tY];exact hh) l k;exact ⟨j,h.step m i,i,(tY _ _ _).trans hh⟩
theorem U2 (h87:87<=S.op) (h92:S.op<=92) (E:0<=S.rd) (F:S.rd<=31) (hx:U g) (h:Ht B a r w b l) (N:Gd w): H8 prog 76 #[.p a 0,.agg #[.i S.op,.i S.rd,.i S.a,.i S.b,.i S.imm],.u e,.u g] l (HR B a r w b l (nR w S e g)):=by
 obtain ⟨V,p⟩:∃ V,nR w S e g=V:=⟨_,rfl⟩;have m:=(aN N.ok).1;rw [p];obtain ⟨x,d,j,M,c⟩:=S;dsimp only at h87 h92 E F ⊢;have T:IntKind.i64.wrap (x-87)=x-87:=by rw [A5];omega
 have fin:∀ (A:F3->Prop) (v:Int) (C:MA) (W:F3),dB c->(iV (aZ w d (dF w.cs c) (Uz.wrap (w.pc+4))) (cg (aZ w d (dF w.cs c) (Uz.wrap (w.pc+4))).cs c v),1)=V->Hx B r (aS a r::eR l.heap.size [(#[.i x,.i d,.i j,.i M,.i c],88)]) w b l (aZ w d (dF w.cs c) (Uz.wrap (w.pc+4))) C W->Wg prog A (I3 prog Tryz.f76 (HR B a r w b l V)) Tryz.f76.ntmps [.code (fW (au 2 (GU (au 1 (fW (au 8 (aM Tryz.f76))))))),.code (au 3 (GU (au 1 (fW (au 8 (aM Tryz.f76)))))),.code (au 9 (aM Tryz.f76))] [(0,.p a 0,2),(5,.p l.heap.size 0,3),(9,.p r 0,1),(13,.i 1,0),(14,.u v,0)] W:=by
  intro A v C W q eV f;subst eV;have X:(aZ w d (dF w.cs c) (Uz.wrap (w.pc+4))).cs.length=22:=(by show (w.cs.set _ _).length=22;rw [D8];exact m);refine aL (Hs r (aS a r::eR l.heap.size [(#[.i x,.i d,.i j,.i M,.i c],88)]) (ak (aZ w d (dF w.cs c) (Uz.wrap (w.pc+4))) C)) ?_;refine lN 7 ?_;refine aT (Hs.eng (dr:=true) (λ_ h=>h.hs)) {} 60 (f.below (A8 _ _).drew) (λP o=>F8 o.ht X c q v) ?_;rintro P i W2 o ⟨rfl,u,k2,_⟩;refine ⟨_,0,rfl,gi ba,aL (Hs r (aS a r::eR l.heap.size [(#[.i x,.i d,.i j,.i M,.i c],88)]) (ak (iV (aZ w d (dF w.cs c) (Uz.wrap (w.pc+4))) (cg (aZ w d (dF w.cs c) (Uz.wrap (w.pc+4))).cs c v)) C)) ?_⟩;have K:=o.to u k2;obtain ⟨p0,q0⟩:∃ hh,(cN c==0)=hh:=⟨_,rfl⟩;obtain ⟨p1,q1⟩:∃ hh,(cN c==15)=hh:=⟨_,rfl⟩;have J:=λW=>eH (cN c) 16 20 W;obtain ⟨p2,q2⟩:∃ hh,decide (16<=cN c/\cN c<=20)=hh:=⟨_,rfl⟩;rw [q2] at J;cases p0<;>cases p1<;>cases p2 <;>
  exact bn (t:=8) (v:=.i 1) (Hs.eng (dr:=true) (λ_ h=>h.hs)) {eq:=[(104,an q0),(107,an q1)],cv:=[(102,iQ Hx.below λW _=>dH c W),(111,kj λW _=>J W),(114,kj λW f=>nf _ C B a r W f.ht)]} 100 K λW f=>⟨rfl,C,f.ht,f.kx⟩
 have main:∀ (I:Int) (wr:Bool),mc ⟨x,d,j,M,c⟩ e=I->ee ⟨x,d,j,M,c⟩=wr->∀ (A:F3->Prop) (W:F3),Hx B r (aS a r::eR l.heap.size [(#[.i x,.i d,.i j,.i M,.i c],88)]) w b l w b W->Wg prog A (I3 prog Tryz.f76 (HR B a r w b l V)) Tryz.f76.ntmps [.code (fW (fW (au 5 (aM Tryz.f76)))),.code (au 1 (fW (au 5 (aM Tryz.f76)))),.code (au 6 (aM Tryz.f76))] [(0,.p a 0,2),(3,.u g,0),(5,.p l.heap.size 0,3),(9,.p r 0,1),(10,.i ((x-87).tmod 3),0),(2,.u I,0),(11,.bool wr,0)] W:=by
  intro I wr D n A W f;refine aL (Hs r (aS a r::eR l.heap.size [(#[.i x,.i d,.i j,.i M,.i c],88)]) (ak w b)) ?_;obtain ⟨my,k⟩:∃ my,jC w.cs.length w.cs c w.pr=my:=⟨_,rfl⟩;refine aT (Hs.eng (dr:=true) (λ_ h=>h.hs)) {} 60 f (λP o=>Jn b.ac w.cs.length b.cc w.cs c w.pr P rfl o.mp.fam.msl.cs) ?_;rintro P i W2 o ⟨rfl,hb1⟩;rw [k];have u:=o.below hb1;refine ⟨_,0,rfl,λ_=>u.hs,?_⟩;cases my with
  | false =>rw [Ob k] at p;subst p;exact Hx.last (Hs.eng (dr:=false) (λ_ h=>h.hs)) {} 60 u (λW f=>dU 2 bc g f.ht N)
  | true =>
    have q:dB c:=(by unfold jC at k;simp only [K0] at k;exact k.1.1.2);have O:∀ W,Hx B r (aS a r::eR l.heap.size [(#[.i x,.i d,.i j,.i M,.i c],88)]) w b l w b W->CB 106 #[.slice b.ac w.cs.length b.cc,.i c] W (.u (dF w.cs c)):=λW f=>by rw [m];exact ER b.ac b.cc w.cs c W m f.mp.fam.msl.cs q
    obtain ⟨Q,G⟩:∃ Q,((R7 (c.tdiv 1024)).tmod 4==3)=Q:=⟨_,rfl⟩;have s:((IntKind.i64.wrap (c.tdiv 1024)).tmod 4==3)=Q:=(by rw [<- G,A5];unfold R7;rfl);cases wr with
    | false =>rw [QF k n] at p;subst p;refine ae (Hs.eng (dr:=false) (λ_ h=>h.hs)) {} 60 u λW3 K=>?_;refine aT (Hs.eng (dr:=true) (λ_ h=>h.hs)) {} 40 K O ?_;rintro W4 i W5 J ⟨rfl,z⟩;have L:=J.below z;refine ⟨_,0,rfl,λ_=>L.hs,?_⟩;refine ae (Hs.eng (dr:=false) (λ_ h=>h.hs)) {} 40 L λW6 Y=>?_;refine lN 9 ?_;refine aT (Hs.eng (dr:=true) (λ_ h=>h.hs)) {} 40 (Y.below (A8 _ _).drew) (λW f=>fw d (dF w.cs c) (Uz.wrap (w.pc+4)) E F f.ht N.x32 m) ?_;rintro W7 i W8 Z ⟨rfl,C,h8,k8⟩;refine ⟨_,0,rfl,gi ba,aL (Hs r (aS a r::eR l.heap.size [(#[.i x,.i d,.i j,.i M,.i c],88)]) (ak (aZ w d (dF w.cs c) (Uz.wrap (w.pc+4))) C)) ?_⟩;have y:=Z.to h8 k8;exact bn (t:=8) (v:=.i 1) (Hs.eng (dr:=false) (λ_ h=>h.hs)) {} 60 y λW f=>⟨rfl,C,f.ht,f.kx⟩
    | true =>
      cases Q with
      | true =>rw [QE k n G] at p;subst p;exact Hx.last (Hs.eng (dr:=false) (λ_ h=>h.hs)) {eq:=[(56,an s)]} 60 u (λW f=>dU 2 bc g f.ht N)
      | false =>
        refine ae (Hs.eng (dr:=false) (λ_ h=>h.hs)) {eq:=[(56,an s)]} 60 u λW3 K=>?_;refine aT (Hs.eng (dr:=true) (λ_ h=>h.hs)) {} 40 K O ?_;rintro W4 i W5 J ⟨rfl,z⟩;have L:=J.below z;refine ⟨_,0,rfl,λ_=>L.hs,?_⟩;refine ae (Hs.eng (dr:=false) (λ_ h=>h.hs)) {} 40 L λW6 Y=>?_;refine lN 9 ?_;refine aT (Hs.eng (dr:=true) (λ_ h=>h.hs)) {} 40 (Y.below (A8 _ _).drew) (λW f=>fw d (dF w.cs c) (Uz.wrap (w.pc+4)) E F f.ht N.x32 m) ?_;rintro W7 i W8 Z ⟨rfl,C,h8,k8⟩;refine ⟨_,0,rfl,gi ba,aL (Hs r (aS a r::eR l.heap.size [(#[.i x,.i d,.i j,.i M,.i c],88)]) (ak (aZ w d (dF w.cs c) (Uz.wrap (w.pc+4))) C)) ?_⟩;have y:=Z.to h8 k8;obtain ⟨H,g1⟩:∃ hh,((x-87).tmod 3==1)=hh:=⟨_,rfl⟩;obtain ⟨R,g2⟩:∃ hh,((x-87).tmod 3==2)=hh:=⟨_,rfl⟩;have hv:um ⟨x,d,j,M,c⟩ e (dF w.cs c)=bif H then G1 .or .u64 (dF w.cs c) I else bif R then G1 .andNot .u64 (dF w.cs c) I else I:=by unfold um;dsimp only;rw [g1,g2,D];cases H<;>cases R<;>rfl
        rw [Oc k n G hv] at p;cases H<;>cases R <;>
        ·refine ae (Hs.eng (dr:=false) (λ_ h=>h.hs)) {eq:=[(83,an g1),(88,an g2)]} 60 y λW f=>?_;exact af _ _ (fin _ _ C W q p f)
 refine br (S:=Hs r (aS a r::eR l.heap.size [(#[.i x,.i d,.i j,.i M,.i c],88)]) (ak w b)) (args:=[.p a 0,.agg #[.i x,.i d,.i j,.i M,.i c],.u e,.u g]) [(#[.i x,.i d,.i j,.i M,.i c],88)] func76 ?_;refine aP 0 2 (aP 5 3 ?_);obtain ⟨b9,y⟩:∃ hh,decide (90<=x)=hh:=⟨_,rfl⟩;obtain ⟨b0,h0⟩:∃ hh,((x-87).tmod 3==0)=hh:=⟨_,rfl⟩;obtain ⟨H,o⟩:∃ hh,(j != 0)=hh:=⟨_,rfl⟩;have D:mc ⟨x,d,j,M,c⟩ e=bif b9 then Uz.wrap j else e:=by
  unfold mc;dsimp only;by_cases i:90<=x;·rw [JZ8 i,<- y,decide_eq_true i];rfl
  ·rw [JZ9 i,<- y,decide_eq_false i];rfl
 have n:ee ⟨x,d,j,M,c⟩=(b0||H):=by unfold ee;dsimp only;rw [h0,o]
 cases b9<;>cases b0<;>cases H <;>
 ·refine ae (Hs.eng (dr:=false) (λ_ h=>h.hs)) {eq:=[(22,cR .i64 T),(26,an y),(31,an h0),(35,an o)]} 80 (Hx.start h _) λW f=>?_;exact af _ _ (main _ _ D n _ W f)
def F9 (b:Nat) (i:Ins):Kr:=⟨b,#[.i i.op,.i i.rd,.i i.a,.i i.b,.i i.imm],88,[]⟩
theorem TE {i:F3->Prop} (hi:jT S) (F:U e) (A0:Hx B r [aS a r,F9 x S] w b l A n W) (bi:Gd A) (hd:Ud A.d): Wg prog i (I3 prog Tryz.f44 (HR B a r w b l (dg A S e))) Tryz.f44.ntmps [.code (au 9 (aM Tryz.f44))] [(0,.p a 0,2),(3,.p r 0,1),(5,.u e,0),(7,.p x 0,3)] W:=by
 obtain ⟨o1,K,s,o,N,O,P,Q,im0,im1,_⟩:=hi;have t:=bi.x32;have M0:=(aN bi.ok).1;obtain ⟨M,H,z⟩:=A0.ht.atX t;have J:∀ (j:Nat),j<32->∀ W,Hx B r [aS a r,F9 x S] w b l A n W->W.cell? ⟨M,j,none⟩=some (.u (A.x.getD j 0)):=λj hj W A0=>by obtain ⟨b',C,y⟩:=A0.ht.atX t;rw [H] at C;cases C;exact (y j hj).1
 refine aL (Hx B r [aS a r,F9 x S] w b l A n) ?_;refine ae (Hx.eng (dr:=true)) {ov:=[(117,kW A.x.length n.cx .i64 S.a H ⟨N,ab⟩ underlying25 ba),(118,iP ⟨M,0+S.a.toNat,none⟩ (.u (A.x.getD (0+S.a.toNat) 0)) underlying24 rfl (J (0+S.a.toNat) ab)),(125,kW A.x.length n.cx .i64 S.b H ⟨P,ab⟩ underlying25 ba),(126,iP ⟨M,0+S.b.toNat,none⟩ (.u (A.x.getD (0+S.b.toNat) 0)) underlying24 rfl (J (0+S.b.toNat) ab))]} 40 A0 λW1 v=>?_;have G:=bi.ux S.a.toNat;have I:=bi.ux S.b.toNat;have L:U (Uz.wrap S.imm):=aW _;refine af [.code (au 13 (aM Tryz.f44))] [(0,.p a 0,2),(3,.p r 0,1),(5,.u e,0),(7,.p x 0,3),(9,.u (A.x.getD (0+S.a.toNat) 0),0),(10,.u (A.x.getD (0+S.b.toNat) 0),0),(11,.u (Uz.wrap S.imm),0),(12,.u (Uz.wrap (A.pc+4)),0)] ?_;rw [C5,C5];refine aL (Hs r [aS a r,F9 x S] (ak A n)) ?_;clear J z H A0;by_cases c0:S.op=1;·have hh:(S.op==1):=bv;have m:dg A S e=(aZ A S.rd (Uz.wrap S.imm) (Uz.wrap (A.pc+4)),1):=(by unfold dg;dsimp only;rw [JZ8 ab]);rw [m];clear m;exact Hx.last (Hs.eng (dr:=true) (λ_ h=>h.hs)) {eq:=[(138,an hh)]} 300 v (λW A0=>fw S.rd _ _ s o A0.ht t M0)
 by_cases c1:S.op=2;·have hh:(S.op==1)=false:=bv;have c:(S.op==2):=bv;have m:dg A S e=(aZ A S.rd (Uz.wrap (A.pc+Uz.wrap S.imm)) (Uz.wrap (A.pc+4)),1):=(by unfold dg;dsimp only;rw [JZ9 ab,JZ8 ab]);rw [m];clear m;refine ae (Hs.eng (dr:=false) (λ_ h=>h.hs)) {eq:=[(138,an hh),(148,an c)]} 20 v λW2 Z=>?_;refine lN 10 ?_;exact Hx.last (Hs.eng (dr:=true) (λ_ h=>h.hs)) {} 60 (Z.below (A8 _ _).drew) (λW A0=>fw S.rd _ _ s o A0.ht t M0)
 by_cases R:S.op<=10;·have hh:(S.op==1)=false:=bv;have c:(S.op==2)=false:=bv;have d:decide (S.op<=10):=ek;have m:dg A S e=qb A S (A.x.getD S.a.toNat 0) (A.x.getD S.b.toNat 0) (Uz.wrap S.imm):=ri;rw [m];clear m;exact Hx.last (Hs.eng (dr:=true) (λ_ h=>h.hs)) {eq:=[(138,an hh),(148,an c),(163,an d)]} 300 v (λW A0=>Tu S _ _ _ ab R s o A0.ht bi)
 by_cases T:S.op<=17;·have hh:(S.op==1)=false:=bv;have c:(S.op==2)=false:=bv;have d:decide (S.op<=10)=false:=ck;have f:decide (S.op<=17):=ek;have m:dg A S e=m9 A S (Uz.wrap (A.x.getD S.a.toNat 0+Uz.wrap S.imm)):=lh;rw [m];clear m;exact Hx.last (Hs.eng (dr:=true) (λ_ h=>h.hs)) {eq:=[(138,an hh),(148,an c),(163,an d),(173,an f)]} 300 v (λW A0=>Tt S _ ab T s o (aW _) A0.ht bi)
 by_cases V:S.op<=21;·have hh:(S.op==1)=false:=bv;have c:(S.op==2)=false:=bv;have d:decide (S.op<=10)=false:=ck;have f:decide (S.op<=17)=false:=ck;have g:decide (S.op<=21):=ek;have m:dg A S e=nQ A S (Uz.wrap (A.x.getD S.a.toNat 0+Uz.wrap S.imm)) (A.x.getD S.b.toNat 0):=i6;rw [m];clear m;exact Hx.last (Hs.eng (dr:=true) (λ_ h=>h.hs)) {eq:=[(138,an hh),(148,an c),(163,an d),(173,an f),(183,an g)]} 300 v (λW A0=>Qq S _ _ ab V (aW _) I A0.ht bi)
 by_cases c5:S.op<=62
 ·have hh:(S.op==1)=false:=bv;have c:(S.op==2)=false:=bv;have d:decide (S.op<=10)=false:=ck;have f:decide (S.op<=17)=false:=ck;have g:decide (S.op<=21)=false:=ck;have w0:decide (S.op<=62):=ek;have m:dg A S e=(aZ A S.rd (nD S.op (A.x.getD S.a.toNat 0) (if (fq S.op).toList=[82] then A.x.getD S.b.toNat 0 else Uz.wrap S.imm)) (Uz.wrap (A.pc+4)),1):=i2;rw [m];clear m;have E:=λW=>qG S.op (tW ab ab) W;cases D:((fq S.op).toList==(⟨#[82]⟩:ByteArray).toList) with
  | true =>rw [JZ8 (show (fq S.op).toList=[82] from (eq_of_beq D).trans cp)];exact Hx.last (Hs.eng (dr:=true) (λ_ h=>h.hs)) {eq:=[(138,an hh),(148,an c),(163,an d),(173,an f),(183,an g),(194,an w0),(198,an (show (!((fq S.op).toList==(⟨#[82]⟩:ByteArray).toList))=false by rw [D];rfl))],cv:=[(197,iQ (λh k=>h.below k) λW _=>E W),(205,iQ (λh k=>h.below k) λW _=>tQ S.op _ _ (tW ab ab) G.1 G.2 I.1 I.2 W)]} 300 v (λW A0=>fw S.rd _ _ s o A0.ht t M0)
  | false =>rw [JZ9 (show ¬ (fq S.op).toList=[82] from λwd=>by rw [wd] at D;exact absurd D cp)];exact Hx.last (Hs.eng (dr:=true) (λ_ h=>h.hs)) {eq:=[(138,an hh),(148,an c),(163,an d),(173,an f),(183,an g),(194,an w0),(198,an (show (!((fq S.op).toList==(⟨#[82]⟩:ByteArray).toList))=true by rw [D];rfl))],cv:=[(197,iQ (λh k=>h.below k) λW _=>E W),(205,iQ (λh k=>h.below k) λW _=>tQ S.op _ _ (tW ab ab) G.1 G.2 L.1 L.2 W)]} 300 v (λW A0=>fw S.rd _ _ s o A0.ht t M0)
 by_cases X:S.op<=84;·have hh:(S.op==1)=false:=bv;have c:(S.op==2)=false:=bv;have d:decide (S.op<=10)=false:=ck;have f:decide (S.op<=17)=false:=ck;have g:decide (S.op<=21)=false:=ck;have w0:decide (S.op<=62)=false:=ck;have p:decide (S.op<=84):=ek;have m:dg A S e=je A S (A.x.getD S.a.toNat 0) (A.x.getD S.b.toNat 0):=g5;rw [m];clear m;exact Hx.last (Hs.eng (dr:=true) (λ_ h=>h.hs)) {eq:=[(138,an hh),(148,an c),(163,an d),(173,an f),(183,an g),(194,an w0),(217,an p)]} 300 v (λW A0=>N6 S _ _ ab X s o G I A0.ht bi hd)
 by_cases c7:S.op<=86;·have hh:(S.op==1)=false:=bv;have c:(S.op==2)=false:=bv;have d:decide (S.op<=10)=false:=ck;have f:decide (S.op<=17)=false:=ck;have g:decide (S.op<=21)=false:=ck;have w0:decide (S.op<=62)=false:=ck;have p:decide (S.op<=84)=false:=ck;have q:decide (S.op<=86):=ek;have m:dg A S e=(aZ A 0 0 (Uz.wrap (A.pc+4)),1):=fr;rw [m];clear m;exact Hx.last (Hs.eng (dr:=true) (λ_ h=>h.hs)) {eq:=[(138,an hh),(148,an c),(163,an d),(173,an f),(183,an g),(194,an w0),(217,an p),(226,an q)]} 300 v (λW A0=>fw 0 0 _ bc bc A0.ht t M0)
 by_cases Y:S.op<=92;·have hh:(S.op==1)=false:=bv;have c:(S.op==2)=false:=bv;have d:decide (S.op<=10)=false:=ck;have f:decide (S.op<=17)=false:=ck;have g:decide (S.op<=21)=false:=ck;have w0:decide (S.op<=62)=false:=ck;have p:decide (S.op<=84)=false:=ck;have q:decide (S.op<=86)=false:=ck;have u:decide (S.op<=92):=ek;have m:dg A S e=nR A S (A.x.getD S.a.toNat 0) e:=e9;rw [m];clear m;exact Hx.last (Hs.eng (dr:=true) (λ_ h=>h.hs)) {eq:=[(138,an hh),(148,an c),(163,an d),(173,an f),(183,an g),(194,an w0),(217,an p),(226,an q),(233,an u)]} 300 v (λW A0=>U2 S _ e ab Y s o F A0.ht bi)
 have hh:(S.op==1)=false:=by simp;omega
 have c:(S.op==2)=false:=by simp;omega
 have d:(decide (S.op<=10))=false:=by rw [JZ7];omega
 have f:(decide (S.op<=17))=false:=by rw [JZ7];omega
 have g:(decide (S.op<=21))=false:=by rw [JZ7];omega
 have w0:(decide (S.op<=62))=false:=by rw [JZ7];omega
 have p:(decide (S.op<=84))=false:=by rw [JZ7];omega
 have q:(decide (S.op<=86))=false:=by rw [JZ7];omega
 have u:(decide (S.op<=92))=false:=by rw [JZ7];omega
 have m:dg A S e=kS A S e:=by unfold dg;dsimp only;rw [JZ9 ab,JZ9 ab,JZ9 ab,JZ9 ab,JZ9 ab,JZ9 ab,JZ9 ab,JZ9 ab,JZ9 ab]
 rw [m];exact Hx.last (Hs.eng (dr:=true) (λ_ h=>h.hs)) {eq:=[(138,an hh),(148,an c),(163,an d),(173,an f),(183,an g),(194,an w0),(217,an p),(226,an q),(233,an u)]} 300 v (λW A0=>NR S (A.x.getD S.a.toNat 0) e ab K F A0.ht bi)
theorem AQ (h:0<=fS d e):∃ k:Nat,k<16/\fS d e=k:=by
 have key:∀ x,0<=dh x->∃ k:Nat,k<16/\dh x=k:=λx a=>by
  unfold dh at a ⊢;rcases uX x eG with p|⟨n,b,p,_⟩;·rw [p] at a;omega
  ·refine ⟨n,?_,p⟩;have:∀ m ∈ eG,m<16:=by decide
   exact this n b
 unfold fS at h ⊢;split at h;·exact key _ h
 ·unfold GB at h ⊢;split at h;·exact key _ h
  ·omega
theorem Io (h:Ht B a r w b l) (i:Gd w):CB 63 #[.slice b.ac w.cs.length b.cc,.i w.pr] l (.i (fS w.cs w.pr)):=by obtain ⟨hh,f,d,_,_,_⟩:=aN i.ok;obtain ⟨g,c,M,_⟩:=h.mp.cs hh;rw [c,hh];exact xR g 0 b.cc w.cs w.pr d l hh (fJ M)
theorem TF (h:Ht B a r w b l) (hg:Gd w) (hd:Ud w.d):H8 prog 44 #[.p a 0] l (HR B a r w b l (ew w)):=by
 obtain ⟨L,hcs,hpr,_,_,_⟩:=aN hg.ok;obtain ⟨M,I,E⟩:=h.atC L;have K:∀ (j:Nat),j<22->∀ W,Hx B r [aS a r] w b l w b W->W.cell? ⟨M,j,none⟩=some (.u (w.cs.getD j 0)):=λj hj W hh=>by obtain ⟨b',Q,p⟩:=hh.ht.atC L;rw [I] at Q;cases Q;exact (p j hj).1
 have fin:∀ (S:F3->Prop) (W:F3),Hx B r [aS a r] w b l w b W->(w.wt&&(kv w.cs==0))=false->Wg prog S (I3 prog Tryz.f44 (HR B a r w b l (ew w))) Tryz.f44.ntmps [.code (au 3 (aM Tryz.f44))] [(0,.p a 0,2),(3,.p r 0,1)] W:=by
  intro S W hh hn;clear K E I;have Z:ew w=if 0<=fS w.cs w.pr then (aR (gD w false) (fS w.cs w.pr).toNat true 0,3) else (let q:=aH (gD w false) w.pc 4 1 0;if (q.2.2 != 0)=true then cH q 0 q.2.1.pc else match Cc q.1 with | none=>(aR q.2.1 2 false q.1,2) | some i=>dg q.2.1 i q.1):=by unfold ew;rw [hn,JZ9 bc];rfl
  rw [Z];clear Z;have n:=hg.wait false;have U:fS w.cs w.pr=fS (gD w false).cs (gD w false).pr:=rfl;have R:w.pc=(gD w false).pc:=rfl;have F:Ud (gD w false).d:=hd;refine aL (Hs r [aS a r] (ak w b)) ?_;refine ae (Hs.eng (dr:=false) (λ_ h=>h.hs)) {} 40 hh λu s=>?_;refine bE (bG (i:=13) (T:=4) (v:=.bool false) s.mp.row (show 13<14 by decide) ba rfl) ?_;have h2:=s.fld (M':=gD w false) 13 (.bool false) rfl rfl;rw [U,R];generalize gD w false=N at n h2 F ⊢;clear U R;refine aL (Hx B r [aS a r] w b l N b) ?_;by_cases e:0<=fS N.cs N.pr;·obtain ⟨k,k16,hk⟩:=AQ _ _ e;have q:decide (0<=((k:Nat):Int)):=ek;have o:∀ W,Hx B r [aS a r] w b l N b W->CB 63 #[.slice b.ac N.cs.length b.cc,.i N.pr] W (.i ((k:Nat):Int)):=λW hh=>hk ▸ Io hh.ht n;rw [JZ8 e,hk,O1];clear hk e;refine ae (Hx.eng (dr:=true)) {eq:=[(52,an q)],cv:=[(50,iQ (λh k=>h.below k) λW hh=>o W hh)]} 22 h2 λW3 h3=>?_;have hl:(aR N k true 0).cs.length=N.cs.length:=lX _ _ _ _ _ _;have em:ak (iV N (aR N k true 0).cs) b=ak N b:=(by unfold ak iV;dsimp only;rw [hl]);refine aL (Hs r [aS a r] (ak N b)) ?_;refine lN 21 ?_;refine aT (Hs.eng (dr:=true) (λ_ h=>h.hs)) {} 100 (h3.below (A8 _ _).drew) (λu s=>wQ s.ht n k k16 true 0) ?_;rintro W4 e W5 h4 ⟨rfl,h5,k5⟩;have h6:=h4.to h5 k5;refine ⟨_,0,rfl,λ_=>em ▸ h6.hs,?_⟩;refine ae (Hs.eng (dr:=true) (λ_ h=>em ▸ h.hs)) {} 40 h6 λW7 G=>?_;refine bE (bG (i:=2) (T:=2) (v:=.i (aR N k true 0).pr) G.mp.row (show 2<14 by decide) ba rfl) ?_;have O:=G.fld (M':=gE (iV N (aR N k true 0).cs) (aR N k true 0).pr) 2 (.i (aR N k true 0).pr) rfl rfl;refine aL (Hx B r [aS a r] w b l (gE (iV N (aR N k true 0).cs) (aR N k true 0).pr) b) ?_;refine ae (Hx.eng (dr:=true)) {} 40 O λW9 H=>?_;refine bE (bG (i:=0) (T:=24) (v:=.u (aR N k true 0).pc) H.mp.row (show 0<14 by decide) ba rfl) ?_;have A:=H.fld (M':=aR N k true 0) 0 (.u (aR N k true 0).pc) rfl rfl;refine aL (Hx B r [aS a r] w b l (aR N k true 0) b) ?_;exact bn (t:=2) (v:=.i 3) (Hx.eng (dr:=true)) {cv:=[(77,kj λW hh=>nf (aR N k true 0) b B a r W hh.ht)]} 40 A λW hh=>hh.hr 3
  ·have q:decide (0<=fS N.cs N.pr)=false:=(by rw [JZ7];exact e);rw [JZ9 e];clear e;generalize V:fS N.cs N.pr=pv at q;have o:∀ W,Hx B r [aS a r] w b l N b W->CB 63 #[.slice b.ac N.cs.length b.cc,.i N.pr] W (.i pv):=λW hh=>V ▸ Io hh.ht n;clear V;refine ae (Hx.eng (dr:=true)) {eq:=[(52,an q)],cv:=[(50,iQ (λh k=>h.below k) λW hh=>o W hh)]} 22 h2 λW3 h3=>?_;refine af [.code (au 5 (aM Tryz.f44))] [(0,.p a 0,2),(3,.p r 0,1)] ?_;clear o q;have ga:=n.acc N.pc 4 1 0;have P:=λW (hh:Mp B r N b W)=>fY N b B r N.pc 4 1 0 W hh n.len n.mw n.ok bc ab ab n.pc me;have ec:=λc=>kq (M:=N) (addr:=N.pc) (size:=4) (kind:=1) (x:=0) (c:=c);have Y:=tX n F N.pc 4 ab 1 0;have ud:=AM F N.pc 4 1 me;rw [show ((4:Nat):Int)=4 from rfl] at Y;generalize aH N N.pc 4 1 0=X at *;obtain ⟨y,f,c⟩:=X;dsimp only at ga P ec Y ud ⊢;refine aL (Hs r [aS a r] (ak N b)) ?_;refine ae (Hs.eng (dr:=false) (λ_ h=>h.hs)) {} 1 h3 λW4 h4=>?_;refine lN 9 ?_;refine aT (Hs.eng (dr:=true) (λ_ h=>h.hs)) {} 100 (h4.below (A8 _ _).drew) (λu s=>P u s.mp) ?_;rintro W5 e W6 h5 ⟨rfl,C,h6,k6⟩;refine ⟨_,0,rfl,gi ba,aL (Hs r [aS a r] (ak f C)) ?_⟩;have G:=h5.step h6 k6;cases o:(c != 0) with
   | true =>rw [JZ8 rfl];have tg:∀ W,Hx B r [aS a r] w b l f C W->H8 prog 67 #[.p a 0,.i ((c-16).toNat:Nat),.u f.pc] W (HR B a r f C W (cH (y,f,c) 0 f.pc)):=λW hh=>dU _ (ec c rfl o).2 f.pc hh.ht ga;exact Hx.last (Hs.eng (dr:=true) (λ_ h=>h.hs)) {eq:=[(92,an o),(95,cR .i64 (ec c rfl o).1)]} 60 G tg
   | false =>
     rw [JZ9 bc];have m:=λW=>oX y Y.1 Y.2 W;unfold mj at m;cases he:Cc y with
     | none =>simp only [he] at m;refine aT (Hs.eng (dr:=true) (λ_ h=>h.hs)) {eq:=[(92,an o)]} 60 G (λu s=>m u) ?_;rintro W8 e W9 O ⟨rfl,k9⟩;refine ⟨_,0,rfl,gi ba,?_⟩;have H:=O.below k9;refine ae (Hs.eng (dr:=false) (λ_ h=>h.hs)) {} 3 H λd A=>?_;refine dt 3 (ct (T:=88) (z:=.agg #[.i 0,.i 0,.i 0,.i 0,.i 0]) ba d) ?_;refine bE (av (g:=d.heap.size) (t:=88) (ty:=88) (old:=#[.i 0,.i 0,.i 0,.i 0,.i 0]) (cells:=#[.i 0,.i 0,.i 0,.i 0,.i 0]) (I1 _ _) ba rfl ba) ?_;have D:=A.below (aK (bal d (.cells #[.i 0,.i 0,.i 0,.i 0,.i 0] 88)) (A9 _) #[.i 0,.i 0,.i 0,.i 0,.i 0]);have tg:∀ W,Hx B r [aS a r] w b l f C W->H8 prog 67 #[.p a 0,.i 2,.u y] W (HR B a r f C W (aR f 2 false y,2)):=λW hh=>dU 2 bc y hh.ht ga;exact Hx.last (Hs.eng (dr:=true) (λ_ h=>h.hs)) {} 60 D tg
     | some i =>simp only [he] at m;have hi:=Az he;refine aT (Hs.eng (dr:=true) (λ_ h=>h.hs)) {eq:=[(92,an o)]} 60 G (λu s=>m u) ?_;rintro W8 e W9 O ⟨rfl,k9⟩;refine ⟨_,0,rfl,gi ba,?_⟩;have H:=O.below k9;refine ae (Hs.eng (dr:=false) (λ_ h=>h.hs)) {} 3 H λd A=>?_;refine dt 3 (ct (T:=88) (z:=.agg #[.i 0,.i 0,.i 0,.i 0,.i 0]) ba d) ?_;refine bE (av (g:=d.heap.size) (t:=88) (ty:=88) (old:=#[.i 0,.i 0,.i 0,.i 0,.i 0]) (cells:=#[.i i.op,.i i.rd,.i i.a,.i i.b,.i i.imm]) (I1 _ _) ba rfl ba) ?_;have D:Hx B r [aS a r,F9 d.heap.size i] w b l f C ((d.alloc (.cells #[.i 0,.i 0,.i 0,.i 0,.i 0] 88)).setRow d.heap.size #[.i i.op,.i i.rd,.i i.a,.i i.b,.i i.imm]):=A.var (aK (bal d _) (A9 _) _) (F9 d.heap.size i) (setRow_heap _ _ _ _ _ _ (I1 _ _)) (A9 _);refine aL (Hx B r [aS a r,F9 d.heap.size i] w b l f C) ?_;refine ae (Hx.eng (dr:=false)) {} 10 D λW12 h12=>?_;exact af _ _ (TE i y hi Y h12 ga ud)
 refine br (S:=Hx B r [aS a r] w b l w b) (args:=[.p a 0]) [] func44 ?_;refine aP 0 2 ?_;have h0:=Hx.start h [];cases J:w.wt with
 | true =>
   cases hz:(kv w.cs==0) with
   | true =>have Z:ew w=(w,4):=(by unfold ew;rw [J,hz,JZ8 bc]);rw [Z];exact bn (t:=2) (v:=.i 4) (Hx.eng (dr:=true)) {eq:=[(22,an J),(37,an hz)],ov:=[(28,kW w.cs.length b.cc .i64 9 I ⟨ab,ab⟩ underlying25 ba),(29,iP ⟨M,0+(9:Int).toNat,none⟩ (.u (w.cs.getD 9 0)) underlying24 rfl (K 9 ab)),(34,kW w.cs.length b.cc .i64 3 I ⟨ab,ab⟩ underlying25 ba),(35,iP ⟨M,0+(3:Int).toNat,none⟩ (.u (w.cs.getD 3 0)) underlying24 rfl (K 3 ab))]} 60 h0 λW hh=>hh.hr 4
   | false =>refine ae (Hx.eng (dr:=true)) {eq:=[(22,an J),(37,an hz)],ov:=[(28,kW w.cs.length b.cc .i64 9 I ⟨ab,ab⟩ underlying25 ba),(29,iP ⟨M,0+(9:Int).toNat,none⟩ (.u (w.cs.getD 9 0)) underlying24 rfl (K 9 ab)),(34,kW w.cs.length b.cc .i64 3 I ⟨ab,ab⟩ underlying25 ba),(35,iP ⟨M,0+(3:Int).toNat,none⟩ (.u (w.cs.getD 3 0)) underlying24 rfl (K 3 ab))]} 34 h0 λW hh=>?_;exact af _ _ (fin _ W hh (by rw [J,hz];rfl))
 | false =>refine ae (Hx.eng (dr:=true)) {eq:=[(22,an J)]} 34 h0 λW hh=>?_;exact af _ _ (fin _ W hh (by rw [J];rfl))
structure RS (M:MV):Prop where
 mw:MW M
 ux:∀ j,U (M.x.getD j 0)
 pc:U M.pc
 hd:U M.hd
 ud:Ud M.d
theorem RS.gd (h:RS w) (a:dJ w):Gd w:=⟨a,h.mw,h.ux,h.pc,h.hd⟩
def Od (M:MV):MV × Int:=if dJ M=true then ew M else (zeroM,0)
def mQ (w:F3) (V:MV × Int) (e:Ending) (w':F3):Prop:=∃ C:MA,e=.returned (.tuple #[.agg (ak V.1 C),.i V.2])/\bj w.heap.size w'.heap.size w' (aF V.1 C)/\Bw w w'
theorem TG (P:I5) (v:I2) (w:F3):(do pure (.value (<- S2 P v)):Sem Next).run T w=.ok (.value (.p w.heap.size 0)) (w.alloc (.cells v.cells P)):=by simp [S2,newVar,newRow]
def cG:Nat->MV->MV × List Int
 | 0,M=>(M,[])
 | n+1,M=>if ((ew M).2==4)=true then ((ew M).1,[(ew M).2]) else ((cG n (ew M).1).1,(ew M).2::(cG n (ew M).1).2)
theorem Gw.step (h:Gw w):Gw (ew w).1:=QD h λl p a=>AQ l p a
theorem rE:∀ (n:Nat) {M:MV},Gw M->Gw (cG n M).1
 | 0,_,h=>h
 | n+1,M,h=>by
   unfold cG
   split
   ·exact h.step
   ·exact rE n h.step
theorem pI:∀ (n:Nat) (M:MV),(cG n M).2.length<=n
 | 0,_=>A9 _
 | n+1,M=>by
   unfold cG
   split
   ·simp
   ·have:=pI n (ew M).1
    simp only [D4]
    omega
theorem QG {t':I5} {i:I2} {b:List I2} (h:W.ownsRow B q 1 p r s) (l:W.ownsRow a t' 1 i x b) (o:q≠t') {k:Nat} (e:p.ownBlock=some k):i.ownBlock≠some k:=λf=>by
 rcases h.2 with ⟨rfl,_⟩|⟨g,c,j,rfl,_,m,_⟩;·cases e
 ·rcases l.2 with ⟨rfl,_⟩|⟨n,v,d,rfl,_,B',_⟩;·cases f
  ·cases e;cases f;rw [m] at B';injection B' with h4
   injection h4 with _ h5
   exact o h5
theorem U5 {q:FRow} (h:q ∈ aF w b):q.t=24\/q.t=5:=by simp only [aF,List.mem_cons,List.not_mem_nil,or_false] at h;rcases h with rfl|rfl|rfl|rfl|rfl<;>simp [aG,aE]
theorem qs (h:W.ownsRow B 2 1 p x s) (f:bj a r W (aF w b)) {k:Nat} (e:p.ownBlock=some k):∀ q ∈ aF w b,q.v.ownBlock≠some k:=λq B'=>QG h (f.own q B') (by rcases U5 B' with e | e<;>rw [e]<;>decide) e
theorem Ht.far (h:Ht B a r w b W) (hs:W.heap.size<=l.heap.size) (hk:∀ k,k<W.heap.size->(k=a\/k=r\/∃ q ∈ aF w b,q.v.ownBlock=some k)->l.heap[k]?=W.heap[k]?):Ht B a r w b l:=by have f:bj B W.heap.size l (aF w b):=⟨λq hh=>dQ (h.mp.fam.own q hh) λk e=>hk k ((h.mp.fam.own q hh).lt k e).2 (.inr (.inr ⟨q,hh,e⟩)),h.mp.fam.hi,h.mp.fam.ne⟩;exact ⟨(hk a h.lt (.inl rfl)).trans h.row,⟨(hk r h.mp.lt (.inr (.inl rfl))).trans h.mp.row,f.low (A9 _) hs,h.mp.ne,h.mp.lo⟩,h.ne,h.nq⟩
def xd (T:I5) (v u:I2):Sem Next:=execOp (λx=>match x with | .tmp 0=>v | _=>u) {dst:=none,op:=.call {callee:=.builtin .append,args:=#[.tmp 0,.tmp 1],argTypes:=#[T,T]},type:=T,pos:= "",after:=#[],guard:=none}
theorem zf {u x:I2} (h:(Builtin.append_ #[q,q] q #[p,u]).run T l=.ok x W):(xd q p u).run T l=.ok (.value x) W:=by unfold xd execOp;simp only [resolve,invoke,builtin,Sem.run_bind,Sem.run_pure,Result.andThen_ok,List.map_toArray,List.map_cons,List.map_nil,h]
theorem xe:(prog.info? 2).map (λi=>(i.zero,i.size,i.bytes))=some (some (.i 0),1,8):=by kernel_rfl
theorem QH:(do pure (.value (<- R8 56 0 #[])):Sem Next).run prog t=.ok (.value (.slice (some ⟨t.heap.size,0,none⟩) 0 0)) (t.alloc (.cells #[] 2)):=by obtain ⟨c,b,e⟩:=R4.1 xe;have a:∀ f:Nat->I2,Array.map f (Array.range 0)=#[]:=λf=>Array.eq_empty_of_size_eq_zero di;simp [R8,run_underlying underlying56,sizeOf,typeInfo,b,Instr.fill,newRow,a]
theorem Ip:(do pure (.value (<- R8 56 1 #[(0,.i e)])):Sem Next).run prog t=.ok (.value (.slice (some ⟨t.heap.size,0,none⟩) 1 1)) (t.alloc (.cells #[.i e] 2)):=by obtain ⟨c,b,x⟩:=R4.1 xe;simp only [Prod.mk.injEq] at x;obtain ⟨a,e2,e3⟩:=x;have:=run_buildSlice (P:=prog) t 56 2 1 #[(0,.i e)] #[.i e] c (.i 0) underlying56 b a ph ph v9;simp [this]
theorem Dz {c:Option I4} (h:W.ownsRow B 2 1 (.slice c D.length a) D.length (D.map (Value.int .i64))) (hz:B<=W.heap.size) (hn:D.length<=1000000) (x:Int):∃ (b:Option I4) (d:Nat) (W':F3),(xd 56 (.slice c D.length a) (.slice (some ⟨W.heap.size,0,none⟩) 1 1)).run prog (W.alloc (.cells #[.i x] 2))=.ok (.value (.slice b (D++[x]).length d)) W'/\W'.ownsRow B 2 1 (.slice b (D++[x]).length d) (D++[x]).length ((D++[x]).map (Value.int .i64))/\W.heap.size<=W'.heap.size/\W'.os=W.os/\W'.tape=W.tape/\W'.output=W.output/\∀ k,k<W.heap.size->(∀ j,(Value.slice c D.length a).ownBlock=some j->j≠k)->W'.heap[k]?=W.heap[k]?:=by
 obtain ⟨y,q,e⟩:=R4.1 xe;simp only [Prod.mk.injEq] at e;obtain ⟨l,e2,e3⟩:=e;have f:=(A8 W.heap.size W).alloc (A9 _) (.cells #[.i x] 2);obtain ⟨v,W',t,o,i,_⟩:=run_append_own (P:=prog) (W.alloc (.cells #[.i x] 2)) B 56 56 2 y (.i 0) 1 8 underlying56 q l e2 e3 rfl bc _ D.length _ (dc h f) ⟨W.heap.size,0,none⟩ 1 1 [.i x] rfl (λj u w=>NM W _ _ j u w) ia fb ab bv;have m:∃ b d,v=.slice b (D.length+1) d:=by
  rcases o.2 with ⟨l,z⟩|⟨g,cap,p,l,_⟩;·omega
  ·exact ⟨_,_,l⟩
 obtain ⟨b,d,rfl⟩:=m;have n:(D++[x]).length=D.length+1:=di
 refine ⟨b,d,W',zf (by rw [n];exact t),?_,C6 f.size i.size,i.os.trans f.os,i.tape.trans f.tape,i.output.trans f.output,λk s r=>(i.block k bv (λe=>r k e.symm rfl)).trans (f.block k s)⟩;rw [n,List.map_append];exact o
structure Hl (B hh r:Nat) (M:MV) (A:MA) (w:F3) (M':MV) (A':MA) (xs:List Int) (a:Option I4) (c:Nat) (W:F3):Prop where
 ht:Ht B hh r M' A' W
 kx:Kx r (aF M A) (aF M' A') w W
 lo:hh<w.heap.size/\r<w.heap.size
 own:W.ownsRow w.heap.size 2 1 (.slice a xs.length c) xs.length (xs.map (Value.int .i64))
theorem Hl.step {M2:MV} {A2:MA} {W':F3} (h:Hl B a r w b l A n D P x W) (p:Ht B a r M2 A2 W') (k:Kx r (aF A n) (aF M2 A2) W W'):Hl B a r w b l M2 A2 D P x W' :=
 ⟨p,h.kx.trans k,h.lo,dQ h.own λj e=>by
  obtain ⟨d,c⟩:=h.own.lt j e
  have:=h.lo
  exact k.block j c ab (qs h.own h.ht.mp.fam e)⟩
theorem Hl.push (h:Hl B a r w b l A n D P x W) (hn:D.length<=1000000) (hh:Int):∃ (d:Option I4) (f:Nat) (W':F3),(xd 56 (.slice P D.length x) (.slice (some ⟨W.heap.size,0,none⟩) 1 1)).run prog (W.alloc (.cells #[.i hh] 2))=.ok (.value (.slice d (D++[hh]).length f)) W'/\Hl B a r w b l A n (D++[hh]) d f W':=by
 have m:=h.kx.size;obtain ⟨d,f,W',v,o,M,p,e2,e3,M'⟩:=Dz h.own m hn hh;refine ⟨d,f,W',v,h.ht.far M λk i c=>M' k i λj g e=>?_,⟨p.trans h.kx.os,e2.trans h.kx.tape,e3.trans h.kx.output,C6 m M,λk i s t=>(M' k ab λj g e=>?_).trans (h.kx.block k i s t),h.kx.own⟩,h.lo,o⟩
 ·have:=(h.own.lt j g).1;have:=h.lo;rcases c with c|c|⟨q,u,c⟩;·omega
  ·omega
  ·exact qs h.own h.ht.mp.fam g q u (by rw [e];exact c)
 ·have:=(h.own.lt j g).1;omega
def LR (B hh r:Nat) (M:MV) (A:MA) (w:F3) (R:MV × List Int) (e:Ending) (w':F3):Prop:=∃ (a:Option I4) (c:Nat) (A':MA),e=.returned (.slice a R.2.length c)/\Hl B hh r M A w R.1 A' R.2 a c w'
structure Ls (B hh r:Nat) (M:MV) (A:MA) (w:F3) (n j:Nat) (x:MV × MA × List Int × Option I4 × Nat × Nat) (W:F3):Prop where
 ej:x.2.2.2.2.2=j
 hl:Hl B hh r M A w x.1 x.2.1 x.2.2.1 x.2.2.2.1 x.2.2.2.2.1 W
 gw:Gw x.1
 ln:x.2.2.1.length+j=n
 st:cG n M=((cG j x.1).1,x.2.2.1++(cG j x.1).2)
theorem QI (hn:F<=300) (h:Ht B a r w b l) (J:Gw w):H8 prog 20 #[.p a 0,.i F] l (LR B a r w b l (cG F w)):=by
 refine br (S:=λ_=>True) (args:=[.p a 0,.i F]) [] func20 ?_;refine gz (R:=[]) trivial {} 10 0 (QH l) ?_;have g:=(A8 l.heap.size l).alloc (A9 _) (.cells #[] 2);have s:Ls B a r w b l F F (w,b,[],some ⟨l.heap.size,0,none⟩,0,F) (l.alloc (.cells #[] 2)):=⟨rfl,⟨h.below g,Kx.of_below g,⟨h.lt,h.mp.lt⟩,World.ownsRow_lit l #[] 0 (A9 _) fb rfl⟩,J,di,di⟩;generalize l.alloc (.cells #[] 2)=U at s ⊢;refine aj (R:=[]) trivial {} 20 ?_;refine gJ (λx:MV × MA × List Int × Option I4 × Nat × Nat=>[(0,.p a 0,0),(1,.i (x.2.2.2.2.2:Nat),0),(5,.slice x.2.2.2.1 x.2.2.1.length x.2.2.2.2.1,0)]) (Ls B a r w b l F) F (w,b,[],some ⟨l.heap.size,0,none⟩,0,F) ba ba s ?_;clear s g;rintro j ⟨d,E,xs,hh,c,N⟩ W ⟨C,o,A,Q,f⟩ T I;dsimp only at C o A Q f ⊢;subst C;cases N with
 | zero =>have e:cG F w=(d,xs):=(by rw [f];simp [cG]);rw [e];exact jm (R:=[]) trivial {} 60 (t:=4) ⟨hh,c,E,rfl,o⟩
 | succ j =>
   have q:decide ((0:Int)<((j+1:Nat):Int)):=ek;have u:=TF o.ht A.1 A.2;have p:=A.step;have z:cG (j+1) d=if ((ew d).2==4)=true then ((ew d).1,[(ew d).2]) else ((cG j (ew d).1).1,(ew d).2::(cG j (ew d).1).2):=rfl
   rw [z] at f;clear z;generalize ew d=V at u p f;obtain ⟨M2,k⟩:=V;dsimp only at u p f;refine aC (R:=[]) trivial {eq:=[(9,an q)]} 60 u ?_;rintro e n ⟨rfl,A2,H,O⟩;refine ⟨_,0,rfl,?_⟩;have P:=o.step H O;refine gz (R:=[]) trivial {} 20 0 (Ip n k) ?_;obtain ⟨v,y,G,K,D⟩:=P.push ab k;refine dt 0 K ?_;have i:(xs++[k]).length=xs.length+1:=di;cases m:(k==4) with
   | true =>rw [m,JZ8 rfl] at f;rw [f];exact jm (R:=[]) trivial {eq:=[(19,an m)]} 60 (t:=4) ⟨v,y,A2,rfl,D⟩
   | false =>rw [m,JZ9 bc] at f;have L:IntKind.i64.wrap (((j+1:Nat):Int)-1)=((j:Nat):Int):=e8;exact dY (R:=[]) trivial {eq:=[(19,an m),(11,cR .i64 L)]} 60 λM g=>I M G j (M2,A2,xs++[k],v,y,j) ab (g.less ba) ⟨rfl,D,p,by rw [i];omega,by rw [f];simp⟩
def rF (l:List Int):Nat:=l.countP (· != 4)
def pJ (k n:Int) (M:MV):MV × Nat :=
 if (k==1&&decide (0<=n/\n<=300))=true then ((cG n.toNat M).1,rF (cG n.toNat M).2)
 else if (k==2&&decide (0<=n))=true then (bK (bW M (gx M.d n)),0)
 else if (k==3&&decide (0<=n))=true then (bK (bW M (gR M.d (IntKind.u8.wrap n))),0)
 else (M,0)
def iN:List (Int × Int)->MV->MV × Nat
 | [],M=>(M,0)
 | e::l,M=>((iN l (pJ e.1 e.2 M).1).1,(pJ e.1 e.2 M).2+(iN l (pJ e.1 e.2 M).1).2)
def mA (M:MV) (l:List (Int × Int)):MV × Nat:=if (dJ M&&decide (l.length<=100))=true then iN l M else (zeroM,0)
theorem AR:rF d<=d.length:=List.countP_le_length
theorem zg {l:List Int} {q:Nat} (h:q<l.length):rF (l.take (q+1))=rF (l.take q)+if (l.getD q 0 != 4)=true then 1 else 0:=by rw [List.take_add_one,D2 h,D3,D2 h];unfold rF;rw [List.countP_append];simp
theorem Gw.okD (h:Gw w):lA w.d.xs.length w.d.ys.length w.d.ir:=(db h.1.ok).2.2.2.2.1
theorem Gw.tick (h:Gw w) {n:Int} (hn:0<=n):Gw (bK (bW w (gx w.d n))):=by
 have e:gx w.d n=⟨Uz.wrap (w.d.t+Uz.wrap n),w.d.cm,w.d.so,w.d.xs,w.d.ys,w.d.ir⟩:=by unfold gx;rw [JZ8 (by rw [h.okD];simpa using hn)]
 rw [e];exact ⟨h.1.dev h.okD ⟨h.1.mw.xs,h.1.mw.ys⟩,aW _,h.2.2⟩
theorem Gw.byte (h:Gw w) {b:Int} (hb:(Lit.int .u8 b).wf):Gw (bK (bW w (gR w.d b))):=by
 have e:gR w.d b=⟨w.d.t,w.d.cm,w.d.so,if w.d.xs.length<16 then w.d.xs++[b] else w.d.xs,w.d.ys,w.d.ir⟩:=by unfold gR;rw [JZ8 h.okD]
 have f:=vf h.okD;rw [e];have key:∀ xs:List Int,xs.length<=16->(∀ y ∈ xs,(Lit.int .u8 y).wf)->Gw (bK (bW w ⟨w.d.t,w.d.cm,w.d.so,xs,w.d.ys,w.d.ir⟩)):=λxs c d=>by refine ⟨h.1.dev ?_ ⟨d,h.1.mw.ys⟩,h.2⟩;have:=h.okD;unfold lA at this ⊢;simp only [K0,JZ6] at this ⊢;exact ⟨⟨c,this.1.2⟩,this.2⟩
 split
 ·exact key _ bv λy a=>by
   rcases List.mem_append.1 a with a|a;·exact h.1.mw.xs y a
   ·rw [List.mem_singleton.1 a];exact hb
 ·exact key _ ab h.1.mw.xs
theorem DA (h:Gw w) (k n:Int):Gw (pJ k n w).1:=by
 unfold pJ;split;·exact rE _ h
 ·split;·rename_i a;rw [K0,JZ6] at a;exact h.tick a.2
  ·split;·exact h.byte (Al (y:=IntKind.u8.wrap n) lx)
   ·exact h
theorem Iq:(pJ e g E).2<=300:=by
 unfold pJ;split;·rename_i h;rw [K0,JZ6] at h;have a:=AR (cG g.toNat E).2;have b:=pI g.toNat E;show rF _<=300;omega
 ·split;·exact D1 _
  ·split<;>exact D1 _
theorem Ir:∀ (l:List (Int × Int)) {M:MV},Gw M->Gw (iN l M).1
 | [],_,h=>h
 | e::l,_,h=>Ir l (DA h e.1 e.2)
theorem Is:∀ (l:List (Int × Int)) (M:MV),(iN l M).2<=300*l.length
 | [],_=>A9 _
 | e::l,M=>by
   have a:=Iq M e.1 e.2
   have b:=Is l (pJ e.1 e.2 M).1
   show (pJ e.1 e.2 M).2+_<=_
   rw [D4]
   omega
theorem AS {l:List (Int × Int)} (a:B<l.length) (M:MV):iN (l.drop B) M=((iN (l.drop (B+1)) (pJ (l.getD B (0,0)).1 (l.getD B (0,0)).2 M).1).1,(pJ (l.getD B (0,0)).1 (l.getD B (0,0)).2 M).2+(iN (l.drop (B+1)) (pJ (l.getD B (0,0)).1 (l.getD B (0,0)).2 M).1).2):=by rw [List.drop_eq_getElem_cons a,D3,D2 a];rfl
theorem Gw.line (h:Gw w):bK w=w:=sI (kC (db h.1.ok).2.2.1) (h.1.mw.cs 9) (db h.1.ok).2.2.2.2.2.2
def xg (k n:Int) (M:MV):MV × Nat :=
 if (k==1&&decide (0<=n/\n<=300))=true then ((cG n.toNat M).1,rF (cG n.toNat M).2)
 else if (k==2&&decide (0<=n))=true then (bW M (gx M.d n),0)
 else if (k==3&&decide (0<=n))=true then (bW M (gR M.d (IntKind.u8.wrap n)),0)
 else (M,0)
theorem Iu (h:Gw w) (k n:Int):pJ k n w=(bK (xg k n w).1,(xg k n w).2):=by
 unfold pJ xg;split;·rw [(rE _ h).line]
 ·split;·rfl
  ·split;·rfl
   ·rw [h.line]
theorem TH (h:Gw w) (k n:Int):iR (xg k n w).1/\(xg k n w).1.cs.length=22/\lA (xg k n w).1.d.xs.length (xg k n w).1.d.ys.length (xg k n w).1.d.ir:=by
 have g:=DA h k n;rw [Iu h] at g;have l:=g.1.len;have e:(bK (xg k n w).1).cs.length=(xg k n w).1.cs.length:=by simp [bK]
 exact ⟨⟨l.x,by rw [<- e];exact l.cs,l.ram,l.xs,l.ys⟩,by rw [<- e];exact kC (db g.1.ok).2.2.1,g.okD⟩
def Ga (M:MV) (n:Int):MV × List Int:=if (dJ M&&decide (0<=n/\n<=300))=true then cG n.toNat M else (zeroM,[])
def V0 (w:F3) (V:MV × List Int) (e:Ending) (w':F3):Prop:=∃ (C:MA) (a:Option I4) (c:Nat),e=.returned (.tuple #[.agg (ak V.1 C),.slice a V.2.length c])/\bj w.heap.size w'.heap.size w' (aF V.1 C)/\w'.ownsRow w.heap.size 2 1 (.slice a V.2.length c) V.2.length (V.2.map (Value.int .i64))/\Bw w w'
