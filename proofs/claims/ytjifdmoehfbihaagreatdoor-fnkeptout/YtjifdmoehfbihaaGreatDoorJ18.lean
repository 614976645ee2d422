/- Own lemmas. -/
import Derived.Test.YtjifdmoehfbihaaGreatDoorAuj
import Derived.Test.YtjifdmoehfbihaaGreatDoorJ16
import Derived.Test.YtjifdmoehfbihaaGreatDoorJ17
set_option maxRecDepth 100000
namespace Go.Proofs.YtjifdmoehfbihaaGreatDoor
open Go.RowKit Tryz
open IntKind renaming u64->Uz
set_option linter.unusedVariables false
variable {a w M:MV} {x A B:Int} {b r W k:Nat} {l n:World} {c p:MA} {D:Ins} {f:List Int} {j:DV} {P:Value} {T:Option Addr} {q:Program} {s:TypeId} {t:List Value} (E:World) (S:MV) (d:Ins) (e:List Int) (g m o y z C:Int) (G:Nat)
theorem N5:(rN S g m 2 o).2.2=0\/(rN S g m 2 o).2.2=21:=by
 unfold rN;split;·split<;>exact Or.inl rfl
 ·split
  ·split;·exact Or.inl rfl
   ·exact Or.inr rfl
  ·split
   ·split;·exact Or.inl rfl
    ·exact Or.inr rfl
   ·exact Or.inr rfl
theorem Kv:(aE S g m 2 o).2.2=0\/∃ c:Nat,c<14/\(aE S g m 2 o).2.2=c+16:=by
 unfold aE;split;·exact Or.inr ⟨4,ab,rfl⟩
 ·unfold xQ;split
  ·rcases za S.ram S.ram.length S.cs (fO S.cs S.pr 2) g 2 with e|e|e;·refine Or.inr ⟨0,ab,?_⟩;show wrap64 ((bN S.ram S.ram.length S.cs (fO S.cs S.pr 2) g 2).code+16)=_;rw [e];unfold wrap64;decide
   ·refine Or.inr ⟨13,ab,?_⟩;show wrap64 ((bN S.ram S.ram.length S.cs (fO S.cs S.pr 2) g 2).code+16)=_;rw [e];unfold wrap64;decide
   ·refine Or.inr ⟨5,ab,?_⟩;show wrap64 ((bN S.ram S.ram.length S.cs (fO S.cs S.pr 2) g 2).code+16)=_;rw [e];unfold wrap64;decide
  ·split;·exact Or.inr ⟨5,ab,rfl⟩
   ·refine (N5 _ _ _ _).imp id λe=>⟨5,ab,e⟩
theorem AM {addr size x c:Int} (a:(aE M addr size 2 x).2.2=c) (hn:(c != 0)=true):IntKind.i64.wrap (c-16)=(((c-16).toNat:Nat):Int)/\IntKind.i64.wrap ((((c-16).toNat:Nat):Int)+2)=(((c-16).toNat+2:Nat):Int)/\(c-16).toNat+2<16:=by
 have h:=Kv M addr size x;rw [a] at h;rcases h with h|⟨d,b,e⟩;·rw [h] at hn;cases hn
 ·rw [IntKind.wrap_i64,IntKind.wrap_i64];omega
theorem Ve (op rd j k imm M B:Int) (K:op=63\/op=74) (L:0<=rd) (O:rd<=31) (ha:U M) (hb:U B) (h:Ht b W r a c l) (G:Gd a): Calls prog 85 #[.p W 0,.agg #[.i op,.i rd,.i j,.i k,.i imm],.u M,.u B] l (HR b W r a c l (iC a ⟨op,rd,j,k,imm⟩ M B)):=by
 obtain ⟨V,J⟩:∃ V,iC a ⟨op,rd,j,k,imm⟩ M B=V:=⟨_,rfl⟩;rw [J];obtain ⟨f,q⟩:∃ f,f=bE op:=⟨_,rfl⟩;obtain p|p:=K;all_goals
  have o:=G.acc M f 2 0
  have u:=λhh (w:Mp b r a c hh)=>gc a c b r M f 2 0 hh w G.len G.mw G.ok j1 ab ab ha ⟨bc,bc⟩
  have H:=λA=>kq (M:=a) (addr:=M) (size:=f) (kind:=2) (x:=0) (c:=A)
  have m:(if ((aE a M f 2 0).2.2 != 0)=true then cS (aE a M f 2 0) 0 M else (aY (cq (dC (aE a M f 2 0).2.1 M 2) true (cw (aE a M f 2 0).2.1 M 2).addr) rd (au (8*f) (aE a M f 2 0).1) (Uz.wrap (a.pc+4)),1))=V:=by subst p q;exact J
  clear J
  generalize aE a M f 2 0=X at *
  obtain ⟨y,N,A⟩:=X
  dsimp only at o u H m
  refine bD (S:=Hs r (aR W r::fd l.heap.size [(#[.i op,.i rd,.i j,.i k,.i imm],69)]) (aj a c)) (args:=[.p W 0,.agg #[.i op,.i rd,.i j,.i k,.i imm],.u M,.u B]) [(#[.i op,.i rd,.i j,.i k,.i imm],69)] func85 (hn:=bb) (hs:=bb) ?_
  refine aN 0 2 (aN 5 3 ?_)
  refine aW (Hs.eng (dr:=true) (λ_ h=>h.hs)) {} 160 (Hx.start h _) (λP E=>u P E.mp) (hx:=bb) (he:=bb) ?_
  rintro P e W2 E ⟨rfl,C,Q,k2⟩
  refine ⟨_,0,rfl,gE bb,aJ (Hs r (aR W r::fd l.heap.size [(#[.i op,.i rd,.i j,.i k,.i imm],69)]) (aj N C)) (hn:=bb) ?_⟩
  cases s:(A != 0) with
  | true =>
    rw [s,if_pos rfl] at m
    subst m
    exact Hx.last (Hs.eng (dr:=true) (λ_ h=>h.hs)) {eq:=[(53,ak s),(56,dP .i64 (H A rfl s).1)]} 60 (E.step Q k2) (λhh w=>dZ _ (H A rfl s).2 M w.ht o) (hx:=bb) (he:=bb) (hy:=λ_=>bb)
  | false =>
    rw [s,if_neg bc] at m
    have I:Gd (dC N M 2):=o.marked _
    have z:=λhh (w:Mp b r N C hh)=>Aq N C b r M 2 hh w o.len o.mw o.ok ab ab ha (cw N M 2) rfl
    have d:∀ hh,Mp b r N C hh->Calls prog 114 #[.p r 0,.slice none 0 0,.u M,.i 2] hh λe w'=>e=.returned (.tuple #[.u (cw N M 2).addr,.i (cw N M 2).code])/\Mp b r (dC N M 2) C w'/\Kx r (aH N C) (aH (dC N M 2) C) hh w':=z
    clear z
    generalize dC N M 2=g at I d m
    generalize cw N M 2=F at d m
    obtain ⟨n,fc,fm,ft,fe⟩:=F
    dsimp only at d m
    subst m
    refine aW (Hs.eng (dr:=true) (λ_ h=>h.hs)) {eq:=[(53,ak s)]} 60 (E.step Q k2) (λhh w=>d hh w.mp) (hx:=bb) (he:=bb) ?_
    rintro W3 e W4 h3 ⟨rfl,h4,k4⟩
    refine ⟨_,0,rfl,gE bb,aJ (Hs r (aR W r::fd l.heap.size [(#[.i op,.i rd,.i j,.i k,.i imm],69)]) (aj g C)) (hn:=bb) ?_⟩
    refine ae (Hs.eng (dr:=false) (λ_ h=>h.hs)) {} 60 (h3.step h4 k4) (hret:=bb) (he:=bb) λW5 R=>?_
    refine bM (hx:=bb) (bJ (i:=12) (T:=4) (v:=.bool true) R.mp.row (show 12<14 by decide) bb rfl) (hS:=gE bb) ?_
    have h6:=R.fld (M':=cq g true g.hd) 12 (.bool true) rfl rfl
    refine aJ (Hs r (aR W r::fd l.heap.size [(#[.i op,.i rd,.i j,.i k,.i imm],69)]) (aj (cq g true g.hd) C)) (hn:=bb) ?_
    refine ae (Hs.eng (dr:=false) (λ_ h=>h.hs)) {} 60 h6 (hret:=bb) (he:=bb) λW7 Y=>?_
    refine bM (hx:=bb) (bJ (i:=11) (T:=22) (v:=.u n) Y.mp.row (show 11<14 by decide) bb rfl) (hS:=gE bb) ?_
    have Z:=Y.fld (M':=cq g true n) 11 (.u n) rfl rfl
    refine aJ (Hs r (aR W r::fd l.heap.size [(#[.i op,.i rd,.i j,.i k,.i imm],69)]) (aj (cq g true n) C)) (hn:=bb) ?_
    have n32:(cq g true n).x.length=32:=by unfold cq;exact I.x32
    have n22:(cq g true n).cs.length=22:=by unfold cq;exact (aC I.ok).1
    generalize cq g true n=N3 at Z n32 n22 ⊢
    refine ae (Hs.eng (dr:=false) (λ_ h=>h.hs)) {} 60 Z (hret:=bb) (he:=bb) λW9 h9=>?_
    refine lJ 9 (hm:=bb) (hk:=bb) ?_
    refine aW (Hs.eng (dr:=true) (λ_ h=>h.hs)) {} 60 (h9.below (Below.refl _ _).drew) (λhh _=>eE y (8*f) j1 j1 hh) (hx:=bb) (he:=bb) ?_
    rintro W10 e W11 t ⟨rfl,D⟩
    subst D
    refine ⟨_,0,rfl,λ_=>t.hs,?_⟩
    exact Hx.last (Hs.eng (dr:=true) (λ_ h=>h.hs)) {} 60 t (λhh w=>fu rd (au (8*f) y) _ L O w.ht n32 n22) (hx:=bb) (he:=bb) (hy:=λ_=>bb)
theorem Vf (B:Int) (hop:g=64\/g=75) (I:0<=m) (J:m<=31) (ha:U C) (hb:U B) (h:Ht b W r a c l) (P:Gd a): Calls prog 85 #[.p W 0,.agg #[.i g,.i m,.i o,.i y,.i z],.u C,.u B] l (HR b W r a c l (iC a ⟨g,m,o,y,z⟩ C B)):=by
 obtain ⟨V,hV⟩:∃ V,iC a ⟨g,m,o,y,z⟩ C B=V:=⟨_,rfl⟩;rw [hV];obtain ⟨w,q⟩:∃ w,w=bE g:=⟨_,rfl⟩;obtain p|p:=hop;all_goals
  have R:(w:Int)≠0:=by subst p q;decide
  have a0:C.tmod w=C%((w:Nat):Int):=Int.tmod_eq_emod_of_nonneg ha.1
  have u:Gd (dC a C 3):=P.marked _
  have Q:(dC a C 3).pc=a.pc:=rfl
  have A:∀ hh,Mp b r a c hh->Calls prog 114 #[.p r 0,.slice none 0 0,.u C,.i 3] hh λe w'=>e=.returned (.tuple #[.u (cw a C 3).addr,.i (cw a C 3).code])/\Mp b r (dC a C 3) c w'/\Kx r (aH a c) (aH (dC a C 3) c) hh w':=λhh f=>Aq a c b r C 3 hh f P.len P.mw P.ok ab ab ha (cw a C 3) rfl
  obtain ⟨M,c16,H⟩:∃ M:Nat,M<16/\(cw a C 3).code=M:=lV a.ram a.ram.length a.cs (fO a.cs a.pr 3) C 3
  have rd:(if (C%((w:Nat):Int) != 0)=true then (aL a 6 false C,2) else if ((cw a C 3).code != 0)=true then (aL (dC a C 3) (cw a C 3).code.toNat false C,2) else VG (dC a C 3) ⟨g,m,o,y,z⟩ C B (cw a C 3).addr)=V:=by subst p q;exact hV
  clear hV
  generalize dC a C 3=N at u A rd Q
  generalize cw a C 3=F at A H rd
  obtain ⟨pa,fc,fm,ft,fe⟩:=F
  dsimp only at A H rd
  subst H
  rw [<- a0] at rd
  refine bD (S:=Hs r (aR W r::fd l.heap.size [(#[.i g,.i m,.i o,.i y,.i z],69)]) (aj a c)) (args:=[.p W 0,.agg #[.i g,.i m,.i o,.i y,.i z],.u C,.u B]) [(#[.i g,.i m,.i o,.i y,.i z],69)] func85 (hn:=bb) (hs:=bb) ?_
  refine aN 0 2 (aN 5 3 ?_)
  cases hz:(C.tmod w != 0) with
  | true =>
    rw [hz,if_pos rfl] at rd
    subst rd
    exact Hx.last (Hs.eng (dr:=true) (λ_ h=>h.hs)) {eq:=[(90,ak hz)],ov:=[(89,Pb .u64 C w R)]} 160 (Hx.start h _) (λhh f=>dZ 6 bc C f.ht P) (hx:=bb) (he:=bb) (hy:=λ_=>bb)
  | false =>
  rw [hz,if_neg bc] at rd
  refine aW (Hs.eng (dr:=true) (λ_ h=>h.hs)) {eq:=[(90,ak hz)],ov:=[(89,Pb .u64 C w R)]} 160 (Hx.start h _) (λhh f=>A hh f.mp) (hx:=bb) (he:=bb) ?_
  rintro W3 e W4 h3 ⟨rfl,h4,k4⟩
  refine ⟨_,0,rfl,gE bb,aJ (Hs r (aR W r::fd l.heap.size [(#[.i g,.i m,.i o,.i y,.i z],69)]) (aj N c)) (hn:=bb) ?_⟩
  have op:=h3.step h4 k4
  cases K:(((M:Nat):Int) != 0) with
  | true =>
    rw [K,if_pos rfl] at rd
    subst rd
    exact Hx.last (Hs.eng (dr:=true) (λ_ h=>h.hs)) {eq:=[(105,ak K)]} 60 op (λhh f=>dZ M c16 C f.ht u) (hx:=bb) (he:=bb) (hy:=λ_=>bb)
  | false =>
  rw [K,if_neg bc] at rd
  have d:(if (N.hl&&(N.hd==pa))=true then (if ((aE N C w 3 B).2.2 != 0)=true then cS (aE N C w 3 B) 0 C else (aY (cq (aE N C w 3 B).2.1 false 0) m 0 (Uz.wrap (N.pc+4)),1)) else (aY (cq N false 0) m 1 (Uz.wrap (N.pc+4)),1))=V:=by subst p q;exact rd
  clear rd
  rw [Q] at d
  have no:(N.hl&&(N.hd==pa))=false->(aY (cq N false 0) m 1 (Uz.wrap (a.pc+4)),1)=V:=λhn=>by rw [hn,if_neg bc] at d;exact d
  cases L:N.hl with
  | false =>
    have E:=no (by rw [L];rfl)
    subst E
    refine ae (Hs.eng (dr:=false) (λ_ h=>h.hs)) {eq:=[(105,ak K),(115,ak L)]} 60 op (hret:=bb) (he:=bb) λW5 op=>?_
    refine bM (hx:=bb) (bJ (i:=12) (T:=4) (v:=.bool false) op.mp.row (show 12<14 by decide) bb rfl) (hS:=gE bb) ?_
    have k:=op.fld (M':=cq N false N.hd) 12 (.bool false) rfl rfl
    refine aJ (Hs r (aR W r::fd l.heap.size [(#[.i g,.i m,.i o,.i y,.i z],69)]) (aj (cq N false N.hd) c)) (hn:=bb) ?_
    refine ae (Hs.eng (dr:=false) (λ_ h=>h.hs)) {} 60 k (hret:=bb) (he:=bb) λW7 s=>?_
    refine bM (hx:=bb) (bJ (i:=11) (T:=22) (v:=.u 0) s.mp.row (show 11<14 by decide) bb rfl) (hS:=gE bb) ?_
    have D:=s.fld (M':=cq N false 0) 11 (.u 0) rfl rfl
    refine aJ (Hs r (aR W r::fd l.heap.size [(#[.i g,.i m,.i o,.i y,.i z],69)]) (aj (cq N false 0) c)) (hn:=bb) ?_
    have n32:(cq N false 0).x.length=32:=by unfold cq;exact u.x32
    have n22:(cq N false 0).cs.length=22:=by unfold cq;exact (aC u.ok).1
    generalize cq N false 0=N3 at D n32 n22 ⊢
    exact Hx.last (Hs.eng (dr:=true) (λ_ h=>h.hs)) {} 60 D (λhh f=>fu m 1 _ I J f.ht n32 n22) (hx:=bb) (he:=bb) (hy:=λ_=>bb)
  | true =>
  cases Z:(N.hd==pa) with
  | false =>
    have E:=no (by rw [L,Z];rfl)
    subst E
    refine ae (Hs.eng (dr:=false) (λ_ h=>h.hs)) {eq:=[(105,ak K),(115,ak L),(122,ak Z)]} 60 op (hret:=bb) (he:=bb) λW5 op=>?_
    refine bM (hx:=bb) (bJ (i:=12) (T:=4) (v:=.bool false) op.mp.row (show 12<14 by decide) bb rfl) (hS:=gE bb) ?_
    have k:=op.fld (M':=cq N false N.hd) 12 (.bool false) rfl rfl
    refine aJ (Hs r (aR W r::fd l.heap.size [(#[.i g,.i m,.i o,.i y,.i z],69)]) (aj (cq N false N.hd) c)) (hn:=bb) ?_
    refine ae (Hs.eng (dr:=false) (λ_ h=>h.hs)) {} 60 k (hret:=bb) (he:=bb) λW7 s=>?_
    refine bM (hx:=bb) (bJ (i:=11) (T:=22) (v:=.u 0) s.mp.row (show 11<14 by decide) bb rfl) (hS:=gE bb) ?_
    have D:=s.fld (M':=cq N false 0) 11 (.u 0) rfl rfl
    refine aJ (Hs r (aR W r::fd l.heap.size [(#[.i g,.i m,.i o,.i y,.i z],69)]) (aj (cq N false 0) c)) (hn:=bb) ?_
    have n32:(cq N false 0).x.length=32:=by unfold cq;exact u.x32
    have n22:(cq N false 0).cs.length=22:=by unfold cq;exact (aC u.ok).1
    generalize cq N false 0=N3 at D n32 n22 ⊢
    exact Hx.last (Hs.eng (dr:=true) (λ_ h=>h.hs)) {} 60 D (λhh f=>fu m 1 _ I J f.ht n32 n22) (hx:=bb) (he:=bb) (hy:=λ_=>bb)
  | true =>
    clear no
    rw [L,Z,if_pos bc] at d
    have O:=u.acc C w 3 B
    have G:=λhh (f:Mp b r N c hh)=>gc N c b r C w 3 B hh f u.len u.mw u.ok j1 ab ab ha hb
    have Y:=λM=>kq (M:=N) (addr:=C) (size:=w) (kind:=3) (x:=B) (c:=M)
    generalize aE N C w 3 B=X at O G Y d
    obtain ⟨j,t,c2⟩:=X
    dsimp only at O G Y d
    refine aW (Hs.eng (dr:=true) (λ_ h=>h.hs)) {eq:=[(105,ak K),(115,ak L),(122,ak Z)]} 90 op (λW1 h1=>G W1 h1.mp) (hx:=bb) (he:=bb) ?_
    rintro W6 e W7 k ⟨rfl,imm,s,k7⟩
    refine ⟨_,0,rfl,gE bb,aJ (Hs r (aR W r::fd l.heap.size [(#[.i g,.i m,.i o,.i y,.i z],69)]) (aj t imm)) (hn:=bb) ?_⟩
    cases n:(c2 != 0) with
    | true =>
      rw [n,if_pos rfl] at d
      subst d
      exact Hx.last (Hs.eng (dr:=true) (λ_ h=>h.hs)) {eq:=[(137,ak n),(140,dP .i64 (Y c2 rfl n).1)]} 60 (k.step s k7) (λhh f=>dZ _ (Y c2 rfl n).2 C f.ht O) (hx:=bb) (he:=bb) (hy:=λ_=>bb)
    | false =>
    rw [n,if_neg bc] at d
    subst d
    refine ae (Hs.eng (dr:=false) (λ_ h=>h.hs)) {eq:=[(137,ak n)]} 60 (k.step s k7) (hret:=bb) (he:=bb) λW5 op=>?_
    refine bM (hx:=bb) (bJ (i:=12) (T:=4) (v:=.bool false) op.mp.row (show 12<14 by decide) bb rfl) (hS:=gE bb) ?_
    have k:=op.fld (M':=cq t false t.hd) 12 (.bool false) rfl rfl
    refine aJ (Hs r (aR W r::fd l.heap.size [(#[.i g,.i m,.i o,.i y,.i z],69)]) (aj (cq t false t.hd) imm)) (hn:=bb) ?_
    refine ae (Hs.eng (dr:=false) (λ_ h=>h.hs)) {} 60 k (hret:=bb) (he:=bb) λW7 s=>?_
    refine bM (hx:=bb) (bJ (i:=11) (T:=22) (v:=.u 0) s.mp.row (show 11<14 by decide) bb rfl) (hS:=gE bb) ?_
    have D:=s.fld (M':=cq t false 0) 11 (.u 0) rfl rfl
    refine aJ (Hs r (aR W r::fd l.heap.size [(#[.i g,.i m,.i o,.i y,.i z],69)]) (aj (cq t false 0) imm)) (hn:=bb) ?_
    have n32:(cq t false 0).x.length=32:=by unfold cq;exact O.x32
    have n22:(cq t false 0).cs.length=22:=by unfold cq;exact (aC O.ok).1
    generalize cq t false 0=N3 at D n32 n22 ⊢
    exact Hx.last (Hs.eng (dr:=true) (λ_ h=>h.hs)) {} 60 D (λhh f=>fu m 0 _ I J f.ht n32 n22) (hx:=bb) (he:=bb) (hy:=λ_=>bb)
theorem N6 (op rd k w imm M B:Int) (sz:Nat) (hs:65<=op/\op<=73/\sz=4\/76<=op/\op<=84/\sz=8) (hr0:0<=rd) (hr1:rd<=31) (ha:U M) (hb:U B) (h:Ht b W r a c l) (R:Gd a) (K:U (aE (dC a M 3) M sz 2 0).1) (hV2:∀ y,U y->U (i8 op y B)): Calls prog 85 #[.p W 0,.agg #[.i op,.i rd,.i k,.i w,.i imm],.u M,.u B] l (HR b W r a c l (iC a ⟨op,rd,k,w,imm⟩ M B)):=by
 obtain ⟨V,hV⟩:∃ V,iC a ⟨op,rd,k,w,imm⟩ M B=V:=⟨_,rfl⟩;rw [hV];obtain ⟨v,eK⟩:∃ v,na op=v:=⟨_,rfl⟩;have eS:bE op=sz:=by unfold bE;split<;>omega
 obtain ⟨u,h2,q,p⟩|⟨u,h2,q,p⟩:(65<=op/\op<=73/\sz=4/\v=op-63)\/(76<=op/\op<=84/\sz=8/\v=op-74):=by rw [<- eK];unfold na;split<;>omega
 all_goals
  have n:(v==0)=false:=by simp;omega
  have m:(v==1)=false:=by simp;omega
  have eW:(if (M%((sz:Nat):Int) != 0)=true then (aL a 6 false M,2) else if ((cw a M 3).code != 0)=true then (aL (dC a M 3) (cw a M 3).code.toNat false M,2) else (if ((aE (dC a M 3) M sz 2 0).2.2 != 0)=true then cS (aE (dC a M 3) M sz 2 0) 2 M else if ((aE (aE (dC a M 3) M sz 2 0).2.1 M sz 3 (i8 op (aE (dC a M 3) M sz 2 0).1 B)).2.2 != 0)=true then cS (aE (aE (dC a M 3) M sz 2 0).2.1 M sz 3 (i8 op (aE (dC a M 3) M sz 2 0).1 B)) 0 M else (aY (aE (aE (dC a M 3) M sz 2 0).2.1 M sz 3 (i8 op (aE (dC a M 3) M sz 2 0).1 B)).2.1 rd (au (8*sz) (aE (dC a M 3) M sz 2 0).1) (Uz.wrap ((dC a M 3).pc+4)),1)))=V:=by
   rw [<- hV];unfold iC QJ;dsimp only;rw [eK,n,m,eS,if_neg (show ¬ (false=true) by decide),if_neg (show ¬ (false=true) by decide)]
  have G:IntKind.i64.wrap (op-63)=op-63:=by rw [IntKind.wrap_i64];omega
  have H:IntKind.i64.wrap (op-63-11)=op-74:=by rw [IntKind.wrap_i64];omega
  have I:decide (11<=op-63)=decide (sz=8):=by rw [decide_eq_decide];omega
  have Y:(sz:Int)≠0:=by subst p q;decide
  have a0:M.tmod sz=M%((sz:Nat):Int):=Int.tmod_eq_emod_of_nonneg ha.1
  have t:Gd (dC a M 3):=R.marked _
  have T:(dC a M 3).pc=a.pc:=rfl
  have i:∀ hh,Mp b r a c hh->Calls prog 114 #[.p r 0,.slice none 0 0,.u M,.i 3] hh λe w'=>e=.returned (.tuple #[.u (cw a M 3).addr,.i (cw a M 3).code])/\Mp b r (dC a M 3) c w'/\Kx r (aH a c) (aH (dC a M 3) c) hh w':=λhh f=>Aq a c b r M 3 hh f R.len R.mw R.ok ab ab ha (cw a M 3) rfl
  obtain ⟨A,c16,o⟩:∃ A:Nat,A<16/\(cw a M 3).code=A:=lV a.ram a.ram.length a.cs (fO a.cs a.pr 3) M 3
  have d:(if (M%((sz:Nat):Int) != 0)=true then (aL a 6 false M,2) else if ((cw a M 3).code != 0)=true then (aL (dC a M 3) (cw a M 3).code.toNat false M,2) else (if ((aE (dC a M 3) M sz 2 0).2.2 != 0)=true then cS (aE (dC a M 3) M sz 2 0) 2 M else if ((aE (aE (dC a M 3) M sz 2 0).2.1 M sz 3 (i8 op (aE (dC a M 3) M sz 2 0).1 B)).2.2 != 0)=true then cS (aE (aE (dC a M 3) M sz 2 0).2.1 M sz 3 (i8 op (aE (dC a M 3) M sz 2 0).1 B)) 0 M else (aY (aE (aE (dC a M 3) M sz 2 0).2.1 M sz 3 (i8 op (aE (dC a M 3) M sz 2 0).1 B)).2.1 rd (au (8*sz) (aE (dC a M 3) M sz 2 0).1) (Uz.wrap ((dC a M 3).pc+4)),1)))=V:=by exact eW
  clear hV
  generalize dC a M 3=N at K t i d T
  generalize cw a M 3=F at i o d
  obtain ⟨pa,fc,fm,ft,fe⟩:=F
  dsimp only at i o d
  subst o
  rw [<- a0] at d
  refine bD (S:=Hs r (aR W r::fd l.heap.size [(#[.i op,.i rd,.i k,.i w,.i imm],69)]) (aj a c)) (args:=[.p W 0,.agg #[.i op,.i rd,.i k,.i w,.i imm],.u M,.u B]) [(#[.i op,.i rd,.i k,.i w,.i imm],69)] func85 (hn:=bb) (hs:=bb) ?_
  refine aN 0 2 (aN 5 3 ?_)
  cases hz:(M.tmod sz != 0) with
  | true =>
    rw [hz,if_pos rfl] at d
    subst d
    exact Hx.last (Hs.eng (dr:=true) (λ_ h=>h.hs)) {eq:=[(29,dP .i64 G),(31,ak I),(33,dP .i64 H),(40,ak n),(90,ak hz)],ov:=[(89,Pb .u64 M sz Y)]} 160 (Hx.start h _) (λhh f=>dZ 6 bc M f.ht R) (hx:=bb) (he:=bb) (hy:=λ_=>bb)
  | false =>
  rw [hz,if_neg bc] at d
  refine aW (Hs.eng (dr:=true) (λ_ h=>h.hs)) {eq:=[(29,dP .i64 G),(31,ak I),(33,dP .i64 H),(40,ak n),(90,ak hz)],ov:=[(89,Pb .u64 M sz Y)]} 160 (Hx.start h _) (λhh f=>i hh f.mp) (hx:=bb) (he:=bb) ?_
  rintro W3 e W4 h3 ⟨rfl,h4,k4⟩
  refine ⟨_,0,rfl,gE bb,aJ (Hs r (aR W r::fd l.heap.size [(#[.i op,.i rd,.i k,.i w,.i imm],69)]) (aj N c)) (hn:=bb) ?_⟩
  have h5:=h3.step h4 k4
  cases hc:(((A:Nat):Int) != 0) with
  | true =>
    rw [hc,if_pos rfl] at d
    subst d
    exact Hx.last (Hs.eng (dr:=true) (λ_ h=>h.hs)) {eq:=[(105,ak hc)]} 60 h5 (λhh f=>dZ A c16 M f.ht t) (hx:=bb) (he:=bb) (hy:=λ_=>bb)
  | false =>
  rw [hc,if_neg bc] at d
  rw [T] at d
  have s:=t.acc M sz 2 0
  have O:=λhh (f:Mp b r N c hh)=>gc N c b r M sz 2 0 hh f t.len t.mw t.ok j1 ab ab ha ⟨bc,bc⟩
  have ec:=λA=>AM (M:=N) (addr:=M) (size:=sz) (x:=0) (c:=A)
  generalize aE N M sz 2 0=X at *
  obtain ⟨y,D,c2⟩:=X
  dsimp only at s O ec d K
  have hv:=hV2 y K
  refine aW (Hs.eng (dr:=true) (λ_ h=>h.hs)) {eq:=[(105,ak hc),(111,ak m)]} 90 h5 (λE u=>O E u.mp) (hx:=bb) (he:=bb) ?_
  rintro W6 e W7 h6 ⟨rfl,C,h7,k7⟩
  refine ⟨_,0,rfl,gE bb,aJ (Hs r (aR W r::fd l.heap.size [(#[.i op,.i rd,.i k,.i w,.i imm],69)]) (aj D C)) (hn:=bb) ?_⟩
  cases g:(c2 != 0) with
  | true =>
    rw [g,if_pos rfl] at d
    subst d
    exact Hx.last (Hs.eng (dr:=true) (λ_ h=>h.hs)) {eq:=[(167,ak g),(170,dP .i64 (ec c2 rfl g).1),(171,dP .i64 (ec c2 rfl g).2.1)]} 60 (h6.step h7 k7) (λhh f=>dZ _ (ec c2 rfl g).2.2 M f.ht s) (hx:=bb) (he:=bb) (hy:=λ_=>bb)
  | false =>
  rw [g,if_neg bc] at d
  have gb:=s.acc M sz 3 (i8 op y B)
  have Q:=λhh (f:Mp b r D C hh)=>gc D C b r M sz 3 (i8 op y B) hh f s.len s.mw s.ok j1 ab ab ha hv
  have ed:=λA=>kq (M:=D) (addr:=M) (size:=sz) (kind:=3) (x:=i8 op y B) (c:=A)
  have hAm:=λhh=>Ds op y B K.1 K.2 hb.1 hb.2 hh
  generalize aE D M sz 3 (i8 op y B)=X at *
  generalize i8 op y B=z at *
  generalize sT op=zb at *
  obtain ⟨y2,N4,c3⟩:=X
  dsimp only at gb Q ed d
  refine aW (Hs.eng (dr:=true) (λ_ h=>h.hs)) {eq:=[(167,ak g)]} 60 (h6.step h7 k7) (λE u=>hAm E) (hx:=bb) (he:=bb) ?_
  rintro W8 e W9 h8 ⟨rfl,hw9⟩
  subst hw9
  refine ⟨_,0,rfl,gE bb,?_⟩
  refine aW (Hs.eng (dr:=true) (λ_ h=>h.hs)) {} 60 h8 (λE u=>Q E u.mp) (hx:=bb) (he:=bb) ?_
  rintro Wa e Wb L ⟨rfl,C2,P,kb⟩
  refine ⟨_,0,rfl,gE bb,aJ (Hs r (aR W r::fd l.heap.size [(#[.i op,.i rd,.i k,.i w,.i imm],69)]) (aj N4 C2)) (hn:=bb) ?_⟩
  cases j:(c3 != 0) with
  | true =>
    rw [j,if_pos rfl] at d
    subst d
    exact Hx.last (Hs.eng (dr:=true) (λ_ h=>h.hs)) {eq:=[(195,ak j),(198,dP .i64 (ed c3 rfl j).1)]} 60 (L.step P kb) (λhh f=>dZ _ (ed c3 rfl j).2 M f.ht gb) (hx:=bb) (he:=bb) (hy:=λ_=>bb)
  | false =>
    rw [j,if_neg bc] at d
    subst d
    refine ae (Hs.eng (dr:=false) (λ_ h=>h.hs)) {eq:=[(195,ak j)]} 60 (L.step P kb) (hret:=bb) (he:=bb) λWc hc9=>?_
    refine lJ 9 (hm:=bb) (hk:=bb) ?_
    refine aW (Hs.eng (dr:=true) (λ_ h=>h.hs)) {} 60 (hc9.below (Below.refl _ _).drew) (λhh _=>eE y (8*sz) j1 j1 hh) (hx:=bb) (he:=bb) ?_
    rintro W10 e W11 J ⟨rfl,Z⟩
    subst Z
    refine ⟨_,0,rfl,λ_=>J.hs,?_⟩
    exact Hx.last (Hs.eng (dr:=true) (λ_ h=>h.hs)) {} 60 J (λhh f=>fu rd (au (8*sz) y) _ hr0 hr1 f.ht gb.x32 (aC gb.ok).1) (hx:=bb) (he:=bb) (hy:=λ_=>bb)
def Ud (D:DV):Prop:=U D.t/\U D.cm
theorem t7 (a: -9223372036854775808<=x) (b:x<9223372036854775808):(Lit.int .i64 x).wf=true:=by simp [Lit.wf,IntKind.min,IntKind.max,IntKind.signed,IntKind.bits];omega
theorem lw:U 0:=⟨bc,bc⟩
theorem Ga (h:∀ y ∈ f,(Lit.int .u8 y).wf=true) (i:Nat):0<=f.getD i 0/\f.getD i 0<=255:=by
 by_cases a:i<f.length;·exact Hj (h (f.getD i 0) (by simp [List.getD,List.getElem?_eq_getElem a]))
 ·simp [List.getD,List.getElem?_eq_none (Nat.le_of_not_lt a)]
theorem Wr (h:Ud j) (hb:dW j) (k:Nat):U (jw j k).1:=by
 unfold jw;split;·show U (gy j.so);cases j.so<;>exact ⟨bc,bc⟩
 ·exact h.2
 ·exact h.1
 ·have:=Ga hb.1 0;exact ⟨this.1,by show j.xs.getD 0 0<_;omega⟩
 ·exact aT _
 ·exact aT _
 ·exact lw
theorem Ws (h:Gd a) (hd:Ud a.d) (pa:Int) (n:Nat) (hn:n<=8) (kind x:Int):U (rN a pa n kind x).1:=by
 unfold rN;split
 ·split;·exact lw
  ·exact uT a.ram (Ga h.mw.ram) _ _ (by rw [Int.toNat_natCast];exact hn)
 ·split
  ·split;·exact Wr hd ⟨h.mw.xs,h.mw.ys⟩ _
   ·exact lw
  ·split;·split<;>exact lw
   ·exact lw
theorem t8 (h:Gd a) (hd:Ud a.d) (M:Int) (n:Nat) (hn:n<=8) (kind x:Int):U (aE a M n kind x).1:=by
 unfold aE;split;·exact lw
 ·unfold xQ;split;·exact lw
  ·split;·exact lw
   ·exact Ws (h.marked _) hd _ n hn kind x
theorem Vg (h:Ud j) (k:Nat):Ud (jw j k).2.1:=by
 unfold jw;split;·exact h
 ·exact h
 ·exact h
 ·exact ⟨h.1,h.2⟩
 ·exact h
 ·exact h
 ·exact ⟨lw,lw⟩
theorem Vh (h:Ud j) (hx:U x) (addr size:Int):Ud (fX j x (gD addr size)).1:=by
 have a:=GE j x;have d:=GF j x;have f:=GG j x;have b:(fX j x 3).1.t=j.t/\(fX j x 3).1.cm=j.cm:=by
  by_cases c:j.ys.length<4096;·rw [zN _ _ c];exact a07
  ·rw [zO _ _ c];exact a07
 obtain ⟨q,g⟩:∃ q,fX j x 4=(⟨j.t,j.cm,j.so,j.xs,j.ys,q⟩,true):=⟨_,GH j x⟩;have i:=GI j x;have D:=GJ j x;generalize (bits .and .u64 x 1==1)=r at a;refine jW addr size (λk=>Ud (fX j x k).1) (λ_ _=>?_) (λ_ _=>?_) (λ_ _=>?_) (λ_ _=>?_) (λ_ _=>?_) (λ_ _=>?_) (λ_ _ _ _ _ _=>?_);·show Ud (fX j x 0).1;rw [a];exact ⟨h.1,h.2⟩
 ·show Ud (fX j x 1).1;rw [d];exact ⟨h.1,hx⟩
 ·show Ud (fX j x 2).1;rw [f];exact ⟨hx,h.2⟩
 ·show Ud (fX j x 3).1;unfold Ud;rw [b.1,b.2];exact h
 ·have e:(fX j x 4).1=⟨j.t,j.cm,j.so,j.xs,j.ys,q⟩:=congrArg Prod.fst g;exact e ▸ (⟨h.1,h.2⟩:Ud ⟨j.t,j.cm,j.so,j.xs,j.ys,q⟩)
 ·show Ud (fX j x 5).1;rw [i];exact h
 ·show Ud (fX j x 6).1;rw [D];exact ⟨lw,lw⟩
theorem N7 (h:Ud M.d) (pa:Int):Ud (mW M pa).d:=by unfold mW;split<;>exact h
theorem AN (h:Ud a.d) (M n kind:Int) (hx:U x):Ud (aE a M n kind x).2.1.d:=by
 have key:∀ (N:MV) (b:Int),Ud N.d->Ud (rN N b n kind x).2.1.d:=by
  intro N b c;unfold rN;split
  ·split;·have k:∀ R,Ud (mW (bP N R) b).d:=λR=>N7 (M:=bP N R) c b;exact k _
   ·exact c
  ·split
   ·split;·have k:∀ D,Ud D->Ud (cL (dc N D)).d:=λD d=>d;exact k _ (Vg c _)
    ·exact c
   ·split
    ·split;·have k:∀ D,Ud D->Ud (mW (cL (dc N D)) b).d:=λD d=>N7 (M:=cL (dc N D)) d b;exact k _ (Vh c hx _ _)
     ·exact c
    ·exact c
 unfold aE;split;·exact h
 ·unfold xQ;split;·exact h
  ·split;·exact h
   ·have k:∀ R b,Ud (rN (bP a R) b n kind x).2.1.d:=λR b=>key (bP a R) b h;exact k _ _
theorem Wt (f:MF) (c:U x) (hb:U A):U (f.v x A):=by
 cases f<;>unfold MF.v<;>dsimp only;·exact hb
 ·exact aT _
 ·exact ah _ _ _
 ·exact ah _ _ _
 ·exact ah _ _ _
 all_goals (split<;>assumption)
theorem Il (c:U x) (hb:U A):U (i8 g x A):=by
 unfold i8;split;·exact Wt _ c hb
 ·split;·generalize (mI (g-65).toNat).v (au 32 x) (au 32 A)=y;unfold U;omega
  ·exact lw
theorem N8 (n:63<=d.op) (o:d.op<=84) (hh:0<=d.rd) (A:d.rd<=31) (j:U g) (hb:U m) (h:Ht b W r a c l) (w:Gd a) (hd:Ud a.d): Calls prog 85 #[.p W 0,.agg #[.i d.op,.i d.rd,.i d.a,.i d.b,.i d.imm],.u g,.u m] l (HR b W r a c l (iC a d g m)):=by
 obtain ⟨f,i,k,M,e⟩:=d;dsimp only at n o hh A ⊢;by_cases q:f=63;·subst q;exact Ve _ i k M e g m (.inl rfl) hh A j hb h w
 by_cases e2:f=64;·subst e2;exact Vf _ i k M e g m (.inl rfl) hh A j hb h w
 by_cases e3:f<=73;·exact N6 f i k M e g m 4 ab hh A j hb h w (t8 (w.marked _) hd g 4 ab 2 0) (λy p=>Il f p hb)
 by_cases e4:f=74;·subst e4;exact Ve _ i k M e g m (.inr rfl) hh A j hb h w
 by_cases e5:f=75;·subst e5;exact Vf _ i k M e g m (.inr rfl) hh A j hb h w
 exact N6 f i k M e g m 8 ab hh A j hb h w (t8 (w.marked _) hd g 8 ab 2 0) (λy p=>Il f p hb)
theorem Vi (b:U x) (n:Nat):U (x/2^n):=by have c:(0:Int)<2^n:=Int.pow_pos ab;refine ⟨Int.ediv_nonneg b.1 ab,?_⟩;have:x/2^n<=x:=Int.ediv_le_self _ b.1;have:=b.2;omega
theorem N9 (c:U x) (hb:U A):U (kT x A):=by unfold kT;refine ⟨Int.ediv_nonneg (Int.mul_nonneg c.1 hb.1) ab,Int.ediv_lt_of_lt_mul ab ?_⟩;have d:x*A<=x*18446744073709551616:=Int.mul_le_mul_of_nonneg_left (by have:=hb.2;omega) c.1;have e:x*18446744073709551616<18446744073709551616*18446744073709551616:=Int.mul_lt_mul_of_pos_right c.2 ab;omega
theorem Wu (f:AF) (d:U x) (hb:U A):U (f.v x A):=by
 have g:∀ c:Bool,U (EL c):=λc=>by cases c<;>exact ⟨bc,bc⟩
 have e:U (gv x A):=by unfold gv;split;exact aT _;exact N9 d hb
 cases f<;>unfold AF.v<;>dsimp only;·exact aT _
 ·exact g _
 ·exact g _
 ·exact ah _ _ _
 ·exact ah _ _ _
 ·exact ah _ _ _
 ·exact aT _
 ·exact Vi d _
 ·exact aT _
 ·exact aT _
 ·exact aT _
 ·unfold mA;split;exact aT _;exact e
 ·exact e
 ·exact N9 d hb
 ·split;exact ⟨bc,bc⟩;exact aT _
 ·split;exact ⟨bc,bc⟩;exact aT _
 ·split;exact d;exact aT _
 ·split;·exact d
  ·rw [Int.tmod_eq_emod_of_nonneg d.1];have h:=Int.emod_nonneg x (show A≠0 by assumption);have i:=Int.emod_lt_of_pos x (show 0<A by have:=hb.1;omega);exact ⟨h,by have:=hb.2;omega⟩
theorem Vj (c:U x) (hb:U A):U (nC g x A):=by
 unfold nC;split
 ·cases oD (g-22).toNat with
  | d f=>exact Wu f c hb
  | w f l r=>exact bu _
 ·exact lw
theorem Gd.al4 (h:Gd a):a.pc%4=0:=by have M:=(eU h.ok).1;rw [Qo _ h.pc] at M;exact eq_of_beq M
theorem TX (h:U x) (h4:x%4=0):bits .and .u64 x 3=0:=by rw [Qo _ h,h4]
theorem TY (h:Gd a):bits .and .u64 (Uz.wrap (a.pc+4)) 3=0:=TX (aT _) (by have:=h.al4;rw [IntKind.wrap_u64];omega)
theorem TZ (h:U x) (he:x%2=0) (g:(bits .and .u64 x 2 != 0)=false):bits .and .u64 x 3=0:=by
 have k:bits .and .u64 x 2=0:=v8
 refine bA _ _ (ah _ _ _) lw λi l=>?_;have d:bt x 0=false:=by have:bits .and .u64 x 1=x%2:=cK x 1 h.1 h.2 ab;rw [he] at this;have q:=az x 1 0;rw [this] at q;have a:bt 0 0=false:=bc;have b:bt 1 0=true:=bc;rw [a,b,Bool.and_true] at q;exact q.symm
 have f:bt x 1=false:=by have q:=az x 2 1;rw [k] at q;have a:bt 0 1=false:=bc;have b:bt 2 1=true:=bc;rw [a,b,Bool.and_true] at q;exact q.symm
 rw [az];have key:∀ j,j<64->∀ c:Bool,(j=0->c=false)->(j=1->c=false)->(c&&bt 3 j)=bt 0 j:=cb
 exact key i l _ (λe=>by rw [e];exact d) (λe=>by rw [e];exact f)
theorem Ky:bits .andNot .u64 g 1%2=0:=by
 have a:=ah .andNot g 1;have d:bits .and .u64 (bits .andNot .u64 g 1) 1=bits .andNot .u64 g 1%2:=cK _ 1 a.1 a.2 ab;rw [<- d];refine bA _ _ (ah _ _ _) lw λi b=>?_;rw [az,aA _ _ _ b];have key:∀ j,j<64->∀ c:Bool,((c&&!bt 1 j)&&bt 1 j)=bt 0 j:=cb
 exact key i b _
theorem Oa (h:∀ j,U (f.getD j 0)) (n:Int):U (de f n):=by
 unfold de;split;·exact lw
 ·split;·exact ⟨bc,bc⟩
  ·split;·exact ah _ _ _
   ·split;·exact ah _ _ _
    ·split;·exact ah _ _ _
     ·exact h _
theorem Im (h:e.length=22) (n x:Int):bits .and .u64 ((bW e n x).getD 9 0) 2184=bits .and .u64 (e.getD 9 0) 2184:=by
 have d:∀ m,(∀ i,i<64->(bt m i&&bt 2184 i)=false)->bits .and .u64 (iT (e.getD 9 0) m x) 2184=bits .and .u64 (e.getD 9 0) 2184:=λm p=>by
  refine bA _ _ (ah _ _ _) (ah _ _ _) λi f=>?_;unfold iT;rw [az,cC,az,aA _ _ _ f,az];have:=p i f;cases j:bt 2184 i;·simp
  ·rw [j,Bool.and_true] at this;rw [this];simp
 have set:∀ k,k≠9->∀ v,(e.set k v).getD 9 0=e.getD 9 0:=λk o v=>fG e k 9 v o;have a:∀ v,(e.set 9 v).getD 9 0=v:=λv=>ls e 9 v ab;have q:∀ i,i<64->∀ c:Bool,((c&&bt 2 i)&&bt 2184 i)=false:=cb
 have b:∀ i,i<64->(bt 546 i&&bt 2184 i)=false:=cb
 unfold bW;split;·rfl
 ·split;·rw [set 0 ab]
  ·split;·rw [set 3 ab]
   ·split;·rw [a];exact d _ λi f=>by rw [az];exact q i f _
    ·unfold fV;split;·rw [a];exact d _ b
     ·split
      ·split;·rw [set 15 ab]
       ·rfl
      ·split;·rw [set 16 ab]
       ·rename_i r _ _;have s:=rO n;have g:(cZ n).toNat≠9\/cZ n=-1:=ab;split
        ·split;·rfl
         ·rw [set _ ab]
        ·rcases g with l|l;·rw [set _ l]
         ·rw [l];exact congrArg (λy=>bits .and .u64 y 2184) (set 0 ab _)
theorem Gd.cs_ (h:Gd M) (hz:f.length=22) (a:bo 22 f=true) (m:∀ j,U (f.getD j 0)) (k:bits .and .u64 (f.getD 9 0) 2184=bits .and .u64 (M.cs.getD 9 0) 2184):Gd (iB M f):=by
 obtain ⟨c,d,n,e,l,g,i⟩:=eU h.ok;obtain ⟨_,_,b,_,_,_⟩:=aC h.ok;refine ⟨lf (M:=iB M f) c d ?_ e l g ?_,⟨m,h.mw.ram,h.mw.xs,h.mw.ys⟩,h.ux,h.pc,h.hd⟩;·show bj f.length f M.pr=true;unfold bj;rw [hz,a,b];rfl
 ·show (bits .and .u64 (f.getD 9 0) 2184==dO M.d)=true;rw [k];exact i
theorem Gd.priv (h:Gd a) (j:cg x=true):Gd (gt a x):=by obtain ⟨c,d,k,e,f,g,i⟩:=eU h.ok;obtain ⟨M,b,_,_,_,_⟩:=aC h.ok;refine ⟨lf (M:=gt a x) c d ?_ e f g i,⟨h.mw.cs,h.mw.ram,h.mw.xs,h.mw.ys⟩,h.ux,h.pc,h.hd⟩;show bj a.cs.length a.cs x=true;unfold bj;rw [M,b,j];rfl
def Gw (M:MV):Prop:=Gd M/\Ud M.d
theorem jf (h:Gw a) (hk:k<16) (i:Bool) (hv:U x):Gw (aL a k i x):=⟨h.1.trap hk i hv,h.2⟩
theorem AP (h:Gw a) (M:0<=A) (b:A<=31) (hx:U x) (c:U B) (h4:bits .and .u64 B 3=0):Gw (aY a A x B):=⟨h.1.done M b hx c h4,h.2⟩
theorem jO (h:Gw a) (M n kind:Int) (hx:U x):Gw (aE a M n kind x).2.1:=⟨h.1.acc M n kind x,AN h.2 M n kind hx⟩
theorem ly (h:Gw a) {kind v:Int} (hx:U x) (b:((aE a A B kind x).2.2 != 0)=true) (hv:U v):Gw (cS (aE a A B kind x) 0 v).1:=by unfold cS;exact jf (jO h A B kind hx) (kq rfl b).2 false hv
theorem Ob (h:Gw a) (M kind:Int):Gw (dC a M kind):=⟨h.1.marked _,h.2⟩
theorem iK (h:Gw a) (M:0<=A) (b:A<=31) (hx:U x) {N:MV} (c:Gw N) (e:N.pc=a.pc):Gw (aY N A x (Uz.wrap (a.pc+4))):=AP c M b hx (aT _) (by rw [<- e];exact TY c.1)
theorem QU (h:Gw a) (d:jS D) (g:3<=D.op) (e:D.op<=10) (M b:Int):Gw (nV a D M b (Uz.wrap D.imm)).1:=by
 have c:U (fS a D M b (Uz.wrap D.imm))/\fS a D M b (Uz.wrap D.imm)%2=0:=by
  have j:=h.1.al4;unfold fS;split;·exact ⟨ah .andNot _ 1,Ky _⟩
  ·rename_i k;split;·refine ⟨aT _,?_⟩;rw [IntKind.wrap_u64];omega
   ·refine ⟨aT _,?_⟩;have:=d.even ab;rw [IntKind.wrap_u64,IntKind.wrap_u64];omega
 unfold nV;split;·exact jf h bc false c.1
 ·rename_i f;refine AP h ?_ ?_ (aT _) c.1 (TZ c.1 c.2 i3);·split;exact Int.le_refl 0;exact d.rd0
  ·split;decide;exact d.rd31
theorem QV (h:Gw a) (e:jS D) (c:11<=D.op) (d:D.op<=17) (f:U x):Gw (lX a D x).1:=by
 have g:jN D.op<=8:=by obtain ⟨b,m,k,l,j⟩:=D;dsimp only at c d ⊢;obtain rfl|rfl|rfl|rfl|rfl|rfl|rfl:b=11\/b=12\/b=13\/b=14\/b=15\/b=16\/b=17:=ab;all_goals decide
 unfold lX;dsimp only;split;·exact ly h lw ‹_› f
 ·refine iK (jO h x _ 2 lw) e.rd0 e.rd31 ?_ (jO h x _ 2 lw) rfl;split;·exact aT _
  ·exact t8 h.1 h.2 x _ g 2 0
theorem Oc (h:Gw a) (c:U x) (hb:U A):Gw (lY a D x A).1:=by
 unfold lY;dsimp only;split;·exact ly h hb ‹_› c
 ·exact iK (jO h x _ 3 hb) bc bc lw (jO h x _ 3 hb) rfl
theorem AQ (h:Gw a) {b:Bool} (c:U x) (hb:b=true\/x=0):Gw (cq a b x):=⟨h.1.hold c hb,h.2⟩
theorem QW (h:Gw a) (f:jS D) (g:U x) (hb:U A):Gw (iC a D x A).1:=by
 have p:bE D.op<=8:=by unfold bE;split<;>decide
 have d:=Ob h x 3;have q:∀ kind,(dC a x kind).pc=a.pc:=λ_=>rfl;unfold iC;split
 ·unfold Uv;dsimp only;split;·exact ly h lw ‹_› g
  ·have o:=jO h x (bE D.op) 2 lw;have e:=(i7 a x (bE D.op) 2 0).1;exact iK h f.rd0 f.rd31 (aT _) (AQ (Ob o x 2) (uK _ _ _ _ _ _ g) (Or.inl rfl)) e
 ·split;·exact jf h bc false g
  ·split;·obtain ⟨c,j,k⟩:=lV a.ram a.ram.length a.cs (fO a.cs a.pr 3) x 3;have l:(cw a x 3).code=c:=k;rw [l,Int.toNat_natCast];exact jf d j false g
   ·split
    ·unfold VG;split
     ·dsimp only;split;·exact ly d hb ‹_› g
      ·exact iK d f.rd0 f.rd31 lw (AQ (jO d x _ 3 hb) lw (Or.inr rfl)) (i7 (dC a x 3) x (bE D.op) 3 A).1
     ·exact iK d f.rd0 f.rd31 ⟨bc,bc⟩ (AQ d lw (Or.inr rfl)) rfl
    ·unfold QJ;dsimp only;split;·rename_i k;unfold cS;exact jf (jO d x _ 2 lw) (AM rfl k).2.2 false g
     ·have m:=jO d x (bE D.op) 2 lw;have n:U (i8 D.op (aE (dC a x 3) x (bE D.op) 2 0).1 A):=Il _ (t8 d.1 d.2 x _ p 2 0) hb;split;·exact ly m n ‹_› g
      ·exact iK d f.rd0 f.rd31 (aT _) (jO m x _ 3 n) ((i7 _ _ _ _ _).1.trans (i7 _ _ _ _ _).1)
theorem T0 (h:Gw a) (j:jS D) (l:U x) (o:U A):Gw (mJ a D x A).1:=by
 unfold mJ;split;·exact jf h bc false o
 ·rename_i g;have n:=Oa h.1.mw.cs D.imm;have d:=iK h j.rd0 j.rd31 n h rfl;have b:iS a.cs.length a.cs D.imm a.pr=true:=by
   cases q:iS a.cs.length a.cs D.imm a.pr;·rw [q] at g;exact absurd rfl g
   ·rfl
  have f:dt D.imm=true:=(by unfold iS at b;simp only [Bool.and_eq_true] at b;exact b.1.1.2);have k:U (rA D x (de a.cs D.imm)):=by
   have m:U (j9 D x):=(by unfold j9;split;exact aT _;exact l);unfold rA;split;·exact ah _ _ _
   ·split;·exact ah _ _ _
    ·exact m
  dsimp only;split;·generalize aY a D.rd (de a.cs D.imm) (Uz.wrap (a.pc+4))=N at d ⊢;obtain ⟨c,e,_,_,_,_⟩:=aC d.1.ok;exact ⟨d.1.cs_ (by rw [pZ];exact c) (tN _ c d.1.mw.cs e _ _ k f) (Hg _ d.1.mw.cs _ _ k) (Im _ c _ _),d.2⟩
  ·exact d
theorem xr (h:U g) (a:fq 0 g=true) (m:Bool):cg (dy g m)=true:=by
 cases m with
 | true=>exact CG g h a
 | false =>show cg (wrap64 (ap g 8))=true;rw [yY g 8 h];split<;>decide +kernel
theorem T2 (h:Gw a) (g:jS D) (d:U x):Gw (ke a D x).1:=by
 obtain ⟨b,M,f,_,_,_⟩:=aC h.1.ok;have u0:=h.1.mw.cs 0;have c:=eC M 0 ab;unfold ke;split;·refine jf h ?_ false lw;unfold o9;split;decide;split<;>decide
 ·split;·exact jf h bc false h.1.pc
  ·split
   ·split;·exact jf h bc false d
    ·have e:Gd (iB a (a.cs.set 0 (cO (a.cs.getD 0 0) (D.op==96)))):=h.1.cs_ (by rw [List.length_set];exact b) (cE _ b M 0 ab _ (CN _ u0 _ c)) (iZ _ h.1.mw.cs 0 _ (rq _ _)) (by rw [fG _ 0 9 _ ab]);refine AP ⟨e.priv (xr _ u0 c _),h.2⟩ bc bc lw ?_ ?_;·unfold eQ;split;exact h.1.mw.cs 6;exact h.1.mw.cs 12
     ·unfold eQ;split;·exact WF _ (Or.inl (eC M 6 ab))
      ·exact WF _ (Or.inr (eC M 12 ab))
   ·split;·exact jf h bc false d
    ·split;·exact iK h bc bc lw (N:=fF a true) ⟨h.1.wait true,h.2⟩ rfl
     ·exact iK h bc bc lw h rfl
theorem QX (h:Gw a) (M:jS D) (d:U x):Gw (dh a D x).1:=by
 have b:=h.1.ux D.a.toNat;have c:=h.1.ux D.b.toNat;have e:=M.op1;unfold dh;dsimp only;split;·exact iK h M.rd0 M.rd31 (aT _) h rfl
 split;·exact iK h M.rd0 M.rd31 (aT _) h rfl
 split;·exact QU h M ab ‹_› _ _
 split;·exact QV h M ab ‹_› (aT _)
 split;·exact Oc h (aT _) c
 split;·exact iK h M.rd0 M.rd31 (Vj _ b (by split;exact c;exact aT _)) h rfl
 split;·exact QW h M b c
 split;·exact iK h bc bc lw h rfl
 split;·exact T0 h M b d
 ·exact T2 h M d
theorem QY (h:Gw a) (g:∀ l p,0<=fW l p->∃ k:Nat,k<16/\fW l p=k):Gw (ee a).1:=by
 have M:Gw (fF a false):=⟨h.1.wait false,h.2⟩;unfold ee;split;·exact h
 ·split;·rename_i f;obtain ⟨k,b,e⟩:=g _ _ f;rw [e,Int.toNat_natCast];exact jf M b true lw
  ·dsimp only;split;·exact ly M lw ‹_› (jO M a.pc 4 1 lw).1.pc
   ·have c:=t8 M.1 M.2 a.pc 4 ab 1 0;split;·exact jf (jO M a.pc 4 1 lw) bc false c
    ·rename_i i d;exact QX (jO M a.pc 4 1 lw) (AB d) c
theorem t9:(bW e g m).length=e.length:=by exact pZ e g m
theorem Od (h:iS a.cs.length a.cs D.imm a.pr=false):mJ a D x A=(aL a 2 false A,2):=by unfold mJ;rw [h,Bool.not_false,Bool.true_or,if_pos rfl]
theorem QZ (h:iS a.cs.length a.cs D.imm a.pr=true) (b:eD D=true) (hr:((wrap64 (D.imm.tdiv 1024)).tmod 4==3)=true):mJ a D x A=(aL a 2 false A,2):=by unfold mJ;rw [h,b,hr,Bool.not_true,Bool.false_or,Bool.and_self,if_pos rfl]
theorem Q5 (h:iS a.cs.length a.cs D.imm a.pr=true) (b:eD D=false):mJ a D x A=(aY a D.rd (de a.cs D.imm) (Uz.wrap (a.pc+4)),1):=by unfold mJ;rw [h,b,Bool.not_true,Bool.false_or,Bool.false_and,if_neg bc];dsimp only;rw [if_neg bc]
theorem Of (h:iS a.cs.length a.cs D.imm a.pr=true) (b:eD D=true) (hr:((wrap64 (D.imm.tdiv 1024)).tmod 4==3)=false) (hv:rA D x (de a.cs D.imm)=B):mJ a D x A=(iB (aY a D.rd (de a.cs D.imm) (Uz.wrap (a.pc+4))) (bW (aY a D.rd (de a.cs D.imm) (Uz.wrap (a.pc+4))).cs D.imm B),1):=by unfold mJ;rw [h,b,hr,Bool.not_true,Bool.false_or,Bool.and_false,if_neg bc];dsimp only;rw [if_pos rfl,hv]
theorem Gb (h:Ht b W r a c n) (M:a.cs.length=22) (w:Int) (hk:dt w=true) (x:Int): Calls prog 133 #[.slice c.ac a.cs.length c.cc,.i w,.u x] n λe A=>e=.returned (.tuple #[])/\Ht b W r (iB a (bW a.cs w x)) c A/\Kx r (aH a c) (aH (iB a (bW a.cs w x)) c) n A/\(iB a (bW a.cs w x)).cs.length=a.cs.length:=by obtain ⟨g,d,B,f⟩:=h.mp.cs M;rw [d,M];refine (B6 b g c.cc a.cs w x hk n B).mono λe A ⟨j,k,l⟩=>?_;obtain ⟨m,i⟩:=f A _ (by rw [t9];exact M) l k;exact ⟨j,h.step m i,i,(t9 _ _ _).trans M⟩
theorem Vk (h87:87<=d.op) (h92:d.op<=92) (E:0<=d.rd) (F:d.rd<=31) (hx:U m) (h:Ht b W r a c l) (N:Gd a): Calls prog 86 #[.p W 0,.agg #[.i d.op,.i d.rd,.i d.a,.i d.b,.i d.imm],.u g,.u m] l (HR b W r a c l (mJ a d g m)):=by
 obtain ⟨V,p⟩:∃ V,mJ a d g m=V:=⟨_,rfl⟩;have x:=(aC N.ok).1;rw [p];obtain ⟨i,w,j,A,M⟩:=d;dsimp only at h87 h92 E F ⊢;have T:IntKind.i64.wrap (i-87)=i-87:=by rw [IntKind.wrap_i64];omega
 have fin:∀ (S:World->Prop) (v:Int) (C:MA) (hh:World),dt M=true->(iB (aY a w (de a.cs M) (Uz.wrap (a.pc+4))) (bW (aY a w (de a.cs M) (Uz.wrap (a.pc+4))).cs M v),1)=V->Hx b r (aR W r::fd l.heap.size [(#[.i i,.i w,.i j,.i A,.i M],69)]) a c l (aY a w (de a.cs M) (Uz.wrap (a.pc+4))) C hh->Wg prog S (bodyPost prog Tryz.f86 (HR b W r a c l V)) Tryz.f86.ntmps [.code (iM (aw 2 (Cj (aw 1 (iM (aw 8 (aM Tryz.f86))))))),.code (aw 3 (Cj (aw 1 (iM (aw 8 (aM Tryz.f86)))))),.code (aw 9 (aM Tryz.f86))] [(0,.p W 0,2),(5,.p l.heap.size 0,3),(9,.p r 0,1),(13,.i 1,0),(14,.u v,0)] hh:=by
  intro S v C hh q eV f;subst eV;have X:(aY a w (de a.cs M) (Uz.wrap (a.pc+4))).cs.length=22:=(by show (a.cs.set _ _).length=22;rw [List.length_set];exact x);refine aJ (Hs r (aR W r::fd l.heap.size [(#[.i i,.i w,.i j,.i A,.i M],69)]) (aj (aY a w (de a.cs M) (Uz.wrap (a.pc+4))) C)) ?_;refine lJ 7 ?_;refine aW (Hs.eng (dr:=true) (λ_ h=>h.hs)) {} 60 (f.below (Below.refl _ _).drew) (λP o=>Gb o.ht X M q v) ?_;rintro P e W2 o ⟨rfl,u,k2,_⟩;refine ⟨_,0,rfl,gE ba,aJ (Hs r (aR W r::fd l.heap.size [(#[.i i,.i w,.i j,.i A,.i M],69)]) (aj (iB (aY a w (de a.cs M) (Uz.wrap (a.pc+4))) (bW (aY a w (de a.cs M) (Uz.wrap (a.pc+4))).cs M v)) C)) ?_⟩;have K:=o.to u k2;obtain ⟨p0,q0⟩:∃ B,(cZ M==0)=B:=⟨_,rfl⟩;obtain ⟨p1,q1⟩:∃ B,(cZ M==15)=B:=⟨_,rfl⟩;have J:=λhh=>ew (cZ M) 16 20 hh;obtain ⟨p2,q2⟩:∃ B,decide (16<=cZ M/\cZ M<=20)=B:=⟨_,rfl⟩;rw [q2] at J;cases p0<;>cases p1<;>cases p2 <;>
  exact bm (t:=8) (v:=.i 1) (Hs.eng (dr:=true) (λ_ h=>h.hs)) {eq:=[(104,ak q0),(107,ak q1)],cv:=[(102,jQ Hx.below λhh _=>dI M hh),(111,kj λhh _=>J hh),(114,kj λhh f=>nf _ C b W r hh f.ht)]} 100 K λhh f=>⟨rfl,C,f.ht,f.kx⟩
 have main:∀ (I:Int) (wr:Bool),j9 ⟨i,w,j,A,M⟩ g=I->eD ⟨i,w,j,A,M⟩=wr->∀ (S:World->Prop) (hh:World),Hx b r (aR W r::fd l.heap.size [(#[.i i,.i w,.i j,.i A,.i M],69)]) a c l a c hh->Wg prog S (bodyPost prog Tryz.f86 (HR b W r a c l V)) Tryz.f86.ntmps [.code (iM (iM (aw 5 (aM Tryz.f86)))),.code (aw 1 (iM (aw 5 (aM Tryz.f86)))),.code (aw 6 (aM Tryz.f86))] [(0,.p W 0,2),(3,.u m,0),(5,.p l.heap.size 0,3),(9,.p r 0,1),(10,.i ((i-87).tmod 3),0),(2,.u I,0),(11,.bool wr,0)] hh:=by
  intro I wr D n S hh f;refine aJ (Hs r (aR W r::fd l.heap.size [(#[.i i,.i w,.i j,.i A,.i M],69)]) (aj a c)) ?_;obtain ⟨my,k⟩:∃ my,iS a.cs.length a.cs M a.pr=my:=⟨_,rfl⟩;refine aW (Hs.eng (dr:=true) (λ_ h=>h.hs)) {} 60 f (λP o=>Jn c.ac a.cs.length c.cc a.cs M a.pr P rfl o.mp.fam.msl.cs) ?_;rintro P e W2 o ⟨rfl,hb1⟩;rw [k];have u:=o.below hb1;refine ⟨_,0,rfl,λ_=>u.hs,?_⟩;cases my with
  | false =>rw [Od k] at p;subst p;exact Hx.last (Hs.eng (dr:=false) (λ_ h=>h.hs)) {} 60 u (λhh f=>dZ 2 bc m f.ht N)
  | true =>
    have q:dt M=true:=(by unfold iS at k;simp only [Bool.and_eq_true] at k;exact k.1.1.2);have O:∀ hh,Hx b r (aR W r::fd l.heap.size [(#[.i i,.i w,.i j,.i A,.i M],69)]) a c l a c hh->CB 132 #[.slice c.ac a.cs.length c.cc,.i M] hh (.u (de a.cs M)):=λhh f=>by rw [x];exact ET c.ac c.cc a.cs M hh x f.mp.fam.msl.cs q
    obtain ⟨Q,G⟩:∃ Q,((wrap64 (M.tdiv 1024)).tmod 4==3)=Q:=⟨_,rfl⟩;have s:((IntKind.i64.wrap (M.tdiv 1024)).tmod 4==3)=Q:=(by rw [<- G,IntKind.wrap_i64];unfold wrap64;rfl);cases wr with
    | false =>rw [Q5 k n] at p;subst p;refine ae (Hs.eng (dr:=false) (λ_ h=>h.hs)) {} 60 u λW3 K=>?_;refine aW (Hs.eng (dr:=true) (λ_ h=>h.hs)) {} 40 K O ?_;rintro W4 e W5 J ⟨rfl,z⟩;have L:=J.below z;refine ⟨_,0,rfl,λ_=>L.hs,?_⟩;refine ae (Hs.eng (dr:=false) (λ_ h=>h.hs)) {} 40 L λW6 Y=>?_;refine lJ 9 ?_;refine aW (Hs.eng (dr:=true) (λ_ h=>h.hs)) {} 40 (Y.below (Below.refl _ _).drew) (λhh f=>fu w (de a.cs M) (Uz.wrap (a.pc+4)) E F f.ht N.x32 x) ?_;rintro W7 e W8 Z ⟨rfl,C,h8,k8⟩;refine ⟨_,0,rfl,gE ba,aJ (Hs r (aR W r::fd l.heap.size [(#[.i i,.i w,.i j,.i A,.i M],69)]) (aj (aY a w (de a.cs M) (Uz.wrap (a.pc+4))) C)) ?_⟩;have y:=Z.to h8 k8;exact bm (t:=8) (v:=.i 1) (Hs.eng (dr:=false) (λ_ h=>h.hs)) {} 60 y λhh f=>⟨rfl,C,f.ht,f.kx⟩
    | true =>
      cases Q with
      | true =>rw [QZ k n G] at p;subst p;exact Hx.last (Hs.eng (dr:=false) (λ_ h=>h.hs)) {eq:=[(56,ak s)]} 60 u (λhh f=>dZ 2 bc m f.ht N)
      | false =>
        refine ae (Hs.eng (dr:=false) (λ_ h=>h.hs)) {eq:=[(56,ak s)]} 60 u λW3 K=>?_;refine aW (Hs.eng (dr:=true) (λ_ h=>h.hs)) {} 40 K O ?_;rintro W4 e W5 J ⟨rfl,z⟩;have L:=J.below z;refine ⟨_,0,rfl,λ_=>L.hs,?_⟩;refine ae (Hs.eng (dr:=false) (λ_ h=>h.hs)) {} 40 L λW6 Y=>?_;refine lJ 9 ?_;refine aW (Hs.eng (dr:=true) (λ_ h=>h.hs)) {} 40 (Y.below (Below.refl _ _).drew) (λhh f=>fu w (de a.cs M) (Uz.wrap (a.pc+4)) E F f.ht N.x32 x) ?_;rintro W7 e W8 Z ⟨rfl,C,h8,k8⟩;refine ⟨_,0,rfl,gE ba,aJ (Hs r (aR W r::fd l.heap.size [(#[.i i,.i w,.i j,.i A,.i M],69)]) (aj (aY a w (de a.cs M) (Uz.wrap (a.pc+4))) C)) ?_⟩;have y:=Z.to h8 k8;obtain ⟨H,g1⟩:∃ B,((i-87).tmod 3==1)=B:=⟨_,rfl⟩;obtain ⟨R,g2⟩:∃ B,((i-87).tmod 3==2)=B:=⟨_,rfl⟩;have hv:rA ⟨i,w,j,A,M⟩ g (de a.cs M)=bif H then bits .or .u64 (de a.cs M) I else bif R then bits .andNot .u64 (de a.cs M) I else I:=by unfold rA;dsimp only;rw [g1,g2,D];cases H<;>cases R<;>rfl
        rw [Of k n G hv] at p;cases H<;>cases R <;>
        ·refine ae (Hs.eng (dr:=false) (λ_ h=>h.hs)) {eq:=[(83,ak g1),(88,ak g2)]} 60 y λhh f=>?_;exact af _ _ (fin _ _ C hh q p f)
 refine bD (S:=Hs r (aR W r::fd l.heap.size [(#[.i i,.i w,.i j,.i A,.i M],69)]) (aj a c)) (args:=[.p W 0,.agg #[.i i,.i w,.i j,.i A,.i M],.u g,.u m]) [(#[.i i,.i w,.i j,.i A,.i M],69)] func86 ?_;refine aN 0 2 (aN 5 3 ?_);obtain ⟨b9,y⟩:∃ B,decide (90<=i)=B:=⟨_,rfl⟩;obtain ⟨b0,h0⟩:∃ B,((i-87).tmod 3==0)=B:=⟨_,rfl⟩;obtain ⟨H,o⟩:∃ B,(j != 0)=B:=⟨_,rfl⟩;have D:j9 ⟨i,w,j,A,M⟩ g=bif b9 then Uz.wrap j else g:=by
  unfold j9;dsimp only;by_cases e:90<=i;·rw [if_pos e,<- y,decide_eq_true e];rfl
  ·rw [if_neg e,<- y,decide_eq_false e];rfl
 have n:eD ⟨i,w,j,A,M⟩=(b0||H):=by unfold eD;dsimp only;rw [h0,o]
 cases b9<;>cases b0<;>cases H <;>
 ·refine ae (Hs.eng (dr:=false) (λ_ h=>h.hs)) {eq:=[(22,dP .i64 T),(26,ak y),(31,ak h0),(35,ak o)]} 80 (Hx.start h _) λhh f=>?_;exact af _ _ (main _ _ D n _ hh f)
def Gc (b:Nat) (i:Ins):Kr:=⟨b,#[.i i.op,.i i.rd,.i i.a,.i i.b,.i i.imm],69,[]⟩
theorem T7 {S:World->Prop} (hi:jS d) (F:U g) (w0:Hx b r [aR W r,Gc k d] a c l w p n) (x:Gd w) (hd:Ud w.d): Wg prog S (bodyPost prog Tryz.f34 (HR b W r a c l (dh w d g))) Tryz.f34.ntmps [.code (aw 9 (aM Tryz.f34))] [(0,.p W 0,2),(3,.p r 0,1),(5,.u g,0),(7,.p k 0,3)] n:=by
 obtain ⟨o1,K,s,o,N,O,P,Q,im0,im1,_⟩:=hi;have t:=x.x32;have M0:=(aC x.ok).1;obtain ⟨B,H,z⟩:=w0.ht.atX t;have J:∀ (j:Nat),j<32->∀ n,Hx b r [aR W r,Gc k d] a c l w p n->n.cell? ⟨B,j,none⟩=some (.u (w.x.getD j 0)):=λj hj n w0=>by obtain ⟨b',C,y⟩:=w0.ht.atX t;rw [H] at C;cases C;exact (y j hj).1
 refine aJ (Hx b r [aR W r,Gc k d] a c l w p) ?_;refine ae (Hx.eng (dr:=true)) {ov:=[(117,kJ w.x.length p.cx .i64 d.a H ⟨N,ab⟩ underlying23 ba),(118,je ⟨B,0+d.a.toNat,none⟩ (.u (w.x.getD (0+d.a.toNat) 0)) underlying22 rfl (J (0+d.a.toNat) ab)),(125,kJ w.x.length p.cx .i64 d.b H ⟨P,ab⟩ underlying23 ba),(126,je ⟨B,0+d.b.toNat,none⟩ (.u (w.x.getD (0+d.b.toNat) 0)) underlying22 rfl (J (0+d.b.toNat) ab))]} 40 w0 λW1 v=>?_;have G:=x.ux d.a.toNat;have I:=x.ux d.b.toNat;have L:U (Uz.wrap d.imm):=aT _;refine af [.code (aw 13 (aM Tryz.f34))] [(0,.p W 0,2),(3,.p r 0,1),(5,.u g,0),(7,.p k 0,3),(9,.u (w.x.getD (0+d.a.toNat) 0),0),(10,.u (w.x.getD (0+d.b.toNat) 0),0),(11,.u (Uz.wrap d.imm),0),(12,.u (Uz.wrap (w.pc+4)),0)] ?_;rw [Nat.zero_add,Nat.zero_add];refine aJ (Hs r [aR W r,Gc k d] (aj w p)) ?_;clear J z H w0;by_cases c0:d.op=1;·have bi:(d.op==1)=true:=bv;have m:dh w d g=(aY w d.rd (Uz.wrap d.imm) (Uz.wrap (w.pc+4)),1):=(by unfold dh;dsimp only;rw [if_pos ab]);rw [m];clear m;exact Hx.last (Hs.eng (dr:=true) (λ_ h=>h.hs)) {eq:=[(138,ak bi)]} 300 v (λn w0=>fu d.rd _ _ s o w0.ht t M0)
 by_cases c1:d.op=2;·have bi:(d.op==1)=false:=bv;have M:(d.op==2)=true:=bv;have m:dh w d g=(aY w d.rd (Uz.wrap (w.pc+Uz.wrap d.imm)) (Uz.wrap (w.pc+4)),1):=(by unfold dh;dsimp only;rw [if_neg ab,if_pos ab]);rw [m];clear m;refine ae (Hs.eng (dr:=false) (λ_ h=>h.hs)) {eq:=[(138,ak bi),(148,ak M)]} 20 v λW2 Z=>?_;refine lJ 10 ?_;exact Hx.last (Hs.eng (dr:=true) (λ_ h=>h.hs)) {} 60 (Z.below (Below.refl _ _).drew) (λn w0=>fu d.rd _ _ s o w0.ht t M0)
 by_cases R:d.op<=10;·have bi:(d.op==1)=false:=bv;have M:(d.op==2)=false:=bv;have i:decide (d.op<=10)=true:=ef;have m:dh w d g=nV w d (w.x.getD d.a.toNat 0) (w.x.getD d.b.toNat 0) (Uz.wrap d.imm):=ni;rw [m];clear m;exact Hx.last (Hs.eng (dr:=true) (λ_ h=>h.hs)) {eq:=[(138,ak bi),(148,ak M),(163,ak i)]} 300 v (λn w0=>TS d _ _ _ ab R s o w0.ht x)
 by_cases T:d.op<=17;·have bi:(d.op==1)=false:=bv;have M:(d.op==2)=false:=bv;have i:decide (d.op<=10)=false:=ck;have f:decide (d.op<=17)=true:=ef;have m:dh w d g=lX w d (Uz.wrap (w.x.getD d.a.toNat 0+Uz.wrap d.imm)):=kd;rw [m];clear m;exact Hx.last (Hs.eng (dr:=true) (λ_ h=>h.hs)) {eq:=[(138,ak bi),(148,ak M),(163,ak i),(173,ak f)]} 300 v (λn w0=>TQ d _ ab T s o (aT _) w0.ht x)
 by_cases V:d.op<=21;·have bi:(d.op==1)=false:=bv;have M:(d.op==2)=false:=bv;have i:decide (d.op<=10)=false:=ck;have f:decide (d.op<=17)=false:=ck;have wd:decide (d.op<=21)=true:=ef;have m:dh w d g=lY w d (Uz.wrap (w.x.getD d.a.toNat 0+Uz.wrap d.imm)) (w.x.getD d.b.toNat 0):=i2;rw [m];clear m;exact Hx.last (Hs.eng (dr:=true) (λ_ h=>h.hs)) {eq:=[(138,ak bi),(148,ak M),(163,ak i),(173,ak f),(183,ak wd)]} 300 v (λn w0=>QL d _ _ ab V (aT _) I w0.ht x)
 by_cases c5:d.op<=62
 ·have bi:(d.op==1)=false:=bv;have M:(d.op==2)=false:=bv;have i:decide (d.op<=10)=false:=ck;have f:decide (d.op<=17)=false:=ck;have wd:decide (d.op<=21)=false:=ck;have A:decide (d.op<=62)=true:=ef;have m:dh w d g=(aY w d.rd (nC d.op (w.x.getD d.a.toNat 0) (if (fs d.op).toList=[82] then w.x.getD d.b.toNat 0 else Uz.wrap d.imm)) (Uz.wrap (w.pc+4)),1):=fa;rw [m];clear m;have E:=λn=>qC d.op (t7 ab ab) n;cases D:((fs d.op).toList==(⟨#[82]⟩:ByteArray).toList) with
  | true =>rw [if_pos (show (fs d.op).toList=[82] from (eq_of_beq D).trans cb)];exact Hx.last (Hs.eng (dr:=true) (λ_ h=>h.hs)) {eq:=[(138,ak bi),(148,ak M),(163,ak i),(173,ak f),(183,ak wd),(194,ak A),(198,ak (show (!((fs d.op).toList==(⟨#[82]⟩:ByteArray).toList))=false by rw [D];rfl))],cv:=[(197,jQ (λh hh=>h.below hh) λn _=>E n),(205,jQ (λh hh=>h.below hh) λn _=>tU d.op _ _ (t7 ab ab) G.1 G.2 I.1 I.2 n)]} 300 v (λn w0=>fu d.rd _ _ s o w0.ht t M0)
  | false =>rw [if_neg (show ¬ (fs d.op).toList=[82] from λe=>by rw [e] at D;exact absurd D cb)];exact Hx.last (Hs.eng (dr:=true) (λ_ h=>h.hs)) {eq:=[(138,ak bi),(148,ak M),(163,ak i),(173,ak f),(183,ak wd),(194,ak A),(198,ak (show (!((fs d.op).toList==(⟨#[82]⟩:ByteArray).toList))=true by rw [D];rfl))],cv:=[(197,jQ (λh hh=>h.below hh) λn _=>E n),(205,jQ (λh hh=>h.below hh) λn _=>tU d.op _ _ (t7 ab ab) G.1 G.2 L.1 L.2 n)]} 300 v (λn w0=>fu d.rd _ _ s o w0.ht t M0)
 by_cases X:d.op<=84;·have bi:(d.op==1)=false:=bv;have M:(d.op==2)=false:=bv;have i:decide (d.op<=10)=false:=ck;have f:decide (d.op<=17)=false:=ck;have wd:decide (d.op<=21)=false:=ck;have A:decide (d.op<=62)=false:=ck;have A0:decide (d.op<=84)=true:=ef;have m:dh w d g=iC w d (w.x.getD d.a.toNat 0) (w.x.getD d.b.toNat 0):=e9;rw [m];clear m;exact Hx.last (Hs.eng (dr:=true) (λ_ h=>h.hs)) {eq:=[(138,ak bi),(148,ak M),(163,ak i),(173,ak f),(183,ak wd),(194,ak A),(217,ak A0)]} 300 v (λn w0=>N8 d _ _ ab X s o G I w0.ht x hd)
 by_cases c7:d.op<=86;·have bi:(d.op==1)=false:=bv;have M:(d.op==2)=false:=bv;have i:decide (d.op<=10)=false:=ck;have f:decide (d.op<=17)=false:=ck;have wd:decide (d.op<=21)=false:=ck;have A:decide (d.op<=62)=false:=ck;have A0:decide (d.op<=84)=false:=ck;have q:decide (d.op<=86)=true:=ef;have m:dh w d g=(aY w 0 0 (Uz.wrap (w.pc+4)),1):=e8;rw [m];clear m;exact Hx.last (Hs.eng (dr:=true) (λ_ h=>h.hs)) {eq:=[(138,ak bi),(148,ak M),(163,ak i),(173,ak f),(183,ak wd),(194,ak A),(217,ak A0),(226,ak q)]} 300 v (λn w0=>fu 0 0 _ bc bc w0.ht t M0)
 by_cases Y:d.op<=92;·have bi:(d.op==1)=false:=bv;have M:(d.op==2)=false:=bv;have i:decide (d.op<=10)=false:=ck;have f:decide (d.op<=17)=false:=ck;have wd:decide (d.op<=21)=false:=ck;have A:decide (d.op<=62)=false:=ck;have A0:decide (d.op<=84)=false:=ck;have q:decide (d.op<=86)=false:=ck;have u:decide (d.op<=92)=true:=ef;have m:dh w d g=mJ w d (w.x.getD d.a.toNat 0) g:=el;rw [m];clear m;exact Hx.last (Hs.eng (dr:=true) (λ_ h=>h.hs)) {eq:=[(138,ak bi),(148,ak M),(163,ak i),(173,ak f),(183,ak wd),(194,ak A),(217,ak A0),(226,ak q),(233,ak u)]} 300 v (λn w0=>Vk d _ g ab Y s o F w0.ht x)
 have bi:(d.op==1)=false:=by simp;omega
 have M:(d.op==2)=false:=by simp;omega
 have i:(decide (d.op<=10))=false:=by rw [decide_eq_false_iff_not];omega
 have f:(decide (d.op<=17))=false:=by rw [decide_eq_false_iff_not];omega
 have wd:(decide (d.op<=21))=false:=by rw [decide_eq_false_iff_not];omega
 have A:(decide (d.op<=62))=false:=by rw [decide_eq_false_iff_not];omega
 have A0:(decide (d.op<=84))=false:=by rw [decide_eq_false_iff_not];omega
 have q:(decide (d.op<=86))=false:=by rw [decide_eq_false_iff_not];omega
 have u:(decide (d.op<=92))=false:=by rw [decide_eq_false_iff_not];omega
 have m:dh w d g=ke w d g:=by unfold dh;dsimp only;rw [if_neg ab,if_neg ab,if_neg ab,if_neg ab,if_neg ab,if_neg ab,if_neg ab,if_neg ab,if_neg ab]
 rw [m];exact Hx.last (Hs.eng (dr:=true) (λ_ h=>h.hs)) {eq:=[(138,ak bi),(148,ak M),(163,ak i),(173,ak f),(183,ak wd),(194,ak A),(217,ak A0),(226,ak q),(233,ak u)]} 300 v (λn w0=>NR d (w.x.getD d.a.toNat 0) g ab K F w0.ht x)
theorem AR (h:0<=fW e g):∃ k:Nat,k<16/\fW e g=k:=by
 have key:∀ x,0<=dA x->∃ k:Nat,k<16/\dA x=k:=λx a=>by
  unfold dA at a ⊢;rcases vg x eR with l|⟨n,b,l,_⟩;·rw [l] at a;omega
  ·refine ⟨n,?_,l⟩;have:∀ m ∈ eR,m<16:=by decide
   exact this n b
 unfold fW at h ⊢;split at h;·exact key _ h
 ·unfold Gy at h ⊢;split at h;·exact key _ h
  ·omega
theorem In (h:Ht b W r a c l) (i:Gd a):CB 73 #[.slice c.ac a.cs.length c.cc,.i a.pr] l (.i (fW a.cs a.pr)):=by obtain ⟨M,f,d,_,_,_⟩:=aC i.ok;obtain ⟨g,A,B,_⟩:=h.mp.cs M;rw [A,M];exact ya g 0 c.cc a.cs a.pr d l M (fL B)
theorem T8 (h:Ht b W r a c l) (hg:Gd a) (hd:Ud a.d):Calls prog 34 #[.p W 0] l (HR b W r a c l (ee a)):=by
 obtain ⟨L,hcs,hpr,_,_,_⟩:=aC hg.ok;obtain ⟨B,I,E⟩:=h.atC L;have K:∀ (j:Nat),j<22->∀ hh,Hx b r [aR W r] a c l a c hh->hh.cell? ⟨B,j,none⟩=some (.u (a.cs.getD j 0)):=λj hj hh M=>by obtain ⟨b',Q,p⟩:=M.ht.atC L;rw [I] at Q;cases Q;exact (p j hj).1
 have fin:∀ (S:World->Prop) (hh:World),Hx b r [aR W r] a c l a c hh->(a.wt&&(ku a.cs==0))=false->Wg prog S (bodyPost prog Tryz.f34 (HR b W r a c l (ee a))) Tryz.f34.ntmps [.code (aw 3 (aM Tryz.f34))] [(0,.p W 0,2),(3,.p r 0,1)] hh:=by
  intro S hh M hn;clear K E I;have Z:ee a=if 0<=fW a.cs a.pr then (aL (fF a false) (fW a.cs a.pr).toNat true 0,3) else (let q:=aE (fF a false) a.pc 4 1 0;if (q.2.2 != 0)=true then cS q 0 q.2.1.pc else match Ca q.1 with | none=>(aL q.2.1 2 false q.1,2) | some i=>dh q.2.1 i q.1):=by unfold ee;rw [hn,if_neg bc];rfl
  rw [Z];clear Z;have n:=hg.wait false;have U:fW a.cs a.pr=fW (fF a false).cs (fF a false).pr:=rfl;have R:a.pc=(fF a false).pc:=rfl;have F:Ud (fF a false).d:=hd;refine aJ (Hs r [aR W r] (aj a c)) ?_;refine ae (Hs.eng (dr:=false) (λ_ h=>h.hs)) {} 40 M λu s=>?_;refine bM (bJ (i:=13) (T:=4) (v:=.bool false) s.mp.row (show 13<14 by decide) ba rfl) ?_;have h2:=s.fld (M':=fF a false) 13 (.bool false) rfl rfl;rw [U,R];generalize fF a false=N at n h2 F ⊢;clear U R;refine aJ (Hx b r [aR W r] a c l N c) ?_;by_cases e:0<=fW N.cs N.pr;·obtain ⟨k,k16,hk⟩:=AR _ _ e;have q:decide (0<=((k:Nat):Int))=true:=ef;have o:∀ hh,Hx b r [aR W r] a c l N c hh->CB 73 #[.slice c.ac N.cs.length c.cc,.i N.pr] hh (.i ((k:Nat):Int)):=λhh M=>hk ▸ In M.ht n;rw [if_pos e,hk,Int.toNat_natCast];clear hk e;refine ae (Hx.eng (dr:=true)) {eq:=[(52,ak q)],cv:=[(50,jQ (λh k=>h.below k) λhh M=>o hh M)]} 22 h2 λW3 h3=>?_;have hl:(aL N k true 0).cs.length=N.cs.length:=lR _ _ _ _ _ _;have em:aj (iB N (aL N k true 0).cs) c=aj N c:=(by unfold aj iB;dsimp only;rw [hl]);refine aJ (Hs r [aR W r] (aj N c)) ?_;refine lJ 21 ?_;refine aW (Hs.eng (dr:=true) (λ_ h=>h.hs)) {} 100 (h3.below (Below.refl _ _).drew) (λu s=>xj s.ht n k k16 true 0) ?_;rintro W4 e W5 h4 ⟨rfl,h5,k5⟩;have h6:=h4.to h5 k5;refine ⟨_,0,rfl,λ_=>em ▸ h6.hs,?_⟩;refine ae (Hs.eng (dr:=true) (λ_ h=>em ▸ h.hs)) {} 40 h6 λW7 G=>?_;refine bM (bJ (i:=2) (T:=2) (v:=.i (aL N k true 0).pr) G.mp.row (show 2<14 by decide) ba rfl) ?_;have O:=G.fld (M':=gt (iB N (aL N k true 0).cs) (aL N k true 0).pr) 2 (.i (aL N k true 0).pr) rfl rfl;refine aJ (Hx b r [aR W r] a c l (gt (iB N (aL N k true 0).cs) (aL N k true 0).pr) c) ?_;refine ae (Hx.eng (dr:=true)) {} 40 O λW9 H=>?_;refine bM (bJ (i:=0) (T:=22) (v:=.u (aL N k true 0).pc) H.mp.row (show 0<14 by decide) ba rfl) ?_;have w:=H.fld (M':=aL N k true 0) 0 (.u (aL N k true 0).pc) rfl rfl;refine aJ (Hx b r [aR W r] a c l (aL N k true 0) c) ?_;exact bm (t:=2) (v:=.i 3) (Hx.eng (dr:=true)) {cv:=[(77,kj λhh M=>nf (aL N k true 0) c b W r hh M.ht)]} 40 w λhh M=>M.hr 3
  ·have q:decide (0<=fW N.cs N.pr)=false:=(by rw [decide_eq_false_iff_not];exact e);rw [if_neg e];clear e;generalize V:fW N.cs N.pr=pv at q;have o:∀ hh,Hx b r [aR W r] a c l N c hh->CB 73 #[.slice c.ac N.cs.length c.cc,.i N.pr] hh (.i pv):=λhh M=>V ▸ In M.ht n;clear V;refine ae (Hx.eng (dr:=true)) {eq:=[(52,ak q)],cv:=[(50,jQ (λh k=>h.below k) λhh M=>o hh M)]} 22 h2 λW3 h3=>?_;refine af [.code (aw 5 (aM Tryz.f34))] [(0,.p W 0,2),(3,.p r 0,1)] ?_;clear o q;have ga:=n.acc N.pc 4 1 0;have P:=λhh (M:Mp b r N c hh)=>gc N c b r N.pc 4 1 0 hh M n.len n.mw n.ok bc ab ab n.pc lw;have ec:=λA=>kq (M:=N) (addr:=N.pc) (size:=4) (kind:=1) (x:=0) (c:=A);have Y:=t8 n F N.pc 4 ab 1 0;have ud:=AN F N.pc 4 1 lw;rw [show ((4:Nat):Int)=4 from rfl] at Y;generalize aE N N.pc 4 1 0=X at *;obtain ⟨y,f,A⟩:=X;dsimp only at ga P ec Y ud ⊢;refine aJ (Hs r [aR W r] (aj N c)) ?_;refine ae (Hs.eng (dr:=false) (λ_ h=>h.hs)) {} 1 h3 λW4 h4=>?_;refine lJ 9 ?_;refine aW (Hs.eng (dr:=true) (λ_ h=>h.hs)) {} 100 (h4.below (Below.refl _ _).drew) (λu s=>P u s.mp) ?_;rintro W5 e W6 h5 ⟨rfl,C,h6,k6⟩;refine ⟨_,0,rfl,gE ba,aJ (Hs r [aR W r] (aj f C)) ?_⟩;have G:=h5.step h6 k6;cases o:(A != 0) with
   | true =>rw [if_pos rfl];have tg:∀ hh,Hx b r [aR W r] a c l f C hh->Calls prog 77 #[.p W 0,.i ((A-16).toNat:Nat),.u f.pc] hh (HR b W r f C hh (cS (y,f,A) 0 f.pc)):=λhh M=>dZ _ (ec A rfl o).2 f.pc M.ht ga;exact Hx.last (Hs.eng (dr:=true) (λ_ h=>h.hs)) {eq:=[(92,ak o),(95,dP .i64 (ec A rfl o).1)]} 60 G tg
   | false =>
     rw [if_neg bc];have m:=λhh=>oX y Y.1 Y.2 hh;unfold me at m;cases he:Ca y with
     | none =>simp only [he] at m;refine aW (Hs.eng (dr:=true) (λ_ h=>h.hs)) {eq:=[(92,ak o)]} 60 G (λu s=>m u) ?_;rintro W8 e W9 O ⟨rfl,k9⟩;refine ⟨_,0,rfl,gE ba,?_⟩;have H:=O.below k9;refine ae (Hs.eng (dr:=false) (λ_ h=>h.hs)) {} 3 H λd w=>?_;refine dM 3 (dQ (T:=69) (z:=.agg #[.i 0,.i 0,.i 0,.i 0,.i 0]) ba d) ?_;refine bM (aD (g:=d.heap.size) (t:=69) (ty:=69) (old:=#[.i 0,.i 0,.i 0,.i 0,.i 0]) (cells:=#[.i 0,.i 0,.i 0,.i 0,.i 0]) (heap_alloc_new _ _) ba rfl ba) ?_;have D:=w.below (aI (bal d (.cells #[.i 0,.i 0,.i 0,.i 0,.i 0] 69)) (Nat.le_refl _) #[.i 0,.i 0,.i 0,.i 0,.i 0]);have tg:∀ hh,Hx b r [aR W r] a c l f C hh->Calls prog 77 #[.p W 0,.i 2,.u y] hh (HR b W r f C hh (aL f 2 false y,2)):=λhh M=>dZ 2 bc y M.ht ga;exact Hx.last (Hs.eng (dr:=true) (λ_ h=>h.hs)) {} 60 D tg
     | some i =>simp only [he] at m;have hi:=AB he;refine aW (Hs.eng (dr:=true) (λ_ h=>h.hs)) {eq:=[(92,ak o)]} 60 G (λu s=>m u) ?_;rintro W8 e W9 O ⟨rfl,k9⟩;refine ⟨_,0,rfl,gE ba,?_⟩;have H:=O.below k9;refine ae (Hs.eng (dr:=false) (λ_ h=>h.hs)) {} 3 H λd w=>?_;refine dM 3 (dQ (T:=69) (z:=.agg #[.i 0,.i 0,.i 0,.i 0,.i 0]) ba d) ?_;refine bM (aD (g:=d.heap.size) (t:=69) (ty:=69) (old:=#[.i 0,.i 0,.i 0,.i 0,.i 0]) (cells:=#[.i i.op,.i i.rd,.i i.a,.i i.b,.i i.imm]) (heap_alloc_new _ _) ba rfl ba) ?_;have D:Hx b r [aR W r,Gc d.heap.size i] a c l f C ((d.alloc (.cells #[.i 0,.i 0,.i 0,.i 0,.i 0] 69)).setRow d.heap.size #[.i i.op,.i i.rd,.i i.a,.i i.b,.i i.imm]):=w.var (aI (bal d _) (Nat.le_refl _) _) (Gc d.heap.size i) (setRow_heap _ _ _ _ _ _ (heap_alloc_new _ _)) (Nat.le_refl _);refine aJ (Hx b r [aR W r,Gc d.heap.size i] a c l f C) ?_;refine ae (Hx.eng (dr:=false)) {} 10 D λW12 h12=>?_;exact af _ _ (T7 i y hi Y h12 ga ud)
 refine bD (S:=Hx b r [aR W r] a c l a c) (args:=[.p W 0]) [] func34 ?_;refine aN 0 2 ?_;have h0:=Hx.start h [];cases J:a.wt with
 | true =>
   cases hz:(ku a.cs==0) with
   | true =>have Z:ee a=(a,4):=(by unfold ee;rw [J,hz,if_pos bc]);rw [Z];exact bm (t:=2) (v:=.i 4) (Hx.eng (dr:=true)) {eq:=[(22,ak J),(37,ak hz)],ov:=[(28,kJ a.cs.length c.cc .i64 9 I ⟨ab,ab⟩ underlying23 ba),(29,je ⟨B,0+(9:Int).toNat,none⟩ (.u (a.cs.getD 9 0)) underlying22 rfl (K 9 ab)),(34,kJ a.cs.length c.cc .i64 3 I ⟨ab,ab⟩ underlying23 ba),(35,je ⟨B,0+(3:Int).toNat,none⟩ (.u (a.cs.getD 3 0)) underlying22 rfl (K 3 ab))]} 60 h0 λhh M=>M.hr 4
   | false =>refine ae (Hx.eng (dr:=true)) {eq:=[(22,ak J),(37,ak hz)],ov:=[(28,kJ a.cs.length c.cc .i64 9 I ⟨ab,ab⟩ underlying23 ba),(29,je ⟨B,0+(9:Int).toNat,none⟩ (.u (a.cs.getD 9 0)) underlying22 rfl (K 9 ab)),(34,kJ a.cs.length c.cc .i64 3 I ⟨ab,ab⟩ underlying23 ba),(35,je ⟨B,0+(3:Int).toNat,none⟩ (.u (a.cs.getD 3 0)) underlying22 rfl (K 3 ab))]} 34 h0 λhh M=>?_;exact af _ _ (fin _ hh M (by rw [J,hz];rfl))
 | false =>refine ae (Hx.eng (dr:=true)) {eq:=[(22,ak J)]} 34 h0 λhh M=>?_;exact af _ _ (fin _ hh M (by rw [J];rfl))
structure T9 (M:MV):Prop where
 mw:MW M
 ux:∀ j,U (M.x.getD j 0)
 pc:U M.pc
 hd:U M.hd
 ud:Ud M.d
theorem T9.gd (h:T9 a) (M:dU a=true):Gd a:=⟨M,h.mw,h.ux,h.pc,h.hd⟩
def Og (M:MV):MV × Int:=if dU M=true then ee M else (aq,0)
def mQ (w:World) (V:MV × Int) (e:Ending) (w':World):Prop:=∃ C:MA,e=.returned (.tuple #[.agg (aj V.1 C),.i V.2])/\bz w.heap.size w'.heap.size w' (aH V.1 C)/\Bw w w'
theorem Ua (T:TypeId) (v:Value) (w:World):(do pure (.value (<- Instr.box T v)):Sem Next).run q w=.ok (.value (.p w.heap.size 0)) (w.alloc (.cells v.cells T)):=by simp [Instr.box,newVar,newRow]
def dF:Nat->MV->MV × List Int
 | 0,M=>(M,[])
 | n+1,M=>if ((ee M).2==4)=true then ((ee M).1,[(ee M).2]) else ((dF n (ee M).1).1,(ee M).2::(dF n (ee M).1).2)
theorem Gw.step (h:Gw a):Gw (ee a).1:=QY h λl p M=>AR l p M
theorem DD:∀ (n:Nat) {M:MV},Gw M->Gw (dF n M).1
 | 0,_,h=>h
 | n+1,M,h=>by
   unfold dF
   split
   ·exact h.step
   ·exact DD n h.step
theorem zp:∀ (n:Nat) (M:MV),(dF n M).2.length<=n
 | 0,_=>Nat.le_refl _
 | n+1,M=>by
   unfold dF
   split
   ·simp
   ·have:=zp n (ee M).1
    simp only [List.length_cons]
    omega
theorem Q6 {p:Nat} {t':TypeId} {i:Value} {B':List Value} (h:l.ownsRow b s 1 P W t) (B:l.ownsRow r t' 1 i p B') (o:s≠t') (e:P.ownBlock=some k):i.ownBlock≠some k:=λf=>by
 rcases h.2 with ⟨rfl,_⟩|⟨g,c,j,rfl,_,m,_⟩;·cases e
 ·rcases B.2 with ⟨rfl,_⟩|⟨n,q,d,rfl,_,a,_⟩;·cases f
  ·cases e;cases f;rw [m] at a;injection a with h4
   injection h4 with _ h5
   exact o h5
theorem Vl {q:FRow} (h:q ∈ aH a c):q.t=22\/q.t=5:=by simp only [aH,List.mem_cons,List.not_mem_nil,or_false] at h;rcases h with rfl|rfl|rfl|rfl|rfl<;>simp [aK,aF]
theorem qp {n:Nat} (h:l.ownsRow b 2 1 P n t) (f:bz r W l (aH a c)) (e:P.ownBlock=some k):∀ q ∈ aH a c,q.v.ownBlock≠some k:=λq M=>Q6 h (f.own q M) (by rcases Vl M with e | e<;>rw [e]<;>decide) e
theorem Ht.far (h:Ht b W r a c l) (hs:l.heap.size<=n.heap.size) (hk:∀ k,k<l.heap.size->(k=W\/k=r\/∃ q ∈ aH a c,q.v.ownBlock=some k)->n.heap[k]?=l.heap[k]?):Ht b W r a c n:=by have f:bz b l.heap.size n (aH a c):=⟨λq hh=>eu (h.mp.fam.own q hh) λk e=>hk k ((h.mp.fam.own q hh).lt k e).2 (.inr (.inr ⟨q,hh,e⟩)),h.mp.fam.hi,h.mp.fam.ne⟩;exact ⟨(hk W h.lt (.inl rfl)).trans h.row,⟨(hk r h.mp.lt (.inr (.inl rfl))).trans h.mp.row,f.low (Nat.le_refl _) hs,h.mp.ne,h.mp.lo⟩,h.ne,h.nq⟩
def DE (T:TypeId) (v u:Value):Sem Next:=execOp (λx=>match x with | .tmp 0=>v | _=>u) {dst:=none,op:=.call {callee:=.builtin .append,args:=#[.tmp 0,.tmp 1],argTypes:=#[T,T]},type:=T,pos:= "",after:=#[],guard:=none}
theorem Kz {u x:Value} (h:(Builtin.append_ #[s,s] s #[P,u]).run q l=.ok x n):(DE s P u).run q l=.ok (.value x) n:=by unfold DE execOp;simp only [resolve,invoke,builtin,Sem.run_bind,Sem.run_pure,Result.andThen_ok,List.map_toArray,List.map_cons,List.map_nil,h]
theorem rE:(prog.info? 2).map (λi=>(i.zero,i.size,i.bytes))=some (some (.i 0),1,8):=by kernel_rfl
theorem Io:(do pure (.value (<- Instr.buildSlice 39 0 #[])):Sem Next).run prog E=.ok (.value (.slice (some ⟨E.heap.size,0,none⟩) 0 0)) (E.alloc (.cells #[] 2)):=by obtain ⟨c,b,e⟩:=Option.map_eq_some_iff.1 rE;have a:∀ f:Nat->Value,Array.map f (Array.range 0)=#[]:=λf=>Array.eq_empty_of_size_eq_zero cp;simp [Instr.buildSlice,run_underlying underlying39,sizeOf,typeInfo,b,Instr.fill,newRow,a]
theorem Ip:(do pure (.value (<- Instr.buildSlice 39 1 #[(0,.i g)])):Sem Next).run prog E=.ok (.value (.slice (some ⟨E.heap.size,0,none⟩) 1 1)) (E.alloc (.cells #[.i g] 2)):=by obtain ⟨c,b,e⟩:=Option.map_eq_some_iff.1 rE;simp only [Prod.mk.injEq] at e;obtain ⟨a,e2,e3⟩:=e;have:=run_buildSlice (P:=prog) E 39 2 1 #[(0,.i g)] #[.i g] c (.i 0) underlying39 b a ph ph (by rw [e2];kernel_rfl);simp [this]
theorem DF (h:l.ownsRow b 2 1 (.slice T f.length r) f.length (f.map (Value.int .i64))) (hz:b<=l.heap.size) (hn:f.length<=1000000) (x:Int):∃ (base:Option Addr) (d:Nat) (W':World),(DE 39 (.slice T f.length r) (.slice (some ⟨l.heap.size,0,none⟩) 1 1)).run prog (l.alloc (.cells #[.i x] 2))=.ok (.value (.slice base (f++[x]).length d)) W'/\W'.ownsRow b 2 1 (.slice base (f++[x]).length d) (f++[x]).length ((f++[x]).map (Value.int .i64))/\l.heap.size<=W'.heap.size/\W'.os=l.os/\W'.tape=l.tape/\W'.output=l.output/\∀ k,k<l.heap.size->(∀ j,(Value.slice T f.length r).ownBlock=some j->j≠k)->W'.heap[k]?=l.heap[k]?:=by
 obtain ⟨y,q,e⟩:=Option.map_eq_some_iff.1 rE;simp only [Prod.mk.injEq] at e;obtain ⟨W,e2,e3⟩:=e;have xs:=(Below.refl l.heap.size l).alloc (Nat.le_refl _) (.cells #[.i x] 2);obtain ⟨v,W',t,o,i,_⟩:=run_append_own (P:=prog) (l.alloc (.cells #[.i x] 2)) b 39 39 2 y (.i 0) 1 8 underlying39 q W e2 e3 rfl bc _ f.length _ (dH h xs) ⟨l.heap.size,0,none⟩ 1 1 [.i x] rfl (λj u w=>NN l _ _ j u w) ti et ab bv;have m:∃ base d,v=.slice base (f.length+1) d:=by
  rcases o.2 with ⟨W,z⟩|⟨g,cap,p,W,_⟩;·omega
  ·exact ⟨_,_,W⟩
 obtain ⟨base,d,rfl⟩:=m;have n:(f++[x]).length=f.length+1:=cp
 refine ⟨base,d,W',Kz (by rw [n];exact t),?_,Nat.le_trans xs.size i.size,i.os.trans xs.os,i.tape.trans xs.tape,i.output.trans xs.output,λk s c=>(i.block k bv (λe=>c k e.symm rfl)).trans (xs.block k s)⟩;rw [n,List.map_append];exact o
structure Hl (B hh r:Nat) (M:MV) (A:MA) (w:World) (M':MV) (A':MA) (xs:List Int) (a:Option Addr) (c:Nat) (W:World):Prop where
 ht:Ht B hh r M' A' W
 kx:Kx r (aH M A) (aH M' A') w W
 lo:hh<w.heap.size/\r<w.heap.size
 own:W.ownsRow w.heap.size 2 1 (.slice a xs.length c) xs.length (xs.map (Value.int .i64))
theorem Hl.step {M2:MV} {A2:MA} {W':World} (h:Hl b W r a c l w p f T k n) (M:Ht b W r M2 A2 W') (hh:Kx r (aH w p) (aH M2 A2) n W'):Hl b W r a c l M2 A2 f T k W' :=
 ⟨M,h.kx.trans hh,h.lo,eu h.own λj e=>by
  obtain ⟨d,B⟩:=h.own.lt j e
  have:=h.lo
  exact hh.block j B ab (qp h.own h.ht.mp.fam e)⟩
theorem Hl.push (h:Hl b W r a c l w p f T k n) (hn:f.length<=1000000) (x:Int):∃ (d:Option Addr) (A':Nat) (W':World),(DE 39 (.slice T f.length k) (.slice (some ⟨n.heap.size,0,none⟩) 1 1)).run prog (n.alloc (.cells #[.i x] 2))=.ok (.value (.slice d (f++[x]).length A')) W'/\Hl b W r a c l w p (f++[x]) d A' W':=by
 have m:=h.kx.size;obtain ⟨d,A',W',v,o,A,M,e2,e3,M'⟩:=DF h.own m hn x;refine ⟨d,A',W',v,h.ht.far A λhh i B=>M' hh i λj g e=>?_,⟨M.trans h.kx.os,e2.trans h.kx.tape,e3.trans h.kx.output,Nat.le_trans m A,λhh i s t=>(M' hh ab λj g e=>?_).trans (h.kx.block hh i s t),h.kx.own⟩,h.lo,o⟩
 ·have:=(h.own.lt j g).1;have:=h.lo;rcases B with B|B|⟨q,u,B⟩;·omega
  ·omega
  ·exact qp h.own h.ht.mp.fam g q u (by rw [e];exact B)
 ·have:=(h.own.lt j g).1;omega
def LR (B hh r:Nat) (M:MV) (A:MA) (w:World) (R:MV × List Int) (e:Ending) (w':World):Prop:=∃ (a:Option Addr) (c:Nat) (A':MA),e=.returned (.slice a R.2.length c)/\Hl B hh r M A w R.1 A' R.2 a c w'
structure Ls (B hh r:Nat) (M:MV) (A:MA) (w:World) (n j:Nat) (x:MV × MA × List Int × Option Addr × Nat × Nat) (W:World):Prop where
 ej:x.2.2.2.2.2=j
 hl:Hl B hh r M A w x.1 x.2.1 x.2.2.1 x.2.2.2.1 x.2.2.2.2.1 W
 gw:Gw x.1
 ln:x.2.2.1.length+j=n
 st:dF n M=((dF j x.1).1,x.2.2.1++(dF j x.1).2)
theorem Q7 (hn:G<=300) (h:Ht b W r a c l) (J:Gw a):Calls prog 52 #[.p W 0,.i G] l (LR b W r a c l (dF G a)):=by
 refine bD (S:=λ_=>True) (args:=[.p W 0,.i G]) [] func52 ?_;refine kz (R:=[]) trivial {} 10 0 (Io l) ?_;have g:=(Below.refl l.heap.size l).alloc (Nat.le_refl _) (.cells #[] 2);have s:Ls b W r a c l G G (a,c,[],some ⟨l.heap.size,0,none⟩,0,G) (l.alloc (.cells #[] 2)):=⟨rfl,⟨h.below g,Kx.of_below g,⟨h.lt,h.mp.lt⟩,World.ownsRow_lit l #[] 0 (Nat.le_refl _) et rfl⟩,J,cp,cp⟩;generalize l.alloc (.cells #[] 2)=U at s ⊢;refine an (R:=[]) trivial {} 20 ?_;refine mh (λx:MV × MA × List Int × Option Addr × Nat × Nat=>[(0,.p W 0,0),(1,.i (x.2.2.2.2.2:Nat),0),(5,.slice x.2.2.2.1 x.2.2.1.length x.2.2.2.2.1,0)]) (Ls b W r a c l G) G (a,c,[],some ⟨l.heap.size,0,none⟩,0,G) ba ba s ?_;clear s g;rintro j ⟨d,E,xs,M,A,N⟩ hh ⟨C,o,w,Q,f⟩ T I;dsimp only at C o w Q f ⊢;subst C;cases N with
 | zero =>have e:dF G a=(d,xs):=(by rw [f];simp [dF]);rw [e];exact jk (R:=[]) trivial {} 60 (t:=4) ⟨M,A,E,rfl,o⟩
 | succ j =>
   have q:decide ((0:Int)<((j+1:Nat):Int))=true:=ef;have u:=T8 o.ht w.1 w.2;have p:=w.step;have z:dF (j+1) d=if ((ee d).2==4)=true then ((ee d).1,[(ee d).2]) else ((dF j (ee d).1).1,(ee d).2::(dF j (ee d).1).2):=rfl
   rw [z] at f;clear z;generalize ee d=V at u p f;obtain ⟨M2,k⟩:=V;dsimp only at u p f;refine aO (R:=[]) trivial {eq:=[(9,ak q)]} 60 u ?_;rintro e F ⟨rfl,A2,H,O⟩;refine ⟨_,0,rfl,?_⟩;have P:=o.step H O;refine kz (R:=[]) trivial {} 20 0 (Ip F k) ?_;obtain ⟨v,y,n,K,D⟩:=P.push ab k;refine dM 0 K ?_;have i:(xs++[k]).length=xs.length+1:=cp;cases m:(k==4) with
   | true =>rw [m,if_pos rfl] at f;rw [f];exact jk (R:=[]) trivial {eq:=[(19,ak m)]} 60 (t:=4) ⟨v,y,A2,rfl,D⟩
   | false =>rw [m,if_neg bc] at f;have L:IntKind.i64.wrap (((j+1:Nat):Int)-1)=((j:Nat):Int):=kp;exact ou (R:=[]) trivial {eq:=[(19,ak m),(11,dP .i64 L)]} 60 λB g=>I B n j (M2,A2,xs++[k],v,y,j) ab (g.less ba) ⟨rfl,D,p,by rw [i];omega,by rw [f];simp⟩
def sW (M:MV) (n:Int):MV × List Int:=if (dU M&&decide (0<=n/\n<=300))=true then dF n.toNat M else (aq,[])
def Vm (w:World) (V:MV × List Int) (e:Ending) (w':World):Prop:=∃ (C:MA) (a:Option Addr) (c:Nat),e=.returned (.tuple #[.agg (aj V.1 C),.slice a V.2.length c])/\bz w.heap.size w'.heap.size w' (aH V.1 C)/\w'.ownsRow w.heap.size 2 1 (.slice a V.2.length c) V.2.length (V.2.map (Value.int .i64))/\Bw w w'
theorem yi (M:MV) (A:MA) (n:Int) (w:World) (hl:kV M) (hs:pn w M A) (Y:T9 M):Calls prog 15 #[.agg (aj M A),.i n] w (Vm w (sW M n)):=by
 have p:=λW (y:Bw w W)=>mn M A W hl (hs.below y);have K:=λW (_:Bw w W)=>ew n 0 300 W;unfold sW;refine bD (S:=Bs w [(aj M A,32),(aj aq zeroA,32)]) (args:=[.agg (aj M A),.i n]) [(aj M A,32),(aj aq zeroA,32)] func15 ?_;cases y:(dU M&&decide (0<=n/\n<=300)) with
 | false =>
   rw [if_neg bc];have fin:∀ d,Bs w [(aj M A,32),(aj aq zeroA,32)] d->Wg prog (Bs w [(aj M A,32),(aj aq zeroA,32)]) (bodyPost prog Tryz.f15 (Vm w (aq,[]))) Tryz.f15.ntmps [.code (Cj (aw 1 (iM (aw 1 (aM Tryz.f15))))),.code (aw 2 (aM Tryz.f15))] [(4,.p (w.heap.size+1) 0,2)] d:=λd j=>by refine ae Bs.eng {} 40 j λd j=>?_;refine dM 0 (Io d) ?_;have o:=j.below (bal d (.cells #[] 2));have z1:=(Array.getElem?_eq_some_iff.1 (j.1 1 _ rfl)).1;have U:(d.alloc (.cells #[] 2)).ownsRow d.heap.size 2 1 (.slice (some ⟨d.heap.size,0,none⟩) 0 0) 0 []:=World.ownsRow_lit d #[] 0 (Nat.le_refl _) et rfl;generalize d.alloc (.cells #[] 2)=f at o U ⊢;refine bM (aD (g:=w.heap.size+1) (old:=aj aq zeroA) (cells:=aj aq zeroA) (t:=32) (ty:=32) (o.1 1 _ rfl) ba rfl (dp _ _)) ?_;refine gz (R:=[]) trivial {} 40 λa G=>⟨.tuple #[.agg (aj aq zeroA),.slice (some ⟨d.heap.size,0,none⟩) 0 0],vA G rfl ba ba (setRow_heap _ _ _ _ _ _ (o.1 1 _ rfl)) underlying32 rfl ba,zeroA,_,_,rfl,j7 _ _ _,?_,aS o.2 ab _⟩;exact eu (cF U ab) λk e=>setRow_other _ _ _ _ (by have:=(U.lt k e).1;omega)
   cases J:dU M with
   | false =>rw [J] at p;refine ae Bs.eng {cv:=[(10,fY p)]} 13 (Bs.start _ _) λd j=>?_;exact af _ _ (fin d j)
   | true =>rw [J] at p y;simp only [Bool.true_and] at y;rw [y] at K;refine ae Bs.eng {cv:=[(10,fY p),(14,mL K)]} 13 (Bs.start _ _) λd j=>?_;exact af _ _ (fin d j)
 | true =>
   rw [if_pos rfl];obtain ⟨J,F⟩:=Bool.and_eq_true_iff.1 y;rw [J] at p;rw [F] at K;have hg:Gw M:=⟨Y.gd J,Y.ud⟩;obtain ⟨n0,n1⟩:=of_decide_eq_true F;obtain ⟨m,rfl⟩:=Int.eq_ofNat_of_zero_le n0;rw [Int.toNat_natCast];have H:=λ(B hh r:Nat) (C:MA) (W:World) (h:Ht B hh r M C W)=>Q7 m ab h hg;generalize dF m M=V at H ⊢;refine aW Bs.eng {cv:=[(10,fY p),(14,mL K)]} 40 (Bs.start _ _) (λd j=>Fv M A d hl (hs.below j.2)) ?_;rintro d e f j ⟨C,rfl,N,k2⟩;refine ⟨_,0,rfl,gE ba,?_⟩;have o:=j.below k2;have s1:w.heap.size+2<=d.heap.size:=(by have:=(Array.getElem?_eq_some_iff.1 (j.1 1 _ rfl)).1;omega);refine dM 3 (dQ (T:=32) (z:=.agg (aj aq zeroA)) ba f) ?_;refine bM (aD (g:=f.heap.size) (t:=32) (ty:=32) (old:=aj aq zeroA) (cells:=aj M C) (heap_alloc_new _ _) ba rfl (dp _ _)) ?_;have X:Bw f ((f.alloc (.cells (aj aq zeroA) 32)).setRow f.heap.size (aj M C)):=aS (bal _ _) (Nat.le_refl _) _;have r3:((f.alloc (.cells (aj aq zeroA) 32)).setRow f.heap.size (aj M C)).heap[f.heap.size]?=some (.cells (aj M C) 32 (0,0)):=setRow_heap _ _ _ _ _ _ (heap_alloc_new _ _);have z3:((f.alloc (.cells (aj aq zeroA) 32)).setRow f.heap.size (aj M C)).heap.size=f.heap.size+1:=(by rw [setRow_size,World.size_alloc]);have e3:(Value.agg (aj aq zeroA)).cells=aj aq zeroA:=rfl;rw [e3];generalize (f.alloc (.cells (aj aq zeroA) 32)).setRow f.heap.size (aj M C)=l at X r3 z3 ⊢;refine kz (R:=[]) trivial {} 40 2 (v:=.p l.heap.size 0) (w':=l.alloc (.cells #[.p f.heap.size 0,.slice none 0 0] 61)) (Ua 61 (.agg #[.p f.heap.size 0,.slice none 0 0]) l) ?_;have L:Bw l (l.alloc (.cells #[.p f.heap.size 0,.slice none 0 0] 61)):=bal _ _;have r4:(l.alloc (.cells #[.p f.heap.size 0,.slice none 0 0] 61)).heap[l.heap.size]?=some (.cells #[.p f.heap.size 0,.slice none 0 0] 61 (0,0)):=heap_alloc_new _ _;generalize l.alloc (.cells #[.p f.heap.size 0,.slice none 0 0] 61)=E at L r4 ⊢;have Q:=aa X L;have s2:=k2.size;have s4:=L.size;have f4:bz d.heap.size E.heap.size E (aH M C):=(N.below Q).low (Nat.le_refl _) Q.size;have m4:Mp d.heap.size f.heap.size M C E:=⟨br L r3,f4,λq P e=>by have:=N.hi q P _ e;omega,s2⟩;have t4:Ht d.heap.size l.heap.size f.heap.size M C E:=⟨r4,m4,ab,λq P e=>by have:=N.hi q P _ e;omega⟩;refine aO (R:=[]) trivial {} 40 (H _ _ _ C E t4) ?_;rintro e W5 ⟨a,c,D,rfl,I⟩;refine ⟨_,0,rfl,?_⟩;have s:=m4.under I.kx;have O:Bs w [(aj M A,32),(aj aq zeroA,32)] W5:=by
    have u:=(o.below Q);refine ⟨λi x Z=>?_,?_⟩;·have hlt:i<2:=(by have:=(List.getElem?_eq_some_iff.1 Z).1;exact this);rw [s.block _ ab];exact u.1 i x Z
    ·exact ⟨s.os.trans u.2.os,s.tape.trans u.2.tape,s.output.trans u.2.output,Nat.le_trans u.2.size s.size,λk G=>(s.block k ab).trans (u.2.block k G)⟩
   refine aN 6 1 ?_;refine ct (R:=[⟨f.heap.size,aj V.1 D,[]⟩]) ⟨⟨_,_,I.ht.mp.row⟩,trivial⟩ {} 40 (aD (g:=w.heap.size+1) (t:=32) (ty:=32) (old:=aj aq zeroA) (cells:=aj V.1 D) (O.1 1 _ rfl) ba rfl (dp _ _)) ?_;refine gz (R:=[]) trivial {} 40 λb G=>⟨.tuple #[.agg (aj V.1 D),.slice a V.2.length c],vA G rfl ba ba (setRow_heap _ _ _ _ _ _ (O.1 1 _ rfl)) underlying32 rfl ba,D,a,c,rfl,?_,?_,aS O.2 ab _⟩;·have:=I.ht.mp.fam;refine bz.low (B:=d.heap.size) ?_ ab (Nat.le_refl _);rw [setRow_size];exact this.mono λk j o h3=>setRow_other _ _ _ _ ab
   ·exact eu (cF I.own ab) λk e=>setRow_other _ _ _ _ (by have:=(I.own.lt k e).1;omega)
end Go.Proofs.YtjifdmoehfbihaaGreatDoor
