/- Own lemmas. -/
import Derived.Test.YtjifdmoehfbihaaGreatDoorAut
import Derived.Test.YtjifdmoehfbihaaGreatDoorK31
import Derived.Test.YtjifdmoehfbihaaGreatDoorK32
set_option maxRecDepth 100000
namespace Go.Proofs.YtjifdmoehfbihaaGreatDoor
open Go.RowKit Tryz
open IntKind renaming u64->Uz
set_option linter.unusedVariables false
theorem Mz (M:MV) (pa size x:Int):(qU M pa size 2 x).2.2=0\/(qU M pa size 2 x).2.2=21:=by
 unfold qU;split;·split<;>exact Or.inl rfl
 ·split
  ·split;·exact Or.inl rfl
   ·exact Or.inr rfl
  ·split
   ·split;·exact Or.inl rfl
    ·exact Or.inr rfl
   ·exact Or.inr rfl
theorem Ju (M:MV) (addr size x:Int):(aC M addr size 2 x).2.2=0\/∃ c:Nat,c<14/\(aC M addr size 2 x).2.2=c+16:=by
 unfold aC;split;·exact Or.inr ⟨4,ab,rfl⟩
 ·unfold wP;split
  ·rcases yg M.ram M.ram.length M.cs (fR M.cs M.pr 2) addr 2 with e|e|e;·refine Or.inr ⟨0,ab,?_⟩;show wrap64 ((bW M.ram M.ram.length M.cs (fR M.cs M.pr 2) addr 2).code+16)=_;rw [e];unfold wrap64;decide
   ·refine Or.inr ⟨13,ab,?_⟩;show wrap64 ((bW M.ram M.ram.length M.cs (fR M.cs M.pr 2) addr 2).code+16)=_;rw [e];unfold wrap64;decide
   ·refine Or.inr ⟨5,ab,?_⟩;show wrap64 ((bW M.ram M.ram.length M.cs (fR M.cs M.pr 2) addr 2).code+16)=_;rw [e];unfold wrap64;decide
  ·split;·exact Or.inr ⟨5,ab,rfl⟩
   ·refine (Mz _ _ _ _).imp id λe=>⟨5,ab,e⟩
theorem zJ {M:MV} {addr size x c:Int} (a:(aC M addr size 2 x).2.2=c) (hn:(c != 0)=true):IntKind.i64.wrap (c-16)=(((c-16).toNat:Nat):Int)/\IntKind.i64.wrap ((((c-16).toNat:Nat):Int)+2)=(((c-16).toNat+2:Nat):Int)/\(c-16).toNat+2<16:=by
 have h:=Ju M addr size x;rw [a] at h;rcases h with h|⟨d,b,e⟩;·rw [h] at hn;cases hn
 ·rw [IntKind.wrap_i64,IntKind.wrap_i64];omega
section
variable {B hh r : Nat} {M : MV} {A : MA} {w : World}
theorem Tt (op rd j k imm a b:Int) (K:op=63\/op=74) (L:0<=rd) (O:rd<=31) (ha:U a) (hb:U b) (h:Ht B hh r M A w) (G:Gd M):Calls prog 85 #[.p hh 0,.agg #[.i op,.i rd,.i j,.i k,.i imm],.u a,.u b] w (HR B hh r M A w (hZ M ⟨op,rd,j,k,imm⟩ a b)):=by
 obtain ⟨V,J⟩:∃ V,hZ M ⟨op,rd,j,k,imm⟩ a b=V:=⟨_,rfl⟩;rw [J];obtain ⟨f,q⟩:∃ f,f=bp op:=⟨_,rfl⟩;obtain p|p:=K;all_goals
  have o:=G.acc a f 2 0
  have u:=λW (l:Mp B r M A W)=>fK M A B r a f 2 0 W l G.len G.mw G.ok j1 ab ab ha ⟨bb,bb⟩
  have H:=λc=>jW (M:=M) (addr:=a) (size:=f) (kind:=2) (x:=0) (c:=c)
  have m:(if ((aC M a f 2 0).2.2 != 0)=true then cF (aC M a f 2 0) 0 a else (aT (bZ (cZ (aC M a f 2 0).2.1 a 2) true (cg (aC M a f 2 0).2.1 a 2).addr) rd (ap (8*f) (aC M a f 2 0).1) (Uz.wrap (M.pc+4)),1))=V:=by subst p q;exact J
  clear J
  generalize aC M a f 2 0=X at *
  obtain ⟨y,N,c⟩:=X
  dsimp only at o u H m
  refine bz (S:=Hs r (aM hh r::eD w.heap.size [(#[.i op,.i rd,.i j,.i k,.i imm],69)]) (aq M A)) (args:=[.p hh 0,.agg #[.i op,.i rd,.i j,.i k,.i imm],.u a,.u b]) [(#[.i op,.i rd,.i j,.i k,.i imm],69)] func85 (hn:=ba) (hs:=ba) ?_
  refine aL 0 2 (aL 5 3 ?_)
  refine aN (Hs.eng (dr:=true) (λ_ h=>h.hs)) {} 160 (Hx.start h _) (λP E=>u P E.mp) (hx:=ba) (he:=ba) ?_
  rintro P e W2 E ⟨rfl,C,Q,k2⟩
  refine ⟨_,0,rfl,gm ba,aH (Hs r (aM hh r::eD w.heap.size [(#[.i op,.i rd,.i j,.i k,.i imm],69)]) (aq N C)) (hn:=ba) ?_⟩
  cases s:(c != 0) with
  | true =>
    rw [s,if_pos rfl] at m
    subst m
    exact Hx.last (Hs.eng (dr:=true) (λ_ h=>h.hs)) {eq:=[(53,aj s),(56,dI .i64 (H c rfl s).1)]} 60 (E.step Q k2) (λW l=>dL _ (H c rfl s).2 a l.ht o) (hx:=ba) (he:=ba) (hy:=λ_=>ba)
  | false =>
    rw [s,if_neg bb] at m
    have I:Gd (cZ N a 2):=o.marked _
    have z:=λW (l:Mp B r N C W)=>zv N C B r a 2 W l o.len o.mw o.ok ab ab ha (cg N a 2) rfl
    have d:∀ W,Mp B r N C W->Calls prog 114 #[.p r 0,.slice none 0 0,.u a,.i 2] W λe w'=>e=.returned (.tuple #[.u (cg N a 2).addr,.i (cg N a 2).code])/\Mp B r (cZ N a 2) C w'/\Kx r (aI N C) (aI (cZ N a 2) C) W w':=z
    clear z
    generalize cZ N a 2=g at I d m
    generalize cg N a 2=F at d m
    obtain ⟨n,fc,fm,ft,fe⟩:=F
    dsimp only at d m
    subst m
    refine aN (Hs.eng (dr:=true) (λ_ h=>h.hs)) {eq:=[(53,aj s)]} 60 (E.step Q k2) (λW l=>d W l.mp) (hx:=ba) (he:=ba) ?_
    rintro W3 e W4 h3 ⟨rfl,h4,k4⟩
    refine ⟨_,0,rfl,gm ba,aH (Hs r (aM hh r::eD w.heap.size [(#[.i op,.i rd,.i j,.i k,.i imm],69)]) (aq g C)) (hn:=ba) ?_⟩
    refine ae (Hs.eng (dr:=false) (λ_ h=>h.hs)) {} 60 (h3.step h4 k4) (hret:=ba) (he:=ba) λW5 R=>?_
    refine bJ (hx:=ba) (bE (i:=12) (T:=4) (v:=.bool true) R.mp.row (show 12<14 by decide) ba rfl) (hS:=gm ba) ?_
    have h6:=R.fld (M':=bZ g true g.hd) 12 (.bool true) rfl rfl
    refine aH (Hs r (aM hh r::eD w.heap.size [(#[.i op,.i rd,.i j,.i k,.i imm],69)]) (aq (bZ g true g.hd) C)) (hn:=ba) ?_
    refine ae (Hs.eng (dr:=false) (λ_ h=>h.hs)) {} 60 h6 (hret:=ba) (he:=ba) λW7 Y=>?_
    refine bJ (hx:=ba) (bE (i:=11) (T:=22) (v:=.u n) Y.mp.row (show 11<14 by decide) ba rfl) (hS:=gm ba) ?_
    have Z:=Y.fld (M':=bZ g true n) 11 (.u n) rfl rfl
    refine aH (Hs r (aM hh r::eD w.heap.size [(#[.i op,.i rd,.i j,.i k,.i imm],69)]) (aq (bZ g true n) C)) (hn:=ba) ?_
    have n32:(bZ g true n).x.length=32:=by unfold bZ;exact I.x32
    have n22:(bZ g true n).cs.length=22:=by unfold bZ;exact (ay I.ok).1
    generalize bZ g true n=N3 at Z n32 n22 ⊢
    refine ae (Hs.eng (dr:=false) (λ_ h=>h.hs)) {} 60 Z (hret:=ba) (he:=ba) λW9 h9=>?_
    refine lg 9 (hm:=ba) (hk:=ba) ?_
    refine aN (Hs.eng (dr:=true) (λ_ h=>h.hs)) {} 60 (h9.below (Below.refl _ _).drew) (λW _=>dV y (8*f) j1 j1 W) (hx:=ba) (he:=ba) ?_
    rintro W10 e W11 t ⟨rfl,D⟩
    subst D
    refine ⟨_,0,rfl,λ_=>t.hs,?_⟩
    exact Hx.last (Hs.eng (dr:=true) (λ_ h=>h.hs)) {} 60 t (λW l=>eY rd (ap (8*f) y) _ L O l.ht n32 n22) (hx:=ba) (he:=ba) (hy:=λ_=>ba)
theorem Tu (op rd j k imm a b:Int) (hop:op=64\/op=75) (I:0<=rd) (J:rd<=31) (ha:U a) (hb:U b) (h:Ht B hh r M A w) (P:Gd M):Calls prog 85 #[.p hh 0,.agg #[.i op,.i rd,.i j,.i k,.i imm],.u a,.u b] w (HR B hh r M A w (hZ M ⟨op,rd,j,k,imm⟩ a b)):=by
 obtain ⟨V,hV⟩:∃ V,hZ M ⟨op,rd,j,k,imm⟩ a b=V:=⟨_,rfl⟩;rw [hV];obtain ⟨g,q⟩:∃ g,g=bp op:=⟨_,rfl⟩;obtain p|p:=hop;all_goals
  have R:(g:Int)≠0:=by subst p q;decide
  have a0:a.tmod g=a%((g:Nat):Int):=Int.tmod_eq_emod_of_nonneg ha.1
  have u:Gd (cZ M a 3):=P.marked _
  have Q:(cZ M a 3).pc=M.pc:=rfl
  have l:∀ W,Mp B r M A W->Calls prog 114 #[.p r 0,.slice none 0 0,.u a,.i 3] W λe w'=>e=.returned (.tuple #[.u (cg M a 3).addr,.i (cg M a 3).code])/\Mp B r (cZ M a 3) A w'/\Kx r (aI M A) (aI (cZ M a 3) A) W w':=λW f=>zv M A B r a 3 W f P.len P.mw P.ok ab ab ha (cg M a 3) rfl
  obtain ⟨c,c16,H⟩:∃ c:Nat,c<16/\(cg M a 3).code=c:=lG M.ram M.ram.length M.cs (fR M.cs M.pr 3) a 3
  have o:(if (a%((g:Nat):Int) != 0)=true then (aK M 6 false a,2) else if ((cg M a 3).code != 0)=true then (aK (cZ M a 3) (cg M a 3).code.toNat false a,2) else TU (cZ M a 3) ⟨op,rd,j,k,imm⟩ a b (cg M a 3).addr)=V:=by subst p q;exact hV
  clear hV
  generalize cZ M a 3=N at u l o Q
  generalize cg M a 3=F at l H o
  obtain ⟨pa,fc,fm,ft,fe⟩:=F
  dsimp only at l H o
  subst H
  rw [<- a0] at o
  refine bz (S:=Hs r (aM hh r::eD w.heap.size [(#[.i op,.i rd,.i j,.i k,.i imm],69)]) (aq M A)) (args:=[.p hh 0,.agg #[.i op,.i rd,.i j,.i k,.i imm],.u a,.u b]) [(#[.i op,.i rd,.i j,.i k,.i imm],69)] func85 (hn:=ba) (hs:=ba) ?_
  refine aL 0 2 (aL 5 3 ?_)
  cases hz:(a.tmod g != 0) with
  | true =>
    rw [hz,if_pos rfl] at o
    subst o
    exact Hx.last (Hs.eng (dr:=true) (λ_ h=>h.hs)) {eq:=[(90,aj hz)],ov:=[(89,NC .u64 a g R)]} 160 (Hx.start h _) (λW f=>dL 6 bb a f.ht P) (hx:=ba) (he:=ba) (hy:=λ_=>ba)
  | false =>
  rw [hz,if_neg bb] at o
  refine aN (Hs.eng (dr:=true) (λ_ h=>h.hs)) {eq:=[(90,aj hz)],ov:=[(89,NC .u64 a g R)]} 160 (Hx.start h _) (λW f=>l W f.mp) (hx:=ba) (he:=ba) ?_
  rintro W3 e W4 h3 ⟨rfl,h4,k4⟩
  refine ⟨_,0,rfl,gm ba,aH (Hs r (aM hh r::eD w.heap.size [(#[.i op,.i rd,.i j,.i k,.i imm],69)]) (aq N A)) (hn:=ba) ?_⟩
  have m:=h3.step h4 k4
  cases K:(((c:Nat):Int) != 0) with
  | true =>
    rw [K,if_pos rfl] at o
    subst o
    exact Hx.last (Hs.eng (dr:=true) (λ_ h=>h.hs)) {eq:=[(105,aj K)]} 60 m (λW f=>dL c c16 a f.ht u) (hx:=ba) (he:=ba) (hy:=λ_=>ba)
  | false =>
  rw [K,if_neg bb] at o
  have d:(if (N.hl&&(N.hd==pa))=true then (if ((aC N a g 3 b).2.2 != 0)=true then cF (aC N a g 3 b) 0 a else (aT (bZ (aC N a g 3 b).2.1 false 0) rd 0 (Uz.wrap (N.pc+4)),1)) else (aT (bZ N false 0) rd 1 (Uz.wrap (N.pc+4)),1))=V:=by subst p q;exact o
  clear o
  rw [Q] at d
  have no:(N.hl&&(N.hd==pa))=false->(aT (bZ N false 0) rd 1 (Uz.wrap (M.pc+4)),1)=V:=λhn=>by rw [hn,if_neg bb] at d;exact d
  cases L:N.hl with
  | false =>
    have E:=no (by rw [L];rfl)
    subst E
    refine ae (Hs.eng (dr:=false) (λ_ h=>h.hs)) {eq:=[(105,aj K),(115,aj L)]} 60 m (hret:=ba) (he:=ba) λW5 m=>?_
    refine bJ (hx:=ba) (bE (i:=12) (T:=4) (v:=.bool false) m.mp.row (show 12<14 by decide) ba rfl) (hS:=gm ba) ?_
    have z:=m.fld (M':=bZ N false N.hd) 12 (.bool false) rfl rfl
    refine aH (Hs r (aM hh r::eD w.heap.size [(#[.i op,.i rd,.i j,.i k,.i imm],69)]) (aq (bZ N false N.hd) A)) (hn:=ba) ?_
    refine ae (Hs.eng (dr:=false) (λ_ h=>h.hs)) {} 60 z (hret:=ba) (he:=ba) λW7 s=>?_
    refine bJ (hx:=ba) (bE (i:=11) (T:=22) (v:=.u 0) s.mp.row (show 11<14 by decide) ba rfl) (hS:=gm ba) ?_
    have D:=s.fld (M':=bZ N false 0) 11 (.u 0) rfl rfl
    refine aH (Hs r (aM hh r::eD w.heap.size [(#[.i op,.i rd,.i j,.i k,.i imm],69)]) (aq (bZ N false 0) A)) (hn:=ba) ?_
    have n32:(bZ N false 0).x.length=32:=by unfold bZ;exact u.x32
    have n22:(bZ N false 0).cs.length=22:=by unfold bZ;exact (ay u.ok).1
    generalize bZ N false 0=N3 at D n32 n22 ⊢
    exact Hx.last (Hs.eng (dr:=true) (λ_ h=>h.hs)) {} 60 D (λW f=>eY rd 1 _ I J f.ht n32 n22) (hx:=ba) (he:=ba) (hy:=λ_=>ba)
  | true =>
  cases Z:(N.hd==pa) with
  | false =>
    have E:=no (by rw [L,Z];rfl)
    subst E
    refine ae (Hs.eng (dr:=false) (λ_ h=>h.hs)) {eq:=[(105,aj K),(115,aj L),(122,aj Z)]} 60 m (hret:=ba) (he:=ba) λW5 m=>?_
    refine bJ (hx:=ba) (bE (i:=12) (T:=4) (v:=.bool false) m.mp.row (show 12<14 by decide) ba rfl) (hS:=gm ba) ?_
    have z:=m.fld (M':=bZ N false N.hd) 12 (.bool false) rfl rfl
    refine aH (Hs r (aM hh r::eD w.heap.size [(#[.i op,.i rd,.i j,.i k,.i imm],69)]) (aq (bZ N false N.hd) A)) (hn:=ba) ?_
    refine ae (Hs.eng (dr:=false) (λ_ h=>h.hs)) {} 60 z (hret:=ba) (he:=ba) λW7 s=>?_
    refine bJ (hx:=ba) (bE (i:=11) (T:=22) (v:=.u 0) s.mp.row (show 11<14 by decide) ba rfl) (hS:=gm ba) ?_
    have D:=s.fld (M':=bZ N false 0) 11 (.u 0) rfl rfl
    refine aH (Hs r (aM hh r::eD w.heap.size [(#[.i op,.i rd,.i j,.i k,.i imm],69)]) (aq (bZ N false 0) A)) (hn:=ba) ?_
    have n32:(bZ N false 0).x.length=32:=by unfold bZ;exact u.x32
    have n22:(bZ N false 0).cs.length=22:=by unfold bZ;exact (ay u.ok).1
    generalize bZ N false 0=N3 at D n32 n22 ⊢
    exact Hx.last (Hs.eng (dr:=true) (λ_ h=>h.hs)) {} 60 D (λW f=>eY rd 1 _ I J f.ht n32 n22) (hx:=ba) (he:=ba) (hy:=λ_=>ba)
  | true =>
    clear no
    rw [L,Z,if_pos bb] at d
    have O:=u.acc a g 3 b
    have G:=λW (f:Mp B r N A W)=>fK N A B r a g 3 b W f u.len u.mw u.ok j1 ab ab ha hb
    have Y:=λc=>jW (M:=N) (addr:=a) (size:=g) (kind:=3) (x:=b) (c:=c)
    generalize aC N a g 3 b=X at O G Y d
    obtain ⟨y,t,c2⟩:=X
    dsimp only at O G Y d
    refine aN (Hs.eng (dr:=true) (λ_ h=>h.hs)) {eq:=[(105,aj K),(115,aj L),(122,aj Z)]} 90 m (λW1 h1=>G W1 h1.mp) (hx:=ba) (he:=ba) ?_
    rintro W6 e W7 z ⟨rfl,C,s,k7⟩
    refine ⟨_,0,rfl,gm ba,aH (Hs r (aM hh r::eD w.heap.size [(#[.i op,.i rd,.i j,.i k,.i imm],69)]) (aq t C)) (hn:=ba) ?_⟩
    cases n:(c2 != 0) with
    | true =>
      rw [n,if_pos rfl] at d
      subst d
      exact Hx.last (Hs.eng (dr:=true) (λ_ h=>h.hs)) {eq:=[(137,aj n),(140,dI .i64 (Y c2 rfl n).1)]} 60 (z.step s k7) (λW f=>dL _ (Y c2 rfl n).2 a f.ht O) (hx:=ba) (he:=ba) (hy:=λ_=>ba)
    | false =>
    rw [n,if_neg bb] at d
    subst d
    refine ae (Hs.eng (dr:=false) (λ_ h=>h.hs)) {eq:=[(137,aj n)]} 60 (z.step s k7) (hret:=ba) (he:=ba) λW5 m=>?_
    refine bJ (hx:=ba) (bE (i:=12) (T:=4) (v:=.bool false) m.mp.row (show 12<14 by decide) ba rfl) (hS:=gm ba) ?_
    have z:=m.fld (M':=bZ t false t.hd) 12 (.bool false) rfl rfl
    refine aH (Hs r (aM hh r::eD w.heap.size [(#[.i op,.i rd,.i j,.i k,.i imm],69)]) (aq (bZ t false t.hd) C)) (hn:=ba) ?_
    refine ae (Hs.eng (dr:=false) (λ_ h=>h.hs)) {} 60 z (hret:=ba) (he:=ba) λW7 s=>?_
    refine bJ (hx:=ba) (bE (i:=11) (T:=22) (v:=.u 0) s.mp.row (show 11<14 by decide) ba rfl) (hS:=gm ba) ?_
    have D:=s.fld (M':=bZ t false 0) 11 (.u 0) rfl rfl
    refine aH (Hs r (aM hh r::eD w.heap.size [(#[.i op,.i rd,.i j,.i k,.i imm],69)]) (aq (bZ t false 0) C)) (hn:=ba) ?_
    have n32:(bZ t false 0).x.length=32:=by unfold bZ;exact O.x32
    have n22:(bZ t false 0).cs.length=22:=by unfold bZ;exact (ay O.ok).1
    generalize bZ t false 0=N3 at D n32 n22 ⊢
    exact Hx.last (Hs.eng (dr:=true) (λ_ h=>h.hs)) {} 60 D (λW f=>eY rd 0 _ I J f.ht n32 n22) (hx:=ba) (he:=ba) (hy:=λ_=>ba)
theorem MC (op rd k l imm a b:Int) (sz:Nat) (hs:65<=op/\op<=73/\sz=4\/76<=op/\op<=84/\sz=8) (hr0:0<=rd) (hr1:rd<=31) (ha:U a) (hb:U b) (h:Ht B hh r M A w) (R:Gd M) (K:U (aC (cZ M a 3) a sz 2 0).1) (hV2:∀ y,U y->U (iI op y b)):Calls prog 85 #[.p hh 0,.agg #[.i op,.i rd,.i k,.i l,.i imm],.u a,.u b] w (HR B hh r M A w (hZ M ⟨op,rd,k,l,imm⟩ a b)):=by
 obtain ⟨V,hV⟩:∃ V,hZ M ⟨op,rd,k,l,imm⟩ a b=V:=⟨_,rfl⟩;rw [hV];obtain ⟨v,eK⟩:∃ v,mF op=v:=⟨_,rfl⟩;have eS:bp op=sz:=by unfold bp;split<;>omega
 obtain ⟨u,h2,q,p⟩|⟨u,h2,q,p⟩:(65<=op/\op<=73/\sz=4/\v=op-63)\/(76<=op/\op<=84/\sz=8/\v=op-74):=by rw [<- eK];unfold mF;split<;>omega
 all_goals
  have n:(v==0)=false:=by simp;omega
  have m:(v==1)=false:=by simp;omega
  have eW:(if (a%((sz:Nat):Int) != 0)=true then (aK M 6 false a,2) else if ((cg M a 3).code != 0)=true then (aK (cZ M a 3) (cg M a 3).code.toNat false a,2) else (if ((aC (cZ M a 3) a sz 2 0).2.2 != 0)=true then cF (aC (cZ M a 3) a sz 2 0) 2 a else if ((aC (aC (cZ M a 3) a sz 2 0).2.1 a sz 3 (iI op (aC (cZ M a 3) a sz 2 0).1 b)).2.2 != 0)=true then cF (aC (aC (cZ M a 3) a sz 2 0).2.1 a sz 3 (iI op (aC (cZ M a 3) a sz 2 0).1 b)) 0 a else (aT (aC (aC (cZ M a 3) a sz 2 0).2.1 a sz 3 (iI op (aC (cZ M a 3) a sz 2 0).1 b)).2.1 rd (ap (8*sz) (aC (cZ M a 3) a sz 2 0).1) (Uz.wrap ((cZ M a 3).pc+4)),1)))=V:=by
   rw [<- hV];unfold hZ Pi;dsimp only;rw [eK,n,m,eS,if_neg (show ¬ (false=true) by decide),if_neg (show ¬ (false=true) by decide)]
  have G:IntKind.i64.wrap (op-63)=op-63:=by rw [IntKind.wrap_i64];omega
  have H:IntKind.i64.wrap (op-63-11)=op-74:=by rw [IntKind.wrap_i64];omega
  have I:decide (11<=op-63)=decide (sz=8):=by rw [decide_eq_decide];omega
  have Y:(sz:Int)≠0:=by subst p q;decide
  have a0:a.tmod sz=a%((sz:Nat):Int):=Int.tmod_eq_emod_of_nonneg ha.1
  have t:Gd (cZ M a 3):=R.marked _
  have T:(cZ M a 3).pc=M.pc:=rfl
  have i:∀ W,Mp B r M A W->Calls prog 114 #[.p r 0,.slice none 0 0,.u a,.i 3] W λe w'=>e=.returned (.tuple #[.u (cg M a 3).addr,.i (cg M a 3).code])/\Mp B r (cZ M a 3) A w'/\Kx r (aI M A) (aI (cZ M a 3) A) W w':=λW f=>zv M A B r a 3 W f R.len R.mw R.ok ab ab ha (cg M a 3) rfl
  obtain ⟨c,c16,o⟩:∃ c:Nat,c<16/\(cg M a 3).code=c:=lG M.ram M.ram.length M.cs (fR M.cs M.pr 3) a 3
  have d:(if (a%((sz:Nat):Int) != 0)=true then (aK M 6 false a,2) else if ((cg M a 3).code != 0)=true then (aK (cZ M a 3) (cg M a 3).code.toNat false a,2) else (if ((aC (cZ M a 3) a sz 2 0).2.2 != 0)=true then cF (aC (cZ M a 3) a sz 2 0) 2 a else if ((aC (aC (cZ M a 3) a sz 2 0).2.1 a sz 3 (iI op (aC (cZ M a 3) a sz 2 0).1 b)).2.2 != 0)=true then cF (aC (aC (cZ M a 3) a sz 2 0).2.1 a sz 3 (iI op (aC (cZ M a 3) a sz 2 0).1 b)) 0 a else (aT (aC (aC (cZ M a 3) a sz 2 0).2.1 a sz 3 (iI op (aC (cZ M a 3) a sz 2 0).1 b)).2.1 rd (ap (8*sz) (aC (cZ M a 3) a sz 2 0).1) (Uz.wrap ((cZ M a 3).pc+4)),1)))=V:=by exact eW
  clear hV
  generalize cZ M a 3=N at K t i d T
  generalize cg M a 3=F at i o d
  obtain ⟨pa,fc,fm,ft,fe⟩:=F
  dsimp only at i o d
  subst o
  rw [<- a0] at d
  refine bz (S:=Hs r (aM hh r::eD w.heap.size [(#[.i op,.i rd,.i k,.i l,.i imm],69)]) (aq M A)) (args:=[.p hh 0,.agg #[.i op,.i rd,.i k,.i l,.i imm],.u a,.u b]) [(#[.i op,.i rd,.i k,.i l,.i imm],69)] func85 (hn:=ba) (hs:=ba) ?_
  refine aL 0 2 (aL 5 3 ?_)
  cases hz:(a.tmod sz != 0) with
  | true =>
    rw [hz,if_pos rfl] at d
    subst d
    exact Hx.last (Hs.eng (dr:=true) (λ_ h=>h.hs)) {eq:=[(29,dI .i64 G),(31,aj I),(33,dI .i64 H),(40,aj n),(90,aj hz)],ov:=[(89,NC .u64 a sz Y)]} 160 (Hx.start h _) (λW f=>dL 6 bb a f.ht R) (hx:=ba) (he:=ba) (hy:=λ_=>ba)
  | false =>
  rw [hz,if_neg bb] at d
  refine aN (Hs.eng (dr:=true) (λ_ h=>h.hs)) {eq:=[(29,dI .i64 G),(31,aj I),(33,dI .i64 H),(40,aj n),(90,aj hz)],ov:=[(89,NC .u64 a sz Y)]} 160 (Hx.start h _) (λW f=>i W f.mp) (hx:=ba) (he:=ba) ?_
  rintro W3 e W4 h3 ⟨rfl,h4,k4⟩
  refine ⟨_,0,rfl,gm ba,aH (Hs r (aM hh r::eD w.heap.size [(#[.i op,.i rd,.i k,.i l,.i imm],69)]) (aq N A)) (hn:=ba) ?_⟩
  have h5:=h3.step h4 k4
  cases hc:(((c:Nat):Int) != 0) with
  | true =>
    rw [hc,if_pos rfl] at d
    subst d
    exact Hx.last (Hs.eng (dr:=true) (λ_ h=>h.hs)) {eq:=[(105,aj hc)]} 60 h5 (λW f=>dL c c16 a f.ht t) (hx:=ba) (he:=ba) (hy:=λ_=>ba)
  | false =>
  rw [hc,if_neg bb] at d
  rw [T] at d
  have s:=t.acc a sz 2 0
  have O:=λW (f:Mp B r N A W)=>fK N A B r a sz 2 0 W f t.len t.mw t.ok j1 ab ab ha ⟨bb,bb⟩
  have ec:=λc=>zJ (M:=N) (addr:=a) (size:=sz) (x:=0) (c:=c)
  generalize aC N a sz 2 0=X at *
  obtain ⟨y,D,c2⟩:=X
  dsimp only at s O ec d K
  have hv:=hV2 y K
  refine aN (Hs.eng (dr:=true) (λ_ h=>h.hs)) {eq:=[(105,aj hc),(111,aj m)]} 90 h5 (λE u=>O E u.mp) (hx:=ba) (he:=ba) ?_
  rintro W6 e W7 h6 ⟨rfl,C,h7,k7⟩
  refine ⟨_,0,rfl,gm ba,aH (Hs r (aM hh r::eD w.heap.size [(#[.i op,.i rd,.i k,.i l,.i imm],69)]) (aq D C)) (hn:=ba) ?_⟩
  cases g:(c2 != 0) with
  | true =>
    rw [g,if_pos rfl] at d
    subst d
    exact Hx.last (Hs.eng (dr:=true) (λ_ h=>h.hs)) {eq:=[(167,aj g),(170,dI .i64 (ec c2 rfl g).1),(171,dI .i64 (ec c2 rfl g).2.1)]} 60 (h6.step h7 k7) (λW f=>dL _ (ec c2 rfl g).2.2 a f.ht s) (hx:=ba) (he:=ba) (hy:=λ_=>ba)
  | false =>
  rw [g,if_neg bb] at d
  have gb:=s.acc a sz 3 (iI op y b)
  have Q:=λW (f:Mp B r D C W)=>fK D C B r a sz 3 (iI op y b) W f s.len s.mw s.ok j1 ab ab ha hv
  have ed:=λc=>jW (M:=D) (addr:=a) (size:=sz) (kind:=3) (x:=iI op y b) (c:=c)
  have hAm:=λW=>Cf op y b K.1 K.2 hb.1 hb.2 W
  generalize aC D a sz 3 (iI op y b)=X at *
  generalize iI op y b=z at *
  generalize rE op=zb at *
  obtain ⟨y2,N4,c3⟩:=X
  dsimp only at gb Q ed d
  refine aN (Hs.eng (dr:=true) (λ_ h=>h.hs)) {eq:=[(167,aj g)]} 60 (h6.step h7 k7) (λE u=>hAm E) (hx:=ba) (he:=ba) ?_
  rintro W8 e W9 h8 ⟨rfl,hw9⟩
  subst hw9
  refine ⟨_,0,rfl,gm ba,?_⟩
  refine aN (Hs.eng (dr:=true) (λ_ h=>h.hs)) {} 60 h8 (λE u=>Q E u.mp) (hx:=ba) (he:=ba) ?_
  rintro Wa e Wb L ⟨rfl,C2,P,kb⟩
  refine ⟨_,0,rfl,gm ba,aH (Hs r (aM hh r::eD w.heap.size [(#[.i op,.i rd,.i k,.i l,.i imm],69)]) (aq N4 C2)) (hn:=ba) ?_⟩
  cases j:(c3 != 0) with
  | true =>
    rw [j,if_pos rfl] at d
    subst d
    exact Hx.last (Hs.eng (dr:=true) (λ_ h=>h.hs)) {eq:=[(195,aj j),(198,dI .i64 (ed c3 rfl j).1)]} 60 (L.step P kb) (λW f=>dL _ (ed c3 rfl j).2 a f.ht gb) (hx:=ba) (he:=ba) (hy:=λ_=>ba)
  | false =>
    rw [j,if_neg bb] at d
    subst d
    refine ae (Hs.eng (dr:=false) (λ_ h=>h.hs)) {eq:=[(195,aj j)]} 60 (L.step P kb) (hret:=ba) (he:=ba) λWc hc9=>?_
    refine lg 9 (hm:=ba) (hk:=ba) ?_
    refine aN (Hs.eng (dr:=true) (λ_ h=>h.hs)) {} 60 (hc9.below (Below.refl _ _).drew) (λW _=>dV y (8*sz) j1 j1 W) (hx:=ba) (he:=ba) ?_
    rintro W10 e W11 J ⟨rfl,Z⟩
    subst Z
    refine ⟨_,0,rfl,λ_=>J.hs,?_⟩
    exact Hx.last (Hs.eng (dr:=true) (λ_ h=>h.hs)) {} 60 J (λW f=>eY rd (ap (8*sz) y) _ hr0 hr1 f.ht gb.x32 (ay gb.ok).1) (hx:=ba) (he:=ba) (hy:=λ_=>ba)
end
def Ud (D:DV):Prop:=U D.t/\U D.cm
theorem sT {x:Int} (a : -9223372036854775808<=x) (b:x<9223372036854775808):(Lit.int .i64 x).wf=true:=by simp [Lit.wf,IntKind.min,IntKind.max,IntKind.signed,IntKind.bits];omega
theorem kO:U 0:=⟨bb,bb⟩
theorem EN {zs:List Int} (h:∀ y ∈ zs,(Lit.int .u8 y).wf=true) (i:Nat):0<=zs.getD i 0/\zs.getD i 0<=255:=by
 by_cases a:i<zs.length;·exact Gg (h (zs.getD i 0) (by simp [List.getD,List.getElem?_eq_getElem a]))
 ·simp [List.getD,List.getElem?_eq_none (Nat.le_of_not_lt a)]
theorem Uo {D:DV} (h:Ud D) (hb:dH D) (k:Nat):U (jc D k).1:=by
 unfold jc;split;·show U (ge D.so);cases D.so<;>exact ⟨bb,bb⟩
 ·exact h.2
 ·exact h.1
 ·have:=EN hb.1 0;exact ⟨this.1,by show D.xs.getD 0 0<_;omega⟩
 ·exact aP _
 ·exact aP _
 ·exact kO
theorem Up {M:MV} (h:Gd M) (hd:Ud M.d) (pa:Int) (n:Nat) (hn:n<=8) (kind x:Int):U (qU M pa n kind x).1:=by
 unfold qU;split
 ·split;·exact kO
  ·exact tV M.ram (EN h.mw.ram) _ _ (by rw [Int.toNat_natCast];exact hn)
 ·split
  ·split;·exact Uo hd ⟨h.mw.xs,h.mw.ys⟩ _
   ·exact kO
  ·split;·split<;>exact kO
   ·exact kO
theorem sU {M:MV} (h:Gd M) (hd:Ud M.d) (a:Int) (n:Nat) (hn:n<=8) (kind x:Int):U (aC M a n kind x).1:=by
 unfold aC;split;·exact kO
 ·unfold wP;split;·exact kO
  ·split;·exact kO
   ·exact Up (h.marked _) hd _ n hn kind x
theorem Tv {D:DV} (h:Ud D) (k:Nat):Ud (jc D k).2.1:=by
 unfold jc;split;·exact h
 ·exact h
 ·exact h
 ·exact ⟨h.1,h.2⟩
 ·exact h
 ·exact h
 ·exact ⟨kO,kO⟩
theorem Tw {D:DV} (h:Ud D) {x:Int} (hx:U x) (addr size:Int):Ud (fI D x (gj addr size)).1:=by
 have a:=Fl D x;have d:=Fp D x;have f:=Fq D x;have b:(fI D x 3).1.t=D.t/\(fI D x 3).1.cm=D.cm:=by
  by_cases c:D.ys.length<4096;·rw [yL _ _ c];exact a06
  ·rw [yM _ _ c];exact a06
 obtain ⟨q,g⟩:∃ q,fI D x 4=(⟨D.t,D.cm,D.so,D.xs,D.ys,q⟩,true):=⟨_,Fs D x⟩;have i:=Ft D x;have j:=Fu D x;generalize (bits .and .u64 x 1==1)=r at a;refine jD addr size (λk=>Ud (fI D x k).1) (λ_ _=>?_) (λ_ _=>?_) (λ_ _=>?_) (λ_ _=>?_) (λ_ _=>?_) (λ_ _=>?_) (λ_ _ _ _ _ _=>?_);·show Ud (fI D x 0).1;rw [a];exact ⟨h.1,h.2⟩
 ·show Ud (fI D x 1).1;rw [d];exact ⟨h.1,hx⟩
 ·show Ud (fI D x 2).1;rw [f];exact ⟨hx,h.2⟩
 ·show Ud (fI D x 3).1;unfold Ud;rw [b.1,b.2];exact h
 ·have e:(fI D x 4).1=⟨D.t,D.cm,D.so,D.xs,D.ys,q⟩:=congrArg Prod.fst g;exact e ▸ (⟨h.1,h.2⟩:Ud ⟨D.t,D.cm,D.so,D.xs,D.ys,q⟩)
 ·show Ud (fI D x 5).1;rw [i];exact h
 ·show Ud (fI D x 6).1;rw [j];exact ⟨kO,kO⟩
theorem MD {M:MV} (h:Ud M.d) (pa:Int):Ud (mB M pa).d:=by unfold mB;split<;>exact h
theorem zK {M:MV} (h:Ud M.d) (a n kind:Int) {x:Int} (hx:U x):Ud (aC M a n kind x).2.1.d:=by
 have key:∀ (N:MV) (b:Int),Ud N.d->Ud (qU N b n kind x).2.1.d:=by
  intro N b c;unfold qU;split
  ·split;·have k:∀ R,Ud (mB (bL N R) b).d:=λR=>MD (M:=bL N R) c b;exact k _
   ·exact c
  ·split
   ·split;·have k:∀ D,Ud D->Ud (cC (cP N D)).d:=λD d=>d;exact k _ (Tv c _)
    ·exact c
   ·split
    ·split;·have k:∀ D,Ud D->Ud (mB (cC (cP N D)) b).d:=λD d=>MD (M:=cC (cP N D)) d b;exact k _ (Tw c hx _ _)
     ·exact c
    ·exact c
 unfold aC;split;·exact h
 ·unfold wP;split;·exact h
  ·split;·exact h
   ·have k:∀ R b,Ud (qU (bL M R) b n kind x).2.1.d:=λR b=>key (bL M R) b h;exact k _ _
theorem Uq (f:MF) {a b:Int} (c:U a) (hb:U b):U (f.v a b):=by
 cases f<;>unfold MF.v<;>dsimp only;·exact hb
 ·exact aP _
 ·exact af _ _ _
 ·exact af _ _ _
 ·exact af _ _ _
 all_goals (split<;>assumption)
theorem GD (op:Int) {a b:Int} (c:U a) (hb:U b):U (iI op a b):=by
 unfold iI;split;·exact Uq _ c hb
 ·split;·generalize (mi (op-65).toNat).v (ap 32 a) (ap 32 b)=y;unfold U;omega
  ·exact kO
section
variable {B hh r : Nat} {M : MV} {A : MA} {w : World}
theorem MG (i:Ins) (a b:Int) (n:63<=i.op) (o:i.op<=84) (c:0<=i.rd) (d:i.rd<=31) (j:U a) (hb:U b) (h:Ht B hh r M A w) (g:Gd M) (hd:Ud M.d):Calls prog 85 #[.p hh 0,.agg #[.i i.op,.i i.rd,.i i.a,.i i.b,.i i.imm],.u a,.u b] w (HR B hh r M A w (hZ M i a b)):=by
 obtain ⟨f,m,k,l,e⟩:=i;dsimp only at n o c d ⊢;by_cases q:f=63;·subst q;exact Tt _ m k l e a b (.inl rfl) c d j hb h g
 by_cases e2:f=64;·subst e2;exact Tu _ m k l e a b (.inl rfl) c d j hb h g
 by_cases e3:f<=73;·exact MC f m k l e a b 4 ab c d j hb h g (sU (g.marked _) hd a 4 ab 2 0) (λy p=>GD f p hb)
 by_cases e4:f=74;·subst e4;exact Tt _ m k l e a b (.inr rfl) c d j hb h g
 by_cases e5:f=75;·subst e5;exact Tu _ m k l e a b (.inr rfl) c d j hb h g
 exact MC f m k l e a b 8 ab c d j hb h g (sU (g.marked _) hd a 8 ab 2 0) (λy p=>GD f p hb)
end
end Go.Proofs.YtjifdmoehfbihaaGreatDoor
