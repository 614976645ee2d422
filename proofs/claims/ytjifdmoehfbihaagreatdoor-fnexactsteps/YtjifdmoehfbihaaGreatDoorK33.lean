/- Own lemmas. -/
import Derived.Test.YtjifdmoehfbihaaGreatDoorAut
import Derived.Test.YtjifdmoehfbihaaGreatDoorK31
import Derived.Test.YtjifdmoehfbihaaGreatDoorK32
set_option maxRecDepth 100000
namespace Go.Proofs.YtjifdmoehfbihaaGreatDoor
open Go.RowKit Tryz
open IntKind renaming u64->Uz
set_option linter.unusedVariables false
theorem Kt (M:MV) (pa size x:Int):(rv M pa size 2 x).2.2=0\/(rv M pa size 2 x).2.2=21:=by
 unfold rv;split;·split<;>exact Or.inl rfl
 ·split
  ·split;·exact Or.inl rfl
   ·exact Or.inr rfl
  ·split
   ·split;·exact Or.inl rfl
    ·exact Or.inr rfl
   ·exact Or.inr rfl
theorem GX (M:MV) (addr size x:Int):(aC M addr size 2 x).2.2=0\/∃ c:Nat,c<14/\(aC M addr size 2 x).2.2=c+16:=by
 unfold aC;split;·exact Or.inr ⟨4,al,rfl⟩
 ·unfold xL;split
  ·rcases wM M.ram M.ram.length M.cs (eC M.cs M.pr 2) addr 2 with e|e|e;·refine Or.inr ⟨0,al,?_⟩;show wrap64 ((bO M.ram M.ram.length M.cs (eC M.cs M.pr 2) addr 2).code+16)=_;rw [e];unfold wrap64;decide
   ·refine Or.inr ⟨13,al,?_⟩;show wrap64 ((bO M.ram M.ram.length M.cs (eC M.cs M.pr 2) addr 2).code+16)=_;rw [e];unfold wrap64;decide
   ·refine Or.inr ⟨5,al,?_⟩;show wrap64 ((bO M.ram M.ram.length M.cs (eC M.cs M.pr 2) addr 2).code+16)=_;rw [e];unfold wrap64;decide
  ·split;·exact Or.inr ⟨5,al,rfl⟩
   ·refine (Kt _ _ _ _).imp id λe=>⟨5,al,e⟩
theorem yv {M:MV} {addr size x c:Int} (a:(aC M addr size 2 x).2.2=c) (hn:(c != 0)=true):IntKind.i64.wrap (c-16)=(((c-16).toNat:Nat):Int)/\IntKind.i64.wrap ((((c-16).toNat:Nat):Int)+2)=(((c-16).toNat+2:Nat):Int)/\(c-16).toNat+2<16:=by
 have h:=GX M addr size x;rw [a] at h;rcases h with h|⟨d,b,e⟩;·rw [h] at hn;cases hn
 ·rw [IntKind.wrap_i64,IntKind.wrap_i64];omega
section
variable {B hh r : Nat} {M : MV} {A : MA} {w : World}
theorem PU (op rd j k imm a b:Int) (K:op=63\/op=74) (L:0<=rd) (O:rd<=31) (ha:U a) (hb:U b) (h:Ht B hh r M A w) (G:Gd M):Calls prog 85 #[.p hh 0,.agg #[.i op,.i rd,.i j,.i k,.i imm],.u a,.u b] w (HR B hh r M A w (ix M ⟨op,rd,j,k,imm⟩ a b)):=by
 obtain ⟨V,J⟩:∃ V,ix M ⟨op,rd,j,k,imm⟩ a b=V:=⟨_,rfl⟩;rw [J];obtain ⟨f,q⟩:∃ f,f=aZ op:=⟨_,rfl⟩;obtain p|p:=K;all_goals
  have o:=G.acc a f 2 0
  have u:=λW (l:Mp B r M A W)=>fu M A B r a f 2 0 W l G.len G.mw G.ok ho al al ha ⟨a5,a5⟩
  have H:=λc=>jA (M:=M) (addr:=a) (size:=f) (kind:=2) (x:=0) (c:=c)
  have m:(if ((aC M a f 2 0).2.2 != 0)=true then cw (aC M a f 2 0) 0 a else (aP (bT (cR (aC M a f 2 0).2.1 a 2) true (bU (aC M a f 2 0).2.1 a 2).addr) rd (aq (8*f) (aC M a f 2 0).1) (Uz.wrap (M.pc+4)),1))=V:=by subst p q;exact J
  clear J
  generalize aC M a f 2 0=X at *
  obtain ⟨y,N,c⟩:=X
  dsimp only at o u H m
  refine cn (S:=Hs r (aK hh r::dW w.heap.size [(#[.i op,.i rd,.i j,.i k,.i imm],69)]) (aO M A)) (args:=[.p hh 0,.agg #[.i op,.i rd,.i j,.i k,.i imm],.u a,.u b]) [(#[.i op,.i rd,.i j,.i k,.i imm],69)] func85 (hn:=a4) (hs:=a4) ?_
  refine aL 0 2 (aL 5 3 ?_)
  refine aW (Hs.eng (dr:=true) (λ_ h=>h.hs)) {} 160 (Hx.start h _) (λP E=>u P E.mp) (hx:=a4) (he:=a4) ?_
  rintro P e W2 E ⟨rfl,C,Q,k2⟩
  refine ⟨_,0,rfl,gp a4,aR (Hs r (aK hh r::dW w.heap.size [(#[.i op,.i rd,.i j,.i k,.i imm],69)]) (aO N C)) (hn:=a4) ?_⟩
  cases s:(c != 0) with
  | true =>
    rw [s,if_pos rfl] at m
    subst m
    exact Hx.last (Hs.eng (dr:=true) (λ_ h=>h.hs)) {eq:=[(53,au s),(56,ei .i64 (H c rfl s).1)]} 60 (E.step Q k2) (λW l=>dD _ (H c rfl s).2 a l.ht o) (hx:=a4) (he:=a4) (hy:=λ_=>a4)
  | false =>
    rw [s,if_neg a5] at m
    have I:Gd (cR N a 2):=o.marked _
    have z:=λW (l:Mp B r N C W)=>qD N C B r a 2 W l o.len o.mw o.ok al al ha (bU N a 2) rfl
    have d:∀ W,Mp B r N C W->Calls prog 114 #[.p r 0,.slice none 0 0,.u a,.i 2] W λe w'=>e=.returned (.tuple #[.u (bU N a 2).addr,.i (bU N a 2).code])/\Mp B r (cR N a 2) C w'/\Kx r (aH N C) (aH (cR N a 2) C) W w':=z
    clear z
    generalize cR N a 2=g at I d m
    generalize bU N a 2=F at d m
    obtain ⟨n,fc,fm,ft,fe⟩:=F
    dsimp only at d m
    subst m
    refine aW (Hs.eng (dr:=true) (λ_ h=>h.hs)) {eq:=[(53,au s)]} 60 (E.step Q k2) (λW l=>d W l.mp) (hx:=a4) (he:=a4) ?_
    rintro W3 e W4 h3 ⟨rfl,h4,k4⟩
    refine ⟨_,0,rfl,gp a4,aR (Hs r (aK hh r::dW w.heap.size [(#[.i op,.i rd,.i j,.i k,.i imm],69)]) (aO g C)) (hn:=a4) ?_⟩
    refine af (Hs.eng (dr:=false) (λ_ h=>h.hs)) {} 60 (h3.step h4 k4) (hret:=a4) (he:=a4) λW5 R=>?_
    refine bM (hx:=a4) (dQ (i:=12) (T:=4) (v:=.bool true) R.mp.row (show 12<14 by decide) a4 rfl) (hS:=gp a4) ?_
    have h6:=R.fld (M':=bT g true g.hd) 12 (.bool true) rfl rfl
    refine aR (Hs r (aK hh r::dW w.heap.size [(#[.i op,.i rd,.i j,.i k,.i imm],69)]) (aO (bT g true g.hd) C)) (hn:=a4) ?_
    refine af (Hs.eng (dr:=false) (λ_ h=>h.hs)) {} 60 h6 (hret:=a4) (he:=a4) λW7 Y=>?_
    refine bM (hx:=a4) (dQ (i:=11) (T:=22) (v:=.u n) Y.mp.row (show 11<14 by decide) a4 rfl) (hS:=gp a4) ?_
    have Z:=Y.fld (M':=bT g true n) 11 (.u n) rfl rfl
    refine aR (Hs r (aK hh r::dW w.heap.size [(#[.i op,.i rd,.i j,.i k,.i imm],69)]) (aO (bT g true n) C)) (hn:=a4) ?_
    have n32:(bT g true n).x.length=32:=by unfold bT;exact I.x32
    have n22:(bT g true n).cs.length=22:=by unfold bT;exact (aF I.ok).1
    generalize bT g true n=N3 at Z n32 n22 ⊢
    refine af (Hs.eng (dr:=false) (λ_ h=>h.hs)) {} 60 Z (hret:=a4) (he:=a4) λW9 h9=>?_
    refine lS 9 (hm:=a4) (hk:=a4) ?_
    refine aW (Hs.eng (dr:=true) (λ_ h=>h.hs)) {} 60 (h9.below (Below.refl _ _).drew) (λW _=>dL y (8*f) ho ho W) (hx:=a4) (he:=a4) ?_
    rintro W10 e W11 t ⟨rfl,D⟩
    subst D
    refine ⟨_,0,rfl,λ_=>t.hs,?_⟩
    exact Hx.last (Hs.eng (dr:=true) (λ_ h=>h.hs)) {} 60 t (λW l=>eE rd (aq (8*f) y) _ L O l.ht n32 n22) (hx:=a4) (he:=a4) (hy:=λ_=>a4)
theorem PV (op rd j k imm a b:Int) (hop:op=64\/op=75) (I:0<=rd) (J:rd<=31) (ha:U a) (hb:U b) (h:Ht B hh r M A w) (P:Gd M):Calls prog 85 #[.p hh 0,.agg #[.i op,.i rd,.i j,.i k,.i imm],.u a,.u b] w (HR B hh r M A w (ix M ⟨op,rd,j,k,imm⟩ a b)):=by
 obtain ⟨V,hV⟩:∃ V,ix M ⟨op,rd,j,k,imm⟩ a b=V:=⟨_,rfl⟩;rw [hV];obtain ⟨g,q⟩:∃ g,g=aZ op:=⟨_,rfl⟩;obtain p|p:=hop;all_goals
  have R:(g:Int)≠0:=by subst p q;decide
  have a0:a.tmod g=a%((g:Nat):Int):=Int.tmod_eq_emod_of_nonneg ha.1
  have u:Gd (cR M a 3):=P.marked _
  have Q:(cR M a 3).pc=M.pc:=rfl
  have l:∀ W,Mp B r M A W->Calls prog 114 #[.p r 0,.slice none 0 0,.u a,.i 3] W λe w'=>e=.returned (.tuple #[.u (bU M a 3).addr,.i (bU M a 3).code])/\Mp B r (cR M a 3) A w'/\Kx r (aH M A) (aH (cR M a 3) A) W w':=λW f=>qD M A B r a 3 W f P.len P.mw P.ok al al ha (bU M a 3) rfl
  obtain ⟨c,c16,H⟩:∃ c:Nat,c<16/\(bU M a 3).code=c:=kL M.ram M.ram.length M.cs (eC M.cs M.pr 3) a 3
  have o:(if (a%((g:Nat):Int) != 0)=true then (aJ M 6 false a,2) else if ((bU M a 3).code != 0)=true then (aJ (cR M a 3) (bU M a 3).code.toNat false a,2) else Qt (cR M a 3) ⟨op,rd,j,k,imm⟩ a b (bU M a 3).addr)=V:=by subst p q;exact hV
  clear hV
  generalize cR M a 3=N at u l o Q
  generalize bU M a 3=F at l H o
  obtain ⟨pa,fc,fm,ft,fe⟩:=F
  dsimp only at l H o
  subst H
  rw [<- a0] at o
  refine cn (S:=Hs r (aK hh r::dW w.heap.size [(#[.i op,.i rd,.i j,.i k,.i imm],69)]) (aO M A)) (args:=[.p hh 0,.agg #[.i op,.i rd,.i j,.i k,.i imm],.u a,.u b]) [(#[.i op,.i rd,.i j,.i k,.i imm],69)] func85 (hn:=a4) (hs:=a4) ?_
  refine aL 0 2 (aL 5 3 ?_)
  cases hz:(a.tmod g != 0) with
  | true =>
    rw [hz,if_pos rfl] at o
    subst o
    exact Hx.last (Hs.eng (dr:=true) (λ_ h=>h.hs)) {eq:=[(90,au hz)],ov:=[(89,Nf .u64 a g R)]} 160 (Hx.start h _) (λW f=>dD 6 a5 a f.ht P) (hx:=a4) (he:=a4) (hy:=λ_=>a4)
  | false =>
  rw [hz,if_neg a5] at o
  refine aW (Hs.eng (dr:=true) (λ_ h=>h.hs)) {eq:=[(90,au hz)],ov:=[(89,Nf .u64 a g R)]} 160 (Hx.start h _) (λW f=>l W f.mp) (hx:=a4) (he:=a4) ?_
  rintro W3 e W4 h3 ⟨rfl,h4,k4⟩
  refine ⟨_,0,rfl,gp a4,aR (Hs r (aK hh r::dW w.heap.size [(#[.i op,.i rd,.i j,.i k,.i imm],69)]) (aO N A)) (hn:=a4) ?_⟩
  have m:=h3.step h4 k4
  cases K:(((c:Nat):Int) != 0) with
  | true =>
    rw [K,if_pos rfl] at o
    subst o
    exact Hx.last (Hs.eng (dr:=true) (λ_ h=>h.hs)) {eq:=[(105,au K)]} 60 m (λW f=>dD c c16 a f.ht u) (hx:=a4) (he:=a4) (hy:=λ_=>a4)
  | false =>
  rw [K,if_neg a5] at o
  have d:(if (N.hl&&(N.hd==pa))=true then (if ((aC N a g 3 b).2.2 != 0)=true then cw (aC N a g 3 b) 0 a else (aP (bT (aC N a g 3 b).2.1 false 0) rd 0 (Uz.wrap (N.pc+4)),1)) else (aP (bT N false 0) rd 1 (Uz.wrap (N.pc+4)),1))=V:=by subst p q;exact o
  clear o
  rw [Q] at d
  have no:(N.hl&&(N.hd==pa))=false->(aP (bT N false 0) rd 1 (Uz.wrap (M.pc+4)),1)=V:=λhn=>by rw [hn,if_neg a5] at d;exact d
  cases L:N.hl with
  | false =>
    have E:=no (by rw [L];rfl)
    subst E
    refine af (Hs.eng (dr:=false) (λ_ h=>h.hs)) {eq:=[(105,au K),(115,au L)]} 60 m (hret:=a4) (he:=a4) λW5 m=>?_
    refine bM (hx:=a4) (dQ (i:=12) (T:=4) (v:=.bool false) m.mp.row (show 12<14 by decide) a4 rfl) (hS:=gp a4) ?_
    have z:=m.fld (M':=bT N false N.hd) 12 (.bool false) rfl rfl
    refine aR (Hs r (aK hh r::dW w.heap.size [(#[.i op,.i rd,.i j,.i k,.i imm],69)]) (aO (bT N false N.hd) A)) (hn:=a4) ?_
    refine af (Hs.eng (dr:=false) (λ_ h=>h.hs)) {} 60 z (hret:=a4) (he:=a4) λW7 s=>?_
    refine bM (hx:=a4) (dQ (i:=11) (T:=22) (v:=.u 0) s.mp.row (show 11<14 by decide) a4 rfl) (hS:=gp a4) ?_
    have D:=s.fld (M':=bT N false 0) 11 (.u 0) rfl rfl
    refine aR (Hs r (aK hh r::dW w.heap.size [(#[.i op,.i rd,.i j,.i k,.i imm],69)]) (aO (bT N false 0) A)) (hn:=a4) ?_
    have n32:(bT N false 0).x.length=32:=by unfold bT;exact u.x32
    have n22:(bT N false 0).cs.length=22:=by unfold bT;exact (aF u.ok).1
    generalize bT N false 0=N3 at D n32 n22 ⊢
    exact Hx.last (Hs.eng (dr:=true) (λ_ h=>h.hs)) {} 60 D (λW f=>eE rd 1 _ I J f.ht n32 n22) (hx:=a4) (he:=a4) (hy:=λ_=>a4)
  | true =>
  cases Z:(N.hd==pa) with
  | false =>
    have E:=no (by rw [L,Z];rfl)
    subst E
    refine af (Hs.eng (dr:=false) (λ_ h=>h.hs)) {eq:=[(105,au K),(115,au L),(122,au Z)]} 60 m (hret:=a4) (he:=a4) λW5 m=>?_
    refine bM (hx:=a4) (dQ (i:=12) (T:=4) (v:=.bool false) m.mp.row (show 12<14 by decide) a4 rfl) (hS:=gp a4) ?_
    have z:=m.fld (M':=bT N false N.hd) 12 (.bool false) rfl rfl
    refine aR (Hs r (aK hh r::dW w.heap.size [(#[.i op,.i rd,.i j,.i k,.i imm],69)]) (aO (bT N false N.hd) A)) (hn:=a4) ?_
    refine af (Hs.eng (dr:=false) (λ_ h=>h.hs)) {} 60 z (hret:=a4) (he:=a4) λW7 s=>?_
    refine bM (hx:=a4) (dQ (i:=11) (T:=22) (v:=.u 0) s.mp.row (show 11<14 by decide) a4 rfl) (hS:=gp a4) ?_
    have D:=s.fld (M':=bT N false 0) 11 (.u 0) rfl rfl
    refine aR (Hs r (aK hh r::dW w.heap.size [(#[.i op,.i rd,.i j,.i k,.i imm],69)]) (aO (bT N false 0) A)) (hn:=a4) ?_
    have n32:(bT N false 0).x.length=32:=by unfold bT;exact u.x32
    have n22:(bT N false 0).cs.length=22:=by unfold bT;exact (aF u.ok).1
    generalize bT N false 0=N3 at D n32 n22 ⊢
    exact Hx.last (Hs.eng (dr:=true) (λ_ h=>h.hs)) {} 60 D (λW f=>eE rd 1 _ I J f.ht n32 n22) (hx:=a4) (he:=a4) (hy:=λ_=>a4)
  | true =>
    clear no
    rw [L,Z,if_pos a5] at d
    have O:=u.acc a g 3 b
    have G:=λW (f:Mp B r N A W)=>fu N A B r a g 3 b W f u.len u.mw u.ok ho al al ha hb
    have Y:=λc=>jA (M:=N) (addr:=a) (size:=g) (kind:=3) (x:=b) (c:=c)
    generalize aC N a g 3 b=X at O G Y d
    obtain ⟨y,t,c2⟩:=X
    dsimp only at O G Y d
    refine aW (Hs.eng (dr:=true) (λ_ h=>h.hs)) {eq:=[(105,au K),(115,au L),(122,au Z)]} 90 m (λW1 h1=>G W1 h1.mp) (hx:=a4) (he:=a4) ?_
    rintro W6 e W7 z ⟨rfl,C,s,k7⟩
    refine ⟨_,0,rfl,gp a4,aR (Hs r (aK hh r::dW w.heap.size [(#[.i op,.i rd,.i j,.i k,.i imm],69)]) (aO t C)) (hn:=a4) ?_⟩
    cases n:(c2 != 0) with
    | true =>
      rw [n,if_pos rfl] at d
      subst d
      exact Hx.last (Hs.eng (dr:=true) (λ_ h=>h.hs)) {eq:=[(137,au n),(140,ei .i64 (Y c2 rfl n).1)]} 60 (z.step s k7) (λW f=>dD _ (Y c2 rfl n).2 a f.ht O) (hx:=a4) (he:=a4) (hy:=λ_=>a4)
    | false =>
    rw [n,if_neg a5] at d
    subst d
    refine af (Hs.eng (dr:=false) (λ_ h=>h.hs)) {eq:=[(137,au n)]} 60 (z.step s k7) (hret:=a4) (he:=a4) λW5 m=>?_
    refine bM (hx:=a4) (dQ (i:=12) (T:=4) (v:=.bool false) m.mp.row (show 12<14 by decide) a4 rfl) (hS:=gp a4) ?_
    have z:=m.fld (M':=bT t false t.hd) 12 (.bool false) rfl rfl
    refine aR (Hs r (aK hh r::dW w.heap.size [(#[.i op,.i rd,.i j,.i k,.i imm],69)]) (aO (bT t false t.hd) C)) (hn:=a4) ?_
    refine af (Hs.eng (dr:=false) (λ_ h=>h.hs)) {} 60 z (hret:=a4) (he:=a4) λW7 s=>?_
    refine bM (hx:=a4) (dQ (i:=11) (T:=22) (v:=.u 0) s.mp.row (show 11<14 by decide) a4 rfl) (hS:=gp a4) ?_
    have D:=s.fld (M':=bT t false 0) 11 (.u 0) rfl rfl
    refine aR (Hs r (aK hh r::dW w.heap.size [(#[.i op,.i rd,.i j,.i k,.i imm],69)]) (aO (bT t false 0) C)) (hn:=a4) ?_
    have n32:(bT t false 0).x.length=32:=by unfold bT;exact O.x32
    have n22:(bT t false 0).cs.length=22:=by unfold bT;exact (aF O.ok).1
    generalize bT t false 0=N3 at D n32 n22 ⊢
    exact Hx.last (Hs.eng (dr:=true) (λ_ h=>h.hs)) {} 60 D (λW f=>eE rd 0 _ I J f.ht n32 n22) (hx:=a4) (he:=a4) (hy:=λ_=>a4)
theorem Ku (op rd k l imm a b:Int) (sz:Nat) (hs:65<=op/\op<=73/\sz=4\/76<=op/\op<=84/\sz=8) (hr0:0<=rd) (hr1:rd<=31) (ha:U a) (hb:U b) (h:Ht B hh r M A w) (R:Gd M) (K:U (aC (cR M a 3) a sz 2 0).1) (hV2:∀ y,U y->U (iu op y b)):Calls prog 85 #[.p hh 0,.agg #[.i op,.i rd,.i k,.i l,.i imm],.u a,.u b] w (HR B hh r M A w (ix M ⟨op,rd,k,l,imm⟩ a b)):=by
 obtain ⟨V,hV⟩:∃ V,ix M ⟨op,rd,k,l,imm⟩ a b=V:=⟨_,rfl⟩;rw [hV];obtain ⟨v,eK⟩:∃ v,me op=v:=⟨_,rfl⟩;have eS:aZ op=sz:=by unfold aZ;split<;>omega
 obtain ⟨u,h2,q,p⟩|⟨u,h2,q,p⟩:(65<=op/\op<=73/\sz=4/\v=op-63)\/(76<=op/\op<=84/\sz=8/\v=op-74):=by rw [<- eK];unfold me;split<;>omega
 all_goals
  have n:(v==0)=false:=by simp;omega
  have m:(v==1)=false:=by simp;omega
  have eW:(if (a%((sz:Nat):Int) != 0)=true then (aJ M 6 false a,2) else if ((bU M a 3).code != 0)=true then (aJ (cR M a 3) (bU M a 3).code.toNat false a,2) else (if ((aC (cR M a 3) a sz 2 0).2.2 != 0)=true then cw (aC (cR M a 3) a sz 2 0) 2 a else if ((aC (aC (cR M a 3) a sz 2 0).2.1 a sz 3 (iu op (aC (cR M a 3) a sz 2 0).1 b)).2.2 != 0)=true then cw (aC (aC (cR M a 3) a sz 2 0).2.1 a sz 3 (iu op (aC (cR M a 3) a sz 2 0).1 b)) 0 a else (aP (aC (aC (cR M a 3) a sz 2 0).2.1 a sz 3 (iu op (aC (cR M a 3) a sz 2 0).1 b)).2.1 rd (aq (8*sz) (aC (cR M a 3) a sz 2 0).1) (Uz.wrap ((cR M a 3).pc+4)),1)))=V:=by
   rw [<- hV];unfold ix OK;dsimp only;rw [eK,n,m,eS,if_neg (show ¬ (false=true) by decide),if_neg (show ¬ (false=true) by decide)]
  have G:IntKind.i64.wrap (op-63)=op-63:=by rw [IntKind.wrap_i64];omega
  have H:IntKind.i64.wrap (op-63-11)=op-74:=by rw [IntKind.wrap_i64];omega
  have I:decide (11<=op-63)=decide (sz=8):=by rw [decide_eq_decide];omega
  have Y:(sz:Int)≠0:=by subst p q;decide
  have a0:a.tmod sz=a%((sz:Nat):Int):=Int.tmod_eq_emod_of_nonneg ha.1
  have t:Gd (cR M a 3):=R.marked _
  have T:(cR M a 3).pc=M.pc:=rfl
  have i:∀ W,Mp B r M A W->Calls prog 114 #[.p r 0,.slice none 0 0,.u a,.i 3] W λe w'=>e=.returned (.tuple #[.u (bU M a 3).addr,.i (bU M a 3).code])/\Mp B r (cR M a 3) A w'/\Kx r (aH M A) (aH (cR M a 3) A) W w':=λW f=>qD M A B r a 3 W f R.len R.mw R.ok al al ha (bU M a 3) rfl
  obtain ⟨c,c16,o⟩:∃ c:Nat,c<16/\(bU M a 3).code=c:=kL M.ram M.ram.length M.cs (eC M.cs M.pr 3) a 3
  have d:(if (a%((sz:Nat):Int) != 0)=true then (aJ M 6 false a,2) else if ((bU M a 3).code != 0)=true then (aJ (cR M a 3) (bU M a 3).code.toNat false a,2) else (if ((aC (cR M a 3) a sz 2 0).2.2 != 0)=true then cw (aC (cR M a 3) a sz 2 0) 2 a else if ((aC (aC (cR M a 3) a sz 2 0).2.1 a sz 3 (iu op (aC (cR M a 3) a sz 2 0).1 b)).2.2 != 0)=true then cw (aC (aC (cR M a 3) a sz 2 0).2.1 a sz 3 (iu op (aC (cR M a 3) a sz 2 0).1 b)) 0 a else (aP (aC (aC (cR M a 3) a sz 2 0).2.1 a sz 3 (iu op (aC (cR M a 3) a sz 2 0).1 b)).2.1 rd (aq (8*sz) (aC (cR M a 3) a sz 2 0).1) (Uz.wrap ((cR M a 3).pc+4)),1)))=V:=by exact eW
  clear hV
  generalize cR M a 3=N at K t i d T
  generalize bU M a 3=F at i o d
  obtain ⟨pa,fc,fm,ft,fe⟩:=F
  dsimp only at i o d
  subst o
  rw [<- a0] at d
  refine cn (S:=Hs r (aK hh r::dW w.heap.size [(#[.i op,.i rd,.i k,.i l,.i imm],69)]) (aO M A)) (args:=[.p hh 0,.agg #[.i op,.i rd,.i k,.i l,.i imm],.u a,.u b]) [(#[.i op,.i rd,.i k,.i l,.i imm],69)] func85 (hn:=a4) (hs:=a4) ?_
  refine aL 0 2 (aL 5 3 ?_)
  cases hz:(a.tmod sz != 0) with
  | true =>
    rw [hz,if_pos rfl] at d
    subst d
    exact Hx.last (Hs.eng (dr:=true) (λ_ h=>h.hs)) {eq:=[(29,ei .i64 G),(31,au I),(33,ei .i64 H),(40,au n),(90,au hz)],ov:=[(89,Nf .u64 a sz Y)]} 160 (Hx.start h _) (λW f=>dD 6 a5 a f.ht R) (hx:=a4) (he:=a4) (hy:=λ_=>a4)
  | false =>
  rw [hz,if_neg a5] at d
  refine aW (Hs.eng (dr:=true) (λ_ h=>h.hs)) {eq:=[(29,ei .i64 G),(31,au I),(33,ei .i64 H),(40,au n),(90,au hz)],ov:=[(89,Nf .u64 a sz Y)]} 160 (Hx.start h _) (λW f=>i W f.mp) (hx:=a4) (he:=a4) ?_
  rintro W3 e W4 h3 ⟨rfl,h4,k4⟩
  refine ⟨_,0,rfl,gp a4,aR (Hs r (aK hh r::dW w.heap.size [(#[.i op,.i rd,.i k,.i l,.i imm],69)]) (aO N A)) (hn:=a4) ?_⟩
  have h5:=h3.step h4 k4
  cases hc:(((c:Nat):Int) != 0) with
  | true =>
    rw [hc,if_pos rfl] at d
    subst d
    exact Hx.last (Hs.eng (dr:=true) (λ_ h=>h.hs)) {eq:=[(105,au hc)]} 60 h5 (λW f=>dD c c16 a f.ht t) (hx:=a4) (he:=a4) (hy:=λ_=>a4)
  | false =>
  rw [hc,if_neg a5] at d
  rw [T] at d
  have s:=t.acc a sz 2 0
  have O:=λW (f:Mp B r N A W)=>fu N A B r a sz 2 0 W f t.len t.mw t.ok ho al al ha ⟨a5,a5⟩
  have ec:=λc=>yv (M:=N) (addr:=a) (size:=sz) (x:=0) (c:=c)
  generalize aC N a sz 2 0=X at *
  obtain ⟨y,D,c2⟩:=X
  dsimp only at s O ec d K
  have hv:=hV2 y K
  refine aW (Hs.eng (dr:=true) (λ_ h=>h.hs)) {eq:=[(105,au hc),(111,au m)]} 90 h5 (λE u=>O E u.mp) (hx:=a4) (he:=a4) ?_
  rintro W6 e W7 h6 ⟨rfl,C,h7,k7⟩
  refine ⟨_,0,rfl,gp a4,aR (Hs r (aK hh r::dW w.heap.size [(#[.i op,.i rd,.i k,.i l,.i imm],69)]) (aO D C)) (hn:=a4) ?_⟩
  cases g:(c2 != 0) with
  | true =>
    rw [g,if_pos rfl] at d
    subst d
    exact Hx.last (Hs.eng (dr:=true) (λ_ h=>h.hs)) {eq:=[(167,au g),(170,ei .i64 (ec c2 rfl g).1),(171,ei .i64 (ec c2 rfl g).2.1)]} 60 (h6.step h7 k7) (λW f=>dD _ (ec c2 rfl g).2.2 a f.ht s) (hx:=a4) (he:=a4) (hy:=λ_=>a4)
  | false =>
  rw [g,if_neg a5] at d
  have gb:=s.acc a sz 3 (iu op y b)
  have Q:=λW (f:Mp B r D C W)=>fu D C B r a sz 3 (iu op y b) W f s.len s.mw s.ok ho al al ha hv
  have ed:=λc=>jA (M:=D) (addr:=a) (size:=sz) (kind:=3) (x:=iu op y b) (c:=c)
  have hAm:=λW=>AR op y b K.1 K.2 hb.1 hb.2 W
  generalize aC D a sz 3 (iu op y b)=X at *
  generalize iu op y b=z at *
  generalize qC op=zb at *
  obtain ⟨y2,N4,c3⟩:=X
  dsimp only at gb Q ed d
  refine aW (Hs.eng (dr:=true) (λ_ h=>h.hs)) {eq:=[(167,au g)]} 60 (h6.step h7 k7) (λE u=>hAm E) (hx:=a4) (he:=a4) ?_
  rintro W8 e W9 h8 ⟨rfl,hw9⟩
  subst hw9
  refine ⟨_,0,rfl,gp a4,?_⟩
  refine aW (Hs.eng (dr:=true) (λ_ h=>h.hs)) {} 60 h8 (λE u=>Q E u.mp) (hx:=a4) (he:=a4) ?_
  rintro Wa e Wb L ⟨rfl,C2,P,kb⟩
  refine ⟨_,0,rfl,gp a4,aR (Hs r (aK hh r::dW w.heap.size [(#[.i op,.i rd,.i k,.i l,.i imm],69)]) (aO N4 C2)) (hn:=a4) ?_⟩
  cases j:(c3 != 0) with
  | true =>
    rw [j,if_pos rfl] at d
    subst d
    exact Hx.last (Hs.eng (dr:=true) (λ_ h=>h.hs)) {eq:=[(195,au j),(198,ei .i64 (ed c3 rfl j).1)]} 60 (L.step P kb) (λW f=>dD _ (ed c3 rfl j).2 a f.ht gb) (hx:=a4) (he:=a4) (hy:=λ_=>a4)
  | false =>
    rw [j,if_neg a5] at d
    subst d
    refine af (Hs.eng (dr:=false) (λ_ h=>h.hs)) {eq:=[(195,au j)]} 60 (L.step P kb) (hret:=a4) (he:=a4) λWc hc9=>?_
    refine lS 9 (hm:=a4) (hk:=a4) ?_
    refine aW (Hs.eng (dr:=true) (λ_ h=>h.hs)) {} 60 (hc9.below (Below.refl _ _).drew) (λW _=>dL y (8*sz) ho ho W) (hx:=a4) (he:=a4) ?_
    rintro W10 e W11 J ⟨rfl,Z⟩
    subst Z
    refine ⟨_,0,rfl,λ_=>J.hs,?_⟩
    exact Hx.last (Hs.eng (dr:=true) (λ_ h=>h.hs)) {} 60 J (λW f=>eE rd (aq (8*sz) y) _ hr0 hr1 f.ht gb.x32 (aF gb.ok).1) (hx:=a4) (he:=a4) (hy:=λ_=>a4)
end
def Ud (D:DV):Prop:=U D.t/\U D.cm
theorem rN {x:Int} (a : -9223372036854775808<=x) (b:x<9223372036854775808):(Lit.int .i64 x).wf=true:=by simp [Lit.wf,IntKind.min,IntKind.max,IntKind.signed,IntKind.bits];omega
theorem kO:U 0:=⟨a5,a5⟩
theorem Ds {zs:List Int} (h:∀ y ∈ zs,(Lit.int .u8 y).wf=true) (i:Nat):0<=zs.getD i 0/\zs.getD i 0<=255:=by
 by_cases a:i<zs.length;·exact Ek (h (zs.getD i 0) (by simp [List.getD,List.getElem?_eq_getElem a]))
 ·simp [List.getD,List.getElem?_eq_none (Nat.le_of_not_lt a)]
theorem Qu {D:DV} (h:Ud D) (hb:dO D) (k:Nat):U (jc D k).1:=by
 unfold jc;split;·show U (fd D.so);cases D.so<;>exact ⟨a5,a5⟩
 ·exact h.2
 ·exact h.1
 ·have:=Ds hb.1 0;exact ⟨this.1,by show D.xs.getD 0 0<_;omega⟩
 ·exact bG _
 ·exact bG _
 ·exact kO
theorem Qv {M:MV} (h:Gd M) (hd:Ud M.d) (pa:Int) (n:Nat) (hn:n<=8) (kind x:Int):U (rv M pa n kind x).1:=by
 unfold rv;split
 ·split;·exact kO
  ·exact sH M.ram (Ds h.mw.ram) _ _ (by rw [Int.toNat_natCast];exact hn)
 ·split
  ·split;·exact Qu hd ⟨h.mw.xs,h.mw.ys⟩ _
   ·exact kO
  ·split;·split<;>exact kO
   ·exact kO
theorem rO {M:MV} (h:Gd M) (hd:Ud M.d) (a:Int) (n:Nat) (hn:n<=8) (kind x:Int):U (aC M a n kind x).1:=by
 unfold aC;split;·exact kO
 ·unfold xL;split;·exact kO
  ·split;·exact kO
   ·exact Qv (h.marked _) hd _ n hn kind x
theorem PY {D:DV} (h:Ud D) (k:Nat):Ud (jc D k).2.1:=by
 unfold jc;split;·exact h
 ·exact h
 ·exact h
 ·exact ⟨h.1,h.2⟩
 ·exact h
 ·exact h
 ·exact ⟨kO,kO⟩
theorem PZ {D:DV} (h:Ud D) {x:Int} (hx:U x) (addr size:Int):Ud (fy D x (gg addr size)).1:=by
 have a:=DM D x;have d:=DN D x;have f:=DO D x;have b:(fy D x 3).1.t=D.t/\(fy D x 3).1.cm=D.cm:=by
  by_cases c:D.ys.length<4096;·rw [xv _ _ c];exact a0h
  ·rw [xw _ _ c];exact a0h
 obtain ⟨q,g⟩:∃ q,fy D x 4=(⟨D.t,D.cm,D.so,D.xs,D.ys,q⟩,true):=⟨_,DP D x⟩;have i:=DQ D x;have j:=DR D x;generalize (bits .and .u64 x 1==1)=r at a;refine jj addr size (λk=>Ud (fy D x k).1) (λ_ _=>?_) (λ_ _=>?_) (λ_ _=>?_) (λ_ _=>?_) (λ_ _=>?_) (λ_ _=>?_) (λ_ _ _ _ _ _=>?_);·show Ud (fy D x 0).1;rw [a];exact ⟨h.1,h.2⟩
 ·show Ud (fy D x 1).1;rw [d];exact ⟨h.1,hx⟩
 ·show Ud (fy D x 2).1;rw [f];exact ⟨hx,h.2⟩
 ·show Ud (fy D x 3).1;unfold Ud;rw [b.1,b.2];exact h
 ·have e:(fy D x 4).1=⟨D.t,D.cm,D.so,D.xs,D.ys,q⟩:=congrArg Prod.fst g;exact e ▸ (⟨h.1,h.2⟩:Ud ⟨D.t,D.cm,D.so,D.xs,D.ys,q⟩)
 ·show Ud (fy D x 5).1;rw [i];exact h
 ·show Ud (fy D x 6).1;rw [j];exact ⟨kO,kO⟩
theorem Kv {M:MV} (h:Ud M.d) (pa:Int):Ud (mX M pa).d:=by unfold mX;split<;>exact h
theorem yw {M:MV} (h:Ud M.d) (a n kind:Int) {x:Int} (hx:U x):Ud (aC M a n kind x).2.1.d:=by
 have key:∀ (N:MV) (b:Int),Ud N.d->Ud (rv N b n kind x).2.1.d:=by
  intro N b c;unfold rv;split
  ·split;·have k:∀ R,Ud (mX (bz N R) b).d:=λR=>Kv (M:=bz N R) c b;exact k _
   ·exact c
  ·split
   ·split;·have k:∀ D,Ud D->Ud (dH (dy N D)).d:=λD d=>d;exact k _ (PY c _)
    ·exact c
   ·split
    ·split;·have k:∀ D,Ud D->Ud (mX (dH (dy N D)) b).d:=λD d=>Kv (M:=dH (dy N D)) d b;exact k _ (PZ c hx _ _)
     ·exact c
    ·exact c
 unfold aC;split;·exact h
 ·unfold xL;split;·exact h
  ·split;·exact h
   ·have k:∀ R b,Ud (rv (bz M R) b n kind x).2.1.d:=λR b=>key (bz M R) b h;exact k _ _
theorem Qw (f:MF) {a b:Int} (c:U a) (hb:U b):U (f.v a b):=by
 cases f<;>unfold MF.v<;>dsimp only;·exact hb
 ·exact bG _
 ·exact aj _ _ _
 ·exact aj _ _ _
 ·exact aj _ _ _
 all_goals (split<;>assumption)
theorem EI (op:Int) {a b:Int} (c:U a) (hb:U b):U (iu op a b):=by
 unfold iu;split;·exact Qw _ c hb
 ·split;·generalize (lE (op-65).toNat).v (aq 32 a) (aq 32 b)=y;unfold U;omega
  ·exact kO
section
variable {B hh r : Nat} {M : MV} {A : MA} {w : World}
theorem Kw (i:Ins) (a b:Int) (n:63<=i.op) (o:i.op<=84) (c:0<=i.rd) (d:i.rd<=31) (j:U a) (hb:U b) (h:Ht B hh r M A w) (g:Gd M) (hd:Ud M.d):Calls prog 85 #[.p hh 0,.agg #[.i i.op,.i i.rd,.i i.a,.i i.b,.i i.imm],.u a,.u b] w (HR B hh r M A w (ix M i a b)):=by
 obtain ⟨f,m,k,l,e⟩:=i;dsimp only at n o c d ⊢;by_cases q:f=63;·subst q;exact PU _ m k l e a b (.inl rfl) c d j hb h g
 by_cases s:f=64;·subst s;exact PV _ m k l e a b (.inl rfl) c d j hb h g
 by_cases v:f<=73;·exact Ku f m k l e a b 4 al c d j hb h g (rO (g.marked _) hd a 4 al 2 0) (λy p=>EI f p hb)
 by_cases t:f=74;·subst t;exact PU _ m k l e a b (.inr rfl) c d j hb h g
 by_cases u:f=75;·subst u;exact PV _ m k l e a b (.inr rfl) c d j hb h g
 exact Ku f m k l e a b 8 al c d j hb h g (rO (g.marked _) hd a 8 al 2 0) (λy p=>EI f p hb)
end
end Go.Proofs.YtjifdmoehfbihaaGreatDoor
