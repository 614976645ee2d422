/- Own lemmas. -/
import Derived.Test.YtfagphfjfhpmjaaGreatDoorAut
import Derived.Test.YtfagphfjfhpmjaaGreatDoorK16
import Derived.Test.YtfagphfjfhpmjaaGreatDoorK17
set_option maxRecDepth 100000
namespace Go.Proofs.YtfagphfjfhpmjaaGreatDoor
open Go.RowKit Tryz
open IntKind renaming u64->Uz
set_option linter.unusedVariables false
variable {a M:MV} {x w b:Int} {v:Ins} {l n A:Nat} {B:World} {W:List Int} {k:MA} {p:DV} {D:Value} {f:Program} {r:TypeId} {P:List Value} (T:MV) (c:World) (q:List Int) (s t E:Int)
theorem NF:(tE T s t 2 E).2.2=0\/(tE T s t 2 E).2.2=21:=by
 unfold tE;split;·split<;>exact Or.inl rfl
 ·split
  ·split;·exact Or.inl rfl
   ·exact Or.inr rfl
  ·split
   ·split;·exact Or.inl rfl
    ·exact Or.inr rfl
   ·exact Or.inr rfl
theorem Kf:(aC T s t 2 E).2.2=0\/∃ c:Nat,c<14/\(aC T s t 2 E).2.2=c+16:=by
 unfold aC;split;·exact Or.inr ⟨4,ab,rfl⟩
 ·unfold zU;split
  ·rcases yQ T.ram T.ram.length T.cs (gc T.cs T.pr 2) s 2 with e|e|e;·refine Or.inr ⟨0,ab,?_⟩;show wrap64 ((ct T.ram T.ram.length T.cs (gc T.cs T.pr 2) s 2).code+16)=_;rw [e];unfold wrap64;decide
   ·refine Or.inr ⟨13,ab,?_⟩;show wrap64 ((ct T.ram T.ram.length T.cs (gc T.cs T.pr 2) s 2).code+16)=_;rw [e];unfold wrap64;decide
   ·refine Or.inr ⟨5,ab,?_⟩;show wrap64 ((ct T.ram T.ram.length T.cs (gc T.cs T.pr 2) s 2).code+16)=_;rw [e];unfold wrap64;decide
  ·split;·exact Or.inr ⟨5,ab,rfl⟩
   ·refine (NF _ _ _ _).imp id λe=>⟨5,ab,e⟩
theorem AE {addr size x c:Int} (a:(aC M addr size 2 x).2.2=c) (hn:(c != 0)=true):IntKind.i64.wrap (c-16)=(((c-16).toNat:Nat):Int)/\IntKind.i64.wrap ((((c-16).toNat:Nat):Int)+2)=(((c-16).toNat+2:Nat):Int)/\(c-16).toNat+2<16:=by
 have h:=Kf M addr size x;rw [a] at h;rcases h with h|⟨d,b,e⟩;·rw [h] at hn;cases hn
 ·rw [IntKind.wrap_i64,IntKind.wrap_i64];omega
section
variable {B hh r : Nat} {M : MV} {A : MA} {w : World}
theorem Uq (op rd j k imm a b:Int) (K:op=63\/op=74) (L:0<=rd) (O:rd<=31) (ha:U a) (hb:U b) (h:Ht B hh r M A w) (G:Gd M):Calls prog 101 #[.p hh 0,.agg #[.i op,.i rd,.i j,.i k,.i imm],.u a,.u b] w (HR B hh r M A w (iU M ⟨op,rd,j,k,imm⟩ a b)):=by
 obtain ⟨V,J⟩:∃ V,iU M ⟨op,rd,j,k,imm⟩ a b=V:=⟨_,rfl⟩;rw [J];obtain ⟨f,q⟩:∃ f,f=bD op:=⟨_,rfl⟩;obtain p|p:=K;all_goals
  have o:=G.acc a f 2 0
  have u:=λW (l:Mp B r M A W)=>fS M A B r a f 2 0 W l G.len G.mw G.ok ki ab ab ha ⟨bc,bc⟩
  have H:=λc=>kh (M:=M) (addr:=a) (size:=f) (kind:=2) (x:=0) (c:=c)
  have m:(if ((aC M a f 2 0).2.2 != 0)=true then cL (aC M a f 2 0) 0 a else (be (cw (dA (aC M a f 2 0).2.1 a 2) true (cy (aC M a f 2 0).2.1 a 2).addr) rd (au (8*f) (aC M a f 2 0).1) (Uz.wrap (M.pc+4)),1))=V:=by subst p q;exact J
  clear J
  generalize aC M a f 2 0=X at *
  obtain ⟨y,N,c⟩:=X
  dsimp only at o u H m
  refine bC (S:=Hs r (aO hh r::eU w.heap.size [(#[.i op,.i rd,.i j,.i k,.i imm],80)]) (aj M A)) (args:=[.p hh 0,.agg #[.i op,.i rd,.i j,.i k,.i imm],.u a,.u b]) [(#[.i op,.i rd,.i j,.i k,.i imm],80)] func101 (hn:=bb) (hs:=bb) ?_
  refine aK 0 2 (aK 5 3 ?_)
  refine aS (Hs.eng (dr:=true) (λ_ h=>h.hs)) {} 160 (Hx.start h _) (λP E=>u P E.mp) (hx:=bb) (he:=bb) ?_
  rintro P e W2 E ⟨rfl,C,Q,k2⟩
  refine ⟨_,0,rfl,gh bb,aH (Hs r (aO hh r::eU w.heap.size [(#[.i op,.i rd,.i j,.i k,.i imm],80)]) (aj N C)) (hn:=bb) ?_⟩
  cases s:(c != 0) with
  | true =>
    rw [s,if_pos rfl] at m
    subst m
    exact Hx.last (Hs.eng (dr:=true) (λ_ h=>h.hs)) {eq:=[(53,ak s),(56,dG .i64 (H c rfl s).1)]} 60 (E.step Q k2) (λW l=>dX _ (H c rfl s).2 a l.ht o) (hx:=bb) (he:=bb) (hy:=λ_=>bb)
  | false =>
    rw [s,if_neg bc] at m
    have I:Gd (dA N a 2):=o.marked _
    have z:=λW (l:Mp B r N C W)=>Aj N C B r a 2 W l o.len o.mw o.ok ab ab ha (cy N a 2) rfl
    have d:∀ W,Mp B r N C W->Calls prog 132 #[.p r 0,.slice none 0 0,.u a,.i 2] W λe w'=>e=.returned (.tuple #[.u (cy N a 2).addr,.i (cy N a 2).code])/\Mp B r (dA N a 2) C w'/\Kx r (aG N C) (aG (dA N a 2) C) W w':=z
    clear z
    generalize dA N a 2=g at I d m
    generalize cy N a 2=F at d m
    obtain ⟨n,fc,fm,ft,fe⟩:=F
    dsimp only at d m
    subst m
    refine aS (Hs.eng (dr:=true) (λ_ h=>h.hs)) {eq:=[(53,ak s)]} 60 (E.step Q k2) (λW l=>d W l.mp) (hx:=bb) (he:=bb) ?_
    rintro W3 e W4 h3 ⟨rfl,h4,k4⟩
    refine ⟨_,0,rfl,gh bb,aH (Hs r (aO hh r::eU w.heap.size [(#[.i op,.i rd,.i j,.i k,.i imm],80)]) (aj g C)) (hn:=bb) ?_⟩
    refine ae (Hs.eng (dr:=false) (λ_ h=>h.hs)) {} 60 (h3.step h4 k4) (hret:=bb) (he:=bb) λW5 R=>?_
    refine bM (hx:=bb) (bJ (i:=12) (T:=4) (v:=.bool true) R.mp.row (show 12<14 by decide) bb rfl) (hS:=gh bb) ?_
    have h6:=R.fld (M':=cw g true g.hd) 12 (.bool true) rfl rfl
    refine aH (Hs r (aO hh r::eU w.heap.size [(#[.i op,.i rd,.i j,.i k,.i imm],80)]) (aj (cw g true g.hd) C)) (hn:=bb) ?_
    refine ae (Hs.eng (dr:=false) (λ_ h=>h.hs)) {} 60 h6 (hret:=bb) (he:=bb) λW7 Y=>?_
    refine bM (hx:=bb) (bJ (i:=11) (T:=22) (v:=.u n) Y.mp.row (show 11<14 by decide) bb rfl) (hS:=gh bb) ?_
    have Z:=Y.fld (M':=cw g true n) 11 (.u n) rfl rfl
    refine aH (Hs r (aO hh r::eU w.heap.size [(#[.i op,.i rd,.i j,.i k,.i imm],80)]) (aj (cw g true n) C)) (hn:=bb) ?_
    have n32:(cw g true n).x.length=32:=by unfold cw;exact I.x32
    have n22:(cw g true n).cs.length=22:=by unfold cw;exact (aI I.ok).1
    generalize cw g true n=N3 at Z n32 n22 ⊢
    refine ae (Hs.eng (dr:=false) (λ_ h=>h.hs)) {} 60 Z (hret:=bb) (he:=bb) λW9 h9=>?_
    refine lG 9 (hm:=bb) (hk:=bb) ?_
    refine aS (Hs.eng (dr:=true) (λ_ h=>h.hs)) {} 60 (h9.below (Below.refl _ _).drew) (λW _=>eB y (8*f) ki ki W) (hx:=bb) (he:=bb) ?_
    rintro W10 e W11 t ⟨rfl,D⟩
    subst D
    refine ⟨_,0,rfl,λ_=>t.hs,?_⟩
    exact Hx.last (Hs.eng (dr:=true) (λ_ h=>h.hs)) {} 60 t (λW l=>fq rd (au (8*f) y) _ L O l.ht n32 n22) (hx:=bb) (he:=bb) (hy:=λ_=>bb)
theorem Ur (op rd j k imm a b:Int) (hop:op=64\/op=75) (I:0<=rd) (J:rd<=31) (ha:U a) (hb:U b) (h:Ht B hh r M A w) (P:Gd M):Calls prog 101 #[.p hh 0,.agg #[.i op,.i rd,.i j,.i k,.i imm],.u a,.u b] w (HR B hh r M A w (iU M ⟨op,rd,j,k,imm⟩ a b)):=by
 obtain ⟨V,hV⟩:∃ V,iU M ⟨op,rd,j,k,imm⟩ a b=V:=⟨_,rfl⟩;rw [hV];obtain ⟨g,q⟩:∃ g,g=bD op:=⟨_,rfl⟩;obtain p|p:=hop;all_goals
  have R:(g:Int)≠0:=by subst p q;decide
  have a0:a.tmod g=a%((g:Nat):Int):=Int.tmod_eq_emod_of_nonneg ha.1
  have u:Gd (dA M a 3):=P.marked _
  have Q:(dA M a 3).pc=M.pc:=rfl
  have l:∀ W,Mp B r M A W->Calls prog 132 #[.p r 0,.slice none 0 0,.u a,.i 3] W λe w'=>e=.returned (.tuple #[.u (cy M a 3).addr,.i (cy M a 3).code])/\Mp B r (dA M a 3) A w'/\Kx r (aG M A) (aG (dA M a 3) A) W w':=λW f=>Aj M A B r a 3 W f P.len P.mw P.ok ab ab ha (cy M a 3) rfl
  obtain ⟨c,c16,H⟩:∃ c:Nat,c<16/\(cy M a 3).code=c:=lT M.ram M.ram.length M.cs (gc M.cs M.pr 3) a 3
  have o:(if (a%((g:Nat):Int) != 0)=true then (aM M 6 false a,2) else if ((cy M a 3).code != 0)=true then (aM (dA M a 3) (cy M a 3).code.toNat false a,2) else Vp (dA M a 3) ⟨op,rd,j,k,imm⟩ a b (cy M a 3).addr)=V:=by subst p q;exact hV
  clear hV
  generalize dA M a 3=N at u l o Q
  generalize cy M a 3=F at l H o
  obtain ⟨pa,fc,fm,ft,fe⟩:=F
  dsimp only at l H o
  subst H
  rw [<- a0] at o
  refine bC (S:=Hs r (aO hh r::eU w.heap.size [(#[.i op,.i rd,.i j,.i k,.i imm],80)]) (aj M A)) (args:=[.p hh 0,.agg #[.i op,.i rd,.i j,.i k,.i imm],.u a,.u b]) [(#[.i op,.i rd,.i j,.i k,.i imm],80)] func101 (hn:=bb) (hs:=bb) ?_
  refine aK 0 2 (aK 5 3 ?_)
  cases hz:(a.tmod g != 0) with
  | true =>
    rw [hz,if_pos rfl] at o
    subst o
    exact Hx.last (Hs.eng (dr:=true) (λ_ h=>h.hs)) {eq:=[(90,ak hz)],ov:=[(89,OB .u64 a g R)]} 160 (Hx.start h _) (λW f=>dX 6 bc a f.ht P) (hx:=bb) (he:=bb) (hy:=λ_=>bb)
  | false =>
  rw [hz,if_neg bc] at o
  refine aS (Hs.eng (dr:=true) (λ_ h=>h.hs)) {eq:=[(90,ak hz)],ov:=[(89,OB .u64 a g R)]} 160 (Hx.start h _) (λW f=>l W f.mp) (hx:=bb) (he:=bb) ?_
  rintro W3 e W4 h3 ⟨rfl,h4,k4⟩
  refine ⟨_,0,rfl,gh bb,aH (Hs r (aO hh r::eU w.heap.size [(#[.i op,.i rd,.i j,.i k,.i imm],80)]) (aj N A)) (hn:=bb) ?_⟩
  have m:=h3.step h4 k4
  cases K:(((c:Nat):Int) != 0) with
  | true =>
    rw [K,if_pos rfl] at o
    subst o
    exact Hx.last (Hs.eng (dr:=true) (λ_ h=>h.hs)) {eq:=[(105,ak K)]} 60 m (λW f=>dX c c16 a f.ht u) (hx:=bb) (he:=bb) (hy:=λ_=>bb)
  | false =>
  rw [K,if_neg bc] at o
  have d:(if (N.hl&&(N.hd==pa))=true then (if ((aC N a g 3 b).2.2 != 0)=true then cL (aC N a g 3 b) 0 a else (be (cw (aC N a g 3 b).2.1 false 0) rd 0 (Uz.wrap (N.pc+4)),1)) else (be (cw N false 0) rd 1 (Uz.wrap (N.pc+4)),1))=V:=by subst p q;exact o
  clear o
  rw [Q] at d
  have no:(N.hl&&(N.hd==pa))=false->(be (cw N false 0) rd 1 (Uz.wrap (M.pc+4)),1)=V:=λhn=>by rw [hn,if_neg bc] at d;exact d
  cases L:N.hl with
  | false =>
    have E:=no (by rw [L];rfl)
    subst E
    refine ae (Hs.eng (dr:=false) (λ_ h=>h.hs)) {eq:=[(105,ak K),(115,ak L)]} 60 m (hret:=bb) (he:=bb) λW5 m=>?_
    refine bM (hx:=bb) (bJ (i:=12) (T:=4) (v:=.bool false) m.mp.row (show 12<14 by decide) bb rfl) (hS:=gh bb) ?_
    have z:=m.fld (M':=cw N false N.hd) 12 (.bool false) rfl rfl
    refine aH (Hs r (aO hh r::eU w.heap.size [(#[.i op,.i rd,.i j,.i k,.i imm],80)]) (aj (cw N false N.hd) A)) (hn:=bb) ?_
    refine ae (Hs.eng (dr:=false) (λ_ h=>h.hs)) {} 60 z (hret:=bb) (he:=bb) λW7 s=>?_
    refine bM (hx:=bb) (bJ (i:=11) (T:=22) (v:=.u 0) s.mp.row (show 11<14 by decide) bb rfl) (hS:=gh bb) ?_
    have D:=s.fld (M':=cw N false 0) 11 (.u 0) rfl rfl
    refine aH (Hs r (aO hh r::eU w.heap.size [(#[.i op,.i rd,.i j,.i k,.i imm],80)]) (aj (cw N false 0) A)) (hn:=bb) ?_
    have n32:(cw N false 0).x.length=32:=by unfold cw;exact u.x32
    have n22:(cw N false 0).cs.length=22:=by unfold cw;exact (aI u.ok).1
    generalize cw N false 0=N3 at D n32 n22 ⊢
    exact Hx.last (Hs.eng (dr:=true) (λ_ h=>h.hs)) {} 60 D (λW f=>fq rd 1 _ I J f.ht n32 n22) (hx:=bb) (he:=bb) (hy:=λ_=>bb)
  | true =>
  cases Z:(N.hd==pa) with
  | false =>
    have E:=no (by rw [L,Z];rfl)
    subst E
    refine ae (Hs.eng (dr:=false) (λ_ h=>h.hs)) {eq:=[(105,ak K),(115,ak L),(122,ak Z)]} 60 m (hret:=bb) (he:=bb) λW5 m=>?_
    refine bM (hx:=bb) (bJ (i:=12) (T:=4) (v:=.bool false) m.mp.row (show 12<14 by decide) bb rfl) (hS:=gh bb) ?_
    have z:=m.fld (M':=cw N false N.hd) 12 (.bool false) rfl rfl
    refine aH (Hs r (aO hh r::eU w.heap.size [(#[.i op,.i rd,.i j,.i k,.i imm],80)]) (aj (cw N false N.hd) A)) (hn:=bb) ?_
    refine ae (Hs.eng (dr:=false) (λ_ h=>h.hs)) {} 60 z (hret:=bb) (he:=bb) λW7 s=>?_
    refine bM (hx:=bb) (bJ (i:=11) (T:=22) (v:=.u 0) s.mp.row (show 11<14 by decide) bb rfl) (hS:=gh bb) ?_
    have D:=s.fld (M':=cw N false 0) 11 (.u 0) rfl rfl
    refine aH (Hs r (aO hh r::eU w.heap.size [(#[.i op,.i rd,.i j,.i k,.i imm],80)]) (aj (cw N false 0) A)) (hn:=bb) ?_
    have n32:(cw N false 0).x.length=32:=by unfold cw;exact u.x32
    have n22:(cw N false 0).cs.length=22:=by unfold cw;exact (aI u.ok).1
    generalize cw N false 0=N3 at D n32 n22 ⊢
    exact Hx.last (Hs.eng (dr:=true) (λ_ h=>h.hs)) {} 60 D (λW f=>fq rd 1 _ I J f.ht n32 n22) (hx:=bb) (he:=bb) (hy:=λ_=>bb)
  | true =>
    clear no
    rw [L,Z,if_pos bc] at d
    have O:=u.acc a g 3 b
    have G:=λW (f:Mp B r N A W)=>fS N A B r a g 3 b W f u.len u.mw u.ok ki ab ab ha hb
    have Y:=λc=>kh (M:=N) (addr:=a) (size:=g) (kind:=3) (x:=b) (c:=c)
    generalize aC N a g 3 b=X at O G Y d
    obtain ⟨y,t,c2⟩:=X
    dsimp only at O G Y d
    refine aS (Hs.eng (dr:=true) (λ_ h=>h.hs)) {eq:=[(105,ak K),(115,ak L),(122,ak Z)]} 90 m (λW1 h1=>G W1 h1.mp) (hx:=bb) (he:=bb) ?_
    rintro W6 e W7 z ⟨rfl,C,s,k7⟩
    refine ⟨_,0,rfl,gh bb,aH (Hs r (aO hh r::eU w.heap.size [(#[.i op,.i rd,.i j,.i k,.i imm],80)]) (aj t C)) (hn:=bb) ?_⟩
    cases n:(c2 != 0) with
    | true =>
      rw [n,if_pos rfl] at d
      subst d
      exact Hx.last (Hs.eng (dr:=true) (λ_ h=>h.hs)) {eq:=[(137,ak n),(140,dG .i64 (Y c2 rfl n).1)]} 60 (z.step s k7) (λW f=>dX _ (Y c2 rfl n).2 a f.ht O) (hx:=bb) (he:=bb) (hy:=λ_=>bb)
    | false =>
    rw [n,if_neg bc] at d
    subst d
    refine ae (Hs.eng (dr:=false) (λ_ h=>h.hs)) {eq:=[(137,ak n)]} 60 (z.step s k7) (hret:=bb) (he:=bb) λW5 m=>?_
    refine bM (hx:=bb) (bJ (i:=12) (T:=4) (v:=.bool false) m.mp.row (show 12<14 by decide) bb rfl) (hS:=gh bb) ?_
    have z:=m.fld (M':=cw t false t.hd) 12 (.bool false) rfl rfl
    refine aH (Hs r (aO hh r::eU w.heap.size [(#[.i op,.i rd,.i j,.i k,.i imm],80)]) (aj (cw t false t.hd) C)) (hn:=bb) ?_
    refine ae (Hs.eng (dr:=false) (λ_ h=>h.hs)) {} 60 z (hret:=bb) (he:=bb) λW7 s=>?_
    refine bM (hx:=bb) (bJ (i:=11) (T:=22) (v:=.u 0) s.mp.row (show 11<14 by decide) bb rfl) (hS:=gh bb) ?_
    have D:=s.fld (M':=cw t false 0) 11 (.u 0) rfl rfl
    refine aH (Hs r (aO hh r::eU w.heap.size [(#[.i op,.i rd,.i j,.i k,.i imm],80)]) (aj (cw t false 0) C)) (hn:=bb) ?_
    have n32:(cw t false 0).x.length=32:=by unfold cw;exact O.x32
    have n22:(cw t false 0).cs.length=22:=by unfold cw;exact (aI O.ok).1
    generalize cw t false 0=N3 at D n32 n22 ⊢
    exact Hx.last (Hs.eng (dr:=true) (λ_ h=>h.hs)) {} 60 D (λW f=>fq rd 0 _ I J f.ht n32 n22) (hx:=bb) (he:=bb) (hy:=λ_=>bb)
theorem NG (op rd k l imm a b:Int) (sz:Nat) (hs:65<=op/\op<=73/\sz=4\/76<=op/\op<=84/\sz=8) (hr0:0<=rd) (hr1:rd<=31) (ha:U a) (hb:U b) (h:Ht B hh r M A w) (R:Gd M) (K:U (aC (dA M a 3) a sz 2 0).1) (hV2:∀ y,U y->U (iT op y b)):Calls prog 101 #[.p hh 0,.agg #[.i op,.i rd,.i k,.i l,.i imm],.u a,.u b] w (HR B hh r M A w (iU M ⟨op,rd,k,l,imm⟩ a b)):=by
 obtain ⟨V,hV⟩:∃ V,iU M ⟨op,rd,k,l,imm⟩ a b=V:=⟨_,rfl⟩;rw [hV];obtain ⟨v,eK⟩:∃ v,m0 op=v:=⟨_,rfl⟩;have eS:bD op=sz:=by unfold bD;split<;>omega
 obtain ⟨u,h2,q,p⟩|⟨u,h2,q,p⟩:(65<=op/\op<=73/\sz=4/\v=op-63)\/(76<=op/\op<=84/\sz=8/\v=op-74):=by rw [<- eK];unfold m0;split<;>omega
 all_goals
  have n:(v==0)=false:=by simp;omega
  have m:(v==1)=false:=by simp;omega
  have eW:(if (a%((sz:Nat):Int) != 0)=true then (aM M 6 false a,2) else if ((cy M a 3).code != 0)=true then (aM (dA M a 3) (cy M a 3).code.toNat false a,2) else (if ((aC (dA M a 3) a sz 2 0).2.2 != 0)=true then cL (aC (dA M a 3) a sz 2 0) 2 a else if ((aC (aC (dA M a 3) a sz 2 0).2.1 a sz 3 (iT op (aC (dA M a 3) a sz 2 0).1 b)).2.2 != 0)=true then cL (aC (aC (dA M a 3) a sz 2 0).2.1 a sz 3 (iT op (aC (dA M a 3) a sz 2 0).1 b)) 0 a else (be (aC (aC (dA M a 3) a sz 2 0).2.1 a sz 3 (iT op (aC (dA M a 3) a sz 2 0).1 b)).2.1 rd (au (8*sz) (aC (dA M a 3) a sz 2 0).1) (Uz.wrap ((dA M a 3).pc+4)),1)))=V:=by
   rw [<- hV];unfold iU SZ;dsimp only;rw [eK,n,m,eS,if_neg (show ¬ (false=true) by decide),if_neg (show ¬ (false=true) by decide)]
  have G:IntKind.i64.wrap (op-63)=op-63:=by rw [IntKind.wrap_i64];omega
  have H:IntKind.i64.wrap (op-63-11)=op-74:=by rw [IntKind.wrap_i64];omega
  have I:decide (11<=op-63)=decide (sz=8):=by rw [decide_eq_decide];omega
  have Y:(sz:Int)≠0:=by subst p q;decide
  have a0:a.tmod sz=a%((sz:Nat):Int):=Int.tmod_eq_emod_of_nonneg ha.1
  have t:Gd (dA M a 3):=R.marked _
  have T:(dA M a 3).pc=M.pc:=rfl
  have i:∀ W,Mp B r M A W->Calls prog 132 #[.p r 0,.slice none 0 0,.u a,.i 3] W λe w'=>e=.returned (.tuple #[.u (cy M a 3).addr,.i (cy M a 3).code])/\Mp B r (dA M a 3) A w'/\Kx r (aG M A) (aG (dA M a 3) A) W w':=λW f=>Aj M A B r a 3 W f R.len R.mw R.ok ab ab ha (cy M a 3) rfl
  obtain ⟨c,c16,o⟩:∃ c:Nat,c<16/\(cy M a 3).code=c:=lT M.ram M.ram.length M.cs (gc M.cs M.pr 3) a 3
  have d:(if (a%((sz:Nat):Int) != 0)=true then (aM M 6 false a,2) else if ((cy M a 3).code != 0)=true then (aM (dA M a 3) (cy M a 3).code.toNat false a,2) else (if ((aC (dA M a 3) a sz 2 0).2.2 != 0)=true then cL (aC (dA M a 3) a sz 2 0) 2 a else if ((aC (aC (dA M a 3) a sz 2 0).2.1 a sz 3 (iT op (aC (dA M a 3) a sz 2 0).1 b)).2.2 != 0)=true then cL (aC (aC (dA M a 3) a sz 2 0).2.1 a sz 3 (iT op (aC (dA M a 3) a sz 2 0).1 b)) 0 a else (be (aC (aC (dA M a 3) a sz 2 0).2.1 a sz 3 (iT op (aC (dA M a 3) a sz 2 0).1 b)).2.1 rd (au (8*sz) (aC (dA M a 3) a sz 2 0).1) (Uz.wrap ((dA M a 3).pc+4)),1)))=V:=by exact eW
  clear hV
  generalize dA M a 3=N at K t i d T
  generalize cy M a 3=F at i o d
  obtain ⟨pa,fc,fm,ft,fe⟩:=F
  dsimp only at i o d
  subst o
  rw [<- a0] at d
  refine bC (S:=Hs r (aO hh r::eU w.heap.size [(#[.i op,.i rd,.i k,.i l,.i imm],80)]) (aj M A)) (args:=[.p hh 0,.agg #[.i op,.i rd,.i k,.i l,.i imm],.u a,.u b]) [(#[.i op,.i rd,.i k,.i l,.i imm],80)] func101 (hn:=bb) (hs:=bb) ?_
  refine aK 0 2 (aK 5 3 ?_)
  cases hz:(a.tmod sz != 0) with
  | true =>
    rw [hz,if_pos rfl] at d
    subst d
    exact Hx.last (Hs.eng (dr:=true) (λ_ h=>h.hs)) {eq:=[(29,dG .i64 G),(31,ak I),(33,dG .i64 H),(40,ak n),(90,ak hz)],ov:=[(89,OB .u64 a sz Y)]} 160 (Hx.start h _) (λW f=>dX 6 bc a f.ht R) (hx:=bb) (he:=bb) (hy:=λ_=>bb)
  | false =>
  rw [hz,if_neg bc] at d
  refine aS (Hs.eng (dr:=true) (λ_ h=>h.hs)) {eq:=[(29,dG .i64 G),(31,ak I),(33,dG .i64 H),(40,ak n),(90,ak hz)],ov:=[(89,OB .u64 a sz Y)]} 160 (Hx.start h _) (λW f=>i W f.mp) (hx:=bb) (he:=bb) ?_
  rintro W3 e W4 h3 ⟨rfl,h4,k4⟩
  refine ⟨_,0,rfl,gh bb,aH (Hs r (aO hh r::eU w.heap.size [(#[.i op,.i rd,.i k,.i l,.i imm],80)]) (aj N A)) (hn:=bb) ?_⟩
  have h5:=h3.step h4 k4
  cases hc:(((c:Nat):Int) != 0) with
  | true =>
    rw [hc,if_pos rfl] at d
    subst d
    exact Hx.last (Hs.eng (dr:=true) (λ_ h=>h.hs)) {eq:=[(105,ak hc)]} 60 h5 (λW f=>dX c c16 a f.ht t) (hx:=bb) (he:=bb) (hy:=λ_=>bb)
  | false =>
  rw [hc,if_neg bc] at d
  rw [T] at d
  have s:=t.acc a sz 2 0
  have O:=λW (f:Mp B r N A W)=>fS N A B r a sz 2 0 W f t.len t.mw t.ok ki ab ab ha ⟨bc,bc⟩
  have ec:=λc=>AE (M:=N) (addr:=a) (size:=sz) (x:=0) (c:=c)
  generalize aC N a sz 2 0=X at *
  obtain ⟨y,D,c2⟩:=X
  dsimp only at s O ec d K
  have hv:=hV2 y K
  refine aS (Hs.eng (dr:=true) (λ_ h=>h.hs)) {eq:=[(105,ak hc),(111,ak m)]} 90 h5 (λE u=>O E u.mp) (hx:=bb) (he:=bb) ?_
  rintro W6 e W7 h6 ⟨rfl,C,h7,k7⟩
  refine ⟨_,0,rfl,gh bb,aH (Hs r (aO hh r::eU w.heap.size [(#[.i op,.i rd,.i k,.i l,.i imm],80)]) (aj D C)) (hn:=bb) ?_⟩
  cases g:(c2 != 0) with
  | true =>
    rw [g,if_pos rfl] at d
    subst d
    exact Hx.last (Hs.eng (dr:=true) (λ_ h=>h.hs)) {eq:=[(167,ak g),(170,dG .i64 (ec c2 rfl g).1),(171,dG .i64 (ec c2 rfl g).2.1)]} 60 (h6.step h7 k7) (λW f=>dX _ (ec c2 rfl g).2.2 a f.ht s) (hx:=bb) (he:=bb) (hy:=λ_=>bb)
  | false =>
  rw [g,if_neg bc] at d
  have gb:=s.acc a sz 3 (iT op y b)
  have Q:=λW (f:Mp B r D C W)=>fS D C B r a sz 3 (iT op y b) W f s.len s.mw s.ok ki ab ab ha hv
  have ed:=λc=>kh (M:=D) (addr:=a) (size:=sz) (kind:=3) (x:=iT op y b) (c:=c)
  have hAm:=λW=>Dh op y b K.1 K.2 hb.1 hb.2 W
  generalize aC D a sz 3 (iT op y b)=X at *
  generalize iT op y b=z at *
  generalize sK op=zb at *
  obtain ⟨y2,N4,c3⟩:=X
  dsimp only at gb Q ed d
  refine aS (Hs.eng (dr:=true) (λ_ h=>h.hs)) {eq:=[(167,ak g)]} 60 (h6.step h7 k7) (λE u=>hAm E) (hx:=bb) (he:=bb) ?_
  rintro W8 e W9 h8 ⟨rfl,hw9⟩
  subst hw9
  refine ⟨_,0,rfl,gh bb,?_⟩
  refine aS (Hs.eng (dr:=true) (λ_ h=>h.hs)) {} 60 h8 (λE u=>Q E u.mp) (hx:=bb) (he:=bb) ?_
  rintro Wa e Wb L ⟨rfl,C2,P,kb⟩
  refine ⟨_,0,rfl,gh bb,aH (Hs r (aO hh r::eU w.heap.size [(#[.i op,.i rd,.i k,.i l,.i imm],80)]) (aj N4 C2)) (hn:=bb) ?_⟩
  cases j:(c3 != 0) with
  | true =>
    rw [j,if_pos rfl] at d
    subst d
    exact Hx.last (Hs.eng (dr:=true) (λ_ h=>h.hs)) {eq:=[(195,ak j),(198,dG .i64 (ed c3 rfl j).1)]} 60 (L.step P kb) (λW f=>dX _ (ed c3 rfl j).2 a f.ht gb) (hx:=bb) (he:=bb) (hy:=λ_=>bb)
  | false =>
    rw [j,if_neg bc] at d
    subst d
    refine ae (Hs.eng (dr:=false) (λ_ h=>h.hs)) {eq:=[(195,ak j)]} 60 (L.step P kb) (hret:=bb) (he:=bb) λWc hc9=>?_
    refine lG 9 (hm:=bb) (hk:=bb) ?_
    refine aS (Hs.eng (dr:=true) (λ_ h=>h.hs)) {} 60 (hc9.below (Below.refl _ _).drew) (λW _=>eB y (8*sz) ki ki W) (hx:=bb) (he:=bb) ?_
    rintro W10 e W11 J ⟨rfl,Z⟩
    subst Z
    refine ⟨_,0,rfl,λ_=>J.hs,?_⟩
    exact Hx.last (Hs.eng (dr:=true) (λ_ h=>h.hs)) {} 60 J (λW f=>fq rd (au (8*sz) y) _ hr0 hr1 f.ht gb.x32 (aI gb.ok).1) (hx:=bb) (he:=bb) (hy:=λ_=>bb)
end
def Ud (D:DV):Prop:=U D.t/\U D.cm
theorem tW (a: -9223372036854775808<=x) (b:x<9223372036854775808):(Lit.int .i64 x).wf=true:=by simp [Lit.wf,IntKind.min,IntKind.max,IntKind.signed,IntKind.bits];omega
theorem l8:U 0:=⟨bc,bc⟩
theorem FK (h:∀ y ∈ W,(Lit.int .u8 y).wf=true) (i:Nat):0<=W.getD i 0/\W.getD i 0<=255:=by
 by_cases a:i<W.length;·exact GZ (h (W.getD i 0) (by simp [List.getD,List.getElem?_eq_getElem a]))
 ·simp [List.getD,List.getElem?_eq_none (Nat.le_of_not_lt a)]
theorem Vr (h:Ud p) (hb:dU p) (k:Nat):U (jn p k).1:=by
 unfold jn;split;·show U (gt p.so);cases p.so<;>exact ⟨bc,bc⟩
 ·exact h.2
 ·exact h.1
 ·have:=FK hb.1 0;exact ⟨this.1,by show p.xs.getD 0 0<_;omega⟩
 ·exact aU _
 ·exact aU _
 ·exact l8
theorem Vt (h:Gd a) (hd:Ud a.d) (pa:Int) (n:Nat) (hn:n<=8) (kind x:Int):U (tE a pa n kind x).1:=by
 unfold tE;split
 ·split;·exact l8
  ·exact uO a.ram (FK h.mw.ram) _ _ (by rw [Int.toNat_natCast];exact hn)
 ·split
  ·split;·exact Vr hd ⟨h.mw.xs,h.mw.ys⟩ _
   ·exact l8
  ·split;·split<;>exact l8
   ·exact l8
theorem tX (h:Gd a) (hd:Ud a.d) (M:Int) (n:Nat) (hn:n<=8) (kind x:Int):U (aC a M n kind x).1:=by
 unfold aC;split;·exact l8
 ·unfold zU;split;·exact l8
  ·split;·exact l8
   ·exact Vt (h.marked _) hd _ n hn kind x
theorem Us (h:Ud p) (k:Nat):Ud (jn p k).2.1:=by
 unfold jn;split;·exact h
 ·exact h
 ·exact h
 ·exact ⟨h.1,h.2⟩
 ·exact h
 ·exact h
 ·exact ⟨l8,l8⟩
theorem Ut (h:Ud p) (hx:U x) (addr size:Int):Ud (fP p x (gA addr size)).1:=by
 have a:=Gr p x;have d:=Gs p x;have f:=Gt p x;have b:(fP p x 3).1.t=p.t/\(fP p x 3).1.cm=p.cm:=by
  by_cases c:p.ys.length<4096;·rw [zE _ _ c];exact a08
  ·rw [zF _ _ c];exact a08
 obtain ⟨q,g⟩:∃ q,fP p x 4=(⟨p.t,p.cm,p.so,p.xs,p.ys,q⟩,true):=⟨_,Gu p x⟩;have i:=Gv p x;have j:=Gx p x;generalize (bits .and .u64 x 1==1)=r at a;refine jQ addr size (λk=>Ud (fP p x k).1) (λ_ _=>?_) (λ_ _=>?_) (λ_ _=>?_) (λ_ _=>?_) (λ_ _=>?_) (λ_ _=>?_) (λ_ _ _ _ _ _=>?_);·show Ud (fP p x 0).1;rw [a];exact ⟨h.1,h.2⟩
 ·show Ud (fP p x 1).1;rw [d];exact ⟨h.1,hx⟩
 ·show Ud (fP p x 2).1;rw [f];exact ⟨hx,h.2⟩
 ·show Ud (fP p x 3).1;unfold Ud;rw [b.1,b.2];exact h
 ·have e:(fP p x 4).1=⟨p.t,p.cm,p.so,p.xs,p.ys,q⟩:=congrArg Prod.fst g;exact e ▸ (⟨h.1,h.2⟩:Ud ⟨p.t,p.cm,p.so,p.xs,p.ys,q⟩)
 ·show Ud (fP p x 5).1;rw [i];exact h
 ·show Ud (fP p x 6).1;rw [j];exact ⟨l8,l8⟩
theorem NH (h:Ud M.d) (pa:Int):Ud (nW M pa).d:=by unfold nW;split<;>exact h
theorem AG (h:Ud a.d) (M n kind:Int) (hx:U x):Ud (aC a M n kind x).2.1.d:=by
 have key:∀ (N:MV) (b:Int),Ud N.d->Ud (tE N b n kind x).2.1.d:=by
  intro N b c;unfold tE;split
  ·split;·have k:∀ R,Ud (nW (bU N R) b).d:=λR=>NH (M:=bU N R) c b;exact k _
   ·exact c
  ·split
   ·split;·have k:∀ D,Ud D->Ud (cK (db N D)).d:=λD d=>d;exact k _ (Us c _)
    ·exact c
   ·split
    ·split;·have k:∀ D,Ud D->Ud (nW (cK (db N D)) b).d:=λD d=>NH (M:=cK (db N D)) d b;exact k _ (Ut c hx _ _)
     ·exact c
    ·exact c
 unfold aC;split;·exact h
 ·unfold zU;split;·exact h
  ·split;·exact h
   ·have k:∀ R b,Ud (tE (bU a R) b n kind x).2.1.d:=λR b=>key (bU a R) b h;exact k _ _
theorem Vu (f:MF) (c:U x) (hb:U b):U (f.v x b):=by
 cases f<;>unfold MF.v<;>dsimp only;·exact hb
 ·exact aU _
 ·exact ah _ _ _
 ·exact ah _ _ _
 ·exact ah _ _ _
 all_goals (split<;>assumption)
theorem H6 (c:U x) (hb:U b):U (iT s x b):=by
 unfold iT;split;·exact Vu _ c hb
 ·split;·generalize (mF (s-65).toNat).v (au 32 x) (au 32 b)=y;unfold U;omega
  ·exact l8
section
variable {B hh r : Nat} {M : MV} {A : MA} {w : World}
theorem NI (i:Ins) (a b:Int) (n:63<=i.op) (o:i.op<=84) (c:0<=i.rd) (d:i.rd<=31) (j:U a) (hb:U b) (h:Ht B hh r M A w) (g:Gd M) (hd:Ud M.d):Calls prog 101 #[.p hh 0,.agg #[.i i.op,.i i.rd,.i i.a,.i i.b,.i i.imm],.u a,.u b] w (HR B hh r M A w (iU M i a b)):=by
 obtain ⟨f,m,k,l,e⟩:=i;dsimp only at n o c d ⊢;by_cases q:f=63;·subst q;exact Uq _ m k l e a b (.inl rfl) c d j hb h g
 by_cases e2:f=64;·subst e2;exact Ur _ m k l e a b (.inl rfl) c d j hb h g
 by_cases e3:f<=73;·exact NG f m k l e a b 4 ab c d j hb h g (tX (g.marked _) hd a 4 ab 2 0) (λy p=>H6 f p hb)
 by_cases e4:f=74;·subst e4;exact Uq _ m k l e a b (.inr rfl) c d j hb h g
 by_cases e5:f=75;·subst e5;exact Ur _ m k l e a b (.inr rfl) c d j hb h g
 exact NG f m k l e a b 8 ab c d j hb h g (tX (g.marked _) hd a 8 ab 2 0) (λy p=>H6 f p hb)
end
theorem Uu (b:U x) (n:Nat):U (x/2^n):=by have c:(0:Int)<2^n:=Int.pow_pos ab;refine ⟨Int.ediv_nonneg b.1 ab,?_⟩;have:x/2^n<=x:=Int.ediv_le_self _ b.1;have:=b.2;omega
theorem NJ (c:U x) (hb:U b):U (kQ x b):=by unfold kQ;refine ⟨Int.ediv_nonneg (Int.mul_nonneg c.1 hb.1) ab,Int.ediv_lt_of_lt_mul ab ?_⟩;have d:x*b<=x*18446744073709551616:=Int.mul_le_mul_of_nonneg_left (by have:=hb.2;omega) c.1;have e:x*18446744073709551616<18446744073709551616*18446744073709551616:=Int.mul_lt_mul_of_pos_right c.2 ab;omega
theorem Vv (f:AF) (d:U x) (hb:U b):U (f.v x b):=by
 have g:∀ c:Bool,U (Ex c):=λc=>by cases c<;>exact ⟨bc,bc⟩
 have e:U (gm x b):=by unfold gm;split;exact aU _;exact NJ d hb
 cases f<;>unfold AF.v<;>dsimp only;·exact aU _
 ·exact g _
 ·exact g _
 ·exact ah _ _ _
 ·exact ah _ _ _
 ·exact ah _ _ _
 ·exact aU _
 ·exact Uu d _
 ·exact aU _
 ·exact aU _
 ·exact aU _
 ·unfold mv;split;exact aU _;exact e
 ·exact e
 ·exact NJ d hb
 ·split;exact ⟨bc,bc⟩;exact aU _
 ·split;exact ⟨bc,bc⟩;exact aU _
 ·split;exact d;exact aU _
 ·split;·exact d
  ·rw [Int.tmod_eq_emod_of_nonneg d.1];have h:=Int.emod_nonneg x (show b≠0 by assumption);have i:=Int.emod_lt_of_pos x (show 0<b by have:=hb.1;omega);exact ⟨h,by have:=hb.2;omega⟩
theorem Uv (c:U x) (hb:U b):U (nv s x b):=by
 unfold nv;split
 ·cases oz (s-22).toNat with
  | d f=>exact Vv f c hb
  | w f l r=>exact br _
 ·exact l8
theorem Gd.al4 (h:Gd a):a.pc%4=0:=by have M:=(fg h.ok).1;rw [PH _ h.pc] at M;exact eq_of_beq M
theorem Te (h:U x) (h4:x%4=0):bits .and .u64 x 3=0:=by rw [PH _ h,h4]
theorem Tf (h:Gd a):bits .and .u64 (Uz.wrap (a.pc+4)) 3=0:=Te (aU _) (by have:=h.al4;rw [IntKind.wrap_u64];omega)
theorem Tg (h:U x) (he:x%2=0) (g:(bits .and .u64 x 2 != 0)=false):bits .and .u64 x 3=0:=by
 have k:bits .and .u64 x 2=0:=v8
 refine bF _ _ (ah _ _ _) l8 λi l=>?_;have d:bt x 0=false:=by have:bits .and .u64 x 1=x%2:=cI x 1 h.1 h.2 ab;rw [he] at this;have q:=aw x 1 0;rw [this] at q;have a:bt 0 0=false:=bc;have b:bt 1 0=true:=bc;rw [a,b,Bool.and_true] at q;exact q.symm
 have f:bt x 1=false:=by have q:=aw x 2 1;rw [k] at q;have a:bt 0 1=false:=bc;have b:bt 2 1=true:=bc;rw [a,b,Bool.and_true] at q;exact q.symm
 rw [aw];have key:∀ j,j<64->∀ c:Bool,(j=0->c=false)->(j=1->c=false)->(c&&bt 3 j)=bt 0 j:=cb
 exact key i l _ (λe=>by rw [e];exact d) (λe=>by rw [e];exact f)
theorem Kg:bits .andNot .u64 s 1%2=0:=by
 have a:=ah .andNot s 1;have d:bits .and .u64 (bits .andNot .u64 s 1) 1=bits .andNot .u64 s 1%2:=cI _ 1 a.1 a.2 ab;rw [<- d];refine bF _ _ (ah _ _ _) l8 λi b=>?_;rw [aw,ay _ _ _ b];have key:∀ j,j<64->∀ c:Bool,((c&&!bt 1 j)&&bt 1 j)=bt 0 j:=cb
 exact key i b _
theorem NK (h:∀ j,U (W.getD j 0)) (n:Int):U (dE W n):=by
 unfold dE;split;·exact l8
 ·split;·exact ⟨bc,bc⟩
  ·split;·exact ah _ _ _
   ·split;·exact ah _ _ _
    ·split;·exact ah _ _ _
     ·exact h _
theorem H7 (h:q.length=22) (n x:Int):bits .and .u64 ((cn q n x).getD 9 0) 2184=bits .and .u64 (q.getD 9 0) 2184:=by
 have d:∀ m,(∀ i,i<64->(bt m i&&bt 2184 i)=false)->bits .and .u64 (iM (q.getD 9 0) m x) 2184=bits .and .u64 (q.getD 9 0) 2184:=λm p=>by
  refine bF _ _ (ah _ _ _) (ah _ _ _) λi f=>?_;unfold iM;rw [aw,cE,aw,ay _ _ _ f,aw];have:=p i f;cases j:bt 2184 i;·simp
  ·rw [j,Bool.and_true] at this;rw [this];simp
 have set:∀ k,k≠9->∀ v,(q.set k v).getD 9 0=q.getD 9 0:=λk o v=>jY q k 9 v o;have a:∀ v,(q.set 9 v).getD 9 0=v:=λv=>sn q 9 v ab;have l:∀ i,i<64->∀ c:Bool,((c&&bt 2 i)&&bt 2184 i)=false:=cb
 have b:∀ i,i<64->(bt 546 i&&bt 2184 i)=false:=cb
 unfold cn;split;·rfl
 ·split;·rw [set 0 ab]
  ·split;·rw [set 3 ab]
   ·split;·rw [a];exact d _ λi f=>by rw [aw];exact l i f _
    ·unfold fV;split;·rw [a];exact d _ b
     ·split
      ·split;·rw [set 15 ab]
       ·rfl
      ·split;·rw [set 16 ab]
       ·rename_i r _ _;have s:=rM n;have g:(cU n).toNat≠9\/cU n=-1:=ab;split
        ·split;·rfl
         ·rw [set _ ab]
        ·rcases g with e|e;·rw [set _ e]
         ·rw [e];exact congrArg (λy=>bits .and .u64 y 2184) (set 0 ab _)
theorem Gd.cs_ (h:Gd M) (hz:W.length=22) (a:bE 22 W=true) (m:∀ j,U (W.getD j 0)) (k:bits .and .u64 (W.getD 9 0) 2184=bits .and .u64 (M.cs.getD 9 0) 2184):Gd (iK M W):=by
 obtain ⟨c,d,n,e,f,g,i⟩:=fg h.ok;obtain ⟨_,_,b,_,_,_⟩:=aI h.ok;refine ⟨kY (M:=iK M W) c d ?_ e f g ?_,⟨m,h.mw.ram,h.mw.xs,h.mw.ys⟩,h.ux,h.pc,h.hd⟩;·show bn W.length W M.pr=true;unfold bn;rw [hz,a,b];rfl
 ·show (bits .and .u64 (W.getD 9 0) 2184==dP M.d)=true;rw [k];exact i
theorem Gd.priv (h:Gd a) (j:bZ x=true):Gd (gz a x):=by obtain ⟨c,d,k,e,f,g,i⟩:=fg h.ok;obtain ⟨M,b,_,_,_,_⟩:=aI h.ok;refine ⟨kY (M:=gz a x) c d ?_ e f g i,⟨h.mw.cs,h.mw.ram,h.mw.xs,h.mw.ys⟩,h.ux,h.pc,h.hd⟩;show bn a.cs.length a.cs x=true;unfold bn;rw [M,b,j];rfl
def Gw (M:MV):Prop:=Gd M/\Ud M.d
theorem iX (h:Gw a) (hk:l<16) (i:Bool) (hv:U x):Gw (aM a l i x):=⟨h.1.trap hk i hv,h.2⟩
theorem AH (h:Gw a) (M:0<=w) (to:w<=31) (hx:U x) (c:U b) (h4:bits .and .u64 b 3=0):Gw (be a w x b):=⟨h.1.done M to hx c h4,h.2⟩
theorem j5 (h:Gw a) (M n kind:Int) (hx:U x):Gw (aC a M n kind x).2.1:=⟨h.1.acc M n kind x,AG h.2 M n kind hx⟩
theorem ls (h:Gw a) {kind v:Int} (hx:U x) (n:((aC a w b kind x).2.2 != 0)=true) (hv:U v):Gw (cL (aC a w b kind x) 0 v).1:=by unfold cL;exact iX (j5 h w b kind hx) (kh rfl n).2 false hv
theorem NL (h:Gw a) (M kind:Int):Gw (dA a M kind):=⟨h.1.marked _,h.2⟩
theorem iD (h:Gw a) (M:0<=w) (b:w<=31) (hx:U x) {N:MV} (c:Gw N) (e:N.pc=a.pc):Gw (be N w x (Uz.wrap (a.pc+4))):=AH c M b hx (aU _) (by rw [<- e];exact Tf c.1)
theorem Ql (h:Gw a) (d:jN v) (g:3<=v.op) (e:v.op<=10) (M b:Int):Gw (pV a v M b (Uz.wrap v.imm)).1:=by
 have c:U (fL a v M b (Uz.wrap v.imm))/\fL a v M b (Uz.wrap v.imm)%2=0:=by
  have j:=h.1.al4;unfold fL;split;·exact ⟨ah .andNot _ 1,Kg _⟩
  ·rename_i k;split;·refine ⟨aU _,?_⟩;rw [IntKind.wrap_u64];omega
   ·refine ⟨aU _,?_⟩;have:=d.even ab;rw [IntKind.wrap_u64,IntKind.wrap_u64];omega
 unfold pV;split;·exact iX h bc false c.1
 ·rename_i f;refine AH h ?_ ?_ (aU _) c.1 (Tg c.1 c.2 kd);·split;exact Int.le_refl 0;exact d.rd0
  ·split;decide;exact d.rd31
theorem Qm (h:Gw a) (e:jN v) (c:11<=v.op) (d:v.op<=17) (f:U x):Gw (mZ a v x).1:=by
 have g:jK v.op<=8:=by obtain ⟨b,m,k,l,j⟩:=v;dsimp only at c d ⊢;obtain rfl|rfl|rfl|rfl|rfl|rfl|rfl:b=11\/b=12\/b=13\/b=14\/b=15\/b=16\/b=17:=ab;all_goals decide
 unfold mZ;dsimp only;split;·exact ls h l8 ‹_› f
 ·refine iD (j5 h x _ 2 l8) e.rd0 e.rd31 ?_ (j5 h x _ 2 l8) rfl;split;·exact aU _
  ·exact tX h.1 h.2 x _ g 2 0
theorem NM (h:Gw a) (c:U x) (hb:U b):Gw (nL a v x b).1:=by
 unfold nL;dsimp only;split;·exact ls h hb ‹_› c
 ·exact iD (j5 h x _ 3 hb) bc bc l8 (j5 h x _ 3 hb) rfl
theorem AI (h:Gw a) {b:Bool} (c:U x) (hb:b=true\/x=0):Gw (cw a b x):=⟨h.1.hold c hb,h.2⟩
theorem Qn (h:Gw a) (f:jN v) (g:U x) (hb:U b):Gw (iU a v x b).1:=by
 have p:bD v.op<=8:=by unfold bD;split<;>decide
 have d:=NL h x 3;have q:∀ kind,(dA a x kind).pc=a.pc:=λ_=>rfl;unfold iU;split
 ·unfold Uo;dsimp only;split;·exact ls h l8 ‹_› g
  ·have o:=j5 h x (bD v.op) 2 l8;have e:=(iS a x (bD v.op) 2 0).1;exact iD h f.rd0 f.rd31 (aU _) (AI (NL o x 2) (uF _ _ _ _ _ _ g) (Or.inl rfl)) e
 ·split;·exact iX h bc false g
  ·split;·obtain ⟨c,j,k⟩:=lT a.ram a.ram.length a.cs (gc a.cs a.pr 3) x 3;have l:(cy a x 3).code=c:=k;rw [l,Int.toNat_natCast];exact iX d j false g
   ·split
    ·unfold Vp;split
     ·dsimp only;split;·exact ls d hb ‹_› g
      ·exact iD d f.rd0 f.rd31 l8 (AI (j5 d x _ 3 hb) l8 (Or.inr rfl)) (iS (dA a x 3) x (bD v.op) 3 b).1
     ·exact iD d f.rd0 f.rd31 ⟨bc,bc⟩ (AI d l8 (Or.inr rfl)) rfl
    ·unfold SZ;dsimp only;split;·rename_i k;unfold cL;exact iX (j5 d x _ 2 l8) (AE rfl k).2.2 false g
     ·have m:=j5 d x (bD v.op) 2 l8;have n:U (iT v.op (aC (dA a x 3) x (bD v.op) 2 0).1 b):=H6 _ (tX d.1 d.2 x _ p 2 0) hb;split;·exact ls m n ‹_› g
      ·exact iD d f.rd0 f.rd31 (aU _) (j5 m x _ 3 n) ((iS _ _ _ _ _).1.trans (iS _ _ _ _ _).1)
theorem Th (h:Gw a) (j:jN v) (l:U x) (o:U w):Gw (nM a v x w).1:=by
 unfold nM;split;·exact iX h bc false o
 ·rename_i g;have n:=NK h.1.mw.cs v.imm;have d:=iD h j.rd0 j.rd31 n h rfl;have b:jt a.cs.length a.cs v.imm a.pr=true:=by
   cases q:jt a.cs.length a.cs v.imm a.pr;·rw [q] at g;exact absurd rfl g
   ·rfl
  have f:dB v.imm=true:=(by unfold jt at b;simp only [Bool.and_eq_true] at b;exact b.1.1.2);have k:U (uk v x (dE a.cs v.imm)):=by
   have m:U (lW v x):=(by unfold lW;split;exact aU _;exact l);unfold uk;split;·exact ah _ _ _
   ·split;·exact ah _ _ _
    ·exact m
  dsimp only;split;·generalize be a v.rd (dE a.cs v.imm) (Uz.wrap (a.pc+4))=N at d ⊢;obtain ⟨c,e,_,_,_,_⟩:=aI d.1.ok;exact ⟨d.1.cs_ (by rw [pY];exact c) (tI _ c d.1.mw.cs e _ _ k f) (GW _ d.1.mw.cs _ _ k) (H7 _ c _ _),d.2⟩
  ·exact d
theorem xg (h:U s) (a:fI 0 s=true) (m:Bool):bZ (dx s m)=true:=by
 cases m with
 | true=>exact Cp s h a
 | false =>show bZ (wrap64 (ap s 8))=true;rw [yO s 8 h];split<;>decide +kernel
theorem Ti (h:Gw a) (g:jN v) (d:U w):Gw (kN a v w).1:=by
 obtain ⟨b,M,f,_,_,_⟩:=aI h.1.ok;have u0:=h.1.mw.cs 0;have c:=eM M 0 ab;unfold kN;split;·refine iX h ?_ false l8;unfold o6;split;decide;split<;>decide
 ·split;·exact iX h bc false h.1.pc
  ·split
   ·split;·exact iX h bc false d
    ·have e:Gd (iK a (a.cs.set 0 (cW (a.cs.getD 0 0) (v.op==96)))):=h.1.cs_ (by rw [List.length_set];exact b) (cR _ b M 0 ab _ (Cy _ u0 _ c)) (jE _ h.1.mw.cs 0 _ (rt _ _)) (by rw [jY _ 0 9 _ ab]);refine AH ⟨e.priv (xg _ u0 c _),h.2⟩ bc bc l8 ?_ ?_;·unfold eH;split;exact h.1.mw.cs 6;exact h.1.mw.cs 12
     ·unfold eH;split;·exact VH _ (Or.inl (eM M 6 ab))
      ·exact VH _ (Or.inr (eM M 12 ab))
   ·split;·exact iX h bc false d
    ·split;·exact iD h bc bc l8 (N:=gy a true) ⟨h.1.wait true,h.2⟩ rfl
     ·exact iD h bc bc l8 h rfl
theorem Qo (h:Gw a) (M:jN v) (d:U w):Gw (dq a v w).1:=by
 have b:=h.1.ux v.a.toNat;have c:=h.1.ux v.b.toNat;have e:=M.op1;unfold dq;dsimp only;split;·exact iD h M.rd0 M.rd31 (aU _) h rfl
 split;·exact iD h M.rd0 M.rd31 (aU _) h rfl
 split;·exact Ql h M ab ‹_› _ _
 split;·exact Qm h M ab ‹_› (aU _)
 split;·exact NM h (aU _) c
 split;·exact iD h M.rd0 M.rd31 (Uv _ b (by split;exact c;exact aU _)) h rfl
 split;·exact Qn h M b c
 split;·exact iD h bc bc l8 h rfl
 split;·exact Th h M b d
 ·exact Ti h M d
theorem Qp (h:Gw a) (g:∀ l p,0<=fN l p->∃ k:Nat,k<16/\fN l p=k):Gw (cj a).1:=by
 have M:Gw (gy a false):=⟨h.1.wait false,h.2⟩;unfold cj;split;·exact h
 ·split;·rename_i f;obtain ⟨k,b,e⟩:=g _ _ f;rw [e,Int.toNat_natCast];exact iX M b true l8
  ·dsimp only;split;·exact ls M l8 ‹_› (j5 M a.pc 4 1 l8).1.pc
   ·have c:=tX M.1 M.2 a.pc 4 ab 1 0;split;·exact iX (j5 M a.pc 4 1 l8) bc false c
    ·rename_i i d;exact Qo (j5 M a.pc 4 1 l8) (Au d) c
theorem tY:(cn q s t).length=q.length:=by exact pY q s t
theorem NN (h:jt a.cs.length a.cs v.imm a.pr=false):nM a v x w=(aM a 2 false w,2):=by unfold nM;rw [h,Bool.not_false,Bool.true_or,if_pos rfl]
theorem Qq (h:jt a.cs.length a.cs v.imm a.pr=true) (b:ey v=true) (hr:((wrap64 (v.imm.tdiv 1024)).tmod 4==3)=true):nM a v x w=(aM a 2 false w,2):=by unfold nM;rw [h,b,hr,Bool.not_true,Bool.false_or,Bool.and_self,if_pos rfl]
theorem Qr (h:jt a.cs.length a.cs v.imm a.pr=true) (b:ey v=false):nM a v x w=(be a v.rd (dE a.cs v.imm) (Uz.wrap (a.pc+4)),1):=by unfold nM;rw [h,b,Bool.not_true,Bool.false_or,Bool.false_and,if_neg bc];dsimp only;rw [if_neg bc]
theorem NP (h:jt a.cs.length a.cs v.imm a.pr=true) (i:ey v=true) (hr:((wrap64 (v.imm.tdiv 1024)).tmod 4==3)=false) (hv:uk v x (dE a.cs v.imm)=b):nM a v x w=(iK (be a v.rd (dE a.cs v.imm) (Uz.wrap (a.pc+4))) (cn (be a v.rd (dE a.cs v.imm) (Uz.wrap (a.pc+4))).cs v.imm b),1):=by unfold nM;rw [h,i,hr,Bool.not_true,Bool.false_or,Bool.and_false,if_neg bc];dsimp only;rw [if_pos rfl,hv]
theorem FL {r:Nat} {M:MA} (h:Ht n A r a M B) (w:a.cs.length=22) (hh:Int) (hk:dB hh=true) (x:Int): Calls prog 150 #[.slice M.ac a.cs.length M.cc,.i hh,.u x] B λe c=>e=.returned (.tuple #[])/\Ht n A r (iK a (cn a.cs hh x)) M c/\Kx r (aG a M) (aG (iK a (cn a.cs hh x)) M) B c/\(iK a (cn a.cs hh x)).cs.length=a.cs.length:=by obtain ⟨g,d,b,f⟩:=h.mp.cs w;rw [d,w];refine (BP n g M.cc a.cs hh x hk B b).mono λe c ⟨j,k,l⟩=>?_;obtain ⟨m,i⟩:=f c _ (by rw [tY];exact w) l k;exact ⟨j,h.step m i,i,(tY _ _ _).trans w⟩
section
variable {B hh r : Nat} {M : MV} {A : MA} {w : World}
theorem Uw (i:Ins) (a x:Int) (h87:87<=i.op) (h92:i.op<=92) (E:0<=i.rd) (F:i.rd<=31) (hx:U x) (h:Ht B hh r M A w) (N:Gd M):Calls prog 102 #[.p hh 0,.agg #[.i i.op,.i i.rd,.i i.a,.i i.b,.i i.imm],.u a,.u x] w (HR B hh r M A w (nM M i a x)):=by
 obtain ⟨V,p⟩:∃ V,nM M i a x=V:=⟨_,rfl⟩;have m:=(aI N.ok).1;rw [p];obtain ⟨g,d,j,l,c⟩:=i;dsimp only at h87 h92 E F ⊢;have T:IntKind.i64.wrap (g-87)=g-87:=by rw [IntKind.wrap_i64];omega
 have fin:∀ (S:World->Prop) (v:Int) (C:MA) (W:World),dB c=true->(iK (be M d (dE M.cs c) (Uz.wrap (M.pc+4))) (cn (be M d (dE M.cs c) (Uz.wrap (M.pc+4))).cs c v),1)=V->Hx B r (aO hh r::eU w.heap.size [(#[.i g,.i d,.i j,.i l,.i c],80)]) M A w (be M d (dE M.cs c) (Uz.wrap (M.pc+4))) C W->Wg prog S (bodyPost prog Tryz.f102 (HR B hh r M A w V)) Tryz.f102.ntmps [.code (iF (aq 2 (Ca (aq 1 (iF (aq 8 (aL Tryz.f102))))))),.code (aq 3 (Ca (aq 1 (iF (aq 8 (aL Tryz.f102)))))),.code (aq 9 (aL Tryz.f102))] [(0,.p hh 0,2),(5,.p w.heap.size 0,3),(9,.p r 0,1),(13,.i 1,0),(14,.u v,0)] W:=by
  intro S v C W q eV f;subst eV;have X:(be M d (dE M.cs c) (Uz.wrap (M.pc+4))).cs.length=22:=(by show (M.cs.set _ _).length=22;rw [List.length_set];exact m);refine aH (Hs r (aO hh r::eU w.heap.size [(#[.i g,.i d,.i j,.i l,.i c],80)]) (aj (be M d (dE M.cs c) (Uz.wrap (M.pc+4))) C)) ?_;refine lG 7 ?_;refine aS (Hs.eng (dr:=true) (λ_ h=>h.hs)) {} 60 (f.below (Below.refl _ _).drew) (λP o=>FL o.ht X c q v) ?_;rintro P e W2 o ⟨rfl,u,k2,_⟩;refine ⟨_,0,rfl,gh ba,aH (Hs r (aO hh r::eU w.heap.size [(#[.i g,.i d,.i j,.i l,.i c],80)]) (aj (iK (be M d (dE M.cs c) (Uz.wrap (M.pc+4))) (cn (be M d (dE M.cs c) (Uz.wrap (M.pc+4))).cs c v)) C)) ?_⟩;have K:=o.to u k2;obtain ⟨p0,q0⟩:∃ b,(cU c==0)=b:=⟨_,rfl⟩;obtain ⟨p1,q1⟩:∃ b,(cU c==15)=b:=⟨_,rfl⟩;have J:=λW=>ei (cU c) 16 20 W;obtain ⟨p2,q2⟩:∃ b,decide (16<=cU c/\cU c<=20)=b:=⟨_,rfl⟩;rw [q2] at J;cases p0<;>cases p1<;>cases p2 <;>
  exact bm (t:=8) (v:=.i 1) (Hs.eng (dr:=true) (λ_ h=>h.hs)) {eq:=[(104,ak q0),(107,ak q1)],cv:=[(102,jp Hx.below λW _=>dK c W),(111,ke λW _=>J W),(114,ke λW f=>m7 _ C B hh r W f.ht)]} 100 K λW f=>⟨rfl,C,f.ht,f.kx⟩
 have main:∀ (I:Int) (wr:Bool),lW ⟨g,d,j,l,c⟩ a=I->ey ⟨g,d,j,l,c⟩=wr->∀ (S:World->Prop) (W:World),Hx B r (aO hh r::eU w.heap.size [(#[.i g,.i d,.i j,.i l,.i c],80)]) M A w M A W->Wg prog S (bodyPost prog Tryz.f102 (HR B hh r M A w V)) Tryz.f102.ntmps [.code (iF (iF (aq 5 (aL Tryz.f102)))),.code (aq 1 (iF (aq 5 (aL Tryz.f102)))),.code (aq 6 (aL Tryz.f102))] [(0,.p hh 0,2),(3,.u x,0),(5,.p w.heap.size 0,3),(9,.p r 0,1),(10,.i ((g-87).tmod 3),0),(2,.u I,0),(11,.bool wr,0)] W:=by
  intro I wr D n S W f;refine aH (Hs r (aO hh r::eU w.heap.size [(#[.i g,.i d,.i j,.i l,.i c],80)]) (aj M A)) ?_;obtain ⟨my,k⟩:∃ my,jt M.cs.length M.cs c M.pr=my:=⟨_,rfl⟩;refine aS (Hs.eng (dr:=true) (λ_ h=>h.hs)) {} 60 f (λP o=>I0 A.ac M.cs.length A.cc M.cs c M.pr P rfl o.mp.fam.msl.cs) ?_;rintro P e W2 o ⟨rfl,hb1⟩;rw [k];have u:=o.below hb1;refine ⟨_,0,rfl,λ_=>u.hs,?_⟩;cases my with
  | false =>rw [NN k] at p;subst p;exact Hx.last (Hs.eng (dr:=false) (λ_ h=>h.hs)) {} 60 u (λW f=>dX 2 bc x f.ht N)
  | true =>
    have q:dB c=true:=(by unfold jt at k;simp only [Bool.and_eq_true] at k;exact k.1.1.2);have O:∀ W,Hx B r (aO hh r::eU w.heap.size [(#[.i g,.i d,.i j,.i l,.i c],80)]) M A w M A W->CB 149 #[.slice A.ac M.cs.length A.cc,.i c] W (.u (dE M.cs c)):=λW f=>by rw [m];exact EG A.ac A.cc M.cs c W m f.mp.fam.msl.cs q
    obtain ⟨Q,G⟩:∃ Q,((wrap64 (c.tdiv 1024)).tmod 4==3)=Q:=⟨_,rfl⟩;have s:((IntKind.i64.wrap (c.tdiv 1024)).tmod 4==3)=Q:=(by rw [<- G,IntKind.wrap_i64];unfold wrap64;rfl);cases wr with
    | false =>rw [Qr k n] at p;subst p;refine ae (Hs.eng (dr:=false) (λ_ h=>h.hs)) {} 60 u λW3 K=>?_;refine aS (Hs.eng (dr:=true) (λ_ h=>h.hs)) {} 40 K O ?_;rintro W4 e W5 J ⟨rfl,z⟩;have L:=J.below z;refine ⟨_,0,rfl,λ_=>L.hs,?_⟩;refine ae (Hs.eng (dr:=false) (λ_ h=>h.hs)) {} 40 L λW6 Y=>?_;refine lG 9 ?_;refine aS (Hs.eng (dr:=true) (λ_ h=>h.hs)) {} 40 (Y.below (Below.refl _ _).drew) (λW f=>fq d (dE M.cs c) (Uz.wrap (M.pc+4)) E F f.ht N.x32 m) ?_;rintro W7 e W8 Z ⟨rfl,C,h8,k8⟩;refine ⟨_,0,rfl,gh ba,aH (Hs r (aO hh r::eU w.heap.size [(#[.i g,.i d,.i j,.i l,.i c],80)]) (aj (be M d (dE M.cs c) (Uz.wrap (M.pc+4))) C)) ?_⟩;have y:=Z.to h8 k8;exact bm (t:=8) (v:=.i 1) (Hs.eng (dr:=false) (λ_ h=>h.hs)) {} 60 y λW f=>⟨rfl,C,f.ht,f.kx⟩
    | true =>
      cases Q with
      | true =>rw [Qq k n G] at p;subst p;exact Hx.last (Hs.eng (dr:=false) (λ_ h=>h.hs)) {eq:=[(56,ak s)]} 60 u (λW f=>dX 2 bc x f.ht N)
      | false =>
        refine ae (Hs.eng (dr:=false) (λ_ h=>h.hs)) {eq:=[(56,ak s)]} 60 u λW3 K=>?_;refine aS (Hs.eng (dr:=true) (λ_ h=>h.hs)) {} 40 K O ?_;rintro W4 e W5 J ⟨rfl,z⟩;have L:=J.below z;refine ⟨_,0,rfl,λ_=>L.hs,?_⟩;refine ae (Hs.eng (dr:=false) (λ_ h=>h.hs)) {} 40 L λW6 Y=>?_;refine lG 9 ?_;refine aS (Hs.eng (dr:=true) (λ_ h=>h.hs)) {} 40 (Y.below (Below.refl _ _).drew) (λW f=>fq d (dE M.cs c) (Uz.wrap (M.pc+4)) E F f.ht N.x32 m) ?_;rintro W7 e W8 Z ⟨rfl,C,h8,k8⟩;refine ⟨_,0,rfl,gh ba,aH (Hs r (aO hh r::eU w.heap.size [(#[.i g,.i d,.i j,.i l,.i c],80)]) (aj (be M d (dE M.cs c) (Uz.wrap (M.pc+4))) C)) ?_⟩;have y:=Z.to h8 k8;obtain ⟨H,g1⟩:∃ b,((g-87).tmod 3==1)=b:=⟨_,rfl⟩;obtain ⟨R,g2⟩:∃ b,((g-87).tmod 3==2)=b:=⟨_,rfl⟩;have hv:uk ⟨g,d,j,l,c⟩ a (dE M.cs c)=bif H then bits .or .u64 (dE M.cs c) I else bif R then bits .andNot .u64 (dE M.cs c) I else I:=by unfold uk;dsimp only;rw [g1,g2,D];cases H<;>cases R<;>rfl
        rw [NP k n G hv] at p;cases H<;>cases R <;>
        ·refine ae (Hs.eng (dr:=false) (λ_ h=>h.hs)) {eq:=[(83,ak g1),(88,ak g2)]} 60 y λW f=>?_;exact af _ _ (fin _ _ C W q p f)
 refine bC (S:=Hs r (aO hh r::eU w.heap.size [(#[.i g,.i d,.i j,.i l,.i c],80)]) (aj M A)) (args:=[.p hh 0,.agg #[.i g,.i d,.i j,.i l,.i c],.u a,.u x]) [(#[.i g,.i d,.i j,.i l,.i c],80)] func102 ?_;refine aK 0 2 (aK 5 3 ?_);obtain ⟨b9,y⟩:∃ b,decide (90<=g)=b:=⟨_,rfl⟩;obtain ⟨b0,h0⟩:∃ b,((g-87).tmod 3==0)=b:=⟨_,rfl⟩;obtain ⟨H,o⟩:∃ b,(j != 0)=b:=⟨_,rfl⟩;have D:lW ⟨g,d,j,l,c⟩ a=bif b9 then Uz.wrap j else a:=by
  unfold lW;dsimp only;by_cases e:90<=g;·rw [if_pos e,<- y,decide_eq_true e];rfl
  ·rw [if_neg e,<- y,decide_eq_false e];rfl
 have n:ey ⟨g,d,j,l,c⟩=(b0||H):=by unfold ey;dsimp only;rw [h0,o]
 cases b9<;>cases b0<;>cases H <;>
 ·refine ae (Hs.eng (dr:=false) (λ_ h=>h.hs)) {eq:=[(22,dG .i64 T),(26,ak y),(31,ak h0),(35,ak o)]} 80 (Hx.start h _) λW f=>?_;exact af _ _ (main _ _ D n _ W f)
end
def FQ (b:Nat) (i:Ins):Kr:=⟨b,#[.i i.op,.i i.rd,.i i.a,.i i.b,.i i.imm],80,[]⟩
section
variable {B hh r bi : Nat} {M0 M : MV} {A0 A : MA} {w0 W : World}
theorem Tj {S:World->Prop} (i:Ins) (wd:Int) (hi:jN i) (F:U wd) (n:Hx B r [aO hh r,FQ bi i] M0 A0 w0 M A W) (x:Gd M) (hd:Ud M.d):Wg prog S (bodyPost prog Tryz.f44 (HR B hh r M0 A0 w0 (dq M i wd))) Tryz.f44.ntmps [.code (aq 9 (aL Tryz.f44))] [(0,.p hh 0,2),(3,.p r 0,1),(5,.u wd,0),(7,.p bi 0,3)] W:=by
 obtain ⟨o1,K,s,o,N,O,P,Q,im0,im1,_⟩:=hi;have t:=x.x32;have w:=(aI x.ok).1;obtain ⟨b,H,z⟩:=n.ht.atX t;have J:∀ (j:Nat),j<32->∀ W,Hx B r [aO hh r,FQ bi i] M0 A0 w0 M A W->W.cell? ⟨b,j,none⟩=some (.u (M.x.getD j 0)):=λj hj W n=>by obtain ⟨b',C,y⟩:=n.ht.atX t;rw [H] at C;cases C;exact (y j hj).1
 refine aH (Hx B r [aO hh r,FQ bi i] M0 A0 w0 M A) ?_;refine ae (Hx.eng (dr:=true)) {ov:=[(117,kF M.x.length A.cx .i64 i.a H ⟨N,ab⟩ underlying23 ba),(118,iL ⟨b,0+i.a.toNat,none⟩ (.u (M.x.getD (0+i.a.toNat) 0)) underlying22 rfl (J (0+i.a.toNat) ab)),(125,kF M.x.length A.cx .i64 i.b H ⟨P,ab⟩ underlying23 ba),(126,iL ⟨b,0+i.b.toNat,none⟩ (.u (M.x.getD (0+i.b.toNat) 0)) underlying22 rfl (J (0+i.b.toNat) ab))]} 40 n λW1 v=>?_;have G:=x.ux i.a.toNat;have I:=x.ux i.b.toNat;have L:U (Uz.wrap i.imm):=aU _;refine af [.code (aq 13 (aL Tryz.f44))] [(0,.p hh 0,2),(3,.p r 0,1),(5,.u wd,0),(7,.p bi 0,3),(9,.u (M.x.getD (0+i.a.toNat) 0),0),(10,.u (M.x.getD (0+i.b.toNat) 0),0),(11,.u (Uz.wrap i.imm),0),(12,.u (Uz.wrap (M.pc+4)),0)] ?_;rw [Nat.zero_add,Nat.zero_add];refine aH (Hs r [aO hh r,FQ bi i] (aj M A)) ?_;clear J z H n;by_cases c0:i.op=1;·have a:(i.op==1)=true:=bv;have m:dq M i wd=(be M i.rd (Uz.wrap i.imm) (Uz.wrap (M.pc+4)),1):=(by unfold dq;dsimp only;rw [if_pos ab]);rw [m];clear m;exact Hx.last (Hs.eng (dr:=true) (λ_ h=>h.hs)) {eq:=[(138,ak a)]} 300 v (λW n=>fq i.rd _ _ s o n.ht t w)
 by_cases c1:i.op=2;·have a:(i.op==1)=false:=bv;have c:(i.op==2)=true:=bv;have m:dq M i wd=(be M i.rd (Uz.wrap (M.pc+Uz.wrap i.imm)) (Uz.wrap (M.pc+4)),1):=(by unfold dq;dsimp only;rw [if_neg ab,if_pos ab]);rw [m];clear m;refine ae (Hs.eng (dr:=false) (λ_ h=>h.hs)) {eq:=[(138,ak a),(148,ak c)]} 20 v λW2 Z=>?_;refine lG 10 ?_;exact Hx.last (Hs.eng (dr:=true) (λ_ h=>h.hs)) {} 60 (Z.below (Below.refl _ _).drew) (λW n=>fq i.rd _ _ s o n.ht t w)
 by_cases R:i.op<=10;·have a:(i.op==1)=false:=bv;have c:(i.op==2)=false:=bv;have d:decide (i.op<=10)=true:=ef;have m:dq M i wd=pV M i (M.x.getD i.a.toNat 0) (M.x.getD i.b.toNat 0) (Uz.wrap i.imm):=ob;rw [m];clear m;exact Hx.last (Hs.eng (dr:=true) (λ_ h=>h.hs)) {eq:=[(138,ak a),(148,ak c),(163,ak d)]} 300 v (λW n=>Ta i _ _ _ ab R s o n.ht x)
 by_cases T:i.op<=17;·have a:(i.op==1)=false:=bv;have c:(i.op==2)=false:=bv;have d:decide (i.op<=10)=false:=ck;have f:decide (i.op<=17)=true:=ef;have m:dq M i wd=mZ M i (Uz.wrap (M.x.getD i.a.toNat 0+Uz.wrap i.imm)):=kr;rw [m];clear m;exact Hx.last (Hs.eng (dr:=true) (λ_ h=>h.hs)) {eq:=[(138,ak a),(148,ak c),(163,ak d),(173,ak f)]} 300 v (λW n=>S9 i _ ab T s o (aU _) n.ht x)
 by_cases V:i.op<=21;·have a:(i.op==1)=false:=bv;have c:(i.op==2)=false:=bv;have d:decide (i.op<=10)=false:=ck;have f:decide (i.op<=17)=false:=ck;have g:decide (i.op<=21)=true:=ef;have m:dq M i wd=nL M i (Uz.wrap (M.x.getD i.a.toNat 0+Uz.wrap i.imm)) (M.x.getD i.b.toNat 0):=i3;rw [m];clear m;exact Hx.last (Hs.eng (dr:=true) (λ_ h=>h.hs)) {eq:=[(138,ak a),(148,ak c),(163,ak d),(173,ak f),(183,ak g)]} 300 v (λW n=>Qc i _ _ ab V (aU _) I n.ht x)
 by_cases c5:i.op<=62
 ·have a:(i.op==1)=false:=bv;have c:(i.op==2)=false:=bv;have d:decide (i.op<=10)=false:=ck;have f:decide (i.op<=17)=false:=ck;have g:decide (i.op<=21)=false:=ck;have l:decide (i.op<=62)=true:=ef;have m:dq M i wd=(be M i.rd (nv i.op (M.x.getD i.a.toNat 0) (if (fp i.op).toList=[82] then M.x.getD i.b.toNat 0 else Uz.wrap i.imm)) (Uz.wrap (M.pc+4)),1):=fb;rw [m];clear m;have E:=λW=>qC i.op (tW ab ab) W;cases D:((fp i.op).toList==(⟨#[82]⟩:ByteArray).toList) with
  | true =>rw [if_pos (show (fp i.op).toList=[82] from (eq_of_beq D).trans cb)];exact Hx.last (Hs.eng (dr:=true) (λ_ h=>h.hs)) {eq:=[(138,ak a),(148,ak c),(163,ak d),(173,ak f),(183,ak g),(194,ak l),(198,ak (show (!((fp i.op).toList==(⟨#[82]⟩:ByteArray).toList))=false by rw [D];rfl))],cv:=[(197,jp (λh k=>h.below k) λW _=>E W),(205,jp (λh k=>h.below k) λW _=>tO i.op _ _ (tW ab ab) G.1 G.2 I.1 I.2 W)]} 300 v (λW n=>fq i.rd _ _ s o n.ht t w)
  | false =>rw [if_neg (show ¬ (fp i.op).toList=[82] from λe=>by rw [e] at D;exact absurd D cb)];exact Hx.last (Hs.eng (dr:=true) (λ_ h=>h.hs)) {eq:=[(138,ak a),(148,ak c),(163,ak d),(173,ak f),(183,ak g),(194,ak l),(198,ak (show (!((fp i.op).toList==(⟨#[82]⟩:ByteArray).toList))=true by rw [D];rfl))],cv:=[(197,jp (λh k=>h.below k) λW _=>E W),(205,jp (λh k=>h.below k) λW _=>tO i.op _ _ (tW ab ab) G.1 G.2 L.1 L.2 W)]} 300 v (λW n=>fq i.rd _ _ s o n.ht t w)
 by_cases X:i.op<=84;·have a:(i.op==1)=false:=bv;have c:(i.op==2)=false:=bv;have d:decide (i.op<=10)=false:=ck;have f:decide (i.op<=17)=false:=ck;have g:decide (i.op<=21)=false:=ck;have l:decide (i.op<=62)=false:=ck;have p:decide (i.op<=84)=true:=ef;have m:dq M i wd=iU M i (M.x.getD i.a.toNat 0) (M.x.getD i.b.toNat 0):=fa;rw [m];clear m;exact Hx.last (Hs.eng (dr:=true) (λ_ h=>h.hs)) {eq:=[(138,ak a),(148,ak c),(163,ak d),(173,ak f),(183,ak g),(194,ak l),(217,ak p)]} 300 v (λW n=>NI i _ _ ab X s o G I n.ht x hd)
 by_cases c7:i.op<=86;·have a:(i.op==1)=false:=bv;have c:(i.op==2)=false:=bv;have d:decide (i.op<=10)=false:=ck;have f:decide (i.op<=17)=false:=ck;have g:decide (i.op<=21)=false:=ck;have l:decide (i.op<=62)=false:=ck;have p:decide (i.op<=84)=false:=ck;have q:decide (i.op<=86)=true:=ef;have m:dq M i wd=(be M 0 0 (Uz.wrap (M.pc+4)),1):=e9;rw [m];clear m;exact Hx.last (Hs.eng (dr:=true) (λ_ h=>h.hs)) {eq:=[(138,ak a),(148,ak c),(163,ak d),(173,ak f),(183,ak g),(194,ak l),(217,ak p),(226,ak q)]} 300 v (λW n=>fq 0 0 _ bc bc n.ht t w)
 by_cases Y:i.op<=92;·have a:(i.op==1)=false:=bv;have c:(i.op==2)=false:=bv;have d:decide (i.op<=10)=false:=ck;have f:decide (i.op<=17)=false:=ck;have g:decide (i.op<=21)=false:=ck;have l:decide (i.op<=62)=false:=ck;have p:decide (i.op<=84)=false:=ck;have q:decide (i.op<=86)=false:=ck;have u:decide (i.op<=92)=true:=ef;have m:dq M i wd=nM M i (M.x.getD i.a.toNat 0) wd:=ep;rw [m];clear m;exact Hx.last (Hs.eng (dr:=true) (λ_ h=>h.hs)) {eq:=[(138,ak a),(148,ak c),(163,ak d),(173,ak f),(183,ak g),(194,ak l),(217,ak p),(226,ak q),(233,ak u)]} 300 v (λW n=>Uw i _ wd ab Y s o F n.ht x)
 have a:(i.op==1)=false:=by simp;omega
 have c:(i.op==2)=false:=by simp;omega
 have d:(decide (i.op<=10))=false:=by rw [decide_eq_false_iff_not];omega
 have f:(decide (i.op<=17))=false:=by rw [decide_eq_false_iff_not];omega
 have g:(decide (i.op<=21))=false:=by rw [decide_eq_false_iff_not];omega
 have l:(decide (i.op<=62))=false:=by rw [decide_eq_false_iff_not];omega
 have p:(decide (i.op<=84))=false:=by rw [decide_eq_false_iff_not];omega
 have q:(decide (i.op<=86))=false:=by rw [decide_eq_false_iff_not];omega
 have u:(decide (i.op<=92))=false:=by rw [decide_eq_false_iff_not];omega
 have m:dq M i wd=kN M i wd:=by unfold dq;dsimp only;rw [if_neg ab,if_neg ab,if_neg ab,if_neg ab,if_neg ab,if_neg ab,if_neg ab,if_neg ab,if_neg ab]
 rw [m];exact Hx.last (Hs.eng (dr:=true) (λ_ h=>h.hs)) {eq:=[(138,ak a),(148,ak c),(163,ak d),(173,ak f),(183,ak g),(194,ak l),(217,ak p),(226,ak q),(233,ak u)]} 300 v (λW n=>Nw i (M.x.getD i.a.toNat 0) wd ab K F n.ht x)
end
theorem AJ (h:0<=fN q s):∃ k:Nat,k<16/\fN q s=k:=by
 have key:∀ x,0<=dt x->∃ k:Nat,k<16/\dt x=k:=λx a=>by
  unfold dt at a ⊢;rcases uZ x eI with e|⟨n,b,e,_⟩;·rw [e] at a;omega
  ·refine ⟨n,?_,e⟩;have:∀ m ∈ eI,m<16:=by decide
   exact this n b
 unfold fN at h ⊢;split at h;·exact key _ h
 ·unfold Gk at h ⊢;split at h;·exact key _ h
  ·omega
section
variable {B hh r : Nat} {M : MV} {A : MA} {w : World}
theorem H9 (h:Ht B hh r M A w) (i:Gd M):CB 89 #[.slice A.ac M.cs.length A.cc,.i M.pr] w (.i (fN M.cs M.pr)):=by obtain ⟨a,f,d,_,_,_⟩:=aI i.ok;obtain ⟨g,c,b,_⟩:=h.mp.cs a;rw [c,a];exact xR g 0 A.cc M.cs M.pr d w a (fO b)
end
section
variable {B hh r : Nat} {M : MV} {A : MA} {w : World}
theorem Tk (h:Ht B hh r M A w) (hg:Gd M) (hd:Ud M.d):Calls prog 44 #[.p hh 0] w (HR B hh r M A w (cj M)):=by
 obtain ⟨L,hcs,hpr,_,_,_⟩:=aI hg.ok;obtain ⟨b,I,E⟩:=h.atC L;have K:∀ (j:Nat),j<22->∀ W,Hx B r [aO hh r] M A w M A W->W.cell? ⟨b,j,none⟩=some (.u (M.cs.getD j 0)):=λj hj W a=>by obtain ⟨b',Q,p⟩:=a.ht.atC L;rw [I] at Q;cases Q;exact (p j hj).1
 have fin:∀ (S:World->Prop) (W:World),Hx B r [aO hh r] M A w M A W->(M.wt&&(kq M.cs==0))=false->Wg prog S (bodyPost prog Tryz.f44 (HR B hh r M A w (cj M))) Tryz.f44.ntmps [.code (aq 3 (aL Tryz.f44))] [(0,.p hh 0,2),(3,.p r 0,1)] W:=by
  intro S W a hn;clear K E I;have Z:cj M=if 0<=fN M.cs M.pr then (aM (gy M false) (fN M.cs M.pr).toNat true 0,3) else (let q:=aC (gy M false) M.pc 4 1 0;if (q.2.2 != 0)=true then cL q 0 q.2.1.pc else match BW q.1 with | none=>(aM q.2.1 2 false q.1,2) | some i=>dq q.2.1 i q.1):=by unfold cj;rw [hn,if_neg bc];rfl
  rw [Z];clear Z;have n:=hg.wait false;have U:fN M.cs M.pr=fN (gy M false).cs (gy M false).pr:=rfl;have R:M.pc=(gy M false).pc:=rfl;have F:Ud (gy M false).d:=hd;refine aH (Hs r [aO hh r] (aj M A)) ?_;refine ae (Hs.eng (dr:=false) (λ_ h=>h.hs)) {} 40 a λu s=>?_;refine bM (bJ (i:=13) (T:=4) (v:=.bool false) s.mp.row (show 13<14 by decide) ba rfl) ?_;have h2:=s.fld (M':=gy M false) 13 (.bool false) rfl rfl;rw [U,R];generalize gy M false=N at n h2 F ⊢;clear U R;refine aH (Hx B r [aO hh r] M A w N A) ?_;by_cases e:0<=fN N.cs N.pr;·obtain ⟨k,k16,hk⟩:=AJ _ _ e;have q:decide (0<=((k:Nat):Int))=true:=ef;have o:∀ W,Hx B r [aO hh r] M A w N A W->CB 89 #[.slice A.ac N.cs.length A.cc,.i N.pr] W (.i ((k:Nat):Int)):=λW a=>hk ▸ H9 a.ht n;rw [if_pos e,hk,Int.toNat_natCast];clear hk e;refine ae (Hx.eng (dr:=true)) {eq:=[(52,ak q)],cv:=[(50,jp (λh k=>h.below k) λW a=>o W a)]} 22 h2 λW3 h3=>?_;have hl:(aM N k true 0).cs.length=N.cs.length:=lP _ _ _ _ _ _;have em:aj (iK N (aM N k true 0).cs) A=aj N A:=(by unfold aj iK;dsimp only;rw [hl]);refine aH (Hs r [aO hh r] (aj N A)) ?_;refine lG 21 ?_;refine aS (Hs.eng (dr:=true) (λ_ h=>h.hs)) {} 100 (h3.below (Below.refl _ _).drew) (λu s=>wY s.ht n k k16 true 0) ?_;rintro W4 e W5 h4 ⟨rfl,h5,k5⟩;have h6:=h4.to h5 k5;refine ⟨_,0,rfl,λ_=>em ▸ h6.hs,?_⟩;refine ae (Hs.eng (dr:=true) (λ_ h=>em ▸ h.hs)) {} 40 h6 λW7 G=>?_;refine bM (bJ (i:=2) (T:=2) (v:=.i (aM N k true 0).pr) G.mp.row (show 2<14 by decide) ba rfl) ?_;have O:=G.fld (M':=gz (iK N (aM N k true 0).cs) (aM N k true 0).pr) 2 (.i (aM N k true 0).pr) rfl rfl;refine aH (Hx B r [aO hh r] M A w (gz (iK N (aM N k true 0).cs) (aM N k true 0).pr) A) ?_;refine ae (Hx.eng (dr:=true)) {} 40 O λW9 H=>?_;refine bM (bJ (i:=0) (T:=22) (v:=.u (aM N k true 0).pc) H.mp.row (show 0<14 by decide) ba rfl) ?_;have l:=H.fld (M':=aM N k true 0) 0 (.u (aM N k true 0).pc) rfl rfl;refine aH (Hx B r [aO hh r] M A w (aM N k true 0) A) ?_;exact bm (t:=2) (v:=.i 3) (Hx.eng (dr:=true)) {cv:=[(77,ke λW a=>m7 (aM N k true 0) A B hh r W a.ht)]} 40 l λW a=>a.hr 3
  ·have q:decide (0<=fN N.cs N.pr)=false:=(by rw [decide_eq_false_iff_not];exact e);rw [if_neg e];clear e;generalize V:fN N.cs N.pr=pv at q;have o:∀ W,Hx B r [aO hh r] M A w N A W->CB 89 #[.slice A.ac N.cs.length A.cc,.i N.pr] W (.i pv):=λW a=>V ▸ H9 a.ht n;clear V;refine ae (Hx.eng (dr:=true)) {eq:=[(52,ak q)],cv:=[(50,jp (λh k=>h.below k) λW a=>o W a)]} 22 h2 λW3 h3=>?_;refine af [.code (aq 5 (aL Tryz.f44))] [(0,.p hh 0,2),(3,.p r 0,1)] ?_;clear o q;have ga:=n.acc N.pc 4 1 0;have P:=λW (a:Mp B r N A W)=>fS N A B r N.pc 4 1 0 W a n.len n.mw n.ok bc ab ab n.pc l8;have ec:=λc=>kh (M:=N) (addr:=N.pc) (size:=4) (kind:=1) (x:=0) (c:=c);have Y:=tX n F N.pc 4 ab 1 0;have ud:=AG F N.pc 4 1 l8;rw [show ((4:Nat):Int)=4 from rfl] at Y;generalize aC N N.pc 4 1 0=X at *;obtain ⟨y,f,c⟩:=X;dsimp only at ga P ec Y ud ⊢;refine aH (Hs r [aO hh r] (aj N A)) ?_;refine ae (Hs.eng (dr:=false) (λ_ h=>h.hs)) {} 1 h3 λW4 h4=>?_;refine lG 9 ?_;refine aS (Hs.eng (dr:=true) (λ_ h=>h.hs)) {} 100 (h4.below (Below.refl _ _).drew) (λu s=>P u s.mp) ?_;rintro W5 e W6 h5 ⟨rfl,C,h6,k6⟩;refine ⟨_,0,rfl,gh ba,aH (Hs r [aO hh r] (aj f C)) ?_⟩;have G:=h5.step h6 k6;cases o:(c != 0) with
   | true =>rw [if_pos rfl];have tg:∀ W,Hx B r [aO hh r] M A w f C W->Calls prog 93 #[.p hh 0,.i ((c-16).toNat:Nat),.u f.pc] W (HR B hh r f C W (cL (y,f,c) 0 f.pc)):=λW a=>dX _ (ec c rfl o).2 f.pc a.ht ga;exact Hx.last (Hs.eng (dr:=true) (λ_ h=>h.hs)) {eq:=[(92,ak o),(95,dG .i64 (ec c rfl o).1)]} 60 G tg
   | false =>
     rw [if_neg bc];have m:=λW=>oT y Y.1 Y.2 W;unfold mg at m;cases he:BW y with
     | none =>simp only [he] at m;refine aS (Hs.eng (dr:=true) (λ_ h=>h.hs)) {eq:=[(92,ak o)]} 60 G (λu s=>m u) ?_;rintro W8 e W9 O ⟨rfl,k9⟩;refine ⟨_,0,rfl,gh ba,?_⟩;have H:=O.below k9;refine ae (Hs.eng (dr:=false) (λ_ h=>h.hs)) {} 3 H λd l=>?_;refine dF 3 (dD (T:=80) (z:=.agg #[.i 0,.i 0,.i 0,.i 0,.i 0]) ba d) ?_;refine bM (az (g:=d.heap.size) (t:=80) (ty:=80) (old:=#[.i 0,.i 0,.i 0,.i 0,.i 0]) (cells:=#[.i 0,.i 0,.i 0,.i 0,.i 0]) (heap_alloc_new _ _) ba rfl ba) ?_;have D:=l.below (aF (bal d (.cells #[.i 0,.i 0,.i 0,.i 0,.i 0] 80)) (Nat.le_refl _) #[.i 0,.i 0,.i 0,.i 0,.i 0]);have tg:∀ W,Hx B r [aO hh r] M A w f C W->Calls prog 93 #[.p hh 0,.i 2,.u y] W (HR B hh r f C W (aM f 2 false y,2)):=λW a=>dX 2 bc y a.ht ga;exact Hx.last (Hs.eng (dr:=true) (λ_ h=>h.hs)) {} 60 D tg
     | some i =>simp only [he] at m;have hi:=Au he;refine aS (Hs.eng (dr:=true) (λ_ h=>h.hs)) {eq:=[(92,ak o)]} 60 G (λu s=>m u) ?_;rintro W8 e W9 O ⟨rfl,k9⟩;refine ⟨_,0,rfl,gh ba,?_⟩;have H:=O.below k9;refine ae (Hs.eng (dr:=false) (λ_ h=>h.hs)) {} 3 H λd l=>?_;refine dF 3 (dD (T:=80) (z:=.agg #[.i 0,.i 0,.i 0,.i 0,.i 0]) ba d) ?_;refine bM (az (g:=d.heap.size) (t:=80) (ty:=80) (old:=#[.i 0,.i 0,.i 0,.i 0,.i 0]) (cells:=#[.i i.op,.i i.rd,.i i.a,.i i.b,.i i.imm]) (heap_alloc_new _ _) ba rfl ba) ?_;have D:Hx B r [aO hh r,FQ d.heap.size i] M A w f C ((d.alloc (.cells #[.i 0,.i 0,.i 0,.i 0,.i 0] 80)).setRow d.heap.size #[.i i.op,.i i.rd,.i i.a,.i i.b,.i i.imm]):=l.var (aF (bal d _) (Nat.le_refl _) _) (FQ d.heap.size i) (setRow_heap _ _ _ _ _ _ (heap_alloc_new _ _)) (Nat.le_refl _);refine aH (Hx B r [aO hh r,FQ d.heap.size i] M A w f C) ?_;refine ae (Hx.eng (dr:=false)) {} 10 D λW12 h12=>?_;exact af _ _ (Tj i y hi Y h12 ga ud)
 refine bC (S:=Hx B r [aO hh r] M A w M A) (args:=[.p hh 0]) [] func44 ?_;refine aK 0 2 ?_;have h0:=Hx.start h [];cases J:M.wt with
 | true =>
   cases hz:(kq M.cs==0) with
   | true =>have Z:cj M=(M,4):=(by unfold cj;rw [J,hz,if_pos bc]);rw [Z];exact bm (t:=2) (v:=.i 4) (Hx.eng (dr:=true)) {eq:=[(22,ak J),(37,ak hz)],ov:=[(28,kF M.cs.length A.cc .i64 9 I ⟨ab,ab⟩ underlying23 ba),(29,iL ⟨b,0+(9:Int).toNat,none⟩ (.u (M.cs.getD 9 0)) underlying22 rfl (K 9 ab)),(34,kF M.cs.length A.cc .i64 3 I ⟨ab,ab⟩ underlying23 ba),(35,iL ⟨b,0+(3:Int).toNat,none⟩ (.u (M.cs.getD 3 0)) underlying22 rfl (K 3 ab))]} 60 h0 λW a=>a.hr 4
   | false =>refine ae (Hx.eng (dr:=true)) {eq:=[(22,ak J),(37,ak hz)],ov:=[(28,kF M.cs.length A.cc .i64 9 I ⟨ab,ab⟩ underlying23 ba),(29,iL ⟨b,0+(9:Int).toNat,none⟩ (.u (M.cs.getD 9 0)) underlying22 rfl (K 9 ab)),(34,kF M.cs.length A.cc .i64 3 I ⟨ab,ab⟩ underlying23 ba),(35,iL ⟨b,0+(3:Int).toNat,none⟩ (.u (M.cs.getD 3 0)) underlying22 rfl (K 3 ab))]} 34 h0 λW a=>?_;exact af _ _ (fin _ W a (by rw [J,hz];rfl))
 | false =>refine ae (Hx.eng (dr:=true)) {eq:=[(22,ak J)]} 34 h0 λW a=>?_;exact af _ _ (fin _ W a (by rw [J];rfl))
end
structure Tl (M:MV):Prop where
 mw:MW M
 ux:∀ j,U (M.x.getD j 0)
 pc:U M.pc
 hd:U M.hd
 ud:Ud M.d
theorem Tl.gd (h:Tl a) (M:dI a=true):Gd a:=⟨M,h.mw,h.ux,h.pc,h.hd⟩
def NQ (M:MV):MV × Int:=if dI M=true then cj M else (zeroM,0)
def mQ (w:World) (V:MV × Int) (e:Ending) (w':World):Prop:=∃ C:MA,e=.returned (.tuple #[.agg (aj V.1 C),.i V.2])/\bA w.heap.size w'.heap.size w' (aG V.1 C)/\Bw w w'
theorem Tm (T:TypeId) (v:Value) (w:World):(do pure (.value (<- Instr.box T v)):Sem Next).run f w=.ok (.value (.p w.heap.size 0)) (w.alloc (.cells v.cells T)):=by simp [Instr.box,newVar,newRow]
def bj:Nat->MV->MV × List Int
 | 0,M=>(M,[])
 | n+1,M=>if ((cj M).2==4)=true then ((cj M).1,[(cj M).2]) else ((bj n (cj M).1).1,(cj M).2::(bj n (cj M).1).2)
theorem Gw.step (h:Gw a):Gw (cj a).1:=Qp h λl p M=>AJ l p M
theorem xh:∀ (n:Nat) {M:MV},Gw M->Gw (bj n M).1
 | 0,_,h=>h
 | n+1,M,h=>by
   unfold bj
   split
   ·exact h.step
   ·exact xh n h.step
theorem pI:∀ (n:Nat) (M:MV),(bj n M).2.length<=n
 | 0,_=>Nat.le_refl _
 | n+1,M=>by
   unfold bj
   split
   ·simp
   ·have:=pI n (cj M).1
    simp only [List.length_cons]
    omega
theorem Qs {p:Nat} {t':TypeId} {i:Value} {b:List Value} (h:B.ownsRow l r 1 D n P) (W:B.ownsRow A t' 1 i p b) (o:r≠t') {k:Nat} (e:D.ownBlock=some k):i.ownBlock≠some k:=λf=>by
 rcases h.2 with ⟨rfl,_⟩|⟨g,c,j,rfl,_,m,_⟩;·cases e
 ·rcases W.2 with ⟨rfl,_⟩|⟨t,q,d,rfl,_,a,_⟩;·cases f
  ·cases e;cases f;rw [m] at a;injection a with h4
   injection h4 with _ h5
   exact o h5
theorem Ux {q:FRow} (h:q ∈ aG a k):q.t=22\/q.t=5:=by simp only [aG,List.mem_cons,List.not_mem_nil,or_false] at h;rcases h with rfl|rfl|rfl|rfl|rfl<;>simp [aJ,aD]
theorem qo {E:Nat} (h:B.ownsRow l 2 1 D n P) (f:bA A E B (aG a k)) {M:Nat} (e:D.ownBlock=some M):∀ q ∈ aG a k,q.v.ownBlock≠some M:=λq xs=>Qs h (f.own q xs) (by rcases Ux xs with e | e<;>rw [e]<;>decide) e
theorem Ht.far {W':World} (h:Ht l n A a k B) (hs:B.heap.size<=W'.heap.size) (hk:∀ W,W<B.heap.size->(W=n\/W=A\/∃ q ∈ aG a k,q.v.ownBlock=some W)->W'.heap[W]?=B.heap[W]?):Ht l n A a k W':=by have f:bA l B.heap.size W' (aG a k):=⟨λq M=>eg (h.mp.fam.own q M) λW e=>hk W ((h.mp.fam.own q M).lt W e).2 (.inr (.inr ⟨q,M,e⟩)),h.mp.fam.hi,h.mp.fam.ne⟩;exact ⟨(hk n h.lt (.inl rfl)).trans h.row,⟨(hk A h.mp.lt (.inr (.inl rfl))).trans h.mp.row,f.low (Nat.le_refl _) hs,h.mp.ne,h.mp.lo⟩,h.ne,h.nq⟩
def zf (T:TypeId) (v u:Value):Sem Next:=execOp (λx=>match x with | .tmp 0=>v | _=>u) {dst:=none,op:=.call {callee:=.builtin .append,args:=#[.tmp 0,.tmp 1],argTypes:=#[T,T]},type:=T,pos:= "",after:=#[],guard:=none}
theorem sN {u x:Value} {w':World} (h:(Builtin.append_ #[r,r] r #[D,u]).run f B=.ok x w'):(zf r D u).run f B=.ok (.value x) w':=by unfold zf execOp;simp only [resolve,invoke,builtin,Sem.run_bind,Sem.run_pure,Result.andThen_ok,List.map_toArray,List.map_cons,List.map_nil,h]
theorem pe:(prog.info? 2).map (λi=>(i.zero,i.size,i.bytes))=some (some (.i 0),1,8):=by kernel_rfl
theorem AK:(do pure (.value (<- Instr.buildSlice 39 0 #[])):Sem Next).run prog c=.ok (.value (.slice (some ⟨c.heap.size,0,none⟩) 0 0)) (c.alloc (.cells #[] 2)):=by obtain ⟨w,b,e⟩:=Option.map_eq_some_iff.1 pe;have a:∀ f:Nat->Value,Array.map f (Array.range 0)=#[]:=λf=>Array.eq_empty_of_size_eq_zero cp;simp [Instr.buildSlice,run_underlying underlying39,sizeOf,typeInfo,b,Instr.fill,newRow,a]
theorem Ia:(do pure (.value (<- Instr.buildSlice 39 1 #[(0,.i s)])):Sem Next).run prog c=.ok (.value (.slice (some ⟨c.heap.size,0,none⟩) 1 1)) (c.alloc (.cells #[.i s] 2)):=by obtain ⟨w,b,e⟩:=Option.map_eq_some_iff.1 pe;simp only [Prod.mk.injEq] at e;obtain ⟨a,e2,e3⟩:=e;have:=run_buildSlice (P:=prog) c 39 2 1 #[(0,.i s)] #[.i s] w (.i 0) underlying39 b a o0 o0 (by rw [e2];kernel_rfl);simp [this]
theorem Dr {a:Option Addr} (h:B.ownsRow l 2 1 (.slice a W.length n) W.length (W.map (Value.int .i64))) (hz:l<=B.heap.size) (hn:W.length<=1000000) (x:Int):∃ (b:Option Addr) (d:Nat) (W':World),(zf 39 (.slice a W.length n) (.slice (some ⟨B.heap.size,0,none⟩) 1 1)).run prog (B.alloc (.cells #[.i x] 2))=.ok (.value (.slice b (W++[x]).length d)) W'/\W'.ownsRow l 2 1 (.slice b (W++[x]).length d) (W++[x]).length ((W++[x]).map (Value.int .i64))/\B.heap.size<=W'.heap.size/\W'.os=B.os/\W'.tape=B.tape/\W'.output=B.output/\∀ k,k<B.heap.size->(∀ j,(Value.slice a W.length n).ownBlock=some j->j≠k)->W'.heap[k]?=B.heap[k]?:=by
 obtain ⟨y,q,e⟩:=Option.map_eq_some_iff.1 pe;simp only [Prod.mk.injEq] at e;obtain ⟨c,e2,e3⟩:=e;have f:=(Below.refl B.heap.size B).alloc (Nat.le_refl _) (.cells #[.i x] 2);obtain ⟨v,W',t,o,i,_⟩:=run_append_own (P:=prog) (B.alloc (.cells #[.i x] 2)) l 39 39 2 y (.i 0) 1 8 underlying39 q c e2 e3 rfl bc _ W.length _ (dY h f) ⟨B.heap.size,0,none⟩ 1 1 [.i x] rfl (λj u w=>Ns B _ _ j u w) ti et ab bv;have m:∃ b d,v=.slice b (W.length+1) d:=by
  rcases o.2 with ⟨c,z⟩|⟨g,cap,p,c,_⟩;·omega
  ·exact ⟨_,_,c⟩
 obtain ⟨b,d,rfl⟩:=m;have xs:(W++[x]).length=W.length+1:=cp
 refine ⟨b,d,W',sN (by rw [xs];exact t),?_,Nat.le_trans f.size i.size,i.os.trans f.os,i.tape.trans f.tape,i.output.trans f.output,λk s r=>(i.block k bv (λe=>r k e.symm rfl)).trans (f.block k s)⟩;rw [xs,List.map_append];exact o
structure Hl (B hh r:Nat) (M:MV) (A:MA) (w:World) (M':MV) (A':MA) (xs:List Int) (a:Option Addr) (c:Nat) (W:World):Prop where
 ht:Ht B hh r M' A' W
 kx:Kx r (aG M A) (aG M' A') w W
 lo:hh<w.heap.size/\r<w.heap.size
 own:W.ownsRow w.heap.size 2 1 (.slice a xs.length c) xs.length (xs.map (Value.int .i64))
section
variable {B hh r : Nat} {M M' M2 : MV} {A A' A2 : MA} {w W W' : World} {xs : List Int} {a : Option Addr} {c : Nat}
theorem Hl.step (h:Hl B hh r M A w M' A' xs a c W) (p:Ht B hh r M2 A2 W') (k:Kx r (aG M' A') (aG M2 A2) W W'):Hl B hh r M A w M2 A2 xs a c W' :=
 ⟨p,h.kx.trans k,h.lo,eg h.own λj e=>by
  obtain ⟨d,b⟩:=h.own.lt j e
  have:=h.lo
  exact k.block j b ab (qo h.own h.ht.mp.fam e)⟩
theorem Hl.push (h:Hl B hh r M A w M' A' xs a c W) (hn:xs.length<=1000000) (x:Int):∃ (d:Option Addr) (f:Nat) (W':World),(zf 39 (.slice a xs.length c) (.slice (some ⟨W.heap.size,0,none⟩) 1 1)).run prog (W.alloc (.cells #[.i x] 2))=.ok (.value (.slice d (xs++[x]).length f)) W'/\Hl B hh r M A w M' A' (xs++[x]) d f W':=by
 have m:=h.kx.size;obtain ⟨d,f,W',v,o,n,p,e2,e3,l⟩:=Dr h.own m hn x;refine ⟨d,f,W',v,h.ht.far n λk i b=>l k i λj g e=>?_,⟨p.trans h.kx.os,e2.trans h.kx.tape,e3.trans h.kx.output,Nat.le_trans m n,λk i s t=>(l k ab λj g e=>?_).trans (h.kx.block k i s t),h.kx.own⟩,h.lo,o⟩
 ·have:=(h.own.lt j g).1;have:=h.lo;rcases b with b|b|⟨q,u,b⟩;·omega
  ·omega
  ·exact qo h.own h.ht.mp.fam g q u (by rw [e];exact b)
 ·have:=(h.own.lt j g).1;omega
end
def LR (B hh r:Nat) (M:MV) (A:MA) (w:World) (R:MV × List Int) (e:Ending) (w':World):Prop:=∃ (a:Option Addr) (c:Nat) (A':MA),e=.returned (.slice a R.2.length c)/\Hl B hh r M A w R.1 A' R.2 a c w'
structure Ls (B hh r:Nat) (M:MV) (A:MA) (w:World) (n j:Nat) (x:MV × MA × List Int × Option Addr × Nat × Nat) (W:World):Prop where
 ej:x.2.2.2.2.2=j
 hl:Hl B hh r M A w x.1 x.2.1 x.2.2.1 x.2.2.2.1 x.2.2.2.2.1 W
 gw:Gw x.1
 ln:x.2.2.1.length+j=n
 st:bj n M=((bj j x.1).1,x.2.2.1++(bj j x.1).2)
section
variable {B hh r : Nat} {M : MV} {A : MA} {w : World}
theorem Qt (n:Nat) (hn:n<=300) (h:Ht B hh r M A w) (J:Gw M):Calls prog 62 #[.p hh 0,.i n] w (LR B hh r M A w (bj n M)):=by
 refine bC (S:=λ_=>True) (args:=[.p hh 0,.i n]) [] func62 ?_;refine jh (R:=[]) trivial {} 10 0 (AK w) ?_;have g:=(Below.refl w.heap.size w).alloc (Nat.le_refl _) (.cells #[] 2);have s:Ls B hh r M A w n n (M,A,[],some ⟨w.heap.size,0,none⟩,0,n) (w.alloc (.cells #[] 2)):=⟨rfl,⟨h.below g,Kx.of_below g,⟨h.lt,h.mp.lt⟩,World.ownsRow_lit w #[] 0 (Nat.le_refl _) et rfl⟩,J,cp,cp⟩;generalize w.alloc (.cells #[] 2)=U at s ⊢;refine an (R:=[]) trivial {} 20 ?_;refine kS (λx:MV × MA × List Int × Option Addr × Nat × Nat=>[(0,.p hh 0,0),(1,.i (x.2.2.2.2.2:Nat),0),(5,.slice x.2.2.2.1 x.2.2.1.length x.2.2.2.2.1,0)]) (Ls B hh r M A w n) n (M,A,[],some ⟨w.heap.size,0,none⟩,0,n) ba ba s ?_;clear s g;rintro j ⟨d,E,xs,a,c,N⟩ W ⟨C,o,l,Q,f⟩ T I;dsimp only at C o l Q f ⊢;subst C;cases N with
 | zero =>have e:bj n M=(d,xs):=(by rw [f];simp [bj]);rw [e];exact i8 (R:=[]) trivial {} 60 (t:=4) ⟨a,c,E,rfl,o⟩
 | succ j =>
   have q:decide ((0:Int)<((j+1:Nat):Int))=true:=ef;have u:=Tk o.ht l.1 l.2;have p:=l.step;have z:bj (j+1) d=if ((cj d).2==4)=true then ((cj d).1,[(cj d).2]) else ((bj j (cj d).1).1,(cj d).2::(bj j (cj d).1).2):=rfl
   rw [z] at f;clear z;generalize cj d=V at u p f;obtain ⟨M2,k⟩:=V;dsimp only at u p f;refine aN (R:=[]) trivial {eq:=[(9,ak q)]} 60 u ?_;rintro e F ⟨rfl,A2,H,O⟩;refine ⟨_,0,rfl,?_⟩;have P:=o.step H O;refine jh (R:=[]) trivial {} 20 0 (Ia F k) ?_;obtain ⟨v,y,G,K,D⟩:=P.push ab k;refine dF 0 K ?_;have i:(xs++[k]).length=xs.length+1:=cp;cases m:(k==4) with
   | true =>rw [m,if_pos rfl] at f;rw [f];exact i8 (R:=[]) trivial {eq:=[(19,ak m)]} 60 (t:=4) ⟨v,y,A2,rfl,D⟩
   | false =>rw [m,if_neg bc] at f;have L:IntKind.i64.wrap (((j+1:Nat):Int)-1)=((j:Nat):Int):=i6;exact oo (R:=[]) trivial {eq:=[(19,ak m),(11,dG .i64 L)]} 60 λb g=>I b G j (M2,A2,xs++[k],v,y,j) ab (g.less ba) ⟨rfl,D,p,by rw [i];omega,by rw [f];simp⟩
end
def jL (M:MV) (n:Int):MV × List Int:=if (dI M&&decide (0<=n/\n<=300))=true then bj n.toNat M else (zeroM,[])
def Rk (w:World) (V:MV × List Int) (e:Ending) (w':World):Prop:=∃ (C:MA) (a:Option Addr) (c:Nat),e=.returned (.tuple #[.agg (aj V.1 C),.slice a V.2.length c])/\bA w.heap.size w'.heap.size w' (aG V.1 C)/\w'.ownsRow w.heap.size 2 1 (.slice a V.2.length c) V.2.length (V.2.map (Value.int .i64))/\Bw w w'
theorem xZ (M:MV) (A:MA) (n:Int) (w:World) (hl:jR M) (hs:nR w M A) (Y:Tl M):Calls prog 17 #[.agg (aj M A),.i n] w (Rk w (jL M n)):=by
 have p:=λW (y:Bw w W)=>mn M A W hl (hs.below y);have K:=λW (_:Bw w W)=>ei n 0 300 W;unfold jL;refine bC (S:=Bs w [(aj M A,32),(aj zeroM zeroA,32)]) (args:=[.agg (aj M A),.i n]) [(aj M A,32),(aj zeroM zeroA,32)] func17 ?_;cases y:(dI M&&decide (0<=n/\n<=300)) with
 | false =>
   rw [if_neg bc];have fin:∀ d,Bs w [(aj M A,32),(aj zeroM zeroA,32)] d->Wg prog (Bs w [(aj M A,32),(aj zeroM zeroA,32)]) (bodyPost prog Tryz.f17 (Rk w (zeroM,[]))) Tryz.f17.ntmps [.code (Ca (aq 1 (iF (aq 1 (aL Tryz.f17))))),.code (aq 2 (aL Tryz.f17))] [(4,.p (w.heap.size+1) 0,2)] d:=λd j=>by refine ae Bs.eng {} 40 j λd j=>?_;refine dF 0 (AK d) ?_;have o:=j.below (bal d (.cells #[] 2));have z1:=(Array.getElem?_eq_some_iff.1 (j.1 1 _ rfl)).1;have U:(d.alloc (.cells #[] 2)).ownsRow d.heap.size 2 1 (.slice (some ⟨d.heap.size,0,none⟩) 0 0) 0 []:=World.ownsRow_lit d #[] 0 (Nat.le_refl _) et rfl;generalize d.alloc (.cells #[] 2)=f at o U ⊢;refine bM (az (g:=w.heap.size+1) (old:=aj zeroM zeroA) (cells:=aj zeroM zeroA) (t:=32) (ty:=32) (o.1 1 _ rfl) ba rfl (cN _ _)) ?_;refine gu (R:=[]) trivial {} 40 λa G=>⟨.tuple #[.agg (aj zeroM zeroA),.slice (some ⟨d.heap.size,0,none⟩) 0 0],vq G rfl ba ba (setRow_heap _ _ _ _ _ _ (o.1 1 _ rfl)) underlying32 rfl ba,zeroA,_,_,rfl,jZ _ _ _,?_,aR o.2 ab _⟩;exact eg (cG U ab) λk e=>setRow_other _ _ _ _ (by have:=(U.lt k e).1;omega)
   cases J:dI M with
   | false =>rw [J] at p;refine ae Bs.eng {cv:=[(10,fQ p)]} 13 (Bs.start _ _) λd j=>?_;exact af _ _ (fin d j)
   | true =>rw [J] at p y;simp only [Bool.true_and] at y;rw [y] at K;refine ae Bs.eng {cv:=[(10,fQ p),(14,mI K)]} 13 (Bs.start _ _) λd j=>?_;exact af _ _ (fin d j)
 | true =>
   rw [if_pos rfl];obtain ⟨J,F⟩:=Bool.and_eq_true_iff.1 y;rw [J] at p;rw [F] at K;have hg:Gw M:=⟨Y.gd J,Y.ud⟩;obtain ⟨n0,n1⟩:=of_decide_eq_true F;obtain ⟨m,rfl⟩:=Int.eq_ofNat_of_zero_le n0;rw [Int.toNat_natCast];have H:=λ(B hh r:Nat) (C:MA) (W:World) (h:Ht B hh r M C W)=>Qt m ab h hg;generalize bj m M=V at H ⊢;refine aS Bs.eng {cv:=[(10,fQ p),(14,mI K)]} 40 (Bs.start _ _) (λd j=>Ff M A d hl (hs.below j.2)) ?_;rintro d e f j ⟨C,rfl,N,k2⟩;refine ⟨_,0,rfl,gh ba,?_⟩;have o:=j.below k2;have s1:w.heap.size+2<=d.heap.size:=(by have:=(Array.getElem?_eq_some_iff.1 (j.1 1 _ rfl)).1;omega);refine dF 3 (dD (T:=32) (z:=.agg (aj zeroM zeroA)) ba f) ?_;refine bM (az (g:=f.heap.size) (t:=32) (ty:=32) (old:=aj zeroM zeroA) (cells:=aj M C) (heap_alloc_new _ _) ba rfl (cN _ _)) ?_;have X:Bw f ((f.alloc (.cells (aj zeroM zeroA) 32)).setRow f.heap.size (aj M C)):=aR (bal _ _) (Nat.le_refl _) _;have r3:((f.alloc (.cells (aj zeroM zeroA) 32)).setRow f.heap.size (aj M C)).heap[f.heap.size]?=some (.cells (aj M C) 32 (0,0)):=setRow_heap _ _ _ _ _ _ (heap_alloc_new _ _);have z3:((f.alloc (.cells (aj zeroM zeroA) 32)).setRow f.heap.size (aj M C)).heap.size=f.heap.size+1:=(by rw [setRow_size,World.size_alloc]);have e3:(Value.agg (aj zeroM zeroA)).cells=aj zeroM zeroA:=rfl;rw [e3];generalize (f.alloc (.cells (aj zeroM zeroA) 32)).setRow f.heap.size (aj M C)=l at X r3 z3 ⊢;refine jh (R:=[]) trivial {} 40 2 (v:=.p l.heap.size 0) (w':=l.alloc (.cells #[.p f.heap.size 0,.slice none 0 0] 72)) (Tm 72 (.agg #[.p f.heap.size 0,.slice none 0 0]) l) ?_;have L:Bw l (l.alloc (.cells #[.p f.heap.size 0,.slice none 0 0] 72)):=bal _ _;have r4:(l.alloc (.cells #[.p f.heap.size 0,.slice none 0 0] 72)).heap[l.heap.size]?=some (.cells #[.p f.heap.size 0,.slice none 0 0] 72 (0,0)):=heap_alloc_new _ _;generalize l.alloc (.cells #[.p f.heap.size 0,.slice none 0 0] 72)=E at L r4 ⊢;have Q:=aa X L;have s2:=k2.size;have s4:=L.size;have f4:bA d.heap.size E.heap.size E (aG M C):=(N.below Q).low (Nat.le_refl _) Q.size;have m4:Mp d.heap.size f.heap.size M C E:=⟨bq L r3,f4,λq P e=>by have:=N.hi q P _ e;omega,s2⟩;have t4:Ht d.heap.size l.heap.size f.heap.size M C E:=⟨r4,m4,ab,λq P e=>by have:=N.hi q P _ e;omega⟩;refine aN (R:=[]) trivial {} 40 (H _ _ _ C E t4) ?_;rintro e W5 ⟨a,c,D,rfl,I⟩;refine ⟨_,0,rfl,?_⟩;have s:=m4.under I.kx;have O:Bs w [(aj M A,32),(aj zeroM zeroA,32)] W5:=by
    have u:=(o.below Q);refine ⟨λi x Z=>?_,?_⟩;·have hlt:i<2:=(by have:=(List.getElem?_eq_some_iff.1 Z).1;exact this);rw [s.block _ ab];exact u.1 i x Z
    ·exact ⟨s.os.trans u.2.os,s.tape.trans u.2.tape,s.output.trans u.2.output,Nat.le_trans u.2.size s.size,λk G=>(s.block k ab).trans (u.2.block k G)⟩
   refine aK 6 1 ?_;refine cq (R:=[⟨f.heap.size,aj V.1 D,[]⟩]) ⟨⟨_,_,I.ht.mp.row⟩,trivial⟩ {} 40 (az (g:=w.heap.size+1) (t:=32) (ty:=32) (old:=aj zeroM zeroA) (cells:=aj V.1 D) (O.1 1 _ rfl) ba rfl (cN _ _)) ?_;refine gu (R:=[]) trivial {} 40 λb G=>⟨.tuple #[.agg (aj V.1 D),.slice a V.2.length c],vq G rfl ba ba (setRow_heap _ _ _ _ _ _ (O.1 1 _ rfl)) underlying32 rfl ba,D,a,c,rfl,?_,?_,aR O.2 ab _⟩;·have:=I.ht.mp.fam;refine bA.low (B:=d.heap.size) ?_ ab (Nat.le_refl _);rw [setRow_size];exact this.mono λk j o h3=>setRow_other _ _ _ _ ab
   ·exact eg (cG I.own ab) λk e=>setRow_other _ _ _ _ (by have:=(I.own.lt k e).1;omega)
end Go.Proofs.YtfagphfjfhpmjaaGreatDoor
