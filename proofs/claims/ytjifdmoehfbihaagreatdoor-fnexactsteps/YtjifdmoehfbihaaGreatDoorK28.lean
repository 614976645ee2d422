/- Own lemmas. -/
import Derived.Test.YtjifdmoehfbihaaGreatDoorAut
import Derived.Test.YtjifdmoehfbihaaGreatDoorK07
import Derived.Test.YtjifdmoehfbihaaGreatDoorK22
set_option maxRecDepth 100000
namespace Go.Proofs.YtjifdmoehfbihaaGreatDoor
open Go.RowKit Tryz
set_option linter.unusedVariables false
theorem uB (addr size:Int) (W:World):Calls prog 289 #[.u addr,.i size] W λe a=>e=.returned (.bool (decide (gg addr size<6)))/\a=W :=
 jj addr size (λk=>CE 289 #[.u addr,.i size] W (.bool (decide (k<6)))) (by rintro rfl rfl;exact Jq W) (by rintro rfl rfl;exact Jr W) (by rintro rfl rfl;exact Js W) (by rintro rfl rfl;exact Jt W) (by rintro rfl rfl;exact Ju W) (by rintro rfl rfl;exact Jv W) λb c d f g h=>Jw addr size b c d f g h W
theorem qL (addr size:Int):(addr=33554432/\gg addr size=0)\/(addr=33570816/\gg addr size=1)\/(addr=33603576/\gg addr size=2)\/(addr=268435456/\gg addr size=3)\/(addr=268435457/\gg addr size=4)\/(addr=268435461/\gg addr size=5)\/gg addr size=6 :=
 jj addr size (λk=>(addr=33554432/\k=0)\/(addr=33570816/\k=1)\/(addr=33603576/\k=2)\/(addr=268435456/\k=3)\/(addr=268435457/\k=4)\/(addr=268435461/\k=5)\/k=6) (by simp_all) (by simp_all) (by simp_all) (by simp_all) (by simp_all) (by simp_all) bc
structure Dv (w:World) (D0:Array Value) (g B:Nat) (cs:Array Value) (L:List FRow) (W:World):Prop where
 inp:W.heap[w.heap.size]?=some (.cells D0 30 (0,0))
 out:∃ o:Array Value,o.size=6/\W.heap[w.heap.size+1]?=some (.cells o 30 (0,0))
 row:W.heap[g]?=some (.cells cs 30 (0,0))
 fam:bp B W.heap.size W L
 far:∀ q ∈ L,q.v.ownBlock≠some g
 lo:w.heap.size+2<=B/\B<=g
 bl:Bw w W
section
variable {w : World} {D0 : Array Value} {g B : Nat} {cs : Array Value} {L : List FRow} {W : World}
theorem Dv.below (h:Dv w D0 g B cs L W) {W':World} (k:Bw W W'):Dv w D0 g B cs L W':=⟨an k h.inp,let ⟨o,a,b⟩:=h.out;⟨o,a,an k b⟩,an k h.row,(h.fam.below k).low (Nat.le_refl _) k.size,h.far,h.lo,aa h.bl k⟩
theorem Dv.set (h:Dv w D0 g B cs L W) (i:Nat) (v:Value):Dv w D0 g B (cs.setIfInBounds i v) L (W.setCell ⟨g,i,none⟩ v):=by have:=h.lo;refine ⟨eg h.inp _ _ a9,let ⟨o,c,d⟩:=h.out;⟨o,c,eg d _ _ a9⟩,bo h.row i v,?_,h.far,h.lo,h.bl.setCell (p:=⟨g,i,none⟩) a9 _⟩;rw [aY];exact ⟨λr a=>gM (h.fam.own r a) λk e=>Below.heap_setCell W _ v k λb=>h.far r a (e.trans (congrArg some b)),h.fam.hi,h.fam.ne⟩
theorem Dv.put (h:Dv w D0 g B cs L W) (d:Array Value) (hd:d.size=6):Dv w D0 g B cs L (W.setRow (w.heap.size+1) d):=by have:=h.lo;obtain ⟨o,b,a⟩:=h.out;refine ⟨(setRow_other _ _ _ _ al).trans h.inp,⟨d,hd,setRow_heap _ _ _ _ _ _ a⟩,(setRow_other _ _ _ _ al).trans h.row,?_,h.far,h.lo,ch h.bl al _⟩;rw [setRow_size];exact h.fam.mono λk c e f=>setRow_other _ _ _ _ al
theorem Dv.fin (h:Dv w D0 g B cs L W):bp w.heap.size W.heap.size W L/\Bw w W:=⟨h.fam.low (by have:=h.lo;omega) (Nat.le_refl _),h.bl⟩
theorem Dv.st {P:Program} (h:Dv w D0 g B cs L W) (T:TypeId) (i:Nat) (v:Value) (hs:cs.size=6:=by rfl) (b:i<6:=by decide) (a:(P.info? T).map (·.size)=some 1:=by kernel_rfl) (hv:v.cells=#[v]:=by rfl) (c:v.oneCell'=true:=by rfl):(do Instr.storeAt T (.p g i) v;pure Next.skip:Sem Next).run P W=.ok .skip (W.setCell ⟨g,i,none⟩ v):=
 mv (old:=cs[i]) ⟨by simp [World.cell?,h.row,hs,b],gO h.row i⟩ a hv c
theorem Dv.rows (h:Dv w D0 g B cs L W):jk W [⟨w.heap.size,D0,[]⟩,⟨w.heap.size,D0,[]⟩,⟨g,cs,[]⟩]:=⟨⟨_,_,h.inp⟩,⟨_,_,h.inp⟩,⟨_,_,h.row⟩,trivial⟩
theorem Dv.start {D:DV} {j b k c:Option Addr} {l d m f:Nat} {a W2:World} (n:Bs w [(jd D j l k m,30),(jd zeroD none 0 none 0,30)] a) (i:bp a.heap.size W2.heap.size W2 (Hk D b d c f)) (o:Bw a W2):Dv w (jd D j l k m) W2.heap.size a.heap.size (jd D b d c f) (Hk D b d c f) ((W2.alloc (.cells (Value.agg (jd zeroD none 0 none 0)).cells 30)).setRow W2.heap.size (jd D b d c f)):=by have g:Bw W2 ((W2.alloc (.cells (Value.agg (jd zeroD none 0 none 0)).cells 30)).setRow W2.heap.size (jd D b d c f)):=ch (bal _ _) (Nat.le_refl _) _;have h:=(n.below o).below g;have s:=(Array.getElem?_eq_some_iff.1 (n.1 1 _ rfl)).1;have r:=o.size;exact ⟨h.1 0 _ rfl,⟨_,rfl,h.1 1 _ rfl⟩,setRow_heap _ _ _ _ _ _ (heap_alloc_new _ _),(i.below g).low (Nat.le_refl _) g.size,λq p e=>by have:=i.hi q p _ e;omega,⟨al,r⟩,h.2⟩
end
theorem qM (D:DV) (n:Option Addr) (u:Nat) (m:Option Addr) (p:Nat) (addr size x:Int) (w:World) (E:D.xs.length<=1048576) (F:D.ys.length<=1048576) (hb:dO D) (L:Sl .u8 w n D.xs) (G:Sl .u8 w m D.ys):Calls prog 288 #[.agg #[.u D.t,.u D.cm,.bool D.so,.slice n D.xs.length u,.slice m D.ys.length p,.i D.ir],.u addr,.i size,.u x] w λe O=>∃ (b:Option Addr) (c:Nat) (f:Option Addr) (i:Nat),e=.returned (.tuple #[.agg (jd (qf D addr size x).1 b c f i),.bool (qf D addr size x).2]) /\ bp w.heap.size O.heap.size O (Hk (qf D addr size x).1 b c f i)/\Bw w O:=by
 have v:=λW (_:Bw w W)=>jy D.t D.cm D.so n D.xs.length u m D.ys.length p D.ir W E F
 have H:=λW (_:Bw w W)=>uB addr size W
 unfold qf
 refine cn (S:=Bs w [(jd D n u m p,30),(jd zeroD none 0 none 0,30)]) (args:=[.agg (jd D n u m p),.u addr,.i size,.u x]) [(jd D n u m p,30),(jd zeroD none 0 none 0,30)] func288 ?_
 cases N:kq D.xs.length D.ys.length D.ir with
 | false =>
   rw [N] at v
   rw [if_neg a5]
   refine af Bs.eng {cv:=[(12,gB v)]} 40 (Bs.start _ _) λy l=>?_
   exact nt (R:=[]) trivial {} 40 (l.1 1 _ rfl) rfl (gz _ _ _ _ _) underlying30 ⟨none,0,none,0,rfl,lM _ _ _,ch l.2 al _⟩
 | true =>
   rw [N] at v
   rw [if_pos rfl]
   by_cases P:gg addr size=6
   ·rw [P] at H ⊢
    refine af Bs.eng {cv:=[(12,gB v),(17,mj H)]} 40 (Bs.start _ _) λy l=>?_
    exact nt (R:=[]) trivial {} 40 (l.1 1 _ rfl) rfl (gz _ _ _ _ _) underlying30 ⟨none,0,none,0,rfl,lM _ _ _,ch l.2 al _⟩
   ·rw [decide_eq_true (by rcases qL addr size with h|h|h|h|h|h|h<;>omega)] at H
    refine aW Bs.eng {cv:=[(12,gB v),(17,mj H)]} 60 (Bs.start _ _) (λy l=>oQ D.t D.cm D.so n D.xs.length u m D.ys.length p D.ir D.xs D.ys y rfl rfl E F (L.below l.2) (G.below l.2)) ?_
    rintro y e A l ⟨b,c,f,i,rfl,U,V⟩
    refine ⟨_,0,rfl,gp a3,?_⟩
    refine iQ 3 (gF (T:=30) (z:=.agg (jd zeroD none 0 none 0)) a3 A) ?_
    refine bM (bj (g:=A.heap.size) (t:=30) (ty:=30) (old:=jd zeroD none 0 none 0) (cells:=jd D b c f i) (heap_alloc_new _ _) a3 rfl (gz _ _ _ _ _)) ?_
    have q:=Dv.start l U V
    generalize (A.alloc (.cells (Value.agg (jd zeroD none 0 none 0)).cells 30)).setRow A.heap.size (jd D b c f i)=s at q ⊢
    generalize A.heap.size=g at q ⊢
    rcases qL addr size with ⟨rfl,e⟩|⟨rfl,e⟩|⟨rfl,e⟩|⟨rfl,e⟩|⟨rfl,e⟩|⟨rfl,e⟩|e<;>rw [e]
    ·refine nZ (R:=[]) trivial {} 40 (wE x s) ?_
     rintro e I ⟨rfl,J⟩
     refine ⟨_,0,rfl,?_⟩
     have d:=q.below (Below.refl s.heap.size s).drew
     rw [<- J] at d
     have a:=d.set 2 (.bool (bits .and .u64 x 1==1))
     refine oz (R:=[]) trivial {} 40 (d.st 4 2 (.bool (bits .and .u64 x 1==1))) ?_
     obtain ⟨o,j,k⟩:=a.out
     exact nt a.rows {} 40 k (by exact j) (gz _ _ _ _ _) underlying30 ⟨b,c,f,i,rfl,(a.put _ rfl).fin⟩
    ·have a:=q.set 1 (.u x)
     refine oz (R:=[]) trivial {} 40 (q.st 22 1 (.u x)) ?_
     obtain ⟨o,j,k⟩:=a.out
     exact nt a.rows {} 40 k (by exact j) (gz _ _ _ _ _) underlying30 ⟨b,c,f,i,rfl,(a.put _ rfl).fin⟩
    ·have a:=q.set 0 (.u x)
     refine oz (R:=[]) trivial {} 40 (q.st 22 0 (.u x)) ?_
     obtain ⟨o,j,k⟩:=a.out
     exact nt a.rows {} 40 k (by exact j) (gz _ _ _ _ _) underlying30 ⟨b,c,f,i,rfl,(a.put _ rfl).fin⟩
    ·refine nZ q.rows {} 40 (ue m _ p 4096 D.ys (IntKind.u8.wrap x) s rfl al (El N).2.1 (G.below q.bl)) ?_
     rintro e I ⟨B,C,rfl,Q,M⟩
     refine ⟨_,0,rfl,?_⟩
     have d:=q.below M
     have Y:=(Array.getElem?_eq_some_iff.1 q.row).1
     have Z:=q.lo
     have X:Dv w (jd D n u m p) g y.heap.size (jd D b c f i) (Hk ⟨D.t,D.cm,D.so,D.xs,gJ D.ys (IntKind.u8.wrap x) 4096,D.ir⟩ b c B C) I:=⟨d.inp,d.out,d.row,((q.fam.below M).newOut B _ C _ _ I.heap.size Q (Nat.le_refl _) al (Nat.le_refl _) M.size),λr K e=>by
      rcases List.mem_cons.1 K with rfl|K
      ·exact q.far _ (List.mem_cons_self ..) e
      ·rw [List.mem_singleton.1 K] at e
       have:=(Q.lt g e).1
       omega,d.lo,d.bl⟩
     have a:=X.set 4 (.slice B (gJ D.ys (IntKind.u8.wrap x) 4096).length C)
     refine oz (R:=[]) trivial {} 40 (d.st 24 4 (.slice B (gJ D.ys (IntKind.u8.wrap x) 4096).length C)) ?_
     obtain ⟨o,j,k⟩:=a.out
     exact nt a.rows {} 40 k (by exact j) (gz ⟨D.t,D.cm,D.so,D.xs,gJ D.ys (IntKind.u8.wrap x) 4096,D.ir⟩ _ _ _ _) underlying30 ⟨b,c,B,C,rfl,(a.put _ rfl).fin⟩
    ·rw [show fy D x 4=(⟨D.t,D.cm,D.so,D.xs,D.ys,IntKind.i64.wrap (bits .and .u64 x 1)⟩,true) by simp only [fy,IntKind.wrap_i64,wrap64]]
     refine nZ (R:=[]) trivial {} 40 (wE x s) ?_
     rintro e I ⟨rfl,J⟩
     refine ⟨_,0,rfl,?_⟩
     have d:=q.below (Below.refl s.heap.size s).drew
     rw [<- J] at d
     have a:=d.set 5 (.i (IntKind.i64.wrap (bits .and .u64 x 1)))
     refine oz (R:=[]) trivial {} 40 (d.st 2 5 (.i (IntKind.i64.wrap (bits .and .u64 x 1)))) ?_
     obtain ⟨o,j,k⟩:=a.out
     exact nt a.rows {} 40 k (by exact j) (gz _ _ _ _ _) underlying30 ⟨b,c,f,i,rfl,(a.put _ rfl).fin⟩
    ·obtain ⟨o,j,k⟩:=q.out
     exact nt (cs:=jd D b c f i) q.rows {} 90 k j (gz _ _ _ _ _) underlying30 ⟨b,c,f,i,rfl,(q.put _ rfl).fin⟩
    ·exact absurd e P
section
variable {w : World} {D0 : Array Value} {g B : Nat} {cs : Array Value} {L : List FRow} {W V : World}
theorem Dv.dw (h:Dv w D0 g B cs L W) (k:Dw W V):Dv w D0 g B cs L V:=h.below (k.below (Below.refl _ _))
theorem Dv.ez:Ez (Dv w D0 g B cs L) [⟨w.heap.size,D0,[]⟩,⟨w.heap.size,D0,[]⟩,⟨g,cs,[]⟩]:=⟨λW h=>λr a=>oJ h.rows a,λW h=>h.below (Below.refl _ _).drew⟩
theorem Ki (D:DV) (a:Option Addr) (c:Nat) (b:Option Addr) (d:Nat) (addr size:Int) (g:gg addr size≠6) (f:addr≠268435456) (W:World):CB 291 #[.agg (jd D a c b d),.u addr] W (.u (jc D (gg addr size)).1):=by
 rcases qL addr size with ⟨rfl,e⟩|⟨rfl,e⟩|⟨rfl,e⟩|⟨rfl,e⟩|⟨rfl,e⟩|⟨rfl,e⟩|e<;>rw [e];·exact Ot _ _ _ _ _ _ _ _ _ _ W
 ·exact Ou _ _ _ _ _ _ _ _ _ _ W
 ·exact Ow _ _ _ _ _ _ _ _ _ _ W
 ·exact absurd rfl f
 ·exact Ox _ _ _ _ _ _ _ _ _ _ W
 ·exact Oy _ _ _ _ _ _ _ _ _ _ W
 ·exact absurd e g
end
theorem se (D:DV) (d:Option Addr) (j:Nat) (i:Option Addr) (l:Nat) (addr size:Int) (w:World) (H:D.xs.length<=1048576) (I:D.ys.length<=1048576) (hb:dO D) (J:Sl .u8 w d D.xs) (Q:Sl .u8 w i D.ys):Calls prog 285 #[.agg #[.u D.t,.u D.cm,.bool D.so,.slice d D.xs.length j,.slice i D.ys.length l,.i D.ir],.u addr,.i size] w λe X=>∃ (k:Option Addr) (m:Nat) (b:Option Addr) (c:Nat),e=.returned (.tuple #[.u (sU D addr size).1,.agg (jd (sU D addr size).2.1 k m b c),.bool (sU D addr size).2.2]) /\ bp w.heap.size X.heap.size X (Hk (sU D addr size).2.1 k m b c)/\Bw w X:=by
 have F:=λW (_:Bw w W)=>jy D.t D.cm D.so d D.xs.length j i D.ys.length l D.ir W H I
 have L:=λW (_:Bw w W)=>uB addr size W
 unfold sU
 refine cn (S:=Bs w [(jd D d j i l,30),(jd zeroD none 0 none 0,30)]) (args:=[.agg (jd D d j i l),.u addr,.i size]) [(jd D d j i l,30),(jd zeroD none 0 none 0,30)] func285 ?_
 cases U:kq D.xs.length D.ys.length D.ir with
 | false =>
   rw [U] at F
   rw [if_neg a5]
   refine af Bs.eng {cv:=[(13,gB F)]} 40 (Bs.start _ _) λB f=>?_
   refine bM (bj (t:=30) (ty:=30) (cells:=jd zeroD none 0 none 0) (f.1 1 _ rfl) a3 rfl (gz _ _ _ _ _)) ?_
   refine hC (R:=[]) trivial {} 40 λa E=>⟨.tuple #[.u 0,.agg (jd zeroD none 0 none 0),.bool false],?_,none,0,none,0,rfl,lM _ _ _,ch f.2 al _⟩
   rw [bE results285 a.tmps _ _ _ _ (0,0) _ (E.slot a3) (setRow_heap _ _ _ _ _ _ (f.1 1 _ rfl)) underlying30 rfl a3,E.slot (v:=.u 0) a3,E.slot (v:=.bool false) a3]
 | true =>
   rw [U] at F
   rw [if_pos rfl]
   by_cases O:gg addr size=6
   ·rw [O] at L ⊢
    refine af Bs.eng {cv:=[(13,gB F),(18,mj L)]} 40 (Bs.start _ _) λB f=>?_
    refine bM (bj (t:=30) (ty:=30) (cells:=jd zeroD none 0 none 0) (f.1 1 _ rfl) a3 rfl (gz _ _ _ _ _)) ?_
    refine hC (R:=[]) trivial {} 40 λa E=>⟨.tuple #[.u 0,.agg (jd zeroD none 0 none 0),.bool false],?_,none,0,none,0,rfl,lM _ _ _,ch f.2 al _⟩
    rw [bE results285 a.tmps _ _ _ _ (0,0) _ (E.slot a3) (setRow_heap _ _ _ _ _ _ (f.1 1 _ rfl)) underlying30 rfl a3,E.slot (v:=.u 0) a3,E.slot (v:=.bool false) a3]
   ·rw [decide_eq_true (by rcases qL addr size with h|h|h|h|h|h|h<;>omega)] at L
    refine aW Bs.eng {cv:=[(13,gB F),(18,mj L)]} 60 (Bs.start _ _) (λB f=>oQ D.t D.cm D.so d D.xs.length j i D.ys.length l D.ir D.xs D.ys B rfl rfl H I (J.below f.2) (Q.below f.2)) ?_
    rintro B e G f ⟨k,m,b,c,rfl,F2,k2⟩
    refine ⟨_,0,rfl,gp a3,?_⟩
    refine iQ 3 (gF (T:=30) (z:=.agg (jd zeroD none 0 none 0)) a3 G) ?_
    refine bM (bj (g:=G.heap.size) (t:=30) (ty:=30) (old:=jd zeroD none 0 none 0) (cells:=jd D k m b c) (heap_alloc_new _ _) a3 rfl (gz _ _ _ _ _)) ?_
    have q:=Dv.start f F2 k2
    generalize (G.alloc (.cells (Value.agg (jd zeroD none 0 none 0)).cells 30)).setRow G.heap.size (jd D k m b c)=W3 at q ⊢
    generalize G.heap.size=g at q ⊢
    cases M:(addr==268435456) with
    | false =>
      have Y:=Ki D d j i l addr size O (by simpa using M)
      have e2:jc D (gg addr size)=((jc D (gg addr size)).1,D,true):=by
       rcases qL addr size with ⟨rfl,e⟩ | ⟨rfl,e⟩ | ⟨rfl,e⟩ | ⟨rfl,e⟩ | ⟨rfl,e⟩ | ⟨rfl,e⟩ | e<;>first | exact absurd e O | simp at M;done | (rw [e];rfl)
      rw [e2]
      generalize (jc D (gg addr size)).1=v at Y ⊢
      refine aR (Dv w (jd D d j i l) g B.heap.size (jd D k m b c) (Hk D k m b c)) ?_
      refine sn Dv.ez q {eq:=[(25,au M)]} 60 (λW _=>Y W) ?_
      rintro W e N x ⟨rfl,K⟩
      have n:=(q.dw x).below K
      refine ⟨_,0,rfl,n,?_⟩
      exact kS (s:=6) (p:=7) (u:=8) (T:=30) (cs:=jd D k m b c) (v1:=.u v) (v2:=.bool true) Dv.ez n {} 60 (λW h=>h.put _ rfl) (λW h=>let ⟨o,x,C⟩:=h.out;⟨o,_,x,C⟩) a3 (gz _ _ _ _ _) underlying30 rfl rfl a3 a3 a3 λW V x C=>⟨k,m,b,c,rfl,(((n.dw x).put _ rfl).dw C).fin⟩
    | true =>
      have e3:addr=268435456:=by simpa using M
      subst e3
      have e4:gg 268435456 size=3:=by rcases qL 268435456 size with h|h|h|h|h|h|h<;>omega
      rw [e4]
      have hw:IntKind.u64.wrap (D.xs.getD 0 0)=D.xs.getD 0 0:=Jy _ (iy hb.1 0).1 (iy hb.1 0).2
      refine nZ q.rows {} 60 (qB d _ j D.xs W3 rfl (by have:=(El U).1;omega) (J.below q.bl)) ?_
      rintro e N ⟨y,A,rfl,Z,K⟩
      refine ⟨_,0,rfl,?_⟩
      have n:=q.below K
      have s3:=(Array.getElem?_eq_some_iff.1 q.row).1
      have s4:=q.lo
      have q6:Dv w (jd D d j i l) g B.heap.size (jd D k m b c) (Hk ⟨D.t,D.cm,D.so,D.xs.drop 1,D.ys,D.ir⟩ y A b c) N:=⟨n.inp,n.out,n.row,((q.fam.below K).newIn y _ A _ _ N.heap.size Z (Nat.le_refl _) al (Nat.le_refl _) K.size),λr P e=>by
       rcases List.mem_cons.1 P with rfl|P
       ·have:=(Z.lt g e).1
        omega
       ·exact q.far _ (List.mem_cons_of_mem _ P) e,n.lo,n.bl⟩
      have q5:=q6.set 3 (.slice y (D.xs.drop 1).length A)
      refine oz (R:=[]) trivial {} 40 (n.st 24 3 (.slice y (D.xs.drop 1).length A)) ?_
      refine aR (Dv w (jd D d j i l) g B.heap.size (jd ⟨D.t,D.cm,D.so,D.xs.drop 1,D.ys,D.ir⟩ y A b c) (Hk ⟨D.t,D.cm,D.so,D.xs.drop 1,D.ys,D.ir⟩ y A b c)) ?_
      exact kS (s:=6) (p:=7) (u:=8) (T:=30) (cs:=jd ⟨D.t,D.cm,D.so,D.xs.drop 1,D.ys,D.ir⟩ y A b c) (v1:=.u (IntKind.u64.wrap (D.xs.getD 0 0))) (v2:=.bool true) Dv.ez q5 {} 60 (λW h=>h.put _ rfl) (λW h=>let ⟨o,x,C⟩:=h.out;⟨o,_,x,C⟩) a3 (gz _ _ _ _ _) underlying30 rfl rfl a3 a3 a3 λW V x C=>⟨y,A,b,c,by rw [hw];rfl,(((Dv.dw q5 x).put _ rfl).dw C).fin⟩
end Go.Proofs.YtjifdmoehfbihaaGreatDoor
