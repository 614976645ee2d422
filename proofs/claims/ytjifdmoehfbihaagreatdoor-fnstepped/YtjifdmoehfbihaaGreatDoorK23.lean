/- Own lemmas. -/
import Derived.Test.YtjifdmoehfbihaaGreatDoorAut
import Derived.Test.YtjifdmoehfbihaaGreatDoorK06
import Derived.Test.YtjifdmoehfbihaaGreatDoorK22
set_option maxRecDepth 100000
namespace Go.Proofs.YtjifdmoehfbihaaGreatDoor
open Go.RowKit Tryz
set_option linter.unusedVariables false
theorem jU (t cm:Int) (d:Bool) (a1:Option Addr) (b c1:Nat) (a2:Option Addr) (c c2:Nat) (a:Int) (w:World) (k:b<=1048576) (l:c<=1048576):CB 70 #[.agg #[.u t,.u cm,.bool d,.slice a1 b c1,.slice a2 c c2,.i a]] w (.bool (nD b c a)):=by
 have e:nD b c a=(decide ((b:Int)<=16)&&decide ((c:Int)<=4096)&&((a==0)||(a==1))):=by unfold nD;rw [decide_eq_decide.2 (show b<=16↔(b:Int)<=16 by omega),decide_eq_decide.2 (show c<=4096↔(c:Int)<=4096 by omega),show decide (0<=a/\a<=1)=((a==0)||(a==1)) by rw [Bool.eq_iff_iff];simp;omega]
 rw [e];refine bz (S:=Bs w [(#[.u t,.u cm,.bool d,.slice a1 b c1,.slice a2 c c2,.i a],30)]) (args:=[.agg #[.u t,.u cm,.bool d,.slice a1 b c1,.slice a2 c c2,.i a]]) [(#[.u t,.u cm,.bool d,.slice a1 b c1,.slice a2 c c2,.i a],30)] func70 ?_;cases g:decide ((b:Int)<=16)<;>cases i:decide ((c:Int)<=4096)<;>cases j:(a==0)<;>cases d4:(a==1)<;>exact aY (t:=2) Bs.eng {eq:=[(6,aj g),(11,aj i),(16,aj j),(20,aj d4)]} 60 (Bs.start _ _) (λf h=>⟨rfl,h.2⟩)
theorem Lw (addr size:Int) (m:addr=33554432->¬ size=4) (k1:addr=33570816->¬ size=8) (k2:addr=33603576->¬ size=8) (n:addr=268435456->¬ size=1) (o:addr=268435457->¬ size=1) (p:addr=268435461->¬ size=1) (w:World):CE 289 #[.u addr,.i size] w (.bool false):=by
 have g:∀ {c d:Int},(addr=c->¬ size=d)->(addr==c)=true->(size==d)=false:=λh k=>by simpa using h (by simpa using k)
 refine bz (S:=λx=>x=w) (args:=[.u addr,.i size]) [] func289 ?_;cases a:(addr==33554432);case true=>exact jE (R:=[]) trivial {eq:=[(7,aj a),(9,aj (g m a))]} 99 (t:=4) ⟨rfl,rfl⟩
 cases b:(addr==33570816);case true=>exact jE (R:=[]) trivial {eq:=[(7,aj a),(11,aj b),(14,aj (g k1 b))]} 99 (t:=4) ⟨rfl,rfl⟩
 cases f:(addr==33603576);case true=>exact jE (R:=[]) trivial {eq:=[(7,aj a),(11,aj b),(12,aj f),(14,aj (g k2 f))]} 99 (t:=4) ⟨rfl,rfl⟩
 cases i:(addr==268435456);case true=>exact jE (R:=[]) trivial {eq:=[(7,aj a),(11,aj b),(12,aj f),(16,aj i),(20,aj (g n i))]} 99 (t:=4) ⟨rfl,rfl⟩
 cases j:(addr==268435457);case true=>exact jE (R:=[]) trivial {eq:=[(7,aj a),(11,aj b),(12,aj f),(16,aj i),(17,aj j),(20,aj (g o j))]} 99 (t:=4) ⟨rfl,rfl⟩
 cases l:(addr==268435461);case true=>exact jE (R:=[]) trivial {eq:=[(7,aj a),(11,aj b),(12,aj f),(16,aj i),(17,aj j),(18,aj l),(20,aj (g p l))]} 99 (t:=4) ⟨rfl,rfl⟩
 exact jE (R:=[]) trivial {eq:=[(7,aj a),(11,aj b),(12,aj f),(16,aj i),(17,aj j),(18,aj l)]} 99 (t:=4) ⟨rfl,rfl⟩
theorem wY (D:DV) (a1:Option Addr) (c1:Nat) (a2:Option Addr) (c2:Nat) (w:World) (f:D.xs.length<=1048576) (g:D.ys.length<=1048576):CB 110 #[.agg #[.u D.t,.u D.cm,.bool D.so,.slice a1 D.xs.length c1,.slice a2 D.ys.length c2,.i D.ir]] w (.u (iQ D)):=by obtain ⟨t,b,c,d,i,a⟩:=D;have k:=λW (_:Bw w W)=>jU t b c a1 d.length c1 a2 i.length c2 a W f g;have e3:decide ((d.length:Int)>0)=decide (0<d.length):=decide_eq_decide.2 ab;unfold iQ dD;dsimp only;generalize nD d.length i.length a=p at *;generalize d.length=n at *;generalize i.length=m at *;refine bz (S:=Bs w [(#[.u t,.u b,.bool c,.slice a1 n c1,.slice a2 m c2,.i a],30)]) (args:=[.agg #[.u t,.u b,.bool c,.slice a1 n c1,.slice a2 m c2,.i a]]) [(#[.u t,.u b,.bool c,.slice a1 n c1,.slice a2 m c2,.i a],30)] func110 ?_;cases p<;>cases c<;>cases l:decide (b<=t)<;>cases o:(a==1)<;>cases d4:decide (0<n)<;>rw [d4] at e3<;>exact aY (t:=2) Bs.eng {eq:=[(15,aj l),(20,aj o),(25,aj e3)],cv:=[(5,fW k)]} 90 (Bs.start _ _) (λj h=>⟨rfl,h.2⟩)
theorem vA (addr size:Int) (W:World):Calls prog 289 #[.u addr,.i size] W λe a=>e=.returned (.bool (decide (gj addr size<6)))/\a=W :=
 jD addr size (λk=>CE 289 #[.u addr,.i size] W (.bool (decide (k<6)))) (by rintro rfl rfl;exact Lg W) (by rintro rfl rfl;exact Lh W) (by rintro rfl rfl;exact Lj W) (by rintro rfl rfl;exact Lk W) (by rintro rfl rfl;exact Ll W) (by rintro rfl rfl;exact Lm W) λb c d f g h=>Lw addr size b c d f g h W
theorem rF (addr size:Int):(addr=33554432/\gj addr size=0)\/(addr=33570816/\gj addr size=1)\/(addr=33603576/\gj addr size=2)\/(addr=268435456/\gj addr size=3)\/(addr=268435457/\gj addr size=4)\/(addr=268435461/\gj addr size=5)\/gj addr size=6 :=
 jD addr size (λk=>(addr=33554432/\k=0)\/(addr=33570816/\k=1)\/(addr=33603576/\k=2)\/(addr=268435456/\k=3)\/(addr=268435457/\k=4)\/(addr=268435461/\k=5)\/k=6) (by simp_all) (by simp_all) (by simp_all) (by simp_all) (by simp_all) (by simp_all) cp
structure Dv (w:World) (D0:Array Value) (g B:Nat) (cs:Array Value) (L:List FRow) (W:World):Prop where
 inp:W.heap[w.heap.size]?=some (.cells D0 30 (0,0))
 out:∃ o:Array Value,o.size=6/\W.heap[w.heap.size+1]?=some (.cells o 30 (0,0))
 row:W.heap[g]?=some (.cells cs 30 (0,0))
 fam:bx B W.heap.size W L
 far:∀ q ∈ L,q.v.ownBlock≠some g
 lo:w.heap.size+2<=B/\B<=g
 bl:Bw w W
section
variable {w : World} {D0 : Array Value} {g B : Nat} {cs : Array Value} {L : List FRow} {W : World}
theorem Dv.below (h:Dv w D0 g B cs L W) {W':World} (k:Bw W W'):Dv w D0 g B cs L W':=⟨bA k h.inp,let ⟨o,a,b⟩:=h.out;⟨o,a,bA k b⟩,bA k h.row,(h.fam.below k).low (Nat.le_refl _) k.size,h.far,h.lo,aa h.bl k⟩
theorem Dv.set (h:Dv w D0 g B cs L W) (i:Nat) (v:Value):Dv w D0 g B (cs.setIfInBounds i v) L (W.setCell ⟨g,i,none⟩ v):=by have:=h.lo;refine ⟨gy h.inp _ _ cb,let ⟨o,b,c⟩:=h.out;⟨o,b,gy c _ _ cb⟩,bD h.row i v,?_,h.far,h.lo,h.bl.setCell (p:=⟨g,i,none⟩) cb _⟩;rw [aO];exact ⟨λr a=>fH (h.fam.own r a) λk e=>Below.heap_setCell W _ v k λe2=>h.far r a (e.trans (congrArg some e2)),h.fam.hi,h.fam.ne⟩
theorem Dv.put (h:Dv w D0 g B cs L W) (d:Array Value) (hd:d.size=6):Dv w D0 g B cs L (W.setRow (w.heap.size+1) d):=by have:=h.lo;obtain ⟨o,b,a⟩:=h.out;refine ⟨(setRow_other _ _ _ _ ab).trans h.inp,⟨d,hd,setRow_heap _ _ _ _ _ _ a⟩,(setRow_other _ _ _ _ ab).trans h.row,?_,h.far,h.lo,bm h.bl ab _⟩;rw [setRow_size];exact h.fam.mono λk c e f=>setRow_other _ _ _ _ ab
theorem Dv.fin (h:Dv w D0 g B cs L W):bx w.heap.size W.heap.size W L/\Bw w W:=⟨h.fam.low (by have:=h.lo;omega) (Nat.le_refl _),h.bl⟩
theorem Dv.st {P:Program} (h:Dv w D0 g B cs L W) (T:TypeId) (i:Nat) (v:Value) (hs:cs.size=6:=by rfl) (b:i<6:=by decide) (a:(P.info? T).map (·.size)=some 1:=by kernel_rfl) (hv:v.cells=#[v]:=by rfl) (c:v.oneCell'=true:=by rfl):(do Instr.storeAt T (.p g i) v;pure Next.skip:Sem Next).run P W=.ok .skip (W.setCell ⟨g,i,none⟩ v):=
 jh (old:=cs[i]) ⟨by simp [World.cell?,h.row,hs,b],gU h.row i⟩ a hv c
theorem Dv.rows (h:Dv w D0 g B cs L W):g6 W [⟨w.heap.size,D0,[]⟩,⟨w.heap.size,D0,[]⟩,⟨g,cs,[]⟩]:=⟨⟨_,_,h.inp⟩,⟨_,_,h.inp⟩,⟨_,_,h.row⟩,trivial⟩
theorem Dv.start {D:DV} {a1 b a2 b2:Option Addr} {c1 c c2 d:Nat} {a W2:World} (i:Bs w [(fM D a1 c1 a2 c2,30),(fM zeroD none 0 none 0,30)] a) (h:bx a.heap.size W2.heap.size W2 (um D b c b2 d)) (k2:Bw a W2):Dv w (fM D a1 c1 a2 c2) W2.heap.size a.heap.size (fM D b c b2 d) (um D b c b2 d) ((W2.alloc (.cells (Value.agg (fM zeroD none 0 none 0)).cells 30)).setRow W2.heap.size (fM D b c b2 d)):=by have f:Bw W2 ((W2.alloc (.cells (Value.agg (fM zeroD none 0 none 0)).cells 30)).setRow W2.heap.size (fM D b c b2 d)):=bm (bal _ _) (Nat.le_refl _) _;have g:=(i.below k2).below f;have l:=(Array.getElem?_eq_some_iff.1 (i.1 1 _ rfl)).1;have k:=k2.size;exact ⟨g.1 0 _ rfl,⟨_,rfl,g.1 1 _ rfl⟩,setRow_heap _ _ _ _ _ _ (heap_alloc_new _ _),(h.below f).low (Nat.le_refl _) f.size,λq j e=>by have:=h.hi q j _ e;omega,⟨ab,k⟩,g.2⟩
end
theorem rG (D:DV) (a1:Option Addr) (c1:Nat) (a2:Option Addr) (c2:Nat) (addr size x:Int) (w:World) (y:D.xs.length<=1048576) (A:D.ys.length<=1048576) (hb:dH D) (H:Sl .u8 w a1 D.xs) (B:Sl .u8 w a2 D.ys):Calls prog 288 #[.agg #[.u D.t,.u D.cm,.bool D.so,.slice a1 D.xs.length c1,.slice a2 D.ys.length c2,.i D.ir],.u addr,.i size,.u x] w λe K=>∃ (b:Option Addr) (c:Nat) (f:Option Addr) (i:Nat),e=.returned (.tuple #[.agg (fM (qX D addr size x).1 b c f i),.bool (qX D addr size x).2]) /\ bx w.heap.size K.heap.size K (um (qX D addr size x).1 b c f i)/\Bw w K:=by
 have n:=λW (_:Bw w W)=>jU D.t D.cm D.so a1 D.xs.length c1 a2 D.ys.length c2 D.ir W y A
 have C:=λW (_:Bw w W)=>vA addr size W
 unfold qX
 refine bz (S:=Bs w [(fM D a1 c1 a2 c2,30),(fM zeroD none 0 none 0,30)]) (args:=[.agg (fM D a1 c1 a2 c2),.u addr,.i size,.u x]) [(fM D a1 c1 a2 c2,30),(fM zeroD none 0 none 0,30)] func288 ?_
 cases J:nD D.xs.length D.ys.length D.ir with
 | false =>
   rw [J] at n
   rw [if_neg bb]
   refine ae Bs.eng {cv:=[(12,fW n)]} 40 (Bs.start _ _) λp l=>?_
   exact nR (R:=[]) trivial {} 40 (l.1 1 _ rfl) rfl (fw _ _ _ _ _) underlying30 ⟨none,0,none,0,rfl,kU _ _ _,bm l.2 ab _⟩
 | true =>
   rw [J] at n
   rw [if_pos rfl]
   by_cases L:gj addr size=6
   ·rw [L] at C ⊢
    refine ae Bs.eng {cv:=[(12,fW n),(17,mM C)]} 40 (Bs.start _ _) λp l=>?_
    exact nR (R:=[]) trivial {} 40 (l.1 1 _ rfl) rfl (fw _ _ _ _ _) underlying30 ⟨none,0,none,0,rfl,kU _ _ _,bm l.2 ab _⟩
   ·rw [decide_eq_true (by rcases rF addr size with h|h|h|h|h|h|h<;>omega)] at C
    refine aN Bs.eng {cv:=[(12,fW n),(17,mM C)]} 60 (Bs.start _ _) (λp l=>py D.t D.cm D.so a1 D.xs.length c1 a2 D.ys.length c2 D.ir D.xs D.ys p rfl rfl y A (H.below l.2) (B.below l.2)) ?_
    rintro p e s l ⟨b,c,f,i,rfl,N,O⟩
    refine ⟨_,0,rfl,gm al,?_⟩
    refine dU 3 (dW (T:=30) (z:=.agg (fM zeroD none 0 none 0)) al s) ?_
    refine bJ (aG (g:=s.heap.size) (t:=30) (ty:=30) (old:=fM zeroD none 0 none 0) (cells:=fM D b c f i) (heap_alloc_new _ _) al rfl (fw _ _ _ _ _)) ?_
    have q:=Dv.start l N O
    generalize (s.alloc (.cells (Value.agg (fM zeroD none 0 none 0)).cells 30)).setRow s.heap.size (fM D b c f i)=m at q ⊢
    generalize s.heap.size=g at q ⊢
    rcases rF addr size with ⟨rfl,e⟩|⟨rfl,e⟩|⟨rfl,e⟩|⟨rfl,e⟩|⟨rfl,e⟩|⟨rfl,e⟩|e<;>rw [e]
    ·refine aS (R:=[]) trivial {} 40 (ya x m) ?_
     rintro e E ⟨rfl,F⟩
     refine ⟨_,0,rfl,?_⟩
     have d:=q.below (Below.refl m.heap.size m).drew
     rw [<- F] at d
     have a:=d.set 2 (.bool (bits .and .u64 x 1==1))
     refine cw (R:=[]) trivial {} 40 (d.st 4 2 (.bool (bits .and .u64 x 1==1))) ?_
     obtain ⟨o,j,k⟩:=a.out
     exact nR a.rows {} 40 k (by exact j) (fw _ _ _ _ _) underlying30 ⟨b,c,f,i,rfl,(a.put _ rfl).fin⟩
    ·have a:=q.set 1 (.u x)
     refine cw (R:=[]) trivial {} 40 (q.st 22 1 (.u x)) ?_
     obtain ⟨o,j,k⟩:=a.out
     exact nR a.rows {} 40 k (by exact j) (fw _ _ _ _ _) underlying30 ⟨b,c,f,i,rfl,(a.put _ rfl).fin⟩
    ·have a:=q.set 0 (.u x)
     refine cw (R:=[]) trivial {} 40 (q.st 22 0 (.u x)) ?_
     obtain ⟨o,j,k⟩:=a.out
     exact nR a.rows {} 40 k (by exact j) (fw _ _ _ _ _) underlying30 ⟨b,c,f,i,rfl,(a.put _ rfl).fin⟩
    ·refine aS q.rows {} 40 (uK a2 _ c2 4096 D.ys (IntKind.u8.wrap x) m rfl ab (Gh J).2.1 (B.below q.bl)) ?_
     rintro e E ⟨u,v,rfl,M,I⟩
     refine ⟨_,0,rfl,?_⟩
     have d:=q.below I
     have Q:=(Array.getElem?_eq_some_iff.1 q.row).1
     have U:=q.lo
     have P:Dv w (fM D a1 c1 a2 c2) g p.heap.size (fM D b c f i) (um ⟨D.t,D.cm,D.so,D.xs,g7 D.ys (IntKind.u8.wrap x) 4096,D.ir⟩ b c u v) E:=⟨d.inp,d.out,d.row,((q.fam.below I).newOut u _ v _ _ E.heap.size M (Nat.le_refl _) ab (Nat.le_refl _) I.size),λr G e=>by
      rcases List.mem_cons.1 G with rfl|G
      ·exact q.far _ (List.mem_cons_self ..) e
      ·rw [List.mem_singleton.1 G] at e
       have:=(M.lt g e).1
       omega,d.lo,d.bl⟩
     have a:=P.set 4 (.slice u (g7 D.ys (IntKind.u8.wrap x) 4096).length v)
     refine cw (R:=[]) trivial {} 40 (d.st 24 4 (.slice u (g7 D.ys (IntKind.u8.wrap x) 4096).length v)) ?_
     obtain ⟨o,j,k⟩:=a.out
     exact nR a.rows {} 40 k (by exact j) (fw ⟨D.t,D.cm,D.so,D.xs,g7 D.ys (IntKind.u8.wrap x) 4096,D.ir⟩ _ _ _ _) underlying30 ⟨b,c,u,v,rfl,(a.put _ rfl).fin⟩
    ·rw [show fI D x 4=(⟨D.t,D.cm,D.so,D.xs,D.ys,IntKind.i64.wrap (bits .and .u64 x 1)⟩,true) by simp only [fI,IntKind.wrap_i64,wrap64]]
     refine aS (R:=[]) trivial {} 40 (ya x m) ?_
     rintro e E ⟨rfl,F⟩
     refine ⟨_,0,rfl,?_⟩
     have d:=q.below (Below.refl m.heap.size m).drew
     rw [<- F] at d
     have a:=d.set 5 (.i (IntKind.i64.wrap (bits .and .u64 x 1)))
     refine cw (R:=[]) trivial {} 40 (d.st 2 5 (.i (IntKind.i64.wrap (bits .and .u64 x 1)))) ?_
     obtain ⟨o,j,k⟩:=a.out
     exact nR a.rows {} 40 k (by exact j) (fw _ _ _ _ _) underlying30 ⟨b,c,f,i,rfl,(a.put _ rfl).fin⟩
    ·obtain ⟨o,j,k⟩:=q.out
     exact nR (cs:=fM D b c f i) q.rows {} 90 k j (fw _ _ _ _ _) underlying30 ⟨b,c,f,i,rfl,(q.put _ rfl).fin⟩
    ·exact absurd e L
section
variable {w : World} {D0 : Array Value} {g B : Nat} {cs : Array Value} {L : List FRow} {W V : World}
theorem Dv.dw (h:Dv w D0 g B cs L W) (k:Dw W V):Dv w D0 g B cs L V:=h.below (k.below (Below.refl _ _))
theorem Dv.ez:Ez (Dv w D0 g B cs L) [⟨w.heap.size,D0,[]⟩,⟨w.heap.size,D0,[]⟩,⟨g,cs,[]⟩]:=⟨λW h=>λr a=>po h.rows a,λW h=>h.below (Below.refl _ _).drew⟩
theorem Lx (D:DV) (a1:Option Addr) (c1:Nat) (a2:Option Addr) (c2:Nat) (addr size:Int) (b:gj addr size≠6) (a:addr≠268435456) (W:World):CB 291 #[.agg (fM D a1 c1 a2 c2),.u addr] W (.u (jc D (gj addr size)).1):=by
 rcases rF addr size with ⟨rfl,e⟩|⟨rfl,e⟩|⟨rfl,e⟩|⟨rfl,e⟩|⟨rfl,e⟩|⟨rfl,e⟩|e<;>rw [e];·exact Ro _ _ _ _ _ _ _ _ _ _ W
 ·exact Rp _ _ _ _ _ _ _ _ _ _ W
 ·exact Rq _ _ _ _ _ _ _ _ _ _ W
 ·exact absurd rfl a
 ·exact Rt _ _ _ _ _ _ _ _ _ _ W
 ·exact Rv _ _ _ _ _ _ _ _ _ _ W
 ·exact absurd e b
end
theorem tw (D:DV) (a1:Option Addr) (c1:Nat) (a2:Option Addr) (c2:Nat) (addr size:Int) (w:World) (C:D.xs.length<=1048576) (E:D.ys.length<=1048576) (hb:dH D) (F:Sl .u8 w a1 D.xs) (M:Sl .u8 w a2 D.ys):Calls prog 285 #[.agg #[.u D.t,.u D.cm,.bool D.so,.slice a1 D.xs.length c1,.slice a2 D.ys.length c2,.i D.ir],.u addr,.i size] w λe O=>∃ (f:Option Addr) (i:Nat) (b:Option Addr) (c:Nat),e=.returned (.tuple #[.u (uo D addr size).1,.agg (fM (uo D addr size).2.1 f i b c),.bool (uo D addr size).2.2]) /\ bx w.heap.size O.heap.size O (um (uo D addr size).2.1 f i b c)/\Bw w O:=by
 have A:=λW (_:Bw w W)=>jU D.t D.cm D.so a1 D.xs.length c1 a2 D.ys.length c2 D.ir W C E
 have H:=λW (_:Bw w W)=>vA addr size W
 unfold uo
 refine bz (S:=Bs w [(fM D a1 c1 a2 c2,30),(fM zeroD none 0 none 0,30)]) (args:=[.agg (fM D a1 c1 a2 c2),.u addr,.i size]) [(fM D a1 c1 a2 c2,30),(fM zeroD none 0 none 0,30)] func285 ?_
 cases N:nD D.xs.length D.ys.length D.ir with
 | false =>
   rw [N] at A
   rw [if_neg bb]
   refine ae Bs.eng {cv:=[(13,fW A)]} 40 (Bs.start _ _) λn d=>?_
   refine bJ (aG (t:=30) (ty:=30) (cells:=fM zeroD none 0 none 0) (d.1 1 _ rfl) al rfl (fw _ _ _ _ _)) ?_
   refine fP (R:=[]) trivial {} 40 λa y=>⟨.tuple #[.u 0,.agg (fM zeroD none 0 none 0),.bool false],?_,none,0,none,0,rfl,kU _ _ _,bm d.2 ab _⟩
   rw [bN results285 a.tmps _ _ _ _ (0,0) _ (y.slot al) (setRow_heap _ _ _ _ _ _ (d.1 1 _ rfl)) underlying30 rfl al,y.slot (v:=.u 0) al,y.slot (v:=.bool false) al]
 | true =>
   rw [N] at A
   rw [if_pos rfl]
   by_cases K:gj addr size=6
   ·rw [K] at H ⊢
    refine ae Bs.eng {cv:=[(13,fW A),(18,mM H)]} 40 (Bs.start _ _) λn d=>?_
    refine bJ (aG (t:=30) (ty:=30) (cells:=fM zeroD none 0 none 0) (d.1 1 _ rfl) al rfl (fw _ _ _ _ _)) ?_
    refine fP (R:=[]) trivial {} 40 λa y=>⟨.tuple #[.u 0,.agg (fM zeroD none 0 none 0),.bool false],?_,none,0,none,0,rfl,kU _ _ _,bm d.2 ab _⟩
    rw [bN results285 a.tmps _ _ _ _ (0,0) _ (y.slot al) (setRow_heap _ _ _ _ _ _ (d.1 1 _ rfl)) underlying30 rfl al,y.slot (v:=.u 0) al,y.slot (v:=.bool false) al]
   ·rw [decide_eq_true (by rcases rF addr size with h|h|h|h|h|h|h<;>omega)] at H
    refine aN Bs.eng {cv:=[(13,fW A),(18,mM H)]} 60 (Bs.start _ _) (λn d=>py D.t D.cm D.so a1 D.xs.length c1 a2 D.ys.length c2 D.ir D.xs D.ys n rfl rfl C E (F.below d.2) (M.below d.2)) ?_
    rintro n e B d ⟨f,i,b,c,rfl,X,k2⟩
    refine ⟨_,0,rfl,gm al,?_⟩
    refine dU 3 (dW (T:=30) (z:=.agg (fM zeroD none 0 none 0)) al B) ?_
    refine bJ (aG (g:=B.heap.size) (t:=30) (ty:=30) (old:=fM zeroD none 0 none 0) (cells:=fM D f i b c) (heap_alloc_new _ _) al rfl (fw _ _ _ _ _)) ?_
    have q:=Dv.start d X k2
    generalize (B.alloc (.cells (Value.agg (fM zeroD none 0 none 0)).cells 30)).setRow B.heap.size (fM D f i b c)=Y at q ⊢
    generalize B.heap.size=g at q ⊢
    cases I:(addr==268435456) with
    | false =>
      have P:=Lx D a1 c1 a2 c2 addr size K (by simpa using I)
      have e2:jc D (gj addr size)=((jc D (gj addr size)).1,D,true):=by
       rcases rF addr size with ⟨rfl,e⟩ | ⟨rfl,e⟩ | ⟨rfl,e⟩ | ⟨rfl,e⟩ | ⟨rfl,e⟩ | ⟨rfl,e⟩ | e<;>first | exact absurd e K | simp at I;done | (rw [e];rfl)
      rw [e2]
      generalize (jc D (gj addr size)).1=v at P ⊢
      refine aH (Dv w (fM D a1 c1 a2 c2) g n.heap.size (fM D f i b c) (um D f i b c)) ?_
      refine tH Dv.ez q {eq:=[(25,aj I)]} 60 (λW _=>P W) ?_
      rintro W e J k ⟨rfl,G⟩
      have j:=(q.dw k).below G
      refine ⟨_,0,rfl,j,?_⟩
      exact lR (s:=6) (p:=7) (u:=8) (T:=30) (cs:=fM D f i b c) (v1:=.u v) (v2:=.bool true) Dv.ez j {} 60 (λW h=>h.put _ rfl) (λW h=>let ⟨o,k,x⟩:=h.out;⟨o,_,k,x⟩) al (fw _ _ _ _ _) underlying30 rfl rfl al al al λW V k x=>⟨f,i,b,c,rfl,(((j.dw k).put _ rfl).dw x).fin⟩
    | true =>
      have e3:addr=268435456:=by simpa using I
      subst e3
      have e4:gj 268435456 size=3:=by rcases rF 268435456 size with h|h|h|h|h|h|h<;>omega
      rw [e4]
      have Z:IntKind.u64.wrap (D.xs.getD 0 0)=D.xs.getD 0 0:=Ln _ (iM hb.1 0).1 (iM hb.1 0).2
      refine aS q.rows {} 60 (rp a1 _ c1 D.xs Y rfl (by have:=(Gh N).1;omega) (F.below q.bl)) ?_
      rintro e J ⟨l,m,rfl,Q,G⟩
      refine ⟨_,0,rfl,?_⟩
      have j:=q.below G
      have s3:=(Array.getElem?_eq_some_iff.1 q.row).1
      have s4:=q.lo
      have q6:Dv w (fM D a1 c1 a2 c2) g n.heap.size (fM D f i b c) (um ⟨D.t,D.cm,D.so,D.xs.drop 1,D.ys,D.ir⟩ l m b c) J:=⟨j.inp,j.out,j.row,((q.fam.below G).newIn l _ m _ _ J.heap.size Q (Nat.le_refl _) ab (Nat.le_refl _) G.size),λr L e=>by
       rcases List.mem_cons.1 L with rfl|L
       ·have:=(Q.lt g e).1
        omega
       ·exact q.far _ (List.mem_cons_of_mem _ L) e,j.lo,j.bl⟩
      have U:=q6.set 3 (.slice l (D.xs.drop 1).length m)
      refine cw (R:=[]) trivial {} 40 (j.st 24 3 (.slice l (D.xs.drop 1).length m)) ?_
      refine aH (Dv w (fM D a1 c1 a2 c2) g n.heap.size (fM ⟨D.t,D.cm,D.so,D.xs.drop 1,D.ys,D.ir⟩ l m b c) (um ⟨D.t,D.cm,D.so,D.xs.drop 1,D.ys,D.ir⟩ l m b c)) ?_
      exact lR (s:=6) (p:=7) (u:=8) (T:=30) (cs:=fM ⟨D.t,D.cm,D.so,D.xs.drop 1,D.ys,D.ir⟩ l m b c) (v1:=.u (IntKind.u64.wrap (D.xs.getD 0 0))) (v2:=.bool true) Dv.ez U {} 60 (λW h=>h.put _ rfl) (λW h=>let ⟨o,k,x⟩:=h.out;⟨o,_,k,x⟩) al (fw _ _ _ _ _) underlying30 rfl rfl al al al λW V k x=>⟨l,m,b,c,by rw [Z];rfl,(((Dv.dw U k).put _ rfl).dw x).fin⟩
end Go.Proofs.YtjifdmoehfbihaaGreatDoor
