/- Own lemmas. -/
import Derived.Test.YtjifdmoehfbihaaGreatDoorAuj
import Derived.Test.YtjifdmoehfbihaaGreatDoorJ21
import Derived.Test.YtjifdmoehfbihaaGreatDoorJ22
set_option maxRecDepth 100000
namespace Go.Proofs.YtjifdmoehfbihaaGreatDoor
open Go.RowKit Tryz
set_option linter.unusedVariables false
variable {M a:List Int} {w l N:MV} {R W:World} {n p:Nat} {x:MA} {b g:Int} {C:Option Addr} {A:Array Value} (c:List Int) (k:MV) (t:Nat) (B:List Int) (D:Bool) (Q:MA) (S:Ins) (d j o y P:Int) (T:World) (e:Nat)
def SR (B g:Nat) (w0:World) (V:MV × Int) (e:Ending) (w':World):Prop:=e=.returned (.i V.2)/\∃ A' t',Tq B g w0 V.1 A' t' w'
theorem Ul {M:World} {A:MA} (h:Tq n p W w A tS M) (hg:Gd w) (hd:Ud w.d):Calls prog 41 #[.p p 0] M (SR n p W (ee w)):=by
 obtain ⟨I,hcs,hpr,_,_,_⟩:=aC hg.ok; -- what is raised is entered
 have up:∀ (S:World->Prop) (N:MV) (C:MA) (f:TV) (k:Nat) (w0:World),Tq n p W N C f w0->Gd N->f.up=true->f.cz=k->k<16->Wg prog S (bodyPost prog Tryz.f41 (SR n p W (aL N k false f.vl,2))) Tryz.f41.ntmps [.code (aw 6 (aM Tryz.f41))] [(0,.p p 0,1)] w0:=by intro S N C f k w0 d gN l m u;refine aJ (Tq n p W N C f) ?_;refine ae (Tq.eng (dr:=false)) {eq:=[(61,ak l)]} 40 d λW1 h1=>?_;refine lJ 11 ?_;refine aW (Tq.eng (dr:=true)) {eq:=[(68,dP .i64 m)]} 60 (h1.below (Below.refl _ _).drew) (λw0 d=>Iz d gN k u false f.vl) ?_;rintro W2 e W3 H ⟨rfl,C2,J⟩;refine ⟨_,0,rfl,gE ba,?_⟩;exact jk (R:=[]) (t:=2) (v:=.i 2) trivial {} 40 ⟨rfl,C2,f,J⟩
 -- iu a performance
 have tail:∀ (S:World->Prop) (cf:Bool) (i:Ins) (V:MV × Int) (N:MV) (C:MA) (f:TV) (w0:World),jS i->cf=decide (87<=i.op/\i.op<=92)->Pf cf V i N f->Tq n p W N C f w0->Wg prog S (bodyPost prog Tryz.f41 (SR n p W V)) Tryz.f41.ntmps [.code (aw 6 (aM Tryz.f41))] [(0,.p p 0,1)] w0:=by
  intro S cf i V N C f w0 Q hcf o d;cases l:f.up with
  | true =>obtain ⟨k,u,m⟩:=o.c l;have e:=o.e;rw [iL l m] at e;rw [<- e];exact up S N C f k w0 d o.g l m u
  | false =>have hfo:Fo cf f.fm:=(by rw [o.fm,hcf];exact DM i.op);have s:=λw0 (d:Tq n p W N C f w0)=>Oz hfo d o.g (by rw [o.rd];exact Q.rd0) (by rw [o.rd];exact Q.rd31) l;have e2:V.2=1:=(by rw [<- o.e];unfold uB;rw [l];rfl);rw [o.e] at s;unfold SR;rw [e2];generalize V.1=V1 at *;refine aJ (Tq n p W N C f) ?_;refine aW (Tq.eng (dr:=true)) {eq:=[(61,ak l)]} 60 d s ?_;rintro W2 e W3 H ⟨rfl,J⟩;refine ⟨_,0,rfl,gE ba,?_⟩;exact jk (R:=[]) (t:=2) (v:=.i 1) trivial {} 40 ⟨rfl,C,f,J⟩
 have fin:∀ (S:World->Prop) (w0:World),Tq n p W w A tS w0->(w.wt&&(ku w.cs==0))=false->Wg prog S (bodyPost prog Tryz.f41 (SR n p W (ee w))) Tryz.f41.ntmps [.code (aw 2 (aM Tryz.f41))] [(0,.p p 0,1)] w0:=by
  intro S w0 d hn;have eV:ee w=if 0<=fW w.cs w.pr then (aL (fF w false) (fW w.cs w.pr).toNat true 0,3) else (let q:=aE (fF w false) w.pc 4 1 0;if (q.2.2 != 0)=true then cS q 0 q.2.1.pc else match Ca q.1 with | none=>(aL q.2.1 2 false q.1,2) | some i=>dh q.2.1 i q.1):=by unfold ee;rw [hn,if_neg bc];rfl
  rw [eV];clear eV;have F:=hg.wait false;have Y:fW w.cs w.pr=fW (fF w false).cs (fF w false).pr:=rfl;have U:w.pc=(fF w false).pc:=rfl;have z:Ud (fF w false).d:=hd;have Z:(fF w false).wt=false:=rfl;refine aJ (λ_=>True) ?_;refine oG (R1:=[⟨p,bL (fF w false) A tS,[]⟩]) (Iv.one d.row) {} 8 λW1 h1=>?_;have H:=d.iv h1 rfl;refine af [.code (aw 3 (aM Tryz.f41))] [(0,.p p 0,1)] ?_;rw [Y,U];generalize fF w false=N at F H z Z ⊢;clear Y U h1;have r:=λw0 (d:Tq n p W N A tS w0)=>uC A.ac N.cs.length A.cc N.cs N.pr w0 rfl d.sl.cs F.mw.cs;have T:vf N.cs.length N.cs N.pr=fW N.cs N.pr:=(by unfold vf;rw [(eU F.ok).2.2.1]);rw [T] at r;clear T;refine aJ (Tq n p W N A tS) ?_;by_cases e:0<=fW N.cs N.pr;·obtain ⟨k,k16,u⟩:=AR _ _ e;have q:decide (0<=((k:Nat):Int))=true:=ef;rw [if_pos e,u,Int.toNat_natCast];rw [u] at r;refine aW (Tq.eng (dr:=true)) {eq:=[(43,ak q)],cv:=[(41,Pd r)]} 60 H (λw0 d=>Iz d F k k16 true 0) ?_;rintro W3 e W4 J ⟨rfl,C2,B⟩;refine ⟨_,0,rfl,gE ba,?_⟩;exact jk (R:=[]) (t:=2) (v:=.i 3) trivial {} 40 ⟨rfl,C2,tS,B⟩
  ·have q:decide (0<=fW N.cs N.pr)=false:=(by rw [decide_eq_false_iff_not];exact e);rw [if_neg e];generalize fW N.cs N.pr=pv at *;have P:=λw0 (d:Tq n p W N A tS w0)=>Rl d F z;have ga:=F.acc N.pc 4 1 0;have da:=AN z N.pc 4 1 lw;have wa:=(i7 N N.pc 4 1 0).2.2.2;have pa:=(i7 N N.pc 4 1 0).1;have ec:=λc=>kq (M:=N) (addr:=N.pc) (size:=4) (kind:=1) (x:=0) (c:=c);rw [Z] at wa;unfold Uj at P;generalize aE N N.pc 4 1 0=X at *;obtain ⟨y,E,c⟩:=X;dsimp only at *;rw [pa];refine aW (Tq.eng (dr:=true)) {eq:=[(43,ak q)],cv:=[(41,Pd r)]} 60 H P ?_;rintro W3 e W4 J ⟨rfl,C,B⟩;refine ⟨_,0,rfl,gE ba,?_⟩;refine an (R:=[]) trivial {} 1 ?_;refine af [.code (aw 5 (aM Tryz.f41))] [(0,.p p 0,1)] ?_;have skip:∀ (S:World->Prop) (f:TV) (k:Nat),Tq n p W E C f W4->f.up=true->f.cz=k->k<16->Wg prog S (bodyPost prog Tryz.f41 (SR n p W (aL E k false f.vl,2))) Tryz.f41.ntmps [.code (aw 5 (aM Tryz.f41))] [(0,.p p 0,1)] W4:=(by intro S f k d l m u;refine aJ (Tq n p W E C f) ?_;refine ae (Tq.eng (dr:=false)) {eq:=[(54,ak l)]} 11 d λW5 h5=>?_;exact af _ _ (up _ E C f k W5 h5 ga l m u));cases O:(c != 0) with
   | true =>rw [O,if_pos rfl] at B;rw [if_pos rfl];unfold nR at B;dsimp only at B;rw [O,if_pos rfl,(ec c rfl O).1] at B;exact skip _ _ (c-16).toNat B rfl rfl (ec c rfl O).2
   | false =>
     rw [O,if_neg bc] at B;rw [if_neg bc];cases he:Ca y with
     | none =>simp only [he] at B ⊢;exact skip _ _ 2 B rfl rfl bc
     | some i =>simp only [he] at B ⊢;have Q:=AB he;refine aJ (Tq n p W E C (t0 E i y)) ?_;refine aW (Tq.eng (dr:=true)) {} 60 B (λw0 d=>KG i y Q d ga da wa) ?_;rintro W5 e W6 h5 ⟨rfl,N3,D,t3,o,h6⟩;refine ⟨_,0,rfl,gE ba,?_⟩;refine an (R:=[]) trivial {} 1 ?_;exact af _ _ (tail _ _ i _ N3 D t3 W6 Q rfl o h6)
 obtain ⟨b,K,hne,_⟩:=h.atC I;have cc:∀ (j:Nat),j<22->∀ w0,Tq n p W w A tS w0->w0.cell? ⟨b,j,none⟩=some (.u (w.cs.getD j 0)):=λj hj w0 d=>by obtain ⟨b',L,_,g⟩:=d.atC I;rw [K] at L;cases L;exact (g j hj).1
 refine bD (S:=Tq n p W w A tS) (args:=[.p p 0]) [] func41 ?_;refine aN 0 1 ?_;cases G:w.wt with
 | true =>
   cases hz:(ku w.cs==0) with
   | true =>have eV:ee w=(w,4):=(by unfold ee;rw [G,hz,if_pos bc]);rw [eV];exact bm (t:=2) (v:=.i 4) (Tq.eng (dr:=true)) {eq:=[(8,ak G),(25,ak hz)],ov:=[(15,kJ w.cs.length A.cc .i64 9 K ⟨ab,ab⟩ underlying23 ba),(16,je ⟨b,0+(9:Int).toNat,none⟩ (.u (w.cs.getD 9 0)) underlying22 rfl (cc 9 ab)),(22,kJ w.cs.length A.cc .i64 3 K ⟨ab,ab⟩ underlying23 ba),(23,je ⟨b,0+(3:Int).toNat,none⟩ (.u (w.cs.getD 3 0)) underlying22 rfl (cc 3 ab))]} 60 h λw0 d=>⟨rfl,A,tS,d⟩
   | false =>refine ae (Tq.eng (dr:=true)) {eq:=[(8,ak G),(25,ak hz)],ov:=[(15,kJ w.cs.length A.cc .i64 9 K ⟨ab,ab⟩ underlying23 ba),(16,je ⟨b,0+(9:Int).toNat,none⟩ (.u (w.cs.getD 9 0)) underlying22 rfl (cc 9 ab)),(22,kJ w.cs.length A.cc .i64 3 K ⟨ab,ab⟩ underlying23 ba),(23,je ⟨b,0+(3:Int).toNat,none⟩ (.u (w.cs.getD 3 0)) underlying22 rfl (cc 3 ab))]} 29 h λw0 d=>?_;exact af _ _ (fin _ w0 d (by rw [G,hz];rfl))
 | false =>refine ae (Tq.eng (dr:=true)) {eq:=[(8,ak G)]} 29 h λw0 d=>?_;exact af _ _ (fin _ w0 d (by rw [G];rfl))
structure Pr (w:World) (cs:Array Value) (g:Nat) (M:MV) (C:MA) (W:World):Prop where
 b:Bs w [(cs,32),(aj aq zeroA,32)] W
 row:W.heap[g]?=some (.cells (bL aq zeroA ⟨.nilFunc,0,0,0,0,0,0,.nilIface,0,0,false,false,0,0⟩) 71 (0,0))
 fam:bz (w.heap.size+2) W.heap.size W (aH M C)
 ne:∀ q ∈ aH M C,q.v.ownBlock≠some g
 lo:w.heap.size+2<=g
theorem uQ:(bL k Q tS).all (·.oneCell')=true:=by unfold bL;kernel_rfl
theorem Bs.two (h:Bs R [(A,32),(aj aq zeroA,32)] W):R.heap.size+2<=W.heap.size:=by have:=(Array.getElem?_eq_some_iff.1 (h.1 1 _ rfl)).1;omega
theorem nS {P:Program} {fn:Func} {Rs:Ending->World->Prop} {bs:List (Array Value × TypeId)} (h:Bs R bs W):n6 P (Bs R bs) (λx=>x=W) (lF R.heap.size bs) false (bodyPost P fn Rs):=
 ⟨λ_ e=>e ▸ h,(Bs.eng (P:=P) (fn:=fn) (Rs:=Rs)).rows,(λh=>l7),cJ⟩
theorem OB:(do pure (.value (<- Instr.build 71 #[(0,.agg (aj (uw k k.ram) Q)),(1,.func (.func 40) #[] #[])])):Sem Next).run prog T=.ok (.value (.agg (bL k Q tS))) T:=by kernel_rfl
theorem uR {c':Nat} (o:R.ownsRow p 5 1 (.slice C n c') n (M.map (Value.int .u8))) (b:p<=R.heap.size):bz p R.heap.size R [aF C n c' M]:=(bz.nil p p R).cons (aF C n c' M) p R.heap.size o (Nat.le_refl _) (Nat.le_refl _) (Nat.le_refl _) b
theorem Ba (w:World) (hl:kV k) (hs:pn w k Q) (hf:T9 k) (hT:pS w):Calls prog 11 #[.agg (aj k Q)] w (mQ w (Og k)):=by
 have U:=λW (hb:Bw w W)=>hZ k Q W hl (hs.below hb) hf.mw.cs;unfold Og;refine bD (S:=Bs w [(aj k Q,32),(aj aq zeroA,32)]) (args:=[.agg (aj k Q)]) [(aj k Q,32),(aj aq zeroA,32)] func11 ?_;cases ok:dU k with
 | false =>rw [ok] at U;rw [if_neg bc];refine ae Bs.eng {cv:=[(7,fY U)]} 40 (Bs.start _ _) λW1 u=>?_;refine bM (aD (g:=w.heap.size+1) (old:=aj aq zeroA) (cells:=aj aq zeroA) (t:=32) (ty:=32) (u.1 1 _ rfl) ba rfl (dp _ _)) ?_;refine gz (R:=[]) trivial {} 40 λa H=>⟨.tuple #[.agg (aj aq zeroA),.i 0],vA H rfl ba ba (setRow_heap _ _ _ _ _ _ (u.1 1 _ rfl)) underlying32 rfl ba,zeroA,rfl,j7 _ _ _,aS u.2 ab _⟩
 | true =>
   rw [ok] at U;rw [if_pos rfl];have hg:=hf.gd ok;have O:=λ(B g:Nat) (w0 W:World) (C:MA) (h:Tq B g w0 k C tS W)=>Ul h hg hf.ud;generalize ee k=V at O ⊢;have hGw:=hT.lt;have fin:∀ (S:World->Prop) (g:Nat) (C:MA) (W:World),Pr w (aj k Q) g k C W->Wg prog S (bodyPost prog Tryz.f11 (mQ w V)) Tryz.f11.ntmps [.code (aw 3 (aM Tryz.f11))] [(2,.p (w.heap.size+1) 0,0),(4,.p g 0,1)] (W.setRow g (bL k C tS)):=by
    intro S g C W v;have hlo:=v.lo;have y:Bw w (W.setRow g (bL k C tS)):=aS v.b.2 ab _;have r1:(W.setRow g (bL k C tS)).heap[w.heap.size+1]?=some (.cells (aj aq zeroA) 32 (0,0)):=(setRow_other _ _ _ _ ab).trans (v.b.1 1 _ rfl);have q0:Tq (w.heap.size+2) g (W.setRow g (bL k C tS)) k C tS (W.setRow g (bL k C tS)):=by
     refine ⟨⟨_,setRow_heap _ _ _ _ _ _ v.row⟩,?_,v.ne,?_,rfl,rfl,rfl,Nat.le_refl _,λ_ _ _=>rfl,hT.below y,ab,ab⟩;·rw [setRow_size];exact v.fam.other λq I M e=>setRow_other _ _ _ _ (λe2=>v.ne q I (by rw [e,e2]))
     ·rw [setRow_size];exact v.b.two
    generalize W.setRow g (bL k C tS)=W1 at y r1 q0 ⊢;refine aO (R:=[]) trivial {} 40 (O _ _ _ _ C q0) ?_;rintro e c ⟨rfl,D,tx,J⟩;refine ⟨_,0,rfl,?_⟩;have s:∀ M,M<w.heap.size+2->c.heap[M]?=W1.heap[M]?:=λM H=>J.block M H ab;have b2:Bw w c:=⟨J.os.trans y.os,J.tape.trans y.tape,J.output.trans y.output,Nat.le_trans y.size J.size,λM H=>(s M ab).trans (y.block M H)⟩;have r2:c.heap[w.heap.size+1]?=some (.cells (aj aq zeroA) 32 (0,0)):=(s _ ab).trans r1;refine aN 4 1 ?_;refine ct (R:=[⟨g,bL V.1 D tx,[]⟩]) ⟨J.row.in_,trivial⟩ {} 40 (aD (g:=w.heap.size+1) (t:=32) (ty:=32) (old:=aj aq zeroA) (cells:=aj V.1 D) r2 ba rfl (dp _ _)) ?_;refine gz (R:=[]) trivial {} 40 λa H=>⟨.tuple #[.agg (aj V.1 D),.i V.2],vA H rfl ba ba (setRow_heap _ _ _ _ _ _ r2) underlying32 rfl ba,D,rfl,?_,aS b2 ab _⟩;refine bz.low (B:=w.heap.size+2) ?_ ab (Nat.le_refl _);rw [setRow_size];exact J.fam.mono λM u p f=>setRow_other _ _ _ _ ab
   refine ae Bs.eng {cv:=[(7,fY U)]} 9 (Bs.start _ _) λZ h0=>?_;refine af [.code (aw 2 (aM Tryz.f11))] [(1,.p w.heap.size 0,1),(2,.p (w.heap.size+1) 0,2)] ?_;refine an (R:=[]) trivial {} 1 ?_;refine iy 1 ?_;have N:=λW (h:Bs w [(aj k Q,32),(aj aq zeroA,32)] W)=>mT Q.ar k.ram.length Q.cr k.ram W rfl hl.ram (hs.below h.2).ram;have G:=λ(x:Option Addr) (E B:Nat) W (h:Bs w [(aj k Q,32),(aj aq zeroA,32)] W) (hR:bz B W.heap.size W [aF x k.ram.length E k.ram]) (hB:B<=W.heap.size)=>pI k Q k.ram x k.ram.length E B W hl (hs.below h.2) hR hB rfl;have d:=h0.below (Below.refl Z.heap.size Z).drew;have s0:=d.two;have L:∀ W:World,Bw W (W.alloc (.cells (bL aq zeroA ⟨.nilFunc,0,0,0,0,0,0,.nilIface,0,0,false,false,0,0⟩) 71)):=λW=>bal _ _;have b:∀ W:World,(W.alloc (.cells (bL aq zeroA ⟨.nilFunc,0,0,0,0,0,0,.nilIface,0,0,false,false,0,0⟩) 71)).heap.size=W.heap.size+1:=λW=>World.size_alloc _ _;have m:=λ(W:World)=>dQ (P:=prog) (T:=71) (z:=.agg (bL aq zeroA ⟨.nilFunc,0,0,0,0,0,0,.nilIface,0,0,false,false,0,0⟩)) ba W;have zc:(Value.agg (bL aq zeroA ⟨.nilFunc,0,0,0,0,0,0,.nilIface,0,0,false,false,0,0⟩)).cells=(bL aq zeroA ⟨.nilFunc,0,0,0,0,0,0,.nilIface,0,0,false,false,0,0⟩):=rfl;rw [zc] at m;generalize Z.drew=W1 at d s0 ⊢;refine ae (nS d) {} 3 rfl ?_;rintro _ rfl;rename_i W1;refine oI (i:=3) (j:=6) ?_ ?_
   ·refine nE (N _ d) ?_;rintro e c ⟨x,E,rfl,Y,s⟩;have p:=d.below s;have K:=s.size;have X:=uR Y K;refine ⟨_,0,rfl,p,?_⟩;refine oI (i:=4) (j:=6) ?_ ?_
    ·refine nE (G x E _ c p X K) ?_;rintro e l ⟨C,_,_,rfl,F,n3,A⟩;have f:=p.below A;have z3:=A.size;have r:=f.below (L l);have o:Pr w (aj k Q) l.heap.size k C (l.alloc (.cells (bL aq zeroA ⟨.nilFunc,0,0,0,0,0,0,.nilIface,0,0,false,false,0,0⟩) 71)):=⟨r,heap_alloc_new _ _,(F.below (L l)).low s0 (by rw [b];omega),λq I e=>by have:=F.hi q I _ e;omega,ab⟩;refine ⟨_,0,rfl,f,?_⟩;refine oI (i:=5) (j:=6) ?_ ?_;·refine qL 0 (OB k C l) f ?_;refine dM 0 (m l) (hS:=λ_=>r) ?_;refine ae (nS r) {} 1 rfl ?_;rintro _ rfl;refine bM (aD (g:=l.heap.size) (t:=71) (ty:=71) (old:=(bL aq zeroA ⟨.nilFunc,0,0,0,0,0,0,.nilIface,0,0,false,false,0,0⟩)) (cells:=bL k C tS) o.row ba rfl (uQ _ _)) ?_;refine an (R:=[]) trivial {} 1 ?_;exact af _ _ (fin _ _ C _ o)
     ·refine qL 0 (m l) r ?_;refine ae (nS r) {} 2 rfl ?_;rintro _ rfl;refine bM (aD (g:=l.heap.size) (t:=71) (ty:=71) (old:=(bL aq zeroA ⟨.nilFunc,0,0,0,0,0,0,.nilIface,0,0,false,false,0,0⟩)) (cells:=bL k C tS) o.row ba rfl (uQ _ _)) ?_;refine an (R:=[]) trivial {} 1 ?_;exact af _ _ (fin _ _ C _ o)
    ·have f:=p.below (L c);refine qL 0 (m c) f ?_;have F:=(X.below (L c)).low (Nat.le_refl _) (show c.heap.size<=(c.alloc (.cells (bL aq zeroA ⟨.nilFunc,0,0,0,0,0,0,.nilIface,0,0,false,false,0,0⟩) 71)).heap.size by rw [b];omega);refine jy (G x E _ _ f F (by rw [b];omega)) ?_;rintro e W4 ⟨C,_,_,rfl,f4,n4,k4⟩;have r:=f.below k4;have o:Pr w (aj k Q) c.heap.size k C W4:=by
      refine ⟨r,br k4 (heap_alloc_new _ _),f4.low s0 (Nat.le_refl _),λq I e=>?_,ab⟩;rcases n4 q I _ e with n | n;·rw [b] at n;omega
      ·have:=(Y.lt _ n).2;omega
     refine ⟨_,0,rfl,λ_=>r,?_⟩;refine ae (nS r) {} 2 rfl ?_;rintro _ rfl;refine bM (aD (g:=c.heap.size) (t:=71) (ty:=71) (old:=(bL aq zeroA ⟨.nilFunc,0,0,0,0,0,0,.nilIface,0,0,false,false,0,0⟩)) (cells:=bL k C tS) o.row ba rfl (uQ _ _)) ?_;refine an (R:=[]) trivial {} 1 ?_;exact af _ _ (fin _ _ C _ o)
   ·have u:=d.below (L W1);refine qL 0 (m W1) u ?_;refine jy (N _ u) ?_;rintro e c ⟨x,E,rfl,Y,s⟩;have p:=u.below s;have K:=s.size;have X:=uR Y K;refine ⟨_,0,rfl,λ_=>p,?_⟩;refine jy (G x E _ c p X K) ?_;rintro e l ⟨C,_,_,rfl,F,n3,A⟩;have f:=p.below A;rw [b] at K;have o:Pr w (aj k Q) W1.heap.size k C l:=(by refine ⟨f,br A (br s (heap_alloc_new _ _)),F.low (by rw [b];omega) (Nat.le_refl _),λq I e=>?_,ab⟩;have:=((F.own q I).lt _ e).1;rw [b] at this;omega);refine ⟨_,0,rfl,λ_=>f,?_⟩;refine ae (nS f) {} 2 rfl ?_;rintro _ rfl;refine bM (aD (g:=W1.heap.size) (t:=71) (ty:=71) (old:=(bL aq zeroA ⟨.nilFunc,0,0,0,0,0,0,.nilIface,0,0,false,false,0,0⟩)) (cells:=bL k C tS) o.row ba rfl (uQ _ _)) ?_;refine an (R:=[]) trivial {} 1 ?_;exact af _ _ (fin _ _ C _ o)
structure Pm (w:World) (g:Nat) (cs:Array Value) (M:MV) (C:MA) (W:World):Prop where
 out:W.heap[w.heap.size+1]?=some (.cells (aj aq zeroA) 32 (0,0))
 row:W.heap[g]?=some (.cells cs 32 (0,0))
 fam:bz (w.heap.size+2) W.heap.size W (aH M C)
 ne:∀ q ∈ aH M C,q.v.ownBlock≠some g
 lo:w.heap.size+2<=g
 bl:Bw w W
structure Pl (w:World) (g:Nat) (M:MV) (C:MA) (xs:List Int) (a:Option Addr) (c:Nat) (W:World):Prop where
 pm:Pm w g (aj M C) M C W
 own:W.ownsRow (w.heap.size+2) 2 1 (.slice a xs.length c) xs.length (xs.map (Value.int .i64))
theorem Pm.put (h:Pm R n A w x W) (d:Array Value):Pm R n d w x (W.setRow n d):=by have:=h.lo;refine ⟨(setRow_other _ _ _ _ ab).trans h.out,setRow_heap _ _ _ _ _ _ h.row,?_,h.ne,h.lo,aS h.bl ab _⟩;rw [setRow_size];exact h.fam.other λq a k e=>setRow_other _ _ _ _ (λe2=>h.ne q a (by rw [e,e2]))
theorem Pl.far (h:Pl R n w x M C p W) {k:Nat} (e:(Value.slice C M.length p).ownBlock=some k):k≠n:=by
 rintro rfl;rcases h.own.2 with ⟨d,_⟩|⟨b,cap,f,d,_,e3,_⟩;·rw [d] at e;cases e
 ·rw [d] at e;cases e;rw [h.pm.row] at e3;injection e3 with e3
  injection e3 with _ e4
  exact absurd e4 bc
theorem Pl.step {W1:World} {D:MA} (h:Pl R n w x M C p W) (f:bz W.heap.size W1.heap.size W1 (aH l D)) (k:Bw W W1):Pl R n l D M C p (((W1.alloc (.cells (aj aq zeroA) 32)).setRow W1.heap.size (aj l D)).setRow n (aj l D)):=by have d:Bw W1 ((W1.alloc (.cells (aj aq zeroA) 32)).setRow W1.heap.size (aj l D)):=aS (bal _ _) (Nat.le_refl _) _;have b:=aa k d;have xs:=(Array.getElem?_eq_some_iff.1 h.pm.row).1;have N:Pm R n (aj w x) l D ((W1.alloc (.cells (aj aq zeroA) 32)).setRow W1.heap.size (aj l D)):=⟨br b h.pm.out,br b h.pm.row,(f.below d).low (by have:=h.pm.lo;omega) d.size,λq i e=>by have:=((f.own q i).lt _ e).1;omega,h.pm.lo,aa h.pm.bl b⟩;exact ⟨N.put _,eu h.own λj e=>(setRow_other _ _ _ _ (h.far e)).trans (b.block j (h.own.lt j e).2)⟩
theorem Pl.push (h:Pl R n w x M C p W) (hn:M.length<=1000000) (a:Int):∃ (f:Option Addr) (l:Nat) (d:World),(DE 39 (.slice C M.length p) (.slice (some ⟨W.heap.size,0,none⟩) 1 1)).run prog (W.alloc (.cells #[.i a] 2))=.ok (.value (.slice f (M++[a]).length l)) d/\Pl R n w x (M++[a]) f l d:=by
 have t:=(Array.getElem?_eq_some_iff.1 h.pm.row).1;have u:=h.pm.lo;obtain ⟨f,l,d,s,o,c,xs,e2,e3,i⟩:=DF h.own ab hn a;refine ⟨f,l,d,s,⟨(i _ ab λj b e=>?_).trans h.pm.out,(i _ t λj b e=>h.far b e).trans h.pm.row,?_,h.pm.ne,u,⟨xs.trans h.pm.bl.os,e2.trans h.pm.bl.tape,e3.trans h.pm.bl.output,Nat.le_trans h.pm.bl.size c,λk r=>(i k (by have:=h.pm.bl.size;omega) λj b e=>?_).trans (h.pm.bl.block k r)⟩⟩,o⟩;·have:=(h.own.lt j b).1;omega
 ·refine (h.pm.fam.other λq m k e=>i k ((h.pm.fam.own q m).lt k e).2 λj b e2=>?_).low (Nat.le_refl _) c;exact qp h.own h.pm.fam b q m (by rw [e2];exact e)
 ·have:=(h.own.lt j b).1;omega
structure Lp (w:World) (g:Nat) (M:MV) (n j:Nat) (x:MV × MA × List Int × Option Addr × Nat × Nat) (W:World):Prop where
 ej:x.2.2.2.2.2+j=n
 pl:Pl w g x.1 x.2.1 x.2.2.1 x.2.2.2.1 x.2.2.2.2.1 W
 gw:Gw x.1
 ln:x.2.2.1.length=x.2.2.2.2.2
 st:dF n M=((dF j x.1).1,x.2.2.1++(dF j x.1).2)
theorem yo (w:World) (hl:kV k) (hs:pn w k Q) (hf:T9 k) (hT:pS w):Calls prog 16 #[.agg (aj k Q),.i d] w (Vm w (sW k d)):=by
 have Z:=λW (hb:Bw w W)=>hZ k Q W hl (hs.below hb) hf.mw.cs;unfold sW;refine bD (S:=Bs w [(aj k Q,32),(aj aq zeroA,32)]) (args:=[.agg (aj k Q),.i d]) [(aj k Q,32),(aj aq zeroA,32)] func16 ?_;cases ok:dU k with
 | false =>rw [ok] at Z;rw [if_neg cp];refine ae Bs.eng {cv:=[(11,fY Z)]} 40 (Bs.start _ _) λW1 u=>?_;exact a0r
 | true =>
   rw [ok] at Z;cases d1:decide (d<0) with
   | true =>have:=of_decide_eq_true d1;rw [if_neg bv];refine ae Bs.eng {cv:=[(11,fY Z)],eq:=[(15,ak d1)]} 40 (Bs.start _ _) λW1 u=>?_;exact a0r
   | false =>
     have n0:=of_decide_eq_false d1;cases d2:decide (300<d) with
     | true =>have:=of_decide_eq_true d2;rw [if_neg bv];refine ae Bs.eng {cv:=[(11,fY Z)],eq:=[(15,ak d1),(19,ak d2)]} 40 (Bs.start _ _) λW1 u=>?_;exact a0r
     | false =>
       have n1:=of_decide_eq_false d2;rw [if_pos bv];have hg:Gw k:=⟨hf.gd ok,hf.ud⟩;obtain ⟨m,rfl⟩:=Int.eq_ofNat_of_zero_le (show 0<=d by omega);rw [Int.toNat_natCast];have fin:∀ (S:World->Prop) (g:Nat) (C:MA) (W:World),Pm w g (aj aq zeroA) k C W->Wg prog S (bodyPost prog Tryz.f16 (Vm w (dF m k))) Tryz.f16.ntmps [.code (aw 3 (aM Tryz.f16))] [(1,.i (m:Nat),0),(4,.p (w.heap.size+1) 0,0),(6,.p g 0,1)] (W.setRow g (aj k C)):=by
        intro S g C W hp;have h0:Lp w g k m m (k,C,[],none,0,0) (W.setRow g (aj k C)):=⟨cp,⟨hp.put _,⟨rfl,.inl ⟨rfl,rfl⟩⟩⟩,hg,rfl,cp⟩;generalize W.setRow g (aj k C)=W0 at h0 ⊢;refine an (R:=[]) trivial {} 20 ?_;refine mh (λx:MV × MA × List Int × Option Addr × Nat × Nat=>[(4,.p (w.heap.size+1) 0,0),(6,.p g 0,1),(7,.slice x.2.2.2.1 x.2.2.1.length x.2.2.2.2.1,0),(27,.i (m:Nat),0),(28,.i (x.2.2.2.2.2:Nat),0)]) (Lp w g k m) m (k,C,[],none,0,0) ba ba h0 ?_;clear h0 hp;rintro j ⟨f,A,xs,a,c,i⟩ W ⟨ej,pl,H,ln,N⟩ R hR;dsimp only at ej pl H ln N ⊢;have O:∀ (o:MV) (l:MA) (ys:List Int) (b:Option Addr) (n:Nat) (V:World),dF m k=(o,ys)->Pl w g o l ys b n V->Vm w (dF m k) (.returned (.tuple #[.agg (aj o l),.slice b ys.length n])) (V.setRow (w.heap.size+1) (aj o l)):=(by intro o l ys b n V e p;rw [e];have lo:=p.pm.lo;refine ⟨l,b,n,rfl,?_,eu (cF p.own ab) λM e=>setRow_other _ _ _ _ (by have:=(p.own.lt M e).1;omega),aS p.pm.bl ab _⟩;rw [setRow_size];exact (p.pm.fam.mono λM u I v=>setRow_other _ _ _ _ ab).low ab (Nat.le_refl _));cases j with
        | zero =>have q:decide ((i:Int)<(m:Int))=false:=ck;have e:dF m k=(f,xs):=(by rw [N];simp [dF]);exact jA (R:=[⟨g,aj f A,[]⟩]) ⟨⟨_,_,pl.pm.row⟩,trivial⟩ {eq:=[(29,ak q)]} 60 pl.pm.out (by rfl) (dp _ _) underlying32 (O f A xs a c W e pl)
        | succ j =>
          have q:decide ((i:Int)<(m:Int))=true:=ef;have sr:=Ba f A W H.1.len pl.pm.fam.msl ⟨H.1.mw,H.1.ux,H.1.pc,H.1.hd,H.2⟩ (hT.below pl.pm.bl);have g1:=H.step;have e1:dF (j+1) f=if ((ee f).2==4)=true then ((ee f).1,[(ee f).2]) else ((dF j (ee f).1).1,(ee f).2::(dF j (ee f).1).2):=rfl
          rw [e1] at N;clear e1;unfold Og at sr;rw [if_pos H.1.ok] at sr;generalize ee f=V at sr g1 N;obtain ⟨o,M⟩:=V;dsimp only at sr g1 N;refine aO (R:=[⟨g,aj f A,[]⟩]) ⟨⟨_,_,pl.pm.row⟩,trivial⟩ {eq:=[(29,ak q)]} 60 sr ?_;rintro e W1 ⟨l,rfl,f2,K⟩;refine ⟨_,0,rfl,?_⟩;have l2:=pl.step f2 K;have zc:(Value.agg (aj aq zeroA)).cells=aj aq zeroA:=rfl;refine kz (R:=[]) trivial {} 20 2 (dQ (T:=32) (z:=.agg (aj aq zeroA)) ba W1) ?_;rw [zc];refine ct (R:=[]) trivial {} 20 (aD (g:=W1.heap.size) (t:=32) (ty:=32) (old:=aj aq zeroA) (cells:=aj o l) (heap_alloc_new _ _) ba rfl (dp _ _)) ?_;have rg:((W1.alloc (.cells (aj aq zeroA) 32)).setRow W1.heap.size (aj o l)).heap[g]?=some (.cells (aj f A) 32 (0,0)):=br (aa K (aS (bal _ _) (Nat.le_refl _) _)) pl.pm.row;refine ct (R:=[⟨g,aj f A,[]⟩,⟨W1.heap.size,aj o l,[]⟩]) ⟨⟨_,_,rg⟩,⟨_,_,setRow_heap _ _ _ _ _ _ (heap_alloc_new _ _)⟩,trivial⟩ {} 40 (aD (g:=g) (t:=32) (ty:=32) (old:=aj f A) (cells:=aj o l) rg ba rfl (dp _ _)) ?_;generalize ((W1.alloc (.cells (aj aq zeroA) 32)).setRow W1.heap.size (aj o l)).setRow g (aj o l)=y at l2 ⊢;refine kz (R:=[]) trivial {} 20 0 (Ip y M) ?_;obtain ⟨E,F,D,hr,l3⟩:=l2.push ab M;refine dM 0 hr ?_;have hlen:(xs++[M]).length=xs.length+1:=cp;cases hk:(M==4) with
          | true =>rw [hk,if_pos rfl] at N;exact jA (R:=[⟨g,aj o l,[]⟩]) ⟨⟨_,_,l3.pm.row⟩,trivial⟩ {eq:=[(41,ak hk)]} 60 l3.pm.out (by rfl) (dp _ _) underlying32 (O o l (xs++[M]) E F D N l3)
          | false =>rw [hk,if_neg bc] at N;have hw:IntKind.i64.wrap (((i:Nat):Int)+1)=((i+1:Nat):Int):=kp;exact ou (R:=[]) trivial {eq:=[(41,ak hk),(42,dP .i64 hw)]} 60 λb hb=>hR b D j (o,l,xs++[M],E,F,i+1) ab (hb.less ba) ⟨di,l3,g1,by dsimp only;rw [hlen];omega,by rw [N];simp⟩
       refine ae Bs.eng {cv:=[(11,fY Z)],eq:=[(15,ak d1),(19,ak d2)]} 17 (Bs.start _ _) λW0 h0=>?_;refine af [.code (aw 2 (aM Tryz.f16))] [(1,.i (m:Nat),0),(2,.p w.heap.size 0,1),(4,.p (w.heap.size+1) 0,2)] ?_;refine an (R:=[]) trivial {} 1 ?_;refine iy 1 ?_;have hcl:=λW (h:Bs w [(aj k Q,32),(aj aq zeroA,32)] W)=>mT Q.ar k.ram.length Q.cr k.ram W rfl hl.ram (hs.below h.2).ram;have X:=λ(E:Option Addr) (F B:Nat) W (h:Bs w [(aj k Q,32),(aj aq zeroA,32)] W) (hR:bz B W.heap.size W [aF E k.ram.length F k.ram]) (hB:B<=W.heap.size)=>pI k Q k.ram E k.ram.length F B W hl (hs.below h.2) hR hB rfl;have s:=h0.below (Below.refl W0.heap.size W0).drew;have s0:=s.two;have al:∀ W:World,Bw W (W.alloc (.cells (aj aq zeroA) 32)):=λW=>bal _ _;have r:∀ W:World,(W.alloc (.cells (aj aq zeroA) 32)).heap.size=W.heap.size+1:=λW=>World.size_alloc _ _;have L:∀ W:World,_:=λ(W:World)=>dQ (P:=prog) (T:=32) (z:=.agg (aj aq zeroA)) ba W;have zc:(Value.agg (aj aq zeroA)).cells=aj aq zeroA:=rfl;rw [zc] at L;have Y:∀ (g:Nat) (C:MA) (W:World),Pm w g (aj aq zeroA) k C W->_:=λg C W G=>aD (P:=prog) (g:=g) (t:=32) (ty:=32) (old:=aj aq zeroA) (cells:=aj k C) G.row ba rfl (dp _ _);generalize W0.drew=W1 at s s0 ⊢;refine ae (nS s) {} 3 rfl ?_;rintro _ rfl;rename_i W1;refine oI (i:=3) (j:=5) ?_ ?_
       ·refine nE (hcl _ s) ?_;rintro e y ⟨E,F,rfl,o2,K⟩;have I:=s.below K;have z2:=K.size;have f2:=uR o2 z2;refine ⟨_,0,rfl,I,?_⟩;refine oI (i:=4) (j:=5) ?_ ?_;·refine nE (X E F _ y I f2 z2) ?_;rintro e D ⟨C,_,_,rfl,U,n3,k3⟩;have v:=I.below k3;have z3:=k3.size;have J:=v.below (al D);have G:Pm w D.heap.size (aj aq zeroA) k C (D.alloc (.cells (aj aq zeroA) 32)):=⟨J.1 1 _ rfl,heap_alloc_new _ _,(U.below (al D)).low s0 (by rw [r];omega),λq hq e=>by have:=U.hi q hq _ e;omega,ab,J.2⟩;refine ⟨_,0,rfl,v,?_⟩;refine dM 0 (L D) (hS:=λ_=>J) ?_;refine ae (nS J) {} 1 rfl ?_;rintro _ rfl;refine bM (Y _ C _ G) ?_;refine an (R:=[]) trivial {} 1 ?_;exact af _ _ (fin _ _ C _ G)
        ·have v:=I.below (al y);refine qL 0 (L y) v ?_;have U:=(f2.below (al y)).low (Nat.le_refl _) (show y.heap.size<=(y.alloc (.cells (aj aq zeroA) 32)).heap.size by rw [r];omega);refine jy (X E F _ _ v U (by rw [r];omega)) ?_;rintro e W4 ⟨C,_,_,rfl,f4,n4,k4⟩;have J:=v.below k4;have G:Pm w y.heap.size (aj aq zeroA) k C W4:=by
          refine ⟨J.1 1 _ rfl,br k4 (heap_alloc_new _ _),f4.low s0 (Nat.le_refl _),λq hq e=>?_,ab,J.2⟩;rcases n4 q hq _ e with d | d;·rw [r] at d;omega
          ·have:=(o2.lt _ d).2;omega
         refine ⟨_,0,rfl,λ_=>J,?_⟩;refine ae (nS J) {} 1 rfl ?_;rintro _ rfl;refine bM (Y _ C _ G) ?_;refine an (R:=[]) trivial {} 1 ?_;exact af _ _ (fin _ _ C _ G)
       ·have u:=s.below (al W1);refine qL 0 (L W1) u ?_;refine jy (hcl _ u) ?_;rintro e y ⟨E,F,rfl,o2,K⟩;have I:=u.below K;have z2:=K.size;have f2:=uR o2 z2;refine ⟨_,0,rfl,λ_=>I,?_⟩;refine jy (X E F _ y I f2 z2) ?_;rintro e D ⟨C,_,_,rfl,U,n3,k3⟩;have v:=I.below k3;rw [r] at z2;have G:Pm w W1.heap.size (aj aq zeroA) k C D:=(by refine ⟨v.1 1 _ rfl,br k3 (br K (heap_alloc_new _ _)),U.low (by rw [r];omega) (Nat.le_refl _),λq hq e=>?_,ab,v.2⟩;have:=((U.own q hq).lt _ e).1;rw [r] at this;omega);refine ⟨_,0,rfl,λ_=>v,?_⟩;refine ae (nS v) {} 1 rfl ?_;rintro _ rfl;refine bM (Y _ C _ G) ?_;refine an (R:=[]) trivial {} 1 ?_;exact af _ _ (fin _ _ C _ G)
def KH (l:List Int):Prop:=db l 0=153/\l.getD 17 0=536871551
def Kw (R S:List Int):Prop:=S.length=R.length/\∀ j,2048<=j->j<3072->S.getD j 0=R.getD j 0
theorem Kw.refl:Kw c c:=⟨rfl,λ_ _ _=>rfl⟩
theorem Kw.trans {T:List Int} (h:Kw M a) (k:Kw a T):Kw M T:=⟨k.1.trans h.1,λj S b=>(k.2 j S b).trans (h.2 j S b)⟩
theorem OC (h:KH M):cG M 0=(2147485696,2147486719,true):=by
 have e:M.getD (17+0) 0=536871551:=h.2;have f:jE M 0=0:=by simp [jE]
 unfold cG iN;rw [h.1,e,f];decide +kernel
theorem Ro (h:KH M) {y:Int} (p:ay M b g y 3 4 0=true):y<2147485696\/2147486719<g:=by
 rw [ay] at p;split at p;·rename_i c;unfold pT at c;rw [OC h] at c;simpa using c
 ·rw [Bool.and_eq_true] at p;have a:=p.2;unfold vL at a;rw [h.1] at a;have e:((153:Int)/128==0)=false:=bc;rw [e,Bool.and_false,if_neg bc,if_neg bc,if_neg bc] at a;exact absurd a cb
theorem Rp (a:gi M.length b g=true):aU b g=b+g-1:=by obtain ⟨_,_,pa,c,d,e,f,sz⟩:=iR a;unfold aU;rw [IntKind.wrap_u64,IntKind.wrap_u64,IntKind.wrap_u64];omega
theorem OD (h:KH M) {sz:Int} (R:gi a.length g sz=true) (c:ay M b g (aU g sz) 3 4 0=true) (x:Int):Kw a (jT a (g-2147483648).toNat x sz.toNat):=by have p:=Ro h c;rw [Rp R] at p;obtain ⟨_,_,d,e,f,pa,i,k⟩:=iR R;refine ⟨jc _ _ _ _,λj m n=>GL _ _ _ _ _ ?_⟩;omega
theorem OE:∀ b T,(bC c t B d j o b T).marked=true->ay B 1 (bC c t B d j o b T).at_ (aU (bC c t B d j o b T).at_ 8) 3 4 0=true:=by
 have a:∀ e x k,(cH B d j o e x k).marked=true->ay B 1 (cH B d j o e x k).at_ (aU (cH B d j o e x k).at_ 8) 3 4 0=true:=by
  intro e x k;unfold cH;split;·intro h;cases h
  ·split;·intro h;cases h
   ·split;·intro h;cases h
    ·split
     ·split;·intro _;assumption
      ·intro h;cases h
     ·intro h;cases h
 intro b;induction b with
 | zero =>
   intro T;rw [bC];split
   ·split
    ·split;·intro h;cases h
     ·split;·intro h;cases h
      ·exact a _ _ _
    ·intro h;cases h
   ·intro h;cases h
 | succ b zs =>
   intro T;rw [bC];split
   ·split
    ·split;·intro h;cases h
     ·split
      ·split;·intro h;cases h
       ·exact zs _
      ·exact a _ _ _
    ·intro h;cases h
   ·intro h;cases h
theorem OF (h:(bN c t B d j o).marked=true):ay B 1 (bN c t B d j o).at_ (aU (bN c t B d j o).at_ 8) 3 4 0=true:=by
 unfold bN at h ⊢;split at h;·cases h
 ·rename_i a;rw [if_neg a];split at h;·cases h
  ·rename_i b;rw [if_neg b];exact OE _ _ _ _ _ _ _ _ h
theorem IA (h:KH M) (p va kind:Int):Kw a (bp a (bN a a.length M p va kind)):=by
 unfold bp;split;·rename_i R;exact OD (sz:=8) h (Mb _ _ _ _ _ _ R).1 (OF _ _ _ _ _ _ R) _
 ·exact Kw.refl a
def uh (M N:MV):Prop:=(N.cs.getD 16 0=M.cs.getD 16 0/\N.cs.getD 17 0=M.cs.getD 17 0)/\(KH M.cs->Kw M.ram N.ram)
theorem IB (h:KH M) (e:a.getD 16 0=M.getD 16 0/\a.getD 17 0=M.getD 17 0):KH a:=by refine ⟨?_,e.2.trans h.2⟩;have:=h.1;unfold db at this ⊢;rw [e.1];exact this
theorem uh.trans (h:uh w N) (k:uh N l):uh w l:=⟨⟨k.1.1.trans h.1.1,k.1.2.trans h.1.2⟩,λQ=>(h.2 Q).trans (k.2 (IB Q h.1))⟩
theorem rH (a:l.cs.getD 16 0=w.cs.getD 16 0) (b:l.cs.getD 17 0=w.cs.getD 17 0) (hr:l.ram=w.ram):uh w l:=⟨⟨a,b⟩,λ_=>by rw [hr];exact Kw.refl _⟩
theorem mz:uh k k:=rH rfl rfl rfl
theorem IC (a:16<=e):(ij c D d j o y).getD e 0=c.getD e 0:=by
 cases D;·show ((((c.set 7 j).set 6 (bits .andNot .u64 o 3)).set 8 y).set 0 (mg (c.getD 0 0) d)).getD e 0=_;rw [cR _ _ _ _ ab,cR _ _ _ _ ab,cR _ _ _ _ ab,cR _ _ _ _ ab]
 ·show ((((c.set 13 j).set 12 (bits .andNot .u64 o 3)).set 14 y).set 0 (lA (c.getD 0 0) (d==1))).getD e 0=_;rw [cR _ _ _ _ ab,cR _ _ _ _ ab,cR _ _ _ _ ab,cR _ _ _ _ ab]
theorem gg:uh k (aL k t D d):=rH (IC _ _ _ _ _ _ 16 ab) (IC _ _ _ _ _ _ 17 ab) rfl
theorem gT:uh k (aY k d j o):=rH (cR _ _ _ _ ab) (cR _ _ _ _ ab) rfl
theorem Bb:uh k (cq k D d):=rH rfl rfl rfl
theorem OG:uh k (mW k d):=by unfold mW;split;exact rH rfl rfl rfl;exact mz k
theorem ID (D:DV):uh k (cL (dc k D)):=rH (cR _ _ _ _ ab) (cR _ _ _ _ ab) rfl
theorem Vr (hb:Ac k.cs d j o y=false):uh k (rN k j o y P).2.1:=by
 unfold Ac at hb;rw [Bool.or_eq_false_iff] at hb;have b:ay k.cs d j (aU j o) y 4 0=true:=by simpa using hb.2
 unfold rN;split
 ·rename_i a;split;·rename_i c;rw [eq_of_beq c] at b;exact uh.trans (N:=bP k (jT k.ram (j-2147483648).toNat P o.toNat)) ⟨⟨rfl,rfl⟩,λl=>OD l a b P⟩ (OG _ j)
  ·exact mz k
 ·split
  ·split;·exact ID _ _
   ·exact mz k
  ·split
   ·split;·exact (ID _ _).trans (OG _ j)
    ·exact mz k
   ·exact mz k
theorem OH:uh k (dC k d j):=⟨⟨rfl,rfl⟩,λl=>IA l _ _ _⟩
theorem jP:uh k (aE k d j o y).2.1:=by
 unfold aE;split;·exact mz k
 ·have c:uh k (bP k (bp k.ram (bN k.ram k.ram.length k.cs (fO k.cs k.pr o) d o))):=⟨⟨rfl,rfl⟩,λl=>IA l _ _ _⟩;unfold xQ;split;·exact c
  ·split;·exact c
   ·rename_i a;have b:Ac k.cs (fO k.cs k.pr o) (bN k.ram k.ram.length k.cs (fO k.cs k.pr o) d o).addr j o=false:=oi;exact c.trans (Vr _ _ _ _ _ _ b)
theorem Rq:uh k (nV k S d j o).1:=by
 unfold nV;split;·exact gg _ _ _ _
 ·exact gT _ _ _ _
theorem Rt:uh k (lX k S d).1:=by
 unfold lX;dsimp only;split;·exact (jP k d _ 2 0).trans (gg _ _ _ _)
 ·exact (jP k d _ 2 0).trans (gT _ _ _ _)
theorem OI:uh k (lY k S d j).1:=by
 unfold lY;dsimp only;split;·exact (jP k d _ 3 j).trans (gg _ _ _ _)
 ·exact (jP k d _ 3 j).trans (gT _ _ _ _)
theorem Ru:uh k (iC k S d j).1:=by
 have c:=OH k d 3;unfold iC;split
 ·unfold Uv;dsimp only;split;·exact (jP k d _ 2 0).trans (gg _ _ _ _)
  ·exact (((jP k d _ 2 0).trans (OH _ d 2)).trans (Bb _ _ _)).trans (gT _ _ _ _)
 ·split;·exact gg _ _ _ _
  ·split;·exact c.trans (gg _ _ _ _)
   ·split
    ·unfold VG;split
     ·dsimp only;split;·exact (c.trans (jP _ d _ 3 j)).trans (gg _ _ _ _)
      ·exact ((c.trans (jP _ d _ 3 j)).trans (Bb _ _ _)).trans (gT _ _ _ _)
     ·exact (c.trans (Bb _ _ _)).trans (gT _ _ _ _)
    ·unfold QJ;dsimp only;split;·exact (c.trans (jP _ d _ 2 0)).trans (gg _ _ _ _)
     ·split;·exact ((c.trans (jP _ d _ 2 0)).trans (jP _ d _ 3 _)).trans (gg _ _ _ _)
      ·exact ((c.trans (jP _ d _ 2 0)).trans (jP _ d _ 3 _)).trans (gT _ _ _ _)
theorem Um:uh k (ke k S d).1:=by
 unfold ke;split;·exact gg _ _ _ _
 ·split;·exact gg _ _ _ _
  ·split
   ·split;·exact gg _ _ _ _
    ·exact uh.trans (N:=gt (iB k (k.cs.set 0 (cO (k.cs.getD 0 0) (S.op==96)))) (dy (k.cs.getD 0 0) (S.op==96))) (rH (cR _ _ _ _ ab) (cR _ _ _ _ ab) rfl) (gT _ _ _ _)
   ·split;·exact gg _ _ _ _
    ·split;·exact uh.trans (N:=fF k true) (rH rfl rfl rfl) (gT _ _ _ _)
     ·exact gT _ _ _ _
theorem OJ (h:KH M) (hz:M.length=22) (g:U (M.getD 16 0)) (n x:Int) (hx:U x) (hk:dt n=true):KH (bW M n x):=by
 have j:(db M 0/128==1)=true:=by rw [h.1];decide
 have set:∀ k v,k≠16->k≠17->KH (M.set k v):=λk v m a=>IB h ⟨fG M k 16 v m,fG M k 17 v a⟩;cases MI n hk with
 | fixed a=>unfold bW;rw [if_pos a];exact h
 | st a=>subst a;exact set 0 _ ab ab
 | ie a=>subst a;exact set 3 _ ab ab
 | ip a=>subst a;exact set 9 _ ab ab
 | own k hk r u t =>
   rw [r];unfold fV;split;·exact set 9 _ ab ab
   ·split
    ·split;·exact set 15 _ ab ab
     ·exact h
    ·split
     ·refine ⟨?_,(fG M 16 17 _ ab).trans h.2⟩;have f:=h.1;unfold db at f ⊢;rw [ls M 16 _ ab,<- f];have d:∀ y:Int,y/2^(8*0)=y:=λy=>by simp
      rw [d,d];refine bA _ _ (ah _ _ _) (ah _ _ _) λi b=>?_;rw [az,az,wA i b];by_cases o:i<8;·have s:fP (M.getD 16 0) (i/8)=true:=(by rw [show i/8=0 from ab,qY M g 0];exact j);have q:bt (gI (M.getD 16 0) 4) i=true:=(by rw [yU _ i b 4 ab,s];simp;omega);rw [ss M g _ i b 4,if_pos q]
      ·simp [o]
     ·split
      ·rename_i p;split;·exact h
       ·rename_i c;refine set _ _ ab (λe=>c ?_);have:(k:Int)=17:=by omega
        rw [this];unfold fw;rw [show ((17:Int)-17).toNat=0 from rfl,j];rfl
      ·exact set _ _ ab ab
def Pe (M N:MV):Prop:=KH M.cs->KH N.cs/\Kw M.ram N.ram
theorem uh.kt (h:uh w l):Pe w l:=λN=>⟨IB N h.1,h.2 N⟩
theorem Pe.trans (h:Pe w N) (k:Pe N l):Pe w l:=λQ=>⟨(k (h Q).1).1,(h Q).2.trans (k (h Q).1).2⟩
theorem Un (h:Gw w) (i:Ins) (j:U b) (M:Int):Pe w (mJ w i b M).1:=by
 unfold mJ;split;·exact (gg _ _ _ _).kt
 ·rename_i g;have a:iS w.cs.length w.cs i.imm w.pr=true:=by
   cases q:iS w.cs.length w.cs i.imm w.pr;·rw [q] at g;exact absurd rfl g
   ·rfl
  have e:dt i.imm=true:=(by unfold iS at a;simp only [Bool.and_eq_true] at a;exact a.1.1.2);have m:U (rA i b (de w.cs i.imm)):=by
   have k:U (j9 i b):=(by unfold j9;split;exact aT _;exact j);unfold rA;split;·exact ah _ _ _
   ·split;·exact ah _ _ _
    ·exact k
  obtain ⟨d,_,_,_,_,_⟩:=aC h.1.ok;have c:=gT w i.rd (de w.cs i.imm) (IntKind.u64.wrap (w.pc+4));have f:(aY w i.rd (de w.cs i.imm) (IntKind.u64.wrap (w.pc+4))).cs.length=22:=(by show (w.cs.set 21 _).length=22;rw [List.length_set];exact d);have u16:U ((aY w i.rd (de w.cs i.imm) (IntKind.u64.wrap (w.pc+4))).cs.getD 16 0):=(by rw [c.1.1];exact h.1.mw.cs 16);dsimp only;split;·intro l;exact ⟨OJ (IB l c.1) f u16 _ _ m e,(c.2 l)⟩
  ·exact c.kt
theorem Rv (h:Gw w) (i:Ins) (M:Int):Pe w (dh w i M).1:=by
 have a:=h.1.ux i.a.toNat;unfold dh;dsimp only;split;·exact (gT _ _ _ _).kt
 split;·exact (gT _ _ _ _).kt
 split;·exact (Rq _ _ _ _ _).kt
 split;·exact (Rt _ _ _).kt
 split;·exact (OI _ _ _ _).kt
 split;·exact (gT _ _ _ _).kt
 split;·exact (Ru _ _ _ _).kt
 split;·exact (gT _ _ _ _).kt
 split;·exact Un h _ a _
 ·exact (Um _ _ _).kt
theorem IE (h:Gw w):Pe w (ee w).1:=by
 have b:Gw (fF w false):=⟨h.1.wait false,h.2⟩;have c:Pe w (fF w false):=(rH rfl rfl rfl:uh w (fF w false)).kt;unfold ee;split;·exact (mz w).kt
 ·split;·exact c.trans (gg _ _ _ _).kt
  ·dsimp only;have a:=c.trans (jP (fF w false) w.pc 4 1 0).kt;split;·exact a.trans (gg _ _ _ _).kt
   ·split;·exact a.trans (gg _ _ _ _).kt
    ·exact a.trans (Rv (jO b w.pc 4 1 lw) _ _)
theorem DO:∀ (n:Nat) {M:MV},Gw M->Pe M (dF n M).1
 | 0,_,_=>(mz _).kt
 | n+1,M,h=>by
   unfold dF
   split
   ·exact IE h
   ·exact (IE h).trans (DO n h.step)
def KP (x:Int):Int:=bits .or .u64 (bits .andNot .u64 x 255) 153
theorem Bc (a:e<64):bt (KP d) e=if e<8 then bt 153 e else bt d e:=by
 unfold KP;rw [cC,aA _ _ _ a,wA e a];have z:∀ e,e<64->¬ e<8->bt 153 e=false:=cb
 by_cases h:e<8;·simp [h]
 ·simp [h,z e a h]
theorem Vt (h:U g) (hl:bn 16 g=g):bn 16 (KP g)=KP g:=by
 rw [sB (KP g) (ah _ _ _)];have e:=(sB _ h).mp hl;have key:∀ i,i<8->bt 153 i=(decide (i<32)&&(bt 153 i&&bt 159 (i%8)&&!(decide (i%8=1)&&!bt 153 (i-1)))):=cb
 intro i c;have a:=e i c;unfold wv at a ⊢;rw [Bc g i c,Bc g (i-1) ab];by_cases b:i<8;·rw [if_pos b,if_pos ab];exact key i b
 ·rw [if_neg b];by_cases d:i%8=1;·rw [if_neg ab];exact a
  ·simp only [d,decide_false,Bool.false_and] at a ⊢;exact a
def Sq (l:List Int):List Int:=(l.set 16 (KP (l.getD 16 0))).set 17 536871551
theorem OK (h:Gw w):Gw (iB w (Sq w.cs))/\KH (Sq w.cs):=by
 obtain ⟨a,b,_,_,_,_⟩:=aC h.1.ok;have u16:=h.1.mw.cs 16;have e:bn 16 (w.cs.getD 16 0)=w.cs.getD 16 0:=by have:=eC b 16 ab;unfold fq at this;rw [if_neg ab,if_neg ab] at this;exact eq_of_beq this
 have f:fq 16 (KP (w.cs.getD 16 0))=true:=by unfold fq;rw [if_neg ab,if_neg ab];show (bn 16 _==_)=true;rw [Vt u16 e];exact beq_self_eq_true _
 have g:(w.cs.set 16 (KP (w.cs.getD 16 0))).length=22:=by rw [List.length_set];exact a
 refine ⟨⟨h.1.cs_ ?_ ?_ ?_ ?_,h.2⟩,?_,?_⟩;·unfold Sq;rw [List.length_set,List.length_set];exact a
 ·exact cE _ g (cE _ a b 16 ab _ f) 17 ab _ cb
 ·exact iZ _ (iZ _ h.1.mw.cs 16 _ (ah _ _ _)) 17 _ ⟨bc,bc⟩
 ·unfold Sq;rw [fG _ 17 9 _ ab,fG _ 16 9 _ ab]
 ·unfold db Sq;rw [fG _ 17 16 _ ab,ls _ 16 _ ab];have d:∀ y:Int,y/2^(8*0)=y:=λy=>by simp
  rw [d];refine bA _ _ (ah _ _ _) ⟨bc,bc⟩ λi c=>?_;have z:∀ i,i<64->(if i<8 then bt 153 i else false)=bt 153 i:=cb;rw [az,Bc _ i c,wA i c,<- z i c];by_cases j:i<8<;>simp [j]
 ·exact ls _ 17 _ (by rw [g];omega)
def Rx (R:List Int):List Int:=(List.range 1024).map λj=>R.getD (2048+j) 0
theorem Bd:(Rx c).length=1024:=by simp [Rx]
theorem Ry (a:n<1024):(Rx c).getD n 0=c.getD (2048+n) 0:=by simp [Rx,List.getD,a]
theorem OL (h:Kw M a):Rx a=Rx M:=by unfold Rx;refine List.map_congr_left λj S=>?_;exact h.2 _ ab (by have:=List.mem_range.1 S;omega)
theorem OM (h:Sl .u8 W (some ⟨n,p,none⟩) M) (g:3072<=M.length):Sl .u8 W (some ⟨n,p+2048,none⟩) (Rx M):=λj a=>by rw [Bd] at a;obtain ⟨f,i,e,c,d⟩:=h (2048+j) ab;cases e;refine ⟨n,p+2048,rfl,c,?_⟩;rw [Ry M a,Nat.add_assoc];exact d
def WH {S:World->Prop} (a:Option Addr) (n c:Nat) {b o:Nat} (i:a=some ⟨b,o,none⟩) (k:3072<=c):Ov prog S :=
 ⟨do pure (.value (<- Instr.sliceAt 24 (.slice a n c) (some (.i 2048)) (some (.i 3072)) none)),.slice (some ⟨b,o+2048,none⟩) 1024 (c-2048),0,λW _=>by
  subst i
  obtain ⟨l,j,e⟩:=Option.map_eq_some_iff.1 (show (prog.info? 5).map (·.size)=some 1 by kernel_rfl)
  have h:prog.underlying 24=some (.slice 5):=underlying24
  have f:prog.elem 24=5:=by simp [Program.elem,h]
  have g:prog.underlying 24=some (.slice (prog.elem 24)):=by rw [f];exact h
  have d:¬ c=2048:=ab
  have r:=run_slice_lh (P:=prog) (w:=W) 24 (some ⟨b,o,none⟩) n c g .i64 .i64 2048 3072 ab ab ab
  rw [<- run_sliceAt_slice (P:=prog) (w:=W) 24 _ _ _ _ g,f] at r
  simp [r,sizeOf,typeInfo,j,e,sliced,d,Addr.add,Result.andThen]⟩
def WI {S:World->Prop} (a:Option Addr) (n c:Nat) (s:ByteArray) (h:∀ W,S W->(convert 24 9 (.slice a n c)).run prog W=.ok (.string s) W):Ov prog S :=
 ⟨do pure (.value (<- convert 24 9 (.slice a n c))),.string s,0,λW b=>by simp [h W b]⟩
end Go.Proofs.YtjifdmoehfbihaaGreatDoor
