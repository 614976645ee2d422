/- Own lemmas. -/
import Derived.Test.YtfagphfjfhpmjaaGreatDoorAut
import Derived.Test.YtfagphfjfhpmjaaGreatDoorK21
import Derived.Test.YtfagphfjfhpmjaaGreatDoorK22
set_option maxRecDepth 100000
namespace Go.Proofs.YtfagphfjfhpmjaaGreatDoor
open Go.RowKit Tryz
set_option linter.unusedVariables false
variable {w:World} {M:Nat} {A:Option Addr} {W:List Int} (a:MV) (n:MA) (b:World)
def SR (B g:Nat) (w0:World) (V:MV × Int) (e:Ending) (w':World):Prop:=e=.returned (.i V.2)/\∃ A' t',Tq B g w0 V.1 A' t' w'
section
variable {B g K : Nat} {w0 w w' W : World} {M M' : MV} {A A' : MA} {t t' : TV}
theorem Tx (h:Tq B g w0 M A tS w) (hg:Gd M) (hd:Ud M.d):Calls prog 51 #[.p g 0] w (SR B g w0 (cj M)):=by
 obtain ⟨I,hcs,hpr,_,_,_⟩:=aI hg.ok; -- what is raised is entered
 have up:∀ (S:World->Prop) (N:MV) (C:MA) (f:TV) (k:Nat) (W:World),Tq B g w0 N C f W->Gd N->f.up=true->f.cz=k->k<16->Wg prog S (bodyPost prog Tryz.f51 (SR B g w0 (aM N k false f.vl,2))) Tryz.f51.ntmps [.code (aq 6 (aL Tryz.f51))] [(0,.p g 0,1)] W:=by intro S N C f k W d gN l m u;refine aH (Tq B g w0 N C f) ?_;refine ae (Tq.eng (dr:=false)) {eq:=[(61,ak l)]} 40 d λW1 h1=>?_;refine lG 11 ?_;refine aS (Tq.eng (dr:=true)) {eq:=[(68,dG .i64 m)]} 60 (h1.below (Below.refl _ _).drew) (λW d=>Ij d gN k u false f.vl) ?_;rintro W2 e W3 H ⟨rfl,C2,J⟩;refine ⟨_,0,rfl,gh ba,?_⟩;exact i8 (R:=[]) (t:=2) (v:=.i 2) trivial {} 40 ⟨rfl,C2,f,J⟩
 -- il a performance
 have tail:∀ (S:World->Prop) (cf:Bool) (i:Ins) (V:MV × Int) (N:MV) (C:MA) (f:TV) (W:World),jN i->cf=decide (87<=i.op/\i.op<=92)->Pf cf V i N f->Tq B g w0 N C f W->Wg prog S (bodyPost prog Tryz.f51 (SR B g w0 V)) Tryz.f51.ntmps [.code (aq 6 (aL Tryz.f51))] [(0,.p g 0,1)] W:=by
  intro S cf i V N C f W Q hcf o d;cases l:f.up with
  | true =>obtain ⟨k,u,m⟩:=o.c l;have e:=o.e;rw [iE l m] at e;rw [<- e];exact up S N C f k W d o.g l m u
  | false =>have hfo:Fo cf f.fm:=(by rw [o.fm,hcf];exact DB i.op);have s:=λW (d:Tq B g w0 N C f W)=>Oa hfo d o.g (by rw [o.rd];exact Q.rd0) (by rw [o.rd];exact Q.rd31) l;have e2:V.2=1:=(by rw [<- o.e];unfold ur;rw [l];rfl);rw [o.e] at s;unfold SR;rw [e2];generalize V.1=V1 at *;refine aH (Tq B g w0 N C f) ?_;refine aS (Tq.eng (dr:=true)) {eq:=[(61,ak l)]} 60 d s ?_;rintro W2 e W3 H ⟨rfl,J⟩;refine ⟨_,0,rfl,gh ba,?_⟩;exact i8 (R:=[]) (t:=2) (v:=.i 1) trivial {} 40 ⟨rfl,C,f,J⟩
 have fin:∀ (S:World->Prop) (W:World),Tq B g w0 M A tS W->(M.wt&&(kq M.cs==0))=false->Wg prog S (bodyPost prog Tryz.f51 (SR B g w0 (cj M))) Tryz.f51.ntmps [.code (aq 2 (aL Tryz.f51))] [(0,.p g 0,1)] W:=by
  intro S W d hn;have eV:cj M=if 0<=fN M.cs M.pr then (aM (gy M false) (fN M.cs M.pr).toNat true 0,3) else (let q:=aC (gy M false) M.pc 4 1 0;if (q.2.2 != 0)=true then cL q 0 q.2.1.pc else match BW q.1 with | none=>(aM q.2.1 2 false q.1,2) | some i=>dq q.2.1 i q.1):=by unfold cj;rw [hn,if_neg bc];rfl
  rw [eV];clear eV;have F:=hg.wait false;have Y:fN M.cs M.pr=fN (gy M false).cs (gy M false).pr:=rfl;have U:M.pc=(gy M false).pc:=rfl;have z:Ud (gy M false).d:=hd;have Z:(gy M false).wt=false:=rfl;refine aH (λ_=>True) ?_;refine oC (R1:=[⟨g,bL (gy M false) A tS,[]⟩]) (Iv.one d.row) {} 8 λW1 h1=>?_;have H:=d.iv h1 rfl;refine af [.code (aq 3 (aL Tryz.f51))] [(0,.p g 0,1)] ?_;rw [Y,U];generalize gy M false=N at F H z Z ⊢;clear Y U h1;have r:=λW (d:Tq B g w0 N A tS W)=>ut A.ac N.cs.length A.cc N.cs N.pr W rfl d.sl.cs F.mw.cs;have T:uY N.cs.length N.cs N.pr=fN N.cs N.pr:=(by unfold uY;rw [(fg F.ok).2.2.1]);rw [T] at r;clear T;refine aH (Tq B g w0 N A tS) ?_;by_cases e:0<=fN N.cs N.pr;·obtain ⟨k,k16,u⟩:=AJ _ _ e;have q:decide (0<=((k:Nat):Int))=true:=ef;rw [if_pos e,u,Int.toNat_natCast];rw [u] at r;refine aS (Tq.eng (dr:=true)) {eq:=[(43,ak q)],cv:=[(41,OD r)]} 60 H (λW d=>Ij d F k k16 true 0) ?_;rintro W3 e W4 J ⟨rfl,C2,n⟩;refine ⟨_,0,rfl,gh ba,?_⟩;exact i8 (R:=[]) (t:=2) (v:=.i 3) trivial {} 40 ⟨rfl,C2,tS,n⟩
  ·have q:decide (0<=fN N.cs N.pr)=false:=(by rw [decide_eq_false_iff_not];exact e);rw [if_neg e];generalize fN N.cs N.pr=pv at *;have P:=λW (d:Tq B g w0 N A tS W)=>QF d F z;have ga:=F.acc N.pc 4 1 0;have da:=AG z N.pc 4 1 l8;have wa:=(iS N N.pc 4 1 0).2.2.2;have pa:=(iS N N.pc 4 1 0).1;have ec:=λc=>kh (M:=N) (addr:=N.pc) (size:=4) (kind:=1) (x:=0) (c:=c);rw [Z] at wa;unfold Tv at P;generalize aC N N.pc 4 1 0=X at *;obtain ⟨y,E,c⟩:=X;dsimp only at *;rw [pa];refine aS (Tq.eng (dr:=true)) {eq:=[(43,ak q)],cv:=[(41,OD r)]} 60 H P ?_;rintro W3 e W4 J ⟨rfl,C,n⟩;refine ⟨_,0,rfl,gh ba,?_⟩;refine an (R:=[]) trivial {} 1 ?_;refine af [.code (aq 5 (aL Tryz.f51))] [(0,.p g 0,1)] ?_;have skip:∀ (S:World->Prop) (f:TV) (k:Nat),Tq B g w0 E C f W4->f.up=true->f.cz=k->k<16->Wg prog S (bodyPost prog Tryz.f51 (SR B g w0 (aM E k false f.vl,2))) Tryz.f51.ntmps [.code (aq 5 (aL Tryz.f51))] [(0,.p g 0,1)] W4:=(by intro S f k d l m u;refine aH (Tq B g w0 E C f) ?_;refine ae (Tq.eng (dr:=false)) {eq:=[(54,ak l)]} 11 d λW5 h5=>?_;exact af _ _ (up _ E C f k W5 h5 ga l m u));cases O:(c != 0) with
   | true =>rw [O,if_pos rfl] at n;rw [if_pos rfl];unfold nP at n;dsimp only at n;rw [O,if_pos rfl,(ec c rfl O).1] at n;exact skip _ _ (c-16).toNat n rfl rfl (ec c rfl O).2
   | false =>
     rw [O,if_neg bc] at n;rw [if_neg bc];cases he:BW y with
     | none =>simp only [he] at n ⊢;exact skip _ _ 2 n rfl rfl bc
     | some i =>simp only [he] at n ⊢;have Q:=Au he;refine aH (Tq B g w0 E C (t0 E i y)) ?_;refine aS (Tq.eng (dr:=true)) {} 60 n (λW d=>Km i y Q d ga da wa) ?_;rintro W5 e W6 h5 ⟨rfl,N3,D,t3,o,h6⟩;refine ⟨_,0,rfl,gh ba,?_⟩;refine an (R:=[]) trivial {} 1 ?_;exact af _ _ (tail _ _ i _ N3 D t3 W6 Q rfl o h6)
 obtain ⟨b,K,hne,_⟩:=h.atC I;have cc:∀ (j:Nat),j<22->∀ W,Tq B g w0 M A tS W->W.cell? ⟨b,j,none⟩=some (.u (M.cs.getD j 0)):=λj hj W d=>by obtain ⟨b',L,_,p⟩:=d.atC I;rw [K] at L;cases L;exact (p j hj).1
 refine bC (S:=Tq B g w0 M A tS) (args:=[.p g 0]) [] func51 ?_;refine aK 0 1 ?_;cases G:M.wt with
 | true =>
   cases hz:(kq M.cs==0) with
   | true =>have eV:cj M=(M,4):=(by unfold cj;rw [G,hz,if_pos bc]);rw [eV];exact bm (t:=2) (v:=.i 4) (Tq.eng (dr:=true)) {eq:=[(8,ak G),(25,ak hz)],ov:=[(15,kF M.cs.length A.cc .i64 9 K ⟨ab,ab⟩ underlying23 ba),(16,iL ⟨b,0+(9:Int).toNat,none⟩ (.u (M.cs.getD 9 0)) underlying22 rfl (cc 9 ab)),(22,kF M.cs.length A.cc .i64 3 K ⟨ab,ab⟩ underlying23 ba),(23,iL ⟨b,0+(3:Int).toNat,none⟩ (.u (M.cs.getD 3 0)) underlying22 rfl (cc 3 ab))]} 60 h λW d=>⟨rfl,A,tS,d⟩
   | false =>refine ae (Tq.eng (dr:=true)) {eq:=[(8,ak G),(25,ak hz)],ov:=[(15,kF M.cs.length A.cc .i64 9 K ⟨ab,ab⟩ underlying23 ba),(16,iL ⟨b,0+(9:Int).toNat,none⟩ (.u (M.cs.getD 9 0)) underlying22 rfl (cc 9 ab)),(22,kF M.cs.length A.cc .i64 3 K ⟨ab,ab⟩ underlying23 ba),(23,iL ⟨b,0+(3:Int).toNat,none⟩ (.u (M.cs.getD 3 0)) underlying22 rfl (cc 3 ab))]} 29 h λW d=>?_;exact af _ _ (fin _ W d (by rw [G,hz];rfl))
 | false =>refine ae (Tq.eng (dr:=true)) {eq:=[(8,ak G)]} 29 h λW d=>?_;exact af _ _ (fin _ W d (by rw [G];rfl))
end
structure Pr (w:World) (cs:Array Value) (g:Nat) (M:MV) (C:MA) (W:World):Prop where
 b:Bs w [(cs,32),(aj zeroM zeroA,32)] W
 row:W.heap[g]?=some (.cells (bL zeroM zeroA ⟨.nilFunc,0,0,0,0,0,0,.nilIface,0,0,false,false,0,0⟩) 82 (0,0))
 fam:bA (w.heap.size+2) W.heap.size W (aG M C)
 ne:∀ q ∈ aG M C,q.v.ownBlock≠some g
 lo:w.heap.size+2<=g
theorem uL:(bL a n tS).all (·.oneCell')=true:=by unfold bL;kernel_rfl
theorem Bs.two {W:World} {cs:Array Value} (h:Bs w [(cs,32),(aj zeroM zeroA,32)] W):w.heap.size+2<=W.heap.size:=by have:=(Array.getElem?_eq_some_iff.1 (h.1 1 _ rfl)).1;omega
theorem nQ {P:Program} {fn:Func} {Rs:Ending->World->Prop} {W:World} {bs:List (Array Value × TypeId)} (h:Bs w bs W):nZ P (Bs w bs) (λx=>x=W) (lC w.heap.size bs) false (bodyPost P fn Rs):=
 ⟨λ_ e=>e ▸ h,(Bs.eng (P:=P) (fn:=fn) (Rs:=Rs)).rows,(λh=>ni),cH⟩
theorem Oc:(do pure (.value (<- Instr.build 82 #[(0,.agg (aj (um a a.ram) n)),(1,.func (.func 50) #[] #[])])):Sem Next).run prog b=.ok (.value (.agg (bL a n tS))) b:=by kernel_rfl
theorem uM {n:Nat} {c':Nat} (o:w.ownsRow M 5 1 (.slice A n c') n (W.map (Value.int .u8))) (b:M<=w.heap.size):bA M w.heap.size w [aD A n c' W]:=(bA.nil M M w).cons (aD A n c' W) M w.heap.size o (Nat.le_refl _) (Nat.le_refl _) (Nat.le_refl _) b
theorem AU (hl:jR a) (hs:nR b a n) (hf:Tl a) (hT:qH b):Calls prog 13 #[.agg (aj a n)] b (mQ b (NQ a)):=by
 have U:=λW (hb:Bw b W)=>hH a n W hl (hs.below hb) hf.mw.cs;unfold NQ;refine bC (S:=Bs b [(aj a n,32),(aj zeroM zeroA,32)]) (args:=[.agg (aj a n)]) [(aj a n,32),(aj zeroM zeroA,32)] func13 ?_;cases ok:dI a with
 | false =>rw [ok] at U;rw [if_neg bc];refine ae Bs.eng {cv:=[(7,fQ U)]} 40 (Bs.start _ _) λW1 u=>?_;refine bM (az (g:=b.heap.size+1) (old:=aj zeroM zeroA) (cells:=aj zeroM zeroA) (t:=32) (ty:=32) (u.1 1 _ rfl) ba rfl (cN _ _)) ?_;refine gu (R:=[]) trivial {} 40 λM H=>⟨.tuple #[.agg (aj zeroM zeroA),.i 0],vq H rfl ba ba (setRow_heap _ _ _ _ _ _ (u.1 1 _ rfl)) underlying32 rfl ba,zeroA,rfl,jZ _ _ _,aR u.2 ab _⟩
 | true =>
   rw [ok] at U;rw [if_pos rfl];have hg:=hf.gd ok;have O:=λ(B g:Nat) (w0 W:World) (C:MA) (h:Tq B g w0 a C tS W)=>Tx h hg hf.ud;generalize cj a=V at O ⊢;have hGw:=hT.lt;have fin:∀ (S:World->Prop) (g:Nat) (C:MA) (W:World),Pr b (aj a n) g a C W->Wg prog S (bodyPost prog Tryz.f13 (mQ b V)) Tryz.f13.ntmps [.code (aq 3 (aL Tryz.f13))] [(2,.p (b.heap.size+1) 0,0),(4,.p g 0,1)] (W.setRow g (bL a C tS)):=by
    intro S g C W v;have hlo:=v.lo;have y:Bw b (W.setRow g (bL a C tS)):=aR v.b.2 ab _;have r1:(W.setRow g (bL a C tS)).heap[b.heap.size+1]?=some (.cells (aj zeroM zeroA) 32 (0,0)):=(setRow_other _ _ _ _ ab).trans (v.b.1 1 _ rfl);have q0:Tq (b.heap.size+2) g (W.setRow g (bL a C tS)) a C tS (W.setRow g (bL a C tS)):=by
     refine ⟨⟨_,setRow_heap _ _ _ _ _ _ v.row⟩,?_,v.ne,?_,rfl,rfl,rfl,Nat.le_refl _,λ_ _ _=>rfl,hT.below y,ab,ab⟩;·rw [setRow_size];exact v.fam.other λq I k e=>setRow_other _ _ _ _ (λe2=>v.ne q I (by rw [e,e2]))
     ·rw [setRow_size];exact v.b.two
    generalize W.setRow g (bL a C tS)=W1 at y r1 q0 ⊢;refine aN (R:=[]) trivial {} 40 (O _ _ _ _ C q0) ?_;rintro e c ⟨rfl,D,tx,J⟩;refine ⟨_,0,rfl,?_⟩;have s:∀ k,k<b.heap.size+2->c.heap[k]?=W1.heap[k]?:=λk H=>J.block k H ab;have b2:Bw b c:=⟨J.os.trans y.os,J.tape.trans y.tape,J.output.trans y.output,Nat.le_trans y.size J.size,λk H=>(s k ab).trans (y.block k H)⟩;have r2:c.heap[b.heap.size+1]?=some (.cells (aj zeroM zeroA) 32 (0,0)):=(s _ ab).trans r1;refine aK 4 1 ?_;refine cq (R:=[⟨g,bL V.1 D tx,[]⟩]) ⟨J.row.in_,trivial⟩ {} 40 (az (g:=b.heap.size+1) (t:=32) (ty:=32) (old:=aj zeroM zeroA) (cells:=aj V.1 D) r2 ba rfl (cN _ _)) ?_;refine gu (R:=[]) trivial {} 40 λM H=>⟨.tuple #[.agg (aj V.1 D),.i V.2],vq H rfl ba ba (setRow_heap _ _ _ _ _ _ r2) underlying32 rfl ba,D,rfl,?_,aR b2 ab _⟩;refine bA.low (B:=b.heap.size+2) ?_ ab (Nat.le_refl _);rw [setRow_size];exact J.fam.mono λk u p f=>setRow_other _ _ _ _ ab
   refine ae Bs.eng {cv:=[(7,fQ U)]} 9 (Bs.start _ _) λZ h0=>?_;refine af [.code (aq 2 (aL Tryz.f13))] [(1,.p b.heap.size 0,1),(2,.p (b.heap.size+1) 0,2)] ?_;refine an (R:=[]) trivial {} 1 ?_;refine it 1 ?_;have N:=λW (h:Bs b [(aj a n,32),(aj zeroM zeroA,32)] W)=>mR n.ar a.ram.length n.cr a.ram W rfl hl.ram (hs.below h.2).ram;have G:=λ(x:Option Addr) (E B:Nat) W (h:Bs b [(aj a n,32),(aj zeroM zeroA,32)] W) (hR:bA B W.heap.size W [aD x a.ram.length E a.ram]) (hB:B<=W.heap.size)=>pH a n a.ram x a.ram.length E B W hl (hs.below h.2) hR hB rfl;have d:=h0.below (Below.refl Z.heap.size Z).drew;have s0:=d.two;have L:∀ W:World,Bw W (W.alloc (.cells (bL zeroM zeroA ⟨.nilFunc,0,0,0,0,0,0,.nilIface,0,0,false,false,0,0⟩) 82)):=λW=>bal _ _;have w:∀ W:World,(W.alloc (.cells (bL zeroM zeroA ⟨.nilFunc,0,0,0,0,0,0,.nilIface,0,0,false,false,0,0⟩) 82)).heap.size=W.heap.size+1:=λW=>World.size_alloc _ _;have m:=λ(W:World)=>dD (P:=prog) (T:=82) (z:=.agg (bL zeroM zeroA ⟨.nilFunc,0,0,0,0,0,0,.nilIface,0,0,false,false,0,0⟩)) ba W;have zc:(Value.agg (bL zeroM zeroA ⟨.nilFunc,0,0,0,0,0,0,.nilIface,0,0,false,false,0,0⟩)).cells=(bL zeroM zeroA ⟨.nilFunc,0,0,0,0,0,0,.nilIface,0,0,false,false,0,0⟩):=rfl;rw [zc] at m;generalize Z.drew=W1 at d s0 ⊢;refine ae (nQ d) {} 3 rfl ?_;rintro _ rfl;rename_i W1;refine oE (i:=3) (j:=6) ?_ ?_
   ·refine nz (N _ d) ?_;rintro e c ⟨x,E,rfl,Y,s⟩;have p:=d.below s;have K:=s.size;have X:=uM Y K;refine ⟨_,0,rfl,p,?_⟩;refine oE (i:=4) (j:=6) ?_ ?_
    ·refine nz (G x E _ c p X K) ?_;rintro e l ⟨C,_,_,rfl,F,n3,Q⟩;have f:=p.below Q;have z3:=Q.size;have r:=f.below (L l);have o:Pr b (aj a n) l.heap.size a C (l.alloc (.cells (bL zeroM zeroA ⟨.nilFunc,0,0,0,0,0,0,.nilIface,0,0,false,false,0,0⟩) 82)):=⟨r,heap_alloc_new _ _,(F.below (L l)).low s0 (by rw [w];omega),λq I e=>by have:=F.hi q I _ e;omega,ab⟩;refine ⟨_,0,rfl,f,?_⟩;refine oE (i:=5) (j:=6) ?_ ?_;·refine qN 0 (Oc a C l) f ?_;refine dF 0 (m l) (hS:=λ_=>r) ?_;refine ae (nQ r) {} 1 rfl ?_;rintro _ rfl;refine bM (az (g:=l.heap.size) (t:=82) (ty:=82) (old:=(bL zeroM zeroA ⟨.nilFunc,0,0,0,0,0,0,.nilIface,0,0,false,false,0,0⟩)) (cells:=bL a C tS) o.row ba rfl (uL _ _)) ?_;refine an (R:=[]) trivial {} 1 ?_;exact af _ _ (fin _ _ C _ o)
     ·refine qN 0 (m l) r ?_;refine ae (nQ r) {} 2 rfl ?_;rintro _ rfl;refine bM (az (g:=l.heap.size) (t:=82) (ty:=82) (old:=(bL zeroM zeroA ⟨.nilFunc,0,0,0,0,0,0,.nilIface,0,0,false,false,0,0⟩)) (cells:=bL a C tS) o.row ba rfl (uL _ _)) ?_;refine an (R:=[]) trivial {} 1 ?_;exact af _ _ (fin _ _ C _ o)
    ·have f:=p.below (L c);refine qN 0 (m c) f ?_;have F:=(X.below (L c)).low (Nat.le_refl _) (show c.heap.size<=(c.alloc (.cells (bL zeroM zeroA ⟨.nilFunc,0,0,0,0,0,0,.nilIface,0,0,false,false,0,0⟩) 82)).heap.size by rw [w];omega);refine ju (G x E _ _ f F (by rw [w];omega)) ?_;rintro e W4 ⟨C,_,_,rfl,f4,n4,k4⟩;have r:=f.below k4;have o:Pr b (aj a n) c.heap.size a C W4:=by
      refine ⟨r,bq k4 (heap_alloc_new _ _),f4.low s0 (Nat.le_refl _),λq I e=>?_,ab⟩;rcases n4 q I _ e with A | A;·rw [w] at A;omega
      ·have:=(Y.lt _ A).2;omega
     refine ⟨_,0,rfl,λ_=>r,?_⟩;refine ae (nQ r) {} 2 rfl ?_;rintro _ rfl;refine bM (az (g:=c.heap.size) (t:=82) (ty:=82) (old:=(bL zeroM zeroA ⟨.nilFunc,0,0,0,0,0,0,.nilIface,0,0,false,false,0,0⟩)) (cells:=bL a C tS) o.row ba rfl (uL _ _)) ?_;refine an (R:=[]) trivial {} 1 ?_;exact af _ _ (fin _ _ C _ o)
   ·have u:=d.below (L W1);refine qN 0 (m W1) u ?_;refine ju (N _ u) ?_;rintro e c ⟨x,E,rfl,Y,s⟩;have p:=u.below s;have K:=s.size;have X:=uM Y K;refine ⟨_,0,rfl,λ_=>p,?_⟩;refine ju (G x E _ c p X K) ?_;rintro e l ⟨C,_,_,rfl,F,n3,Q⟩;have f:=p.below Q;rw [w] at K;have o:Pr b (aj a n) W1.heap.size a C l:=(by refine ⟨f,bq Q (bq s (heap_alloc_new _ _)),F.low (by rw [w];omega) (Nat.le_refl _),λq I e=>?_,ab⟩;have:=((F.own q I).lt _ e).1;rw [w] at this;omega);refine ⟨_,0,rfl,λ_=>f,?_⟩;refine ae (nQ f) {} 2 rfl ?_;rintro _ rfl;refine bM (az (g:=W1.heap.size) (t:=82) (ty:=82) (old:=(bL zeroM zeroA ⟨.nilFunc,0,0,0,0,0,0,.nilIface,0,0,false,false,0,0⟩)) (cells:=bL a C tS) o.row ba rfl (uL _ _)) ?_;refine an (R:=[]) trivial {} 1 ?_;exact af _ _ (fin _ _ C _ o)
structure Pm (w:World) (g:Nat) (cs:Array Value) (M:MV) (C:MA) (W:World):Prop where
 out:W.heap[w.heap.size+1]?=some (.cells (aj zeroM zeroA) 32 (0,0))
 row:W.heap[g]?=some (.cells cs 32 (0,0))
 fam:bA (w.heap.size+2) W.heap.size W (aG M C)
 ne:∀ q ∈ aG M C,q.v.ownBlock≠some g
 lo:w.heap.size+2<=g
 bl:Bw w W
structure Pl (w:World) (g:Nat) (M:MV) (C:MA) (xs:List Int) (a:Option Addr) (c:Nat) (W:World):Prop where
 pm:Pm w g (aj M C) M C W
 own:W.ownsRow (w.heap.size+2) 2 1 (.slice a xs.length c) xs.length (xs.map (Value.int .i64))
section
variable {w W W1 : World} {g : Nat} {cs : Array Value} {M N : MV} {C D : MA} {xs : List Int} {a : Option Addr} {c : Nat}
theorem Pm.put (h:Pm w g cs M C W) (d:Array Value):Pm w g d M C (W.setRow g d):=by have:=h.lo;refine ⟨(setRow_other _ _ _ _ ab).trans h.out,setRow_heap _ _ _ _ _ _ h.row,?_,h.ne,h.lo,aR h.bl ab _⟩;rw [setRow_size];exact h.fam.other λq a k e=>setRow_other _ _ _ _ (λe2=>h.ne q a (by rw [e,e2]))
theorem Pl.far (h:Pl w g M C xs a c W) {k:Nat} (e:(Value.slice a xs.length c).ownBlock=some k):k≠g:=by
 rintro rfl;rcases h.own.2 with ⟨d,_⟩|⟨b,cap,f,d,_,e3,_⟩;·rw [d] at e;cases e
 ·rw [d] at e;cases e;rw [h.pm.row] at e3;injection e3 with e3
  injection e3 with _ e4
  exact absurd e4 bc
theorem Pl.step (h:Pl w g M C xs a c W) (f:bA W.heap.size W1.heap.size W1 (aG N D)) (k:Bw W W1):Pl w g N D xs a c (((W1.alloc (.cells (aj zeroM zeroA) 32)).setRow W1.heap.size (aj N D)).setRow g (aj N D)):=by have d:Bw W1 ((W1.alloc (.cells (aj zeroM zeroA) 32)).setRow W1.heap.size (aj N D)):=aR (bal _ _) (Nat.le_refl _) _;have b:=aa k d;have l:=(Array.getElem?_eq_some_iff.1 h.pm.row).1;have p:Pm w g (aj M C) N D ((W1.alloc (.cells (aj zeroM zeroA) 32)).setRow W1.heap.size (aj N D)):=⟨bq b h.pm.out,bq b h.pm.row,(f.below d).low (by have:=h.pm.lo;omega) d.size,λq i e=>by have:=((f.own q i).lt _ e).1;omega,h.pm.lo,aa h.pm.bl b⟩;exact ⟨p.put _,eg h.own λj e=>(setRow_other _ _ _ _ (h.far e)).trans (b.block j (h.own.lt j e).2)⟩
theorem Pl.push (h:Pl w g M C xs a c W) (hn:xs.length<=1000000) (x:Int):∃ (f:Option Addr) (l:Nat) (d:World),(zf 39 (.slice a xs.length c) (.slice (some ⟨W.heap.size,0,none⟩) 1 1)).run prog (W.alloc (.cells #[.i x] 2))=.ok (.value (.slice f (xs++[x]).length l)) d/\Pl w g M C (xs++[x]) f l d:=by
 have t:=(Array.getElem?_eq_some_iff.1 h.pm.row).1;have u:=h.pm.lo;obtain ⟨f,l,d,s,o,n,p,e2,e3,i⟩:=Dr h.own ab hn x;refine ⟨f,l,d,s,⟨(i _ ab λj b e=>?_).trans h.pm.out,(i _ t λj b e=>h.far b e).trans h.pm.row,?_,h.pm.ne,u,⟨p.trans h.pm.bl.os,e2.trans h.pm.bl.tape,e3.trans h.pm.bl.output,Nat.le_trans h.pm.bl.size n,λk r=>(i k (by have:=h.pm.bl.size;omega) λj b e=>?_).trans (h.pm.bl.block k r)⟩⟩,o⟩;·have:=(h.own.lt j b).1;omega
 ·refine (h.pm.fam.other λq m k e=>i k ((h.pm.fam.own q m).lt k e).2 λj b e2=>?_).low (Nat.le_refl _) n;exact qo h.own h.pm.fam b q m (by rw [e2];exact e)
 ·have:=(h.own.lt j b).1;omega
end
structure Lp (w:World) (g:Nat) (M:MV) (n j:Nat) (x:MV × MA × List Int × Option Addr × Nat × Nat) (W:World):Prop where
 ej:x.2.2.2.2.2+j=n
 pl:Pl w g x.1 x.2.1 x.2.2.1 x.2.2.2.1 x.2.2.2.2.1 W
 gw:Gw x.1
 ln:x.2.2.1.length=x.2.2.2.2.2
 st:bj n M=((bj j x.1).1,x.2.2.1++(bj j x.1).2)
theorem mH (A:Int) (w:World) (hl:jR a) (hs:nR w a n) (hf:Tl a) (hT:qH w):Calls prog 18 #[.agg (aj a n),.i A] w (Rk w (jL a A)):=by
 have Z:=λW (hb:Bw w W)=>hH a n W hl (hs.below hb) hf.mw.cs;unfold jL;refine bC (S:=Bs w [(aj a n,32),(aj zeroM zeroA,32)]) (args:=[.agg (aj a n),.i A]) [(aj a n,32),(aj zeroM zeroA,32)] func18 ?_;cases ok:dI a with
 | false =>rw [ok] at Z;rw [if_neg cp];refine ae Bs.eng {cv:=[(11,fQ Z)]} 40 (Bs.start _ _) λW1 u=>?_;exact a0s
 | true =>
   rw [ok] at Z;cases d1:decide (A<0) with
   | true =>have:=of_decide_eq_true d1;rw [if_neg bv];refine ae Bs.eng {cv:=[(11,fQ Z)],eq:=[(15,ak d1)]} 40 (Bs.start _ _) λW1 u=>?_;exact a0s
   | false =>
     have n0:=of_decide_eq_false d1;cases d2:decide (300<A) with
     | true =>have:=of_decide_eq_true d2;rw [if_neg bv];refine ae Bs.eng {cv:=[(11,fQ Z)],eq:=[(15,ak d1),(19,ak d2)]} 40 (Bs.start _ _) λW1 u=>?_;exact a0s
     | false =>
       have n1:=of_decide_eq_false d2;rw [if_pos bv];have hg:Gw a:=⟨hf.gd ok,hf.ud⟩;obtain ⟨m,rfl⟩:=Int.eq_ofNat_of_zero_le (show 0<=A by omega);rw [Int.toNat_natCast];have fin:∀ (S:World->Prop) (g:Nat) (C:MA) (W:World),Pm w g (aj zeroM zeroA) a C W->Wg prog S (bodyPost prog Tryz.f18 (Rk w (bj m a))) Tryz.f18.ntmps [.code (aq 3 (aL Tryz.f18))] [(1,.i (m:Nat),0),(4,.p (w.heap.size+1) 0,0),(6,.p g 0,1)] (W.setRow g (aj a C)):=by
        intro S g C W hp;have h0:Lp w g a m m (a,C,[],none,0,0) (W.setRow g (aj a C)):=⟨cp,⟨hp.put _,⟨rfl,.inl ⟨rfl,rfl⟩⟩⟩,hg,rfl,cp⟩;generalize W.setRow g (aj a C)=W0 at h0 ⊢;refine an (R:=[]) trivial {} 20 ?_;refine kS (λx:MV × MA × List Int × Option Addr × Nat × Nat=>[(4,.p (w.heap.size+1) 0,0),(6,.p g 0,1),(7,.slice x.2.2.2.1 x.2.2.1.length x.2.2.2.2.1,0),(27,.i (m:Nat),0),(28,.i (x.2.2.2.2.2:Nat),0)]) (Lp w g a m) m (a,C,[],none,0,0) ba ba h0 ?_;clear h0 hp;rintro j ⟨f,Q,xs,M,c,i⟩ W ⟨ej,pl,H,ln,N⟩ R hR;dsimp only at ej pl H ln N ⊢;have O:∀ (o:MV) (l:MA) (ys:List Int) (b:Option Addr) (d:Nat) (V:World),bj m a=(o,ys)->Pl w g o l ys b d V->Rk w (bj m a) (.returned (.tuple #[.agg (aj o l),.slice b ys.length d])) (V.setRow (w.heap.size+1) (aj o l)):=(by intro o l ys b d V e p;rw [e];have lo:=p.pm.lo;refine ⟨l,b,d,rfl,?_,eg (cG p.own ab) λk e=>setRow_other _ _ _ _ (by have:=(p.own.lt k e).1;omega),aR p.pm.bl ab _⟩;rw [setRow_size];exact (p.pm.fam.mono λk u I v=>setRow_other _ _ _ _ ab).low ab (Nat.le_refl _));cases j with
        | zero =>have q:decide ((i:Int)<(m:Int))=false:=ck;have e:bj m a=(f,xs):=(by rw [N];simp [bj]);exact jx (R:=[⟨g,aj f Q,[]⟩]) ⟨⟨_,_,pl.pm.row⟩,trivial⟩ {eq:=[(29,ak q)]} 60 pl.pm.out (by rfl) (cN _ _) underlying32 (O f Q xs M c W e pl)
        | succ j =>
          have q:decide ((i:Int)<(m:Int))=true:=ef;have sr:=AU f Q W H.1.len pl.pm.fam.msl ⟨H.1.mw,H.1.ux,H.1.pc,H.1.hd,H.2⟩ (hT.below pl.pm.bl);have g1:=H.step;have e1:bj (j+1) f=if ((cj f).2==4)=true then ((cj f).1,[(cj f).2]) else ((bj j (cj f).1).1,(cj f).2::(bj j (cj f).1).2):=rfl
          rw [e1] at N;clear e1;unfold NQ at sr;rw [if_pos H.1.ok] at sr;generalize cj f=V at sr g1 N;obtain ⟨o,k⟩:=V;dsimp only at sr g1 N;refine aN (R:=[⟨g,aj f Q,[]⟩]) ⟨⟨_,_,pl.pm.row⟩,trivial⟩ {eq:=[(29,ak q)]} 60 sr ?_;rintro e W1 ⟨l,rfl,f2,K⟩;refine ⟨_,0,rfl,?_⟩;have l2:=pl.step f2 K;have zc:(Value.agg (aj zeroM zeroA)).cells=aj zeroM zeroA:=rfl;refine jh (R:=[]) trivial {} 20 2 (dD (T:=32) (z:=.agg (aj zeroM zeroA)) ba W1) ?_;rw [zc];refine cq (R:=[]) trivial {} 20 (az (g:=W1.heap.size) (t:=32) (ty:=32) (old:=aj zeroM zeroA) (cells:=aj o l) (heap_alloc_new _ _) ba rfl (cN _ _)) ?_;have rg:((W1.alloc (.cells (aj zeroM zeroA) 32)).setRow W1.heap.size (aj o l)).heap[g]?=some (.cells (aj f Q) 32 (0,0)):=bq (aa K (aR (bal _ _) (Nat.le_refl _) _)) pl.pm.row;refine cq (R:=[⟨g,aj f Q,[]⟩,⟨W1.heap.size,aj o l,[]⟩]) ⟨⟨_,_,rg⟩,⟨_,_,setRow_heap _ _ _ _ _ _ (heap_alloc_new _ _)⟩,trivial⟩ {} 40 (az (g:=g) (t:=32) (ty:=32) (old:=aj f Q) (cells:=aj o l) rg ba rfl (cN _ _)) ?_;generalize ((W1.alloc (.cells (aj zeroM zeroA) 32)).setRow W1.heap.size (aj o l)).setRow g (aj o l)=y at l2 ⊢;refine jh (R:=[]) trivial {} 20 0 (Ia y k) ?_;obtain ⟨E,F,D,hr,l3⟩:=l2.push ab k;refine dF 0 hr ?_;have hlen:(xs++[k]).length=xs.length+1:=cp;cases hk:(k==4) with
          | true =>rw [hk,if_pos rfl] at N;exact jx (R:=[⟨g,aj o l,[]⟩]) ⟨⟨_,_,l3.pm.row⟩,trivial⟩ {eq:=[(41,ak hk)]} 60 l3.pm.out (by rfl) (cN _ _) underlying32 (O o l (xs++[k]) E F D N l3)
          | false =>rw [hk,if_neg bc] at N;have hw:IntKind.i64.wrap (((i:Nat):Int)+1)=((i+1:Nat):Int):=i6;exact oo (R:=[]) trivial {eq:=[(41,ak hk),(42,dG .i64 hw)]} 60 λb hb=>hR b D j (o,l,xs++[k],E,F,i+1) ab (hb.less ba) ⟨di,l3,g1,by dsimp only;rw [hlen];omega,by rw [N];simp⟩
       refine ae Bs.eng {cv:=[(11,fQ Z)],eq:=[(15,ak d1),(19,ak d2)]} 17 (Bs.start _ _) λW0 h0=>?_;refine af [.code (aq 2 (aL Tryz.f18))] [(1,.i (m:Nat),0),(2,.p w.heap.size 0,1),(4,.p (w.heap.size+1) 0,2)] ?_;refine an (R:=[]) trivial {} 1 ?_;refine it 1 ?_;have hcl:=λW (h:Bs w [(aj a n,32),(aj zeroM zeroA,32)] W)=>mR n.ar a.ram.length n.cr a.ram W rfl hl.ram (hs.below h.2).ram;have X:=λ(E:Option Addr) (F B:Nat) W (h:Bs w [(aj a n,32),(aj zeroM zeroA,32)] W) (hR:bA B W.heap.size W [aD E a.ram.length F a.ram]) (hB:B<=W.heap.size)=>pH a n a.ram E a.ram.length F B W hl (hs.below h.2) hR hB rfl;have s:=h0.below (Below.refl W0.heap.size W0).drew;have s0:=s.two;have al:∀ W:World,Bw W (W.alloc (.cells (aj zeroM zeroA) 32)):=λW=>bal _ _;have r:∀ W:World,(W.alloc (.cells (aj zeroM zeroA) 32)).heap.size=W.heap.size+1:=λW=>World.size_alloc _ _;have L:∀ W:World,_:=λ(W:World)=>dD (P:=prog) (T:=32) (z:=.agg (aj zeroM zeroA)) ba W;have zc:(Value.agg (aj zeroM zeroA)).cells=aj zeroM zeroA:=rfl;rw [zc] at L;have Y:∀ (g:Nat) (C:MA) (W:World),Pm w g (aj zeroM zeroA) a C W->_:=λg C W G=>az (P:=prog) (g:=g) (t:=32) (ty:=32) (old:=aj zeroM zeroA) (cells:=aj a C) G.row ba rfl (cN _ _);generalize W0.drew=W1 at s s0 ⊢;refine ae (nQ s) {} 3 rfl ?_;rintro _ rfl;rename_i W1;refine oE (i:=3) (j:=5) ?_ ?_
       ·refine nz (hcl _ s) ?_;rintro e y ⟨E,F,rfl,o2,K⟩;have I:=s.below K;have z2:=K.size;have f2:=uM o2 z2;refine ⟨_,0,rfl,I,?_⟩;refine oE (i:=4) (j:=5) ?_ ?_;·refine nz (X E F _ y I f2 z2) ?_;rintro e D ⟨C,_,_,rfl,U,n3,k3⟩;have v:=I.below k3;have z3:=k3.size;have J:=v.below (al D);have G:Pm w D.heap.size (aj zeroM zeroA) a C (D.alloc (.cells (aj zeroM zeroA) 32)):=⟨J.1 1 _ rfl,heap_alloc_new _ _,(U.below (al D)).low s0 (by rw [r];omega),λq hq e=>by have:=U.hi q hq _ e;omega,ab,J.2⟩;refine ⟨_,0,rfl,v,?_⟩;refine dF 0 (L D) (hS:=λ_=>J) ?_;refine ae (nQ J) {} 1 rfl ?_;rintro _ rfl;refine bM (Y _ C _ G) ?_;refine an (R:=[]) trivial {} 1 ?_;exact af _ _ (fin _ _ C _ G)
        ·have v:=I.below (al y);refine qN 0 (L y) v ?_;have U:=(f2.below (al y)).low (Nat.le_refl _) (show y.heap.size<=(y.alloc (.cells (aj zeroM zeroA) 32)).heap.size by rw [r];omega);refine ju (X E F _ _ v U (by rw [r];omega)) ?_;rintro e W4 ⟨C,_,_,rfl,f4,n4,k4⟩;have J:=v.below k4;have G:Pm w y.heap.size (aj zeroM zeroA) a C W4:=by
          refine ⟨J.1 1 _ rfl,bq k4 (heap_alloc_new _ _),f4.low s0 (Nat.le_refl _),λq hq e=>?_,ab,J.2⟩;rcases n4 q hq _ e with A | A;·rw [r] at A;omega
          ·have:=(o2.lt _ A).2;omega
         refine ⟨_,0,rfl,λ_=>J,?_⟩;refine ae (nQ J) {} 1 rfl ?_;rintro _ rfl;refine bM (Y _ C _ G) ?_;refine an (R:=[]) trivial {} 1 ?_;exact af _ _ (fin _ _ C _ G)
       ·have u:=s.below (al W1);refine qN 0 (L W1) u ?_;refine ju (hcl _ u) ?_;rintro e y ⟨E,F,rfl,o2,K⟩;have I:=u.below K;have z2:=K.size;have f2:=uM o2 z2;refine ⟨_,0,rfl,λ_=>I,?_⟩;refine ju (X E F _ y I f2 z2) ?_;rintro e D ⟨C,_,_,rfl,U,n3,k3⟩;have v:=I.below k3;rw [r] at z2;have G:Pm w W1.heap.size (aj zeroM zeroA) a C D:=(by refine ⟨v.1 1 _ rfl,bq k3 (bq K (heap_alloc_new _ _)),U.low (by rw [r];omega) (Nat.le_refl _),λq hq e=>?_,ab,v.2⟩;have:=((U.own q hq).lt _ e).1;rw [r] at this;omega);refine ⟨_,0,rfl,λ_=>v,?_⟩;refine ae (nQ v) {} 1 rfl ?_;rintro _ rfl;refine bM (Y _ C _ G) ?_;refine an (R:=[]) trivial {} 1 ?_;exact af _ _ (fin _ _ C _ G)
theorem xm:∀ (n:Nat) (M:MV) (i:Nat),i+1<(bj n M).2.length->(bj n M).2.getD i 0≠4
 | 0,M,i,h=>absurd h (by simp [bj])
 | n+1,M,i,h=>by
   unfold bj at h ⊢
   by_cases a:((cj M).2==4)=true
   ·rw [if_pos a] at h
    simp at h
   ·rw [if_neg a] at h ⊢
    cases i with
    | zero=>simpa using a
    | succ i =>
      have:=xm n (cj M).1 i el
      simpa using this
theorem qp:∀ (n k:Nat) (M:MV),k<=n->(∀ i,i<(bj n M).2.length->(bj n M).2.getD i 0≠4)->(bj n M).2.length=n/\bj n M=((bj (n-k) (bj k M).1).1,(bj k M).2++(bj (n-k) (bj k M).1).2)
 | 0,k,M,hk,h=>by
   obtain rfl:k=0:=ab
   simp [bj]
 | n+1,k,M,hk,h=>by
   have e:bj (n+1) M=if ((cj M).2==4)=true then ((cj M).1,[(cj M).2]) else ((bj n (cj M).1).1,(cj M).2::(bj n (cj M).1).2):=rfl
   have a:¬ ((cj M).2==4)=true:=λa=>by
    rw [e,if_pos a] at h
    have:=h 0 cp
    simp at a
    simp [a] at this
   rw [if_neg a] at e
   rw [e] at h ⊢
   dsimp only at h ⊢
   have f:∀ i,i<(bj n (cj M).1).2.length->(bj n (cj M).1).2.getD i 0≠4:=λi m=>by simpa using h (i+1) (by simpa using m)
   cases k with
   | zero =>
     obtain ⟨b,_⟩:=qp n 0 (cj M).1 ab f
     refine ⟨by simp [b],?_⟩
     show _=((bj (n+1) M).1,[]++(bj (n+1) M).2)
     rw [e]
     rfl
   | succ k =>
     obtain ⟨b,g⟩:=qp n k (cj M).1 ab f
     refine ⟨by simp [b],?_⟩
     have j:bj (k+1) M=((bj k (cj M).1).1,(cj M).2::(bj k (cj M).1).2):=by
      show (if ((cj M).2==4)=true then _ else _)=_
      rw [if_neg a]
     rw [j]
     have l:n+1-(k+1)=n-k:=ab
     rw [l]
     dsimp only
     have c:=congrArg Prod.fst g
     have d:=congrArg Prod.snd g
     dsimp only at c d
     rw [<- c]
     show _=(_,(cj M).2::((bj k (cj M).1).2++(bj (n-k) (bj k (cj M).1).1).2))
     rw [<- d]
theorem Ik {xs:World} {b:Option Addr} {c d:Nat} {ys:List Int} (h:xs.ownsRow M 2 1 (.slice A W.length c) W.length (W.map (Value.int .i64))) (hb:b=none/\d=0/\ys=[]\/∃ g,b=some ⟨g,0,none⟩) (hs:Sl .i64 xs b ys) (hz:M<=xs.heap.size) (hn:W.length+ys.length<=1000000): ∃ (f:Option Addr) (i:Nat) (k:World),(zf 39 (.slice A W.length c) (.slice b ys.length d)).run prog xs=.ok (.value (.slice f (W++ys).length i)) k/\k.ownsRow M 2 1 (.slice f (W++ys).length i) (W++ys).length ((W++ys).map (Value.int .i64))/\xs.grownBy k (Value.slice A W.length c).ownBlock:=by
 obtain ⟨s,q,e⟩:=Option.map_eq_some_iff.1 pe
 simp only [Prod.mk.injEq] at e
 obtain ⟨l,e2,e3⟩:=e
 rcases hb with ⟨rfl,rfl,rfl⟩|⟨g,rfl⟩
 ·refine ⟨A,c,xs,sN ?_,el,lw _ _⟩
  have:=run_append_owned_none (P:=prog) (w:=xs) M 39 39 2 s 1 underlying39 q _ _ _ h
  simpa using this
 ·obtain ⟨v,k,D,p,B,_⟩:=run_append_own (P:=prog) xs M 39 39 2 s (.i 0) 1 8 underlying39 q l e2 e3 rfl bc _ W.length _ h ⟨g,0,none⟩ ys.length d (ys.map (Value.int .i64)) cp (λj u m=>by
   rw [List.getElem?_map] at m
   obtain ⟨x,E,rfl⟩:=Option.map_eq_some_iff.1 m
   obtain ⟨r,rfl⟩:=List.getElem?_eq_some_iff.1 E
   obtain ⟨F,G,y,_,C⟩:=hs j r
   cases y
   have a:(⟨g,0,none⟩:Addr).add j=⟨g,0+j,none⟩:=by cases j<;>simp [Addr.add]
   rw [a]
   simpa [List.getD,List.getElem?_eq_getElem r] using C) (λu m=>by obtain ⟨x,_,rfl⟩:=List.mem_map.1 m;rfl) et ab hz
  have n:∃ f i,v=.slice f (W.length+ys.length) i:=by
   rcases p.2 with ⟨l,z⟩|⟨g,cap,t,l,_⟩
   ·exact ⟨none,0,by rw [l,z]⟩
   ·exact ⟨_,_,l⟩
  obtain ⟨f,i,rfl⟩:=n
  have o:(W++ys).length=W.length+ys.length:=cp
  refine ⟨f,i,k,sN (by rw [o];exact D),?_,B⟩
  rw [o,List.map_append]
  exact p
end Go.Proofs.YtfagphfjfhpmjaaGreatDoor
