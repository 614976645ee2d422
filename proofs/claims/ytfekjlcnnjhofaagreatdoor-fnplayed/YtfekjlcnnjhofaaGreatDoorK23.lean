/- Own lemmas. -/
import Derived.Test.YtfekjlcnnjhofaaGreatDoorAut
import Derived.Test.YtfekjlcnnjhofaaGreatDoorK21
import Derived.Test.YtfekjlcnnjhofaaGreatDoorK22
set_option maxRecDepth 100000
namespace Go.Proofs.YtfekjlcnnjhofaaGreatDoor
open Go.RowKit Tryz
open Below renaming heap_setCell->I2,refl->I3
open Go renaming heap_alloc_new->C6,World->D1,setRow_other->D2,setRow_heap->D3,setRow_size->D4,bodyPost->D8,Addr->F0,Calls->F3,Value->G1,bits->H8
open Instr renaming storeAt->N1,sureAddr->O1,build->P2
open Int renaming toNat_natCast->I4,eq_ofNat_of_zero_le->I5
open Nat renaming le_refl->A5,le_of_ble_eq_true->A6,lt_of_lt_of_le->A8,add_zero->A9,le_trans->C5
open Value renaming agg->K0,int->K1,oneCell'->L0,slice->L6
open World renaming size_alloc->R4
open _root_.Array renaming getElem?_eq_some_iff->I1
set_option linter.unusedVariables false
variable {w M:D1} {W g:Nat} {C:MV} {a:MA} {A:Option F0} {c:List Int} {n:Array G1} (B:MV) (l:MA) (D:D1)
def SR (B g:Nat) (w0:D1) (V:MV × Int) (e:Ending) (w':D1):Prop:=e=.returned (.i V.2)/\∃ A' t',Tq B g w0 V.1 A' t' w'
theorem TT {A:MA} (h:Tq W g M C A tS w) (hg:Gd C) (hd:Ud C.d):F3 prog 123 #[.p g 0] w (SR W g M (ew C)):=by
 obtain ⟨I,hcs,hpr,_,_,_⟩:=aN hg.ok; -- what is raised is entered
 have up:∀ (S:D1->Prop) (N:MV) (w0:MA) (f:TV) (k:Nat) (B:D1),Tq W g M N w0 f B->Gd N->f.up->f.cz=k->k<16->Wg prog S (D8 prog Tryz.f123 (SR W g M (aR N k false f.vl,2))) Tryz.f123.ntmps [.code (au 6 (aM Tryz.f123))] [(0,.p g 0,1)] B:=by intro S N w0 f k B d gN l m u;refine aL (Tq W g M N w0 f) ?_;refine ae (Tq.eng (dr:=false)) {eq:=[(61,an l)]} 40 d λW1 h1=>?_;refine lN 11 ?_;refine aT (Tq.eng (dr:=true)) {eq:=[(68,cR .i64 m)]} 60 (h1.below (I3 _ _).drew) (λB d=>ID d gN k u false f.vl) ?_;rintro W2 e W3 H ⟨rfl,C2,J⟩;refine ⟨_,0,rfl,gi ba,?_⟩;exact jm (R:=[]) (t:=2) (v:=.i 2) trivial {} 40 ⟨rfl,C2,f,J⟩
 -- fs a performance
 have tail:∀ (S:D1->Prop) (cf:Bool) (i:Ins) (V:MV × Int) (N:MV) (w0:MA) (f:TV) (B:D1),jT i->cf=decide (87<=i.op/\i.op<=92)->Pf cf V i N f->Tq W g M N w0 f B->Wg prog S (D8 prog Tryz.f123 (SR W g M V)) Tryz.f123.ntmps [.code (au 6 (aM Tryz.f123))] [(0,.p g 0,1)] B:=by
  intro S cf i V N w0 f B Q hcf o d;cases l:f.up with
  | true =>obtain ⟨k,u,m⟩:=o.c l;have e:=o.e;rw [iM l m] at e;rw [<- e];exact up S N w0 f k B d o.g l m u
  | false =>have hfo:Fo cf f.fm:=(by rw [o.fm,hcf];exact DM i.op);have s:=λB (d:Tq W g M N w0 f B)=>OC hfo d o.g (by rw [o.rd];exact Q.rd0) (by rw [o.rd];exact Q.rd31) l;have e2:V.2=1:=(by rw [<- o.e];unfold ut;rw [l];rfl);rw [o.e] at s;unfold SR;rw [e2];generalize V.1=V1 at *;refine aL (Tq W g M N w0 f) ?_;refine aT (Tq.eng (dr:=true)) {eq:=[(61,an l)]} 60 d s ?_;rintro W2 e W3 H ⟨rfl,J⟩;refine ⟨_,0,rfl,gi ba,?_⟩;exact jm (R:=[]) (t:=2) (v:=.i 1) trivial {} 40 ⟨rfl,w0,f,J⟩
 have fin:∀ (S:D1->Prop) (B:D1),Tq W g M C A tS B->(C.wt&&(kv C.cs==0))=false->Wg prog S (D8 prog Tryz.f123 (SR W g M (ew C))) Tryz.f123.ntmps [.code (au 2 (aM Tryz.f123))] [(0,.p g 0,1)] B:=by
  intro S B d hn;have eV:ew C=if 0<=fS C.cs C.pr then (aR (gD C false) (fS C.cs C.pr).toNat true 0,3) else (let q:=aH (gD C false) C.pc 4 1 0;if (q.2.2 != 0)=true then cH q 0 q.2.1.pc else match Cc q.1 with | none=>(aR q.2.1 2 false q.1,2) | some i=>dg q.2.1 i q.1):=by unfold ew;rw [hn,JZ9 bc];rfl
  rw [eV];clear eV;have F:=hg.wait false;have Y:fS C.cs C.pr=fS (gD C false).cs (gD C false).pr:=rfl;have U:C.pc=(gD C false).pc:=rfl;have z:Ud (gD C false).d:=hd;have Z:(gD C false).wt=false:=rfl;refine aL (λ_=>True) ?_;refine oJ (R1:=[⟨g,bI (gD C false) A tS,[]⟩]) (Iv.one d.row) {} 8 λW1 h1=>?_;have H:=d.iv h1 rfl;refine af [.code (au 3 (aM Tryz.f123))] [(0,.p g 0,1)] ?_;rw [Y,U];generalize gD C false=N at F H z Z ⊢;clear Y U h1;have r:=λB (d:Tq W g M N A tS B)=>uw A.ac N.cs.length A.cc N.cs N.pr B rfl d.sl.cs F.mw.cs;have T:uW N.cs.length N.cs N.pr=fS N.cs N.pr:=(by unfold uW;rw [(db F.ok).2.2.1]);rw [T] at r;clear T;refine aL (Tq W g M N A tS) ?_;by_cases e:0<=fS N.cs N.pr;·obtain ⟨k,k16,u⟩:=AQ _ _ e;have q:decide (0<=((k:Nat):Int)):=ek;rw [JZ8 e,u,I4];rw [u] at r;refine aT (Tq.eng (dr:=true)) {eq:=[(43,an q)],cv:=[(41,O0 r)]} 60 H (λB d=>ID d F k k16 true 0) ?_;rintro W3 e W4 J ⟨rfl,C2,n⟩;refine ⟨_,0,rfl,gi ba,?_⟩;exact jm (R:=[]) (t:=2) (v:=.i 3) trivial {} 40 ⟨rfl,C2,tS,n⟩
  ·have q:decide (0<=fS N.cs N.pr)=false:=(by rw [JZ7];exact e);rw [JZ9 e];generalize fS N.cs N.pr=pv at *;have P:=λB (d:Tq W g M N A tS B)=>QX d F z;have ga:=F.acc N.pc 4 1 0;have da:=AM z N.pc 4 1 me;have wa:=(jc N N.pc 4 1 0).2.2.2;have pa:=(jc N N.pc 4 1 0).1;have ec:=λc=>kq (M:=N) (addr:=N.pc) (size:=4) (kind:=1) (x:=0) (c:=c);rw [Z] at wa;unfold TQ at P;generalize aH N N.pc 4 1 0=X at *;obtain ⟨y,E,c⟩:=X;dsimp only at *;rw [pa];refine aT (Tq.eng (dr:=true)) {eq:=[(43,an q)],cv:=[(41,O0 r)]} 60 H P ?_;rintro W3 e W4 J ⟨rfl,w0,n⟩;refine ⟨_,0,rfl,gi ba,?_⟩;refine aj (R:=[]) trivial {} 1 ?_;refine af [.code (au 5 (aM Tryz.f123))] [(0,.p g 0,1)] ?_;have skip:∀ (S:D1->Prop) (f:TV) (k:Nat),Tq W g M E w0 f W4->f.up->f.cz=k->k<16->Wg prog S (D8 prog Tryz.f123 (SR W g M (aR E k false f.vl,2))) Tryz.f123.ntmps [.code (au 5 (aM Tryz.f123))] [(0,.p g 0,1)] W4:=(by intro S f k d l m u;refine aL (Tq W g M E w0 f) ?_;refine ae (Tq.eng (dr:=false)) {eq:=[(54,an l)]} 11 d λW5 h5=>?_;exact af _ _ (up _ E w0 f k W5 h5 ga l m u));cases O:(c != 0) with
   | true =>rw [O,JZ8 rfl] at n;rw [JZ8 rfl];unfold nU at n;dsimp only at n;rw [O,JZ8 rfl,(ec c rfl O).1] at n;exact skip _ _ (c-16).toNat n rfl rfl (ec c rfl O).2
   | false =>
     rw [O,JZ9 bc] at n;rw [JZ9 bc];cases he:Cc y with
     | none =>simp only [he] at n ⊢;exact skip _ _ 2 n rfl rfl bc
     | some i =>simp only [he] at n ⊢;have Q:=Az he;refine aL (Tq W g M E w0 (t0 E i y)) ?_;refine aT (Tq.eng (dr:=true)) {} 60 n (λB d=>KH i y Q d ga da wa) ?_;rintro W5 e W6 h5 ⟨rfl,N3,D,t3,o,h6⟩;refine ⟨_,0,rfl,gi ba,?_⟩;refine aj (R:=[]) trivial {} 1 ?_;exact af _ _ (tail _ _ i _ N3 D t3 W6 Q rfl o h6)
 obtain ⟨b,K,hne,_⟩:=h.atC I;have cc:∀ (j:Nat),j<22->∀ B,Tq W g M C A tS B->B.cell? ⟨b,j,none⟩=some (.u (C.cs.getD j 0)):=λj hj B d=>by obtain ⟨b',L,_,p⟩:=d.atC I;rw [K] at L;cases L;exact (p j hj).1
 refine br (S:=Tq W g M C A tS) (args:=[.p g 0]) [] func123 ?_;refine aP 0 1 ?_;cases G:C.wt with
 | true =>
   cases hz:(kv C.cs==0) with
   | true =>have eV:ew C=(C,4):=(by unfold ew;rw [G,hz,JZ8 bc]);rw [eV];exact bn (t:=2) (v:=.i 4) (Tq.eng (dr:=true)) {eq:=[(8,an G),(25,an hz)],ov:=[(15,kW C.cs.length A.cc .i64 9 K ⟨ab,ab⟩ underlying25 ba),(16,iP ⟨b,0+(9:Int).toNat,none⟩ (.u (C.cs.getD 9 0)) underlying24 rfl (cc 9 ab)),(22,kW C.cs.length A.cc .i64 3 K ⟨ab,ab⟩ underlying25 ba),(23,iP ⟨b,0+(3:Int).toNat,none⟩ (.u (C.cs.getD 3 0)) underlying24 rfl (cc 3 ab))]} 60 h λB d=>⟨rfl,A,tS,d⟩
   | false =>refine ae (Tq.eng (dr:=true)) {eq:=[(8,an G),(25,an hz)],ov:=[(15,kW C.cs.length A.cc .i64 9 K ⟨ab,ab⟩ underlying25 ba),(16,iP ⟨b,0+(9:Int).toNat,none⟩ (.u (C.cs.getD 9 0)) underlying24 rfl (cc 9 ab)),(22,kW C.cs.length A.cc .i64 3 K ⟨ab,ab⟩ underlying25 ba),(23,iP ⟨b,0+(3:Int).toNat,none⟩ (.u (C.cs.getD 3 0)) underlying24 rfl (cc 3 ab))]} 29 h λB d=>?_;exact af _ _ (fin _ B d (by rw [G,hz];rfl))
 | false =>refine ae (Tq.eng (dr:=true)) {eq:=[(8,an G)]} 29 h λB d=>?_;exact af _ _ (fin _ B d (by rw [G];rfl))
structure Pr (w:D1) (cs:Array G1) (g:Nat) (M:MV) (C:MA) (W:D1):Prop where
 b:Bs w [(cs,29),(ak zeroM zeroA,29)] W
 row:W.heap[g]?=some (.cells (bI zeroM zeroA ⟨.nilFunc,0,0,0,0,0,0,.nilIface,0,0,false,false,0,0⟩) 178 (0,0))
 fam:bj (w.heap.size+2) W.heap.size W (aF M C)
 ne:∀ q ∈ aF M C,q.v.ownBlock≠some g
 lo:w.heap.size+2<=g
theorem uK:(bI B l tS).all (·.oneCell'):=by unfold bI;kernel_rfl
theorem Bs.two (h:Bs w [(n,29),(ak zeroM zeroA,29)] M):w.heap.size+2<=M.heap.size:=by have:=(I1.1 (h.1 1 _ rfl)).1;omega
theorem jQ {P:Program} {fn:Func} {Rs:Ending->D1->Prop} {bs:List (Array G1 × TypeId)} (h:Bs w bs M):n6 P (Bs w bs) (λx=>x=M) (lH w.heap.size bs) false (D8 P fn Rs):=
 ⟨λ_ e=>e ▸ h,(Bs.eng (P:=P) (fn:=fn) (Rs:=Rs)).rows,(λh=>ni),cD⟩
theorem OE:(do pure (.value (<- P2 178 #[(0,.agg (ak (uo B B.ram) l)),(1,.func (.func 122) #[] #[])])):Sem Next).run prog D=.ok (.value (.agg (bI B l tS))) D:=by kernel_rfl
theorem pM {c':Nat} (o:w.ownsRow W 5 1 (.slice A g c') g (c.map (K1 .u8))) (b:W<=w.heap.size):bj W w.heap.size w [aE A g c' c]:=(bj.nil W W w).cons (aE A g c' c) W w.heap.size o (A5 _) (A5 _) (A5 _) b
theorem Bd (hl:iR B) (hs:oe D B l) (hf:RS B) (hT:pu D):F3 prog 111 #[.agg (ak B l)] D (mQ D (Od B)):=by
 have U:=λW (hb:Bw D W)=>dZ B l W hl (hs.below hb) hf.mw.cs;unfold Od;refine br (S:=Bs D [(ak B l,29),(ak zeroM zeroA,29)]) (args:=[.agg (ak B l)]) [(ak B l,29),(ak zeroM zeroA,29)] func111 ?_;cases ok:dJ B with
 | false =>rw [ok] at U;rw [JZ9 bc];refine ae Bs.eng {cv:=[(7,fM U)]} 40 (Bs.start _ _) λW1 u=>?_;refine bE (av (g:=D.heap.size+1) (old:=ak zeroM zeroA) (cells:=ak zeroM zeroA) (t:=29) (ty:=29) (u.1 1 _ rfl) ba rfl (bO _ _)) ?_;refine ix (R:=[]) trivial {} 40 λa H=>⟨.tuple #[.agg (ak zeroM zeroA),.i 0],zE H rfl ba ba (D3 _ _ _ _ _ _ (u.1 1 _ rfl)) underlying29 rfl ba,zeroA,rfl,gC _ _ _,aI u.2 ab _⟩
 | true =>
   rw [ok] at U;rw [JZ8 rfl];have hg:=hf.gd ok;have O:=λ(M g:Nat) (w0 W:D1) (C:MA) (h:Tq M g w0 B C tS W)=>TT h hg hf.ud;generalize ew B=V at O ⊢;have hGw:=hT.lt;have fin:∀ (S:D1->Prop) (g:Nat) (C:MA) (W:D1),Pr D (ak B l) g B C W->Wg prog S (D8 prog Tryz.f111 (mQ D V)) Tryz.f111.ntmps [.code (au 3 (aM Tryz.f111))] [(2,.p (D.heap.size+1) 0,0),(4,.p g 0,1)] (W.setRow g (bI B C tS)):=by
    intro S g C W v;have hlo:=v.lo;have y:Bw D (W.setRow g (bI B C tS)):=aI v.b.2 ab _;have r1:(W.setRow g (bI B C tS)).heap[D.heap.size+1]?=some (.cells (ak zeroM zeroA) 29 (0,0)):=(D2 _ _ _ _ ab).trans (v.b.1 1 _ rfl);have q0:Tq (D.heap.size+2) g (W.setRow g (bI B C tS)) B C tS (W.setRow g (bI B C tS)):=by
     refine ⟨⟨_,D3 _ _ _ _ _ _ v.row⟩,?_,v.ne,?_,rfl,rfl,rfl,A5 _,λ_ _ _=>rfl,hT.below y,ab,ab⟩;·rw [D4];exact v.fam.other λq I k e=>D2 _ _ _ _ (λe2=>v.ne q I (by rw [e,e2]))
     ·rw [D4];exact v.b.two
    generalize W.setRow g (bI B C tS)=W1 at y r1 q0 ⊢;refine aC (R:=[]) trivial {} 40 (O _ _ _ _ C q0) ?_;rintro e c ⟨rfl,w,tx,J⟩;refine ⟨_,0,rfl,?_⟩;have s:∀ k,k<D.heap.size+2->c.heap[k]?=W1.heap[k]?:=λk H=>J.block k H ab;have b2:Bw D c:=⟨J.os.trans y.os,J.tape.trans y.tape,J.output.trans y.output,C5 y.size J.size,λk H=>(s k ab).trans (y.block k H)⟩;have r2:c.heap[D.heap.size+1]?=some (.cells (ak zeroM zeroA) 29 (0,0)):=(s _ ab).trans r1;refine aP 4 1 ?_;refine bx (R:=[⟨g,bI V.1 w tx,[]⟩]) ⟨J.row.in_,trivial⟩ {} 40 (av (g:=D.heap.size+1) (t:=29) (ty:=29) (old:=ak zeroM zeroA) (cells:=ak V.1 w) r2 ba rfl (bO _ _)) ?_;refine ix (R:=[]) trivial {} 40 λa H=>⟨.tuple #[.agg (ak V.1 w),.i V.2],zE H rfl ba ba (D3 _ _ _ _ _ _ r2) underlying29 rfl ba,w,rfl,?_,aI b2 ab _⟩;refine bj.low (B:=D.heap.size+2) ?_ ab (A5 _);rw [D4];exact J.fam.mono λk u p f=>D2 _ _ _ _ ab
   refine ae Bs.eng {cv:=[(7,fM U)]} 9 (Bs.start _ _) λZ h0=>?_;refine af [.code (au 2 (aM Tryz.f111))] [(1,.p D.heap.size 0,1),(2,.p (D.heap.size+1) 0,2)] ?_;refine aj (R:=[]) trivial {} 1 ?_;refine fV 1 ?_;have N:=λW (h:Bs D [(ak B l,29),(ak zeroM zeroA,29)] W)=>jY l.ar B.ram.length l.cr B.ram W rfl hl.ram (hs.below h.2).ram;have G:=λ(x:Option F0) (E M:Nat) W (h:Bs D [(ak B l,29),(ak zeroM zeroA,29)] W) (hR:bj M W.heap.size W [aE x B.ram.length E B.ram]) (hB:M<=W.heap.size)=>ng B l B.ram x B.ram.length E M W hl (hs.below h.2) hR hB rfl;have d:=h0.below (I3 Z.heap.size Z).drew;have s0:=d.two;have L:∀ W:D1,Bw W (W.alloc (.cells (bI zeroM zeroA ⟨.nilFunc,0,0,0,0,0,0,.nilIface,0,0,false,false,0,0⟩) 178)):=λW=>bal _ _;have b:∀ W:D1,(W.alloc (.cells (bI zeroM zeroA ⟨.nilFunc,0,0,0,0,0,0,.nilIface,0,0,false,false,0,0⟩) 178)).heap.size=W.heap.size+1:=λW=>R4 _ _;have m:=λ(W:D1)=>ct (P:=prog) (T:=178) (z:=.agg (bI zeroM zeroA ⟨.nilFunc,0,0,0,0,0,0,.nilIface,0,0,false,false,0,0⟩)) ba W;have zc:(K0 (bI zeroM zeroA ⟨.nilFunc,0,0,0,0,0,0,.nilIface,0,0,false,false,0,0⟩)).cells=(bI zeroM zeroA ⟨.nilFunc,0,0,0,0,0,0,.nilIface,0,0,false,false,0,0⟩):=rfl;rw [zc] at m;generalize Z.drew=W1 at d s0 ⊢;refine ae (jQ d) {} 3 rfl ?_;rintro _ rfl;rename_i W1;refine kN (i:=3) (j:=6) ?_ ?_
   ·refine kl (N _ d) ?_;rintro e c ⟨x,E,rfl,Y,s⟩;have p:=d.below s;have K:=s.size;have X:=pM Y K;refine ⟨_,0,rfl,p,?_⟩;refine kN (i:=4) (j:=6) ?_ ?_
    ·refine kl (G x E _ c p X K) ?_;rintro e A ⟨C,_,_,rfl,F,n3,Q⟩;have f:=p.below Q;have z3:=Q.size;have r:=f.below (L A);have o:Pr D (ak B l) A.heap.size B C (A.alloc (.cells (bI zeroM zeroA ⟨.nilFunc,0,0,0,0,0,0,.nilIface,0,0,false,false,0,0⟩) 178)):=⟨r,C6 _ _,(F.below (L A)).low s0 (by rw [b];omega),λq I e=>by have:=F.hi q I _ e;omega,ab⟩;refine ⟨_,0,rfl,f,?_⟩;refine kN (i:=5) (j:=6) ?_ ?_;·refine mt 0 (OE B C A) f ?_;refine dt 0 (m A) (hS:=λ_=>r) ?_;refine ae (jQ r) {} 1 rfl ?_;rintro _ rfl;refine bE (av (g:=A.heap.size) (t:=178) (ty:=178) (old:=(bI zeroM zeroA ⟨.nilFunc,0,0,0,0,0,0,.nilIface,0,0,false,false,0,0⟩)) (cells:=bI B C tS) o.row ba rfl (uK _ _)) ?_;refine aj (R:=[]) trivial {} 1 ?_;exact af _ _ (fin _ _ C _ o)
     ·refine mt 0 (m A) r ?_;refine ae (jQ r) {} 2 rfl ?_;rintro _ rfl;refine bE (av (g:=A.heap.size) (t:=178) (ty:=178) (old:=(bI zeroM zeroA ⟨.nilFunc,0,0,0,0,0,0,.nilIface,0,0,false,false,0,0⟩)) (cells:=bI B C tS) o.row ba rfl (uK _ _)) ?_;refine aj (R:=[]) trivial {} 1 ?_;exact af _ _ (fin _ _ C _ o)
    ·have f:=p.below (L c);refine mt 0 (m c) f ?_;have F:=(X.below (L c)).low (A5 _) (show c.heap.size<=(c.alloc (.cells (bI zeroM zeroA ⟨.nilFunc,0,0,0,0,0,0,.nilIface,0,0,false,false,0,0⟩) 178)).heap.size by rw [b];omega);refine io (G x E _ _ f F (by rw [b];omega)) ?_;rintro e W4 ⟨C,_,_,rfl,f4,n4,k4⟩;have r:=f.below k4;have o:Pr D (ak B l) c.heap.size B C W4:=by
      refine ⟨r,aD k4 (C6 _ _),f4.low s0 (A5 _),λq I e=>?_,ab⟩;rcases n4 q I _ e with n | n;·rw [b] at n;omega
      ·have:=(Y.lt _ n).2;omega
     refine ⟨_,0,rfl,λ_=>r,?_⟩;refine ae (jQ r) {} 2 rfl ?_;rintro _ rfl;refine bE (av (g:=c.heap.size) (t:=178) (ty:=178) (old:=(bI zeroM zeroA ⟨.nilFunc,0,0,0,0,0,0,.nilIface,0,0,false,false,0,0⟩)) (cells:=bI B C tS) o.row ba rfl (uK _ _)) ?_;refine aj (R:=[]) trivial {} 1 ?_;exact af _ _ (fin _ _ C _ o)
   ·have u:=d.below (L W1);refine mt 0 (m W1) u ?_;refine io (N _ u) ?_;rintro e c ⟨x,E,rfl,Y,s⟩;have p:=u.below s;have K:=s.size;have X:=pM Y K;refine ⟨_,0,rfl,λ_=>p,?_⟩;refine io (G x E _ c p X K) ?_;rintro e A ⟨C,_,_,rfl,F,n3,Q⟩;have f:=p.below Q;rw [b] at K;have o:Pr D (ak B l) W1.heap.size B C A:=(by refine ⟨f,aD Q (aD s (C6 _ _)),F.low (by rw [b];omega) (A5 _),λq I e=>?_,ab⟩;have:=((F.own q I).lt _ e).1;rw [b] at this;omega);refine ⟨_,0,rfl,λ_=>f,?_⟩;refine ae (jQ f) {} 2 rfl ?_;rintro _ rfl;refine bE (av (g:=W1.heap.size) (t:=178) (ty:=178) (old:=(bI zeroM zeroA ⟨.nilFunc,0,0,0,0,0,0,.nilIface,0,0,false,false,0,0⟩)) (cells:=bI B C tS) o.row ba rfl (uK _ _)) ?_;refine aj (R:=[]) trivial {} 1 ?_;exact af _ _ (fin _ _ C _ o)
structure Pm (w:D1) (g:Nat) (cs:Array G1) (M:MV) (C:MA) (W:D1):Prop where
 out:W.heap[w.heap.size+1]?=some (.cells (ak zeroM zeroA) 29 (0,0))
 row:W.heap[g]?=some (.cells cs 29 (0,0))
 fam:bj (w.heap.size+2) W.heap.size W (aF M C)
 ne:∀ q ∈ aF M C,q.v.ownBlock≠some g
 lo:w.heap.size+2<=g
 bl:Bw w W
structure Pl (w:D1) (g:Nat) (M:MV) (C:MA) (xs:List Int) (a:Option F0) (c:Nat) (W:D1):Prop where
 pm:Pm w g (ak M C) M C W
 own:W.ownsRow (w.heap.size+2) 2 1 (.slice a xs.length c) xs.length (xs.map (K1 .i64))
theorem Pm.put (h:Pm w g n C a M) (d:Array G1):Pm w g d C a (M.setRow g d):=by have:=h.lo;refine ⟨(D2 _ _ _ _ ab).trans h.out,D3 _ _ _ _ _ _ h.row,?_,h.ne,h.lo,aI h.bl ab _⟩;rw [D4];exact h.fam.other λq cs k e=>D2 _ _ _ _ (λe2=>h.ne q cs (by rw [e,e2]))
theorem Pl.far (h:Pl w g C a c A W M) {k:Nat} (e:(L6 A c.length W).ownBlock=some k):k≠g:=by
 rintro rfl;rcases h.own.2 with ⟨d,_⟩|⟨b,cap,f,d,_,e3,_⟩;·rw [d] at e;cases e
 ·rw [d] at e;cases e;rw [h.pm.row] at e3;injection e3 with e3
  injection e3 with _ e4
  exact absurd e4 bc
theorem Pl.step {W1:D1} {N:MV} {D:MA} (h:Pl w g C a c A W M) (f:bj M.heap.size W1.heap.size W1 (aF N D)) (k:Bw M W1):Pl w g N D c A W (((W1.alloc (.cells (ak zeroM zeroA) 29)).setRow W1.heap.size (ak N D)).setRow g (ak N D)):=by have d:Bw W1 ((W1.alloc (.cells (ak zeroM zeroA) 29)).setRow W1.heap.size (ak N D)):=aI (bal _ _) (A5 _) _;have b:=aa k d;have l:=(I1.1 h.pm.row).1;have p:Pm w g (ak C a) N D ((W1.alloc (.cells (ak zeroM zeroA) 29)).setRow W1.heap.size (ak N D)):=⟨aD b h.pm.out,aD b h.pm.row,(f.below d).low (by have:=h.pm.lo;omega) d.size,λq i e=>by have:=((f.own q i).lt _ e).1;omega,h.pm.lo,aa h.pm.bl b⟩;exact ⟨p.put _,dQ h.own λj e=>(D2 _ _ _ _ (h.far e)).trans (b.block j (h.own.lt j e).2)⟩
theorem Pl.push (h:Pl w g C a c A W M) (hn:c.length<=1000000) (x:Int):∃ (f:Option F0) (l:Nat) (d:D1),(xd 56 (.slice A c.length W) (.slice (some ⟨M.heap.size,0,none⟩) 1 1)).run prog (M.alloc (.cells #[.i x] 2))=.ok (.value (.slice f (c++[x]).length l)) d/\Pl w g C a (c++[x]) f l d:=by
 have t:=(I1.1 h.pm.row).1;have u:=h.pm.lo;obtain ⟨f,l,d,s,o,n,p,e2,e3,i⟩:=Dz h.own ab hn x;refine ⟨f,l,d,s,⟨(i _ ab λj b e=>?_).trans h.pm.out,(i _ t λj b e=>h.far b e).trans h.pm.row,?_,h.pm.ne,u,⟨p.trans h.pm.bl.os,e2.trans h.pm.bl.tape,e3.trans h.pm.bl.output,C5 h.pm.bl.size n,λk r=>(i k (by have:=h.pm.bl.size;omega) λj b e=>?_).trans (h.pm.bl.block k r)⟩⟩,o⟩;·have:=(h.own.lt j b).1;omega
 ·refine (h.pm.fam.other λq m k e=>i k ((h.pm.fam.own q m).lt k e).2 λj b e2=>?_).low (A5 _) n;exact qs h.own h.pm.fam b q m (by rw [e2];exact e)
 ·have:=(h.own.lt j b).1;omega
structure Lp (w:D1) (g:Nat) (M:MV) (n j:Nat) (x:MV × MA × List Int × Option F0 × Nat × Nat) (W:D1):Prop where
 ej:x.2.2.2.2.2+j=n
 pl:Pl w g x.1 x.2.1 x.2.2.1 x.2.2.2.1 x.2.2.2.2.1 W
 gw:Gw x.1
 ln:x.2.2.1.length=x.2.2.2.2.2
 st:cG n M=((cG j x.1).1,x.2.2.1++(cG j x.1).2)
theorem yf (n:Int) (w:D1) (hl:iR B) (hs:oe w B l) (hf:RS B) (hT:pu w):F3 prog 85 #[.agg (ak B l),.i n] w (V0 w (Ga B n)):=by
 have Z:=λW (hb:Bw w W)=>dZ B l W hl (hs.below hb) hf.mw.cs;unfold Ga;refine br (S:=Bs w [(ak B l,29),(ak zeroM zeroA,29)]) (args:=[.agg (ak B l),.i n]) [(ak B l,29),(ak zeroM zeroA,29)] func85 ?_;cases ok:dJ B with
 | false =>rw [ok] at Z;rw [JZ9 di];refine ae Bs.eng {cv:=[(11,fM Z)]} 40 (Bs.start _ _) λW1 u=>?_;exact a0y
 | true =>
   rw [ok] at Z;cases d1:decide (n<0) with
   | true =>have:=of_decide_eq_true d1;rw [JZ9 bv];refine ae Bs.eng {cv:=[(11,fM Z)],eq:=[(15,an d1)]} 40 (Bs.start _ _) λW1 u=>?_;exact a0y
   | false =>
     have n0:=of_decide_eq_false d1;cases d2:decide (300<n) with
     | true =>have:=of_decide_eq_true d2;rw [JZ9 bv];refine ae Bs.eng {cv:=[(11,fM Z)],eq:=[(15,an d1),(19,an d2)]} 40 (Bs.start _ _) λW1 u=>?_;exact a0y
     | false =>
       have n1:=of_decide_eq_false d2;rw [JZ8 bv];have hg:Gw B:=⟨hf.gd ok,hf.ud⟩;obtain ⟨m,rfl⟩:=I5 (show 0<=n by omega);rw [I4];have fin:∀ (S:D1->Prop) (g:Nat) (C:MA) (W:D1),Pm w g (ak zeroM zeroA) B C W->Wg prog S (D8 prog Tryz.f85 (V0 w (cG m B))) Tryz.f85.ntmps [.code (au 3 (aM Tryz.f85))] [(1,.i (m:Nat),0),(4,.p (w.heap.size+1) 0,0),(6,.p g 0,1)] (W.setRow g (ak B C)):=by
        intro S g C W hp;have h0:Lp w g B m m (B,C,[],none,0,0) (W.setRow g (ak B C)):=⟨di,⟨hp.put _,⟨rfl,.inl ⟨rfl,rfl⟩⟩⟩,hg,rfl,di⟩;generalize W.setRow g (ak B C)=W0 at h0 ⊢;refine aj (R:=[]) trivial {} 20 ?_;refine gJ (λx:MV × MA × List Int × Option F0 × Nat × Nat=>[(4,.p (w.heap.size+1) 0,0),(6,.p g 0,1),(7,.slice x.2.2.2.1 x.2.2.1.length x.2.2.2.2.1,0),(27,.i (m:Nat),0),(28,.i (x.2.2.2.2.2:Nat),0)]) (Lp w g B m) m (B,C,[],none,0,0) ba ba h0 ?_;clear h0 hp;rintro j ⟨f,Q,xs,a,c,i⟩ W ⟨ej,pl,H,ln,N⟩ R hR;dsimp only at ej pl H ln N ⊢;have O:∀ (o:MV) (A:MA) (ys:List Int) (b:Option F0) (d:Nat) (V:D1),cG m B=(o,ys)->Pl w g o A ys b d V->V0 w (cG m B) (.returned (.tuple #[.agg (ak o A),.slice b ys.length d])) (V.setRow (w.heap.size+1) (ak o A)):=(by intro o A ys b d V e p;rw [e];have lo:=p.pm.lo;refine ⟨A,b,d,rfl,?_,dQ (cQ p.own ab) λk e=>D2 _ _ _ _ (by have:=(p.own.lt k e).1;omega),aI p.pm.bl ab _⟩;rw [D4];exact (p.pm.fam.mono λk u I v=>D2 _ _ _ _ ab).low ab (A5 _));cases j with
        | zero =>have q:decide ((i:Int)<(m:Int))=false:=ck;have e:cG m B=(f,xs):=(by rw [N];simp [cG]);exact gK (R:=[⟨g,ak f Q,[]⟩]) ⟨⟨_,_,pl.pm.row⟩,trivial⟩ {eq:=[(29,an q)]} 60 pl.pm.out (by rfl) (bO _ _) underlying29 (O f Q xs a c W e pl)
        | succ j =>
          have q:decide ((i:Int)<(m:Int)):=ek;have sr:=Bd f Q W H.1.len pl.pm.fam.msl ⟨H.1.mw,H.1.ux,H.1.pc,H.1.hd,H.2⟩ (hT.below pl.pm.bl);have g1:=H.step;have e1:cG (j+1) f=if ((ew f).2==4)=true then ((ew f).1,[(ew f).2]) else ((cG j (ew f).1).1,(ew f).2::(cG j (ew f).1).2):=rfl
          rw [e1] at N;clear e1;unfold Od at sr;rw [JZ8 H.1.ok] at sr;generalize ew f=V at sr g1 N;obtain ⟨o,k⟩:=V;dsimp only at sr g1 N;refine aC (R:=[⟨g,ak f Q,[]⟩]) ⟨⟨_,_,pl.pm.row⟩,trivial⟩ {eq:=[(29,an q)]} 60 sr ?_;rintro e W1 ⟨A,rfl,f2,K⟩;refine ⟨_,0,rfl,?_⟩;have l2:=pl.step f2 K;have zc:(K0 (ak zeroM zeroA)).cells=ak zeroM zeroA:=rfl;refine gz (R:=[]) trivial {} 20 2 (ct (T:=29) (z:=.agg (ak zeroM zeroA)) ba W1) ?_;rw [zc];refine bx (R:=[]) trivial {} 20 (av (g:=W1.heap.size) (t:=29) (ty:=29) (old:=ak zeroM zeroA) (cells:=ak o A) (C6 _ _) ba rfl (bO _ _)) ?_;have rg:((W1.alloc (.cells (ak zeroM zeroA) 29)).setRow W1.heap.size (ak o A)).heap[g]?=some (.cells (ak f Q) 29 (0,0)):=aD (aa K (aI (bal _ _) (A5 _) _)) pl.pm.row;refine bx (R:=[⟨g,ak f Q,[]⟩,⟨W1.heap.size,ak o A,[]⟩]) ⟨⟨_,_,rg⟩,⟨_,_,D3 _ _ _ _ _ _ (C6 _ _)⟩,trivial⟩ {} 40 (av (g:=g) (t:=29) (ty:=29) (old:=ak f Q) (cells:=ak o A) rg ba rfl (bO _ _)) ?_;generalize ((W1.alloc (.cells (ak zeroM zeroA) 29)).setRow W1.heap.size (ak o A)).setRow g (ak o A)=y at l2 ⊢;refine gz (R:=[]) trivial {} 20 0 (Ip y k) ?_;obtain ⟨E,F,D,hr,l3⟩:=l2.push ab k;refine dt 0 hr ?_;have hlen:(xs++[k]).length=xs.length+1:=di;cases hk:(k==4) with
          | true =>rw [hk,JZ8 rfl] at N;exact gK (R:=[⟨g,ak o A,[]⟩]) ⟨⟨_,_,l3.pm.row⟩,trivial⟩ {eq:=[(41,an hk)]} 60 l3.pm.out (by rfl) (bO _ _) underlying29 (O o A (xs++[k]) E F D N l3)
          | false =>rw [hk,JZ9 bc] at N;have hw:IntKind.i64.wrap (((i:Nat):Int)+1)=((i+1:Nat):Int):=e8;exact dY (R:=[]) trivial {eq:=[(41,an hk),(42,cR .i64 hw)]} 60 λb hb=>hR b D j (o,A,xs++[k],E,F,i+1) ab (hb.less ba) ⟨cb,l3,g1,by dsimp only;rw [hlen];omega,by rw [N];simp⟩
       refine ae Bs.eng {cv:=[(11,fM Z)],eq:=[(15,an d1),(19,an d2)]} 17 (Bs.start _ _) λW0 h0=>?_;refine af [.code (au 2 (aM Tryz.f85))] [(1,.i (m:Nat),0),(2,.p w.heap.size 0,1),(4,.p (w.heap.size+1) 0,2)] ?_;refine aj (R:=[]) trivial {} 1 ?_;refine fV 1 ?_;have hcl:=λW (h:Bs w [(ak B l,29),(ak zeroM zeroA,29)] W)=>jY l.ar B.ram.length l.cr B.ram W rfl hl.ram (hs.below h.2).ram;have X:=λ(E:Option F0) (F M:Nat) W (h:Bs w [(ak B l,29),(ak zeroM zeroA,29)] W) (hR:bj M W.heap.size W [aE E B.ram.length F B.ram]) (hB:M<=W.heap.size)=>ng B l B.ram E B.ram.length F M W hl (hs.below h.2) hR hB rfl;have s:=h0.below (I3 W0.heap.size W0).drew;have s0:=s.two;have al:∀ W:D1,Bw W (W.alloc (.cells (ak zeroM zeroA) 29)):=λW=>bal _ _;have r:∀ W:D1,(W.alloc (.cells (ak zeroM zeroA) 29)).heap.size=W.heap.size+1:=λW=>R4 _ _;have L:∀ W:D1,_:=λ(W:D1)=>ct (P:=prog) (T:=29) (z:=.agg (ak zeroM zeroA)) ba W;have zc:(K0 (ak zeroM zeroA)).cells=ak zeroM zeroA:=rfl;rw [zc] at L;have Y:∀ (g:Nat) (C:MA) (W:D1),Pm w g (ak zeroM zeroA) B C W->_:=λg C W G=>av (P:=prog) (g:=g) (t:=29) (ty:=29) (old:=ak zeroM zeroA) (cells:=ak B C) G.row ba rfl (bO _ _);generalize W0.drew=W1 at s s0 ⊢;refine ae (jQ s) {} 3 rfl ?_;rintro _ rfl;rename_i W1;refine kN (i:=3) (j:=5) ?_ ?_
       ·refine kl (hcl _ s) ?_;rintro e y ⟨E,F,rfl,o2,K⟩;have I:=s.below K;have z2:=K.size;have f2:=pM o2 z2;refine ⟨_,0,rfl,I,?_⟩;refine kN (i:=4) (j:=5) ?_ ?_;·refine kl (X E F _ y I f2 z2) ?_;rintro e D ⟨C,_,_,rfl,U,n3,k3⟩;have v:=I.below k3;have z3:=k3.size;have J:=v.below (al D);have G:Pm w D.heap.size (ak zeroM zeroA) B C (D.alloc (.cells (ak zeroM zeroA) 29)):=⟨J.1 1 _ rfl,C6 _ _,(U.below (al D)).low s0 (by rw [r];omega),λq hq e=>by have:=U.hi q hq _ e;omega,ab,J.2⟩;refine ⟨_,0,rfl,v,?_⟩;refine dt 0 (L D) (hS:=λ_=>J) ?_;refine ae (jQ J) {} 1 rfl ?_;rintro _ rfl;refine bE (Y _ C _ G) ?_;refine aj (R:=[]) trivial {} 1 ?_;exact af _ _ (fin _ _ C _ G)
        ·have v:=I.below (al y);refine mt 0 (L y) v ?_;have U:=(f2.below (al y)).low (A5 _) (show y.heap.size<=(y.alloc (.cells (ak zeroM zeroA) 29)).heap.size by rw [r];omega);refine io (X E F _ _ v U (by rw [r];omega)) ?_;rintro e W4 ⟨C,_,_,rfl,f4,n4,k4⟩;have J:=v.below k4;have G:Pm w y.heap.size (ak zeroM zeroA) B C W4:=by
          refine ⟨J.1 1 _ rfl,aD k4 (C6 _ _),f4.low s0 (A5 _),λq hq e=>?_,ab,J.2⟩;rcases n4 q hq _ e with n | n;·rw [r] at n;omega
          ·have:=(o2.lt _ n).2;omega
         refine ⟨_,0,rfl,λ_=>J,?_⟩;refine ae (jQ J) {} 1 rfl ?_;rintro _ rfl;refine bE (Y _ C _ G) ?_;refine aj (R:=[]) trivial {} 1 ?_;exact af _ _ (fin _ _ C _ G)
       ·have u:=s.below (al W1);refine mt 0 (L W1) u ?_;refine io (hcl _ u) ?_;rintro e y ⟨E,F,rfl,o2,K⟩;have I:=u.below K;have z2:=K.size;have f2:=pM o2 z2;refine ⟨_,0,rfl,λ_=>I,?_⟩;refine io (X E F _ y I f2 z2) ?_;rintro e D ⟨C,_,_,rfl,U,n3,k3⟩;have v:=I.below k3;rw [r] at z2;have G:Pm w W1.heap.size (ak zeroM zeroA) B C D:=(by refine ⟨v.1 1 _ rfl,aD k3 (aD K (C6 _ _)),U.low (by rw [r];omega) (A5 _),λq hq e=>?_,ab,v.2⟩;have:=((U.own q hq).lt _ e).1;rw [r] at this;omega);refine ⟨_,0,rfl,λ_=>v,?_⟩;refine ae (jQ v) {} 1 rfl ?_;rintro _ rfl;refine bE (Y _ C _ G) ?_;refine aj (R:=[]) trivial {} 1 ?_;exact af _ _ (fin _ _ C _ G)
def pcs (M:MV) (A:MA) (s:Nat):Array Value:=#[.u M.pc,.slice A.ax M.x.length A.cx,.i M.pr,.slice A.ac M.cs.length A.cc,.slice A.ar M.ram.length A.cr,.u M.d.t,.u M.d.cm,.bool M.d.so,.slice A.ai M.d.xs.length A.ci,.slice A.ao M.d.ys.length A.co,.i M.d.ir,.u M.hd,.bool M.hl,.bool M.wt,.i s]
structure Pp (w:D1) (g:Nat) (M:MV) (A:MA) (s:Nat) (W:D1):Prop where
 row:W.heap[g]?=some (.cells (pcs M A s) 48 (0,0))
 fam:bj (w.heap.size+2) W.heap.size W (aF M A)
 ne:∀ q ∈ aF M A,q.v.ownBlock≠some g
 lo:w.heap.size+2<=g
 out:W.heap[w.heap.size+1]?=some (.cells (ak zeroM zeroA) 29 (0,0))
 bl:Bw w W
section
variable {w W W1 : D1} {g s : Nat} {M N : MV} {A C : MA}
theorem Pp.lt (h:Pp w g M A s W):g<W.heap.size:=(I1.1 h.row).1
theorem Pp.below (h:Pp w g M A s W) (k:Bw W W1):Pp w g M A s W1:=⟨aD k h.row,(h.fam.below k).low (A5 _) k.size,h.ne,h.lo,aD k h.out,aa h.bl k⟩
theorem Pp.put (h:Pp w g M A s W) (f:bj (w.heap.size+2) W.heap.size W (aF N C)) (hn:∀ q ∈ aF N C,q.v.ownBlock≠some g) (c:Nat):Pp w g N C c (W.setRow g (pcs N C c)):=by have:=h.lo;refine ⟨D3 _ _ _ _ _ _ h.row,?_,hn,h.lo,(D2 _ _ _ _ ab).trans h.out,aI h.bl ab _⟩;rw [D4];exact f.other λq a k e=>D2 _ _ _ _ (λe2=>hn q a (by rw [e,e2]))
theorem Pp.new (h:Pp w g M A s W) (k:Bw W W1) (f:bj W.heap.size W1.heap.size W1 (aF N C)):Pp w g N C s (W1.setRow g (pcs N C s)):=by have c:=h.lt;have b:=h.lo;exact (h.below k).put (f.low ab (A5 _)) (λq a e=>by have:=((f.own q a).lt g e).1;omega) s
theorem Pp.dev (h:Pp w g M A s W) (k:Bw W W1) (D:DV) {a:Option F0} {b:Nat} {b2:Option F0} {c:Nat} (f:bj W.heap.size W1.heap.size W1 (pP D a b b2 c)):Pp w g (bW M D) (jG A a b b2 c) s (W1.setRow g (pcs (bW M D) (jG A a b b2 c) s)):=by have l:=h.lt;have o:=h.lo;have d:fE W W1 A.ai A.ci M.d.xs A.ao A.co M.d.ys a b D.xs b2 c D.ys:=.inr (.inr (.inr f));refine (h.below k).put (GY h.fam ab k D d) (λq m e=>?_) s;obtain ⟨n,j,i⟩:=GZ D d q m g e l;exact h.ne n j i
theorem Pp.tab (h:Pp w g M A s W) (t:pu w):pu W:=t.below h.bl
theorem TU (h:Pp w g M A s W):(do N1 29 (.p g 0) (.agg (ak N C));pure Next.skip:Sem Next).run prog W=.ok .skip (W.setRow g (pcs N C s)):=by have:=kO (P:=prog) W g 0 48 29 (pcs M A s) (ak N C) h.row ba (A6 rfl) (bO _ _);simp only [N1,O1,Sem.run_bind,Sem.run_pure,Result.andThen_ok,this];rfl
theorem OF (h:Pp w g M A s W) (D:DV) (a:Option F0) (b:Nat) (b2:Option F0) (c:Nat):(do N1 27 (.p g 5) (.agg (fl D a b b2 c));pure Next.skip:Sem Next).run prog W=.ok .skip (W.setRow g (pcs (bW M D) (jG A a b b2 c) s)):=by have:=kO (P:=prog) W g 5 48 27 (pcs M A s) (fl D a b b2 c) h.row ba (A6 rfl) (fp _ _ _ _ _);simp only [N1,O1,Sem.run_bind,Sem.run_pure,Result.andThen_ok,this];rfl
theorem Pp.cnt (h:Pp w g M A s W) (c:Nat):Pp w g M A c (W.setCell ⟨g,14,none⟩ (.i c)):=by have:=h.lo;refine ⟨jv h.row _,?_,h.ne,h.lo,(I2 W _ _ _ cb).trans h.out,⟨h.bl.os,h.bl.tape,h.bl.output,by rw [aO];exact h.bl.size,λk a=>(I2 W _ _ k cb).trans (h.bl.block k a)⟩⟩;rw [aO];exact h.fam.other λq b k e=>I2 W _ _ k (λe2=>h.ne q b (by rw [e];exact congrArg some e2))
theorem bj.setC {B E b:Nat} (h:bj B E W (aF M A)) (hb:A.ac=some ⟨b,0,none⟩) (i:Nat) (v:Int):bj B E (W.setCell ⟨b,i,none⟩ (.u v)) (aF (cM M (M.cs.set i v)) A):=by
 have c:W.ownsRow B 24 1 (.slice A.ac M.cs.length A.cc) M.cs.length (M.cs.map (K1 .u64)):=h.own (aG A.ac M.cs.length A.cc M.cs) ef;rw [hb] at c;have a:=c.stored i (.u v);rw [lC] at a;have e:W.grownBy (W.setCell ⟨b,i,none⟩ (.u v)) (aG A.ac M.cs.length A.cc M.cs).v.ownBlock:=by simp only [aG];rw [hb];exact a.2
 have f:=bj.mark (L1:=[aG A.ax M.x.length A.cx M.x]) (r:=aG A.ac M.cs.length A.cc M.cs) (L2:=[aE A.ar M.ram.length A.cr M.ram,aE A.ai M.d.xs.length A.ci M.d.xs,aE A.ao M.d.ys.length A.co M.d.ys]) h e ((M.cs.set i v).map (K1 .u64)) (by simp only [aG];rw [hb];exact a.1);have d:aF (cM M (M.cs.set i v)) A=[aG A.ax M.x.length A.cx M.x]++⟨(aG A.ac M.cs.length A.cc M.cs).t,(aG A.ac M.cs.length A.cc M.cs).v,(aG A.ac M.cs.length A.cc M.cs).n,(M.cs.set i v).map (K1 .u64)⟩::[aE A.ar M.ram.length A.cr M.ram,aE A.ai M.d.xs.length A.ci M.d.xs,aE A.ao M.d.ys.length A.co M.d.ys]:=by simp [aF,cM,aG]
 rw [d];exact f.1
theorem Pp.setC {b:Nat} (h:Pp w g M A s W) (hb:A.ac=some ⟨b,0,none⟩) (m:M.cs.length=22) (i:Nat) (v:Int):Pp w g (cM M (M.cs.set i v)) A s (W.setCell ⟨b,i,none⟩ (.u v)):=by
 have c:aG A.ac M.cs.length A.cc M.cs ∈ aF M A:=ef
 have a:(aG A.ac M.cs.length A.cc M.cs).v.ownBlock=some b:=by show (L6 A.ac M.cs.length A.cc).ownBlock=_;rw [hb];rfl
 have o:=((h.fam.own _ c).lt b a).1;have l:g≠b:=λe=>h.ne _ c (by rw [a,e]);have d:∀ k,k≠b->(W.setCell ⟨b,i,none⟩ (.u v)).heap[k]?=W.heap[k]?:=λk a=>I2 W _ _ k a;refine ⟨(d g l).trans (h.row.trans ?_),by rw [aO];exact h.fam.setC hb i v,λq c=>?_,h.lo,(d _ ab).trans h.out,⟨h.bl.os,h.bl.tape,h.bl.output,by rw [aO];exact h.bl.size,λk a=>(d k ab).trans (h.bl.block k a)⟩⟩;·simp [pcs,cM]
 ·obtain ⟨n,j,f⟩:=i7 (M:=M) (M':=cM M (M.cs.set i v)) (A:=A) rfl (show (M.cs.set i v).length=M.cs.length by simp) rfl rfl rfl q c;rw [<- f];exact h.ne n j
theorem TW (h:Pp w g M A s W) (hl:iR M) (a:M.cs.length=22) (hk:lA M.d.xs.length M.d.ys.length M.d.ir):F3 prog 42 #[.p g 0] W λe m=>e=.returned (.tuple #[])/\Pp w g (bK M) A s m:=by
 have f:=λW=>su M.d A.ai A.ci A.ao A.co W hl.xs hl.ys;obtain ⟨b,j,-,d⟩:=pK (h.fam.own (aG A.ac M.cs.length A.cc M.cs) ef) a ab;obtain ⟨d,n⟩:=d 9 ab;have c:b<W.heap.size:=World.block_lt_of_cell? _ _ d;have e:bK M=cM M (M.cs.set 9 (H8 .or .u64 (H8 .andNot .u64 (M.cs.getD 9 0) 2184) (hO M.d))):=by rw [<- oS hk];rfl
 rw [e];have fin:=λV (k:Bw W V)=>(h.below k).setC j a 9 (H8 .or .u64 (H8 .andNot .u64 (M.cs.getD 9 0) 2184) (hO M.d));generalize hO M.d=y at f fin ⊢;generalize M.cs.getD 9 0=z at d fin ⊢;refine fy (args:=[.p g 0]) (R1 W g (pcs M A s) 48) func42 ?_;refine aP 0 1 ?_;refine fV 1 ?_;have ev:(pcs M A s)=#[.u M.pc,.slice A.ax M.x.length A.cx,.i M.pr,.slice (some ⟨b,0,none⟩) 22 A.cc,.slice A.ar M.ram.length A.cr,.u M.d.t,.u M.d.cm,.bool M.d.so,.slice A.ai M.d.xs.length A.ci,.slice A.ao M.d.ys.length A.co,.i M.d.ir,.u M.hd,.bool M.hl,.bool M.wt,.i s]:=by unfold pcs;rw [j,a]
 rw [ev];have l:=h.row;rw [ev] at l;refine ae R1.eng {ov:=[(11,iP ⟨b,9,none⟩ (.u z) underlying24 rfl λV i=>(i.2.cell (p:=⟨b,9,none⟩) c).trans d)],cv:=[(17,iQ R1.below λV _=>f V)]} 60 ⟨l,(I3 _ _).drew⟩ λV i=>?_;refine bE (jh (T:=24) (v:=.u (H8 .or .u64 (H8 .andNot .u64 z 2184) y)) ⟨(i.2.cell (p:=⟨b,9,none⟩) c).trans d,(i.2.frozen (p:=⟨b,9,none⟩) c).trans n⟩ ba rfl) ?_;exact iL {} 20 ba ba rfl ⟨rfl,fin V i.2⟩
theorem TX (h:Pp w g M A s W) (hl:iR M) (hb:cS M.d) (n:Int):F3 prog 61 #[.p g 0,.i n] W λe a=>e=.returned (.tuple #[])/\∃ C,Pp w g (bW M (gx M.d n)) C s a/\∀ k,k<W.heap.size->k≠g->a.heap[k]?=W.heap[k]?:=by have b:=h.fam.msl;refine fy (args:=[.p g 0,.i n]) (λ_=>True) func61 ?_;refine aP 0 1 ?_;refine aC (R:=[⟨g,pcs M A s,[]⟩]) ⟨⟨_,_,h.row⟩,trivial⟩ {} 60 (zV M.d A.ai A.ci A.ao A.co n W hl.xs hl.ys hb b.xs b.ys) ?_;rintro e W1 ⟨c,j,d,l,rfl,f,k⟩;refine ⟨_,0,rfl,?_⟩;refine bx (R:=[]) trivial {} 20 (OF (h.below k) (gx M.d n) c j d l) ?_;exact iL {} 20 ba ba rfl ⟨rfl,_,h.dev k _ f,λi m o=>(D2 _ _ _ _ o).trans (k.block i m)⟩
theorem TY (h:Pp w g M A s W) (hl:iR M) (hb:cS M.d) (n:Int):F3 prog 62 #[.p g 0,.i n] W λe a=>e=.returned (.tuple #[])/\∃ C,Pp w g (bW M (gR M.d (IntKind.u8.wrap n))) C s a/\∀ k,k<W.heap.size->k≠g->a.heap[k]?=W.heap[k]?:=by have b:=h.fam.msl;refine fy (args:=[.p g 0,.i n]) (λ_=>True) func62 ?_;refine aP 0 1 ?_;refine aC (R:=[⟨g,pcs M A s,[]⟩]) ⟨⟨_,_,h.row⟩,trivial⟩ {} 60 (zW M.d A.ai A.ci A.ao A.co (IntKind.u8.wrap n) W hl.xs hl.ys hb b.xs b.ys) ?_;rintro e W1 ⟨c,j,d,l,rfl,f,k⟩;refine ⟨_,0,rfl,?_⟩;refine bx (R:=[]) trivial {} 20 (OF (h.below k) (gR M.d (IntKind.u8.wrap n)) c j d l) ?_;exact iL {} 20 ba ba rfl ⟨rfl,_,h.dev k _ f,λi m o=>(D2 _ _ _ _ o).trans (k.block i m)⟩
theorem Vb (h:Pp w g M A s W) (D:Gw M) (J:pu w) (n:Nat) (hn:n<=300) (hs:s<=30000):F3 prog 60 #[.p g 0,.i n] W λe W'=>e=.returned (.tuple #[])/\∃ C,Pp w g (cG n M).1 C (s+rF (cG n M).2) W'/\∀ k,k<W.heap.size->k≠g->W'.heap[k]?=W.heap[k]?:=by
 have G:=yf M A n W D.1.len h.fam.msl ⟨D.1.mw,D.1.ux,D.1.pc,D.1.hd,D.2⟩ (h.tab J);have r:=pI n M;unfold Ga at G;rw [JZ8 (by rw [D.1.ok];simp;omega),I4] at G;generalize cG n M=V at G r ⊢;obtain ⟨N,f⟩:=V;dsimp only at G r ⊢;refine fy (args:=[.p g 0,.i n]) (λ_=>True) func60 ?_;refine aP 0 1 ?_;refine aC (R:=[⟨g,pcs M A s,[]⟩]) ⟨⟨_,_,h.row⟩,trivial⟩ {} 60 G ?_;rintro e W1 ⟨C,a,c,rfl,f1,o1,k1⟩;refine ⟨_,0,rfl,?_⟩;dsimp only at f1 o1;have zc:(K0 (ak zeroM zeroA)).cells=ak zeroM zeroA:=rfl;refine gz (R:=[]) trivial {} 20 2 (ct (T:=29) (z:=.agg (ak zeroM zeroA)) ba W1) ?_;rw [zc];refine bx (R:=[]) trivial {} 20 (av (g:=W1.heap.size) (t:=29) (ty:=29) (old:=ak zeroM zeroA) (cells:=ak N C) (C6 _ _) ba rfl (bO _ _)) ?_;have E:=iE W1 (ak zeroM zeroA) (ak N C) 29;have r2:((W1.alloc (.cells (ak zeroM zeroA) 29)).setRow W1.heap.size (ak N C)).heap[W1.heap.size]?=some (.cells (ak N C) 29 (0,0)):=D3 _ _ _ _ _ _ (C6 _ _);have F:=aa k1 E;have f2:=(f1.below E).low (A5 _) E.size;have Y:=dc o1 E;generalize (W1.alloc (.cells (ak zeroM zeroA) 29)).setRow W1.heap.size (ak N C)=L at E r2 F f2 Y ⊢;refine bx (R:=[⟨g,pcs M A s,[]⟩,⟨W1.heap.size,ak N C,[]⟩]) ⟨⟨_,_,aD F h.row⟩,⟨_,_,r2⟩,trivial⟩ {} 40 (TU (N:=N) (C:=C) (h.below F)) ?_;have p3:=h.new F f2;have hlt:=h.lt;have Z:(L.setRow g (pcs N C s)).ownsRow W.heap.size 2 1 (.slice a f.length c) f.length (f.map (K1 .i64)):=dQ Y λk e=>D2 _ _ _ _ (by have:=(Y.lt k e).1;omega);have a3:∀ k,k<W.heap.size->k≠g->(L.setRow g (pcs N C s)).heap[k]?=W.heap[k]?:=λi Q I=>(D2 _ _ _ _ I).trans (F.block i Q);generalize L.setRow g (pcs N C s)=W3 at p3 Z a3 ⊢;have ht:=fJ Z;refine aj (R:=[]) trivial {} 20 ?_;refine gJ (λx:Nat × Nat=>[(0,.p g 0,1),(21,.slice a f.length c,0),(22,.i f.length,0),(23,.i (x.1:Nat),0)]) (λj x V=>x.1+j=f.length/\x.2=s+rF (f.take x.1)/\Pp w g N C x.2 V/\∀ k,k≠g->V.heap[k]?=W3.heap[k]?) f.length (0,s) ba ba ⟨di,by simp [rF],p3,λ_ _=>rfl⟩ ?_;rintro j ⟨q,u⟩ V ⟨ej,P,p,m⟩ T J;dsimp only at ej P p ⊢;cases j with
 | zero =>have d:decide ((q:Int)<(f.length:Int))=false:=ck;rw [List.take_of_length_le ab] at P;subst P;exact iL {eq:=[(24,an d)]} 40 ba ba rfl ⟨rfl,C,p,λi Q I=>(m i I).trans (a3 i Q I)⟩
 | succ j =>
   have d:decide ((q:Int)<(f.length:Int)):=ek;have O:=zg (l:=f) (q:=q) ab;have hgo:=AR (f.take (q+1));have hl2:=List.length_take_le (q+1) f;obtain ⟨b,o,S,K,hc⟩:=ht q ab;have U:b≠g:=(by have:=(Z.lt b (by rw [S];rfl)).1;omega);have B:V.cell? ⟨b,o+(q:Int).toNat,none⟩=some (.i (f.getD q 0)):=(by rw [I4,<- hc];simp only [World.cell?,m b U]);generalize f.getD q 0=y at O B;have hw:IntKind.i64.wrap (((q:Nat):Int)+1)=((q+1:Nat):Int):=e8;cases H:(y != 4) with
   | true =>rw [H,JZ8 rfl] at O;have X:IntKind.i64.wrap (((u:Nat):Int)+1)=((u+1:Nat):Int):=e8;refine bx (R:=[⟨g,pcs N C u,[]⟩]) ⟨⟨_,_,p.row⟩,trivial⟩ {eq:=[(24,an d),(28,an H),(33,cR .i64 X)],ov:=[(25,kW f.length c .i64 q S ab underlying56 ba),(26,iP ⟨b,o+(q:Int).toNat,none⟩ (.i y) underlying2 rfl λV m=>by subst m;exact B)]} 80 (bG (T:=2) (v:=.i ((u+1:Nat):Int)) (i:=14) p.row (A6 rfl) ba rfl) ?_;exact dY (R:=[]) trivial {eq:=[(36,cR .i64 hw)]} 40 λb K=>J b _ j (q+1,u+1) ab (K.less ba) ⟨cb,cb,p.cnt (u+1),λk hk=>(I2 V _ _ k hk).trans (m k hk)⟩
   | false =>rw [H,JZ9 bc] at O;exact dY (R:=[]) trivial {eq:=[(24,an d),(28,an H),(36,cR .i64 hw)],ov:=[(25,kW f.length c .i64 q S ab underlying56 ba),(26,iP ⟨b,o+(q:Int).toNat,none⟩ (.i y) underlying2 rfl λV m=>by subst m;exact B)]} 80 λb K=>J b V j (q+1,u) ab (K.less ba) ⟨cb,cb,p,m⟩
def Be:Array Value:=#[.i 1,.i 300,.func (.func 60) #[] #[],.i 2,.i 9223372036854775807,.func (.func 61) #[] #[],.i 3,.i 9223372036854775807,.func (.func 62) #[] #[]]
theorem Gm (W:D1):CB 41 #[] W (.agg Be):=by refine br (S:=Bs W [(#[.i 0,.i 0,.nilFunc,.i 0,.i 0,.nilFunc,.i 0,.i 0,.nilFunc],78)]) (args:=[]) [(#[.i 0,.i 0,.nilFunc,.i 0,.i 0,.nilFunc,.i 0,.i 0,.nilFunc],78)] func41 ?_;exact nW (Bs.start _ _) {} 40 (i:=0) (cs:=Be) (T:=78) rfl rfl ba (by simp [Be,L0]) underlying78 rfl rfl ba ba (by intro _;kernel_rfl) (λV b=>⟨rfl,b⟩)
def Bo (i:Nat) (k n:Int) (M:MV):MV × Nat:=if k<=(i:Int) then xg k n M else (M,0)
theorem Bf {i:Nat} {k:Int} (h:((((i+1:Nat):Int))==k)=false) (n:Int) (M:MV):Bo (i+1) k n M=Bo i k n M:=by
 have:¬ ((i+1:Nat):Int)=k:=et
 unfold Bo;by_cases a:k<=(i:Int);·rw [JZ8 a,JZ8 ab]
 ·rw [JZ9 a,JZ9 ab]
theorem Gn (i:Nat) {k:Int} (h:((((i+1:Nat):Int))==k)) (n:Int) (M:MV):Bo i k n M=(M,0)/\Bo (i+1) k n M=xg k n M:=by have:=beq_iff_eq.1 h;unfold Bo;rw [JZ9 ab,JZ8 ab];exact a0e
theorem Bg {n:Int} (h:¬ 0<=n) (k:Int) (M:MV):xg k n M=(M,0):=by unfold xg;rw [JZ9 bv,JZ9 bv,JZ9 bv]
theorem IE {k:Int} (h:k<=0\/3<k) (n:Int) (M:MV):xg k n M=(M,0):=by unfold xg;rw [JZ9 bv,JZ9 bv,JZ9 bv]
theorem Vc (k n:Int) (M:MV):Bo 0 k n M=(M,0):=by
 unfold Bo;split;·exact IE (.inl ab) n M
 ·rfl
theorem Vd (k n:Int) (M:MV):Bo 3 k n M=xg k n M:=by
 unfold Bo;split;·rfl
 ·exact (IE (.inr ab) n M).symm
structure Vp (w W:D1) (g:Nat) (k n:Int) (M:MV) (s:Nat) (j:Nat) (x:MV × MA × Nat × Nat) (V:D1):Prop where
 ej:x.2.2.2+j=3
 pp:Pp w g x.1 x.2.1 x.2.2.1 V
 box:V.heap[W.heap.size]?=some (.cells #[.i k,.i n] 43 (0,0))
 st:(x.1,x.2.2.1)=((Bo x.2.2.2 k n M).1,s+(Bo x.2.2.2 k n M).2)
theorem TZ (h:Pp w g M A s W) (J:Gw M) (hT:pu w) (k n:Int) (hn:n<=9223372036854775807) (hs:s<=30000):F3 prog 18 #[.p g 0,.agg #[.i k,.i n]] W λe W'=>e=.returned (.tuple #[])/\∃ C,Pp w g (pJ k n M).1 C (s+(pJ k n M).2) W':=by
 have hlt:=h.lt
 have B:=TH J k n
 rw [Iu J]
 refine br (S:=λ_=>True) (args:=[.p g 0,.agg #[.i k,.i n]]) [(#[.i k,.i n],43)] func18 ?_
 obtain ⟨b1,b2⟩:=Bs.start W [(#[.i k,.i n],43)]
 have b0:=b1 0 _ rfl
 generalize bP W [(#[.i k,.i n],43)]=W0 at b0 b2 ⊢
 refine aC (R:=[]) trivial {} 60 (Gm W0) ?_
 rintro e W1 ⟨rfl,k1⟩
 refine ⟨_,0,rfl,?_⟩
 refine aj (R:=[]) trivial {} 20 ?_
 refine gJ (λx:MV × MA × Nat × Nat=>[(0,.p g 0,0),(3,.p W.heap.size 0,1),(6,.agg Be,0),(7,.i (x.2.2.2:Nat),0)]) (Vp w W g k n M s) 3 (M,A,s,0) ba ba ⟨rfl,(h.below b2).below k1,aD k1 b0,by show (M,s)=_;rw [Vc];rfl⟩ ?_
 clear b0 b1 b2 k1
 rintro j ⟨N,C,u,i⟩ V ⟨ej,pp,box,o⟩ T c
 dsimp only at ej pp box o ⊢
 have P:=(I1.1 box).1
 cases j with
 | zero =>
   obtain rfl:i=3:=ab
   rw [Vd] at o
   generalize xg k n M=Z at o B ⊢
   obtain ⟨Z1,Z2⟩:=Z
   simp only [Prod.mk.injEq] at o
   obtain ⟨rfl,rfl⟩:=o
   refine aC (R:=[]) trivial {} 60 (TW pp B.1 B.2.1 B.2.2) ?_
   rintro e W2 ⟨rfl,D⟩
   refine ⟨_,0,rfl,?_⟩
   exact iL {} 20 ba ba rfl ⟨rfl,_,D⟩
 | succ j =>
   have new:∀ (x:Int) (y:Int) (f:G1),Bw V ((V.alloc (.cells #[.i 0,.i 0,.nilFunc] 77)).setRow V.heap.size #[.i x,.i y,f])/\((V.alloc (.cells #[.i 0,.i 0,.nilFunc] 77)).setRow V.heap.size #[.i x,.i y,f]).heap[V.heap.size]?=some (.cells #[.i x,.i y,f] 77 (0,0)):=λx y f=>⟨iE V _ _ _,D3 _ _ _ _ _ _ (C6 _ _)⟩
   have zc:(K0 #[.i 0,.i 0,.nilFunc]).cells=#[.i 0,.i 0,.nilFunc]:=rfl
   have c3:i=0\/i=1\/i=2:=ab
   rcases c3 with rfl|rfl|rfl
   ·obtain ⟨l,O⟩:=new 1 300 (.func (.func 60) #[] #[])
    refine gz (R:=[]) trivial {} 60 2 (ct (T:=77) (z:=.agg #[.i 0,.i 0,.nilFunc]) ba V) ?_
    rw [zc]
    refine bx (R:=[]) trivial {} 20 (av (g:=V.heap.size) (t:=77) (ty:=77) (old:=#[.i 0,.i 0,.nilFunc]) (cells:=#[.i 1,.i 300,.func (.func 60) #[] #[]]) (C6 _ _) ba rfl ia) ?_
    generalize (V.alloc (.cells #[.i 0,.i 0,.nilFunc] 77)).setRow V.heap.size #[.i 1,.i 300,.func (.func 60) #[] #[]]=F at l O ⊢
    have R2:fN F [⟨W.heap.size,#[.i k,.i n],[]⟩,⟨V.heap.size,#[.i 1,.i 300,.func (.func 60) #[] #[]],[]⟩]:=⟨⟨_,_,aD l box⟩,⟨_,_,O⟩,trivial⟩
    have D:=pp.below l
    have H:=aD l box
    have G:∀ (v:D1) (r:MV) (I:MA) (E:Nat),Pp w g r I E v->v.heap[W.heap.size]?=some (.cells #[.i k,.i n] 43 (0,0))->(r,E)=((Bo 1 k n M).1,s+(Bo 1 k n M).2)->Vp w W g k n M s j (r,I,E,1) v:=λv r I E p b e=>⟨cb,p,b,e⟩
    cases a:((1:Int)==k) with
    | false=>exact dY R2 {eq:=[(14,an a)]} 60 λb d=>c b F j (N,C,u,1) ab (d.less ba) (G _ _ _ _ D H (by rw [o,Bf a]))
    | true =>
      obtain ⟨q1,K⟩:=Gn 0 a n M
      have e:=(beq_iff_eq.1 a).symm
      subst e
      rw [q1] at o
      simp only [Prod.mk.injEq,A9] at o
      obtain ⟨rfl,rfl⟩:=o
      cases q:decide (0<=n) with
      | false =>
        have e:=Bg (of_decide_eq_false q) 1 N
        exact dY R2 {eq:=[(14,an a),(18,an q)]} 60 λb d=>c b F j (N,C,u,1) ab (d.less ba) (G _ _ _ _ D H (by rw [K,e];rfl))
      | true =>
        have Y:=of_decide_eq_true q
        cases L:decide (n<=300) with
        | false =>
          have:=of_decide_eq_false L
          have e:xg 1 n N=(N,0):=by
           unfold xg
           rw [JZ9 bv,JZ9 di,JZ9 di]
          exact dY R2 {eq:=[(14,an a),(18,an q),(25,an L)]} 60 λb d=>c b F j (N,C,u,1) ab (d.less ba) (G _ _ _ _ D H (by rw [K,e];rfl))
        | true =>
          have n3:=of_decide_eq_true L
          obtain ⟨m,rfl⟩:=I5 Y
          refine aC R2 {eq:=[(14,an a),(18,an q),(25,an L)]} 80 (Vb D J hT m ab hs) ?_
          rintro e U ⟨rfl,Q,p3,X⟩
          refine ⟨_,0,rfl,?_⟩
          exact dY (R:=[]) trivial {} 60 λb d=>c b U j (_,Q,_,1) ab (d.less ba) (G _ _ _ _ p3 ((X _ (A8 P l.size) ab).trans H) (by
           rw [K]
           unfold xg
           rw [JZ8 bv]
           rfl))
   ·obtain ⟨l,O⟩:=new 2 9223372036854775807 (.func (.func 61) #[] #[])
    refine gz (R:=[]) trivial {} 60 2 (ct (T:=77) (z:=.agg #[.i 0,.i 0,.nilFunc]) ba V) ?_
    rw [zc]
    refine bx (R:=[]) trivial {} 20 (av (g:=V.heap.size) (t:=77) (ty:=77) (old:=#[.i 0,.i 0,.nilFunc]) (cells:=#[.i 2,.i 9223372036854775807,.func (.func 61) #[] #[]]) (C6 _ _) ba rfl ia) ?_
    generalize (V.alloc (.cells #[.i 0,.i 0,.nilFunc] 77)).setRow V.heap.size #[.i 2,.i 9223372036854775807,.func (.func 61) #[] #[]]=F at l O ⊢
    have R2:fN F [⟨W.heap.size,#[.i k,.i n],[]⟩,⟨V.heap.size,#[.i 2,.i 9223372036854775807,.func (.func 61) #[] #[]],[]⟩]:=⟨⟨_,_,aD l box⟩,⟨_,_,O⟩,trivial⟩
    have D:=pp.below l
    have H:=aD l box
    have G:∀ (v:D1) (r:MV) (I:MA) (E:Nat),Pp w g r I E v->v.heap[W.heap.size]?=some (.cells #[.i k,.i n] 43 (0,0))->(r,E)=((Bo 2 k n M).1,s+(Bo 2 k n M).2)->Vp w W g k n M s j (r,I,E,2) v:=λv r I E p b e=>⟨cb,p,b,e⟩
    cases a:((2:Int)==k) with
    | false=>exact dY R2 {eq:=[(14,an a)]} 60 λb d=>c b F j (N,C,u,2) ab (d.less ba) (G _ _ _ _ D H (by rw [o,Bf a]))
    | true =>
      obtain ⟨q1,K⟩:=Gn 1 a n M
      have e:=(beq_iff_eq.1 a).symm
      subst e
      rw [q1] at o
      simp only [Prod.mk.injEq,A9] at o
      obtain ⟨rfl,rfl⟩:=o
      cases q:decide (0<=n) with
      | false =>
        have e:=Bg (of_decide_eq_false q) 2 N
        exact dY R2 {eq:=[(14,an a),(18,an q)]} 60 λb d=>c b F j (N,C,u,2) ab (d.less ba) (G _ _ _ _ D H (by rw [K,e];rfl))
      | true =>
        have Y:=of_decide_eq_true q
        have L:decide (n<=9223372036854775807):=decide_eq_true hn
        refine aC R2 {eq:=[(14,an a),(18,an q),(25,an L)]} 80 (TX D J.1.len ⟨J.1.mw.xs,J.1.mw.ys⟩ n) ?_
        rintro e U ⟨rfl,Q,p3,X⟩
        refine ⟨_,0,rfl,?_⟩
        exact dY (R:=[]) trivial {} 60 λb d=>c b U j (_,Q,_,2) ab (d.less ba) (G _ _ _ _ p3 ((X _ (A8 P l.size) ab).trans H) (by
         rw [K]
         unfold xg
         rw [JZ9 di,JZ8 (by simpa using Y)]
         rfl))
   ·obtain ⟨l,O⟩:=new 3 9223372036854775807 (.func (.func 62) #[] #[])
    refine gz (R:=[]) trivial {} 60 2 (ct (T:=77) (z:=.agg #[.i 0,.i 0,.nilFunc]) ba V) ?_
    rw [zc]
    refine bx (R:=[]) trivial {} 20 (av (g:=V.heap.size) (t:=77) (ty:=77) (old:=#[.i 0,.i 0,.nilFunc]) (cells:=#[.i 3,.i 9223372036854775807,.func (.func 62) #[] #[]]) (C6 _ _) ba rfl ia) ?_
    generalize (V.alloc (.cells #[.i 0,.i 0,.nilFunc] 77)).setRow V.heap.size #[.i 3,.i 9223372036854775807,.func (.func 62) #[] #[]]=F at l O ⊢
    have R2:fN F [⟨W.heap.size,#[.i k,.i n],[]⟩,⟨V.heap.size,#[.i 3,.i 9223372036854775807,.func (.func 62) #[] #[]],[]⟩]:=⟨⟨_,_,aD l box⟩,⟨_,_,O⟩,trivial⟩
    have D:=pp.below l
    have H:=aD l box
    have G:∀ (v:D1) (r:MV) (I:MA) (E:Nat),Pp w g r I E v->v.heap[W.heap.size]?=some (.cells #[.i k,.i n] 43 (0,0))->(r,E)=((Bo 3 k n M).1,s+(Bo 3 k n M).2)->Vp w W g k n M s j (r,I,E,3) v:=λv r I E p b e=>⟨cb,p,b,e⟩
    cases a:((3:Int)==k) with
    | false=>exact dY R2 {eq:=[(14,an a)]} 60 λb d=>c b F j (N,C,u,3) ab (d.less ba) (G _ _ _ _ D H (by rw [o,Bf a]))
    | true =>
      obtain ⟨q1,K⟩:=Gn 2 a n M
      have e:=(beq_iff_eq.1 a).symm
      subst e
      rw [q1] at o
      simp only [Prod.mk.injEq,A9] at o
      obtain ⟨rfl,rfl⟩:=o
      cases q:decide (0<=n) with
      | false =>
        have e:=Bg (of_decide_eq_false q) 3 N
        exact dY R2 {eq:=[(14,an a),(18,an q)]} 60 λb d=>c b F j (N,C,u,3) ab (d.less ba) (G _ _ _ _ D H (by rw [K,e];rfl))
      | true =>
        have Y:=of_decide_eq_true q
        have L:decide (n<=9223372036854775807):=decide_eq_true hn
        refine aC R2 {eq:=[(14,an a),(18,an q),(25,an L)]} 80 (TY D J.1.len ⟨J.1.mw.xs,J.1.mw.ys⟩ n) ?_
        rintro e U ⟨rfl,Q,p3,X⟩
        refine ⟨_,0,rfl,?_⟩
        exact dY (R:=[]) trivial {} 60 λb d=>c b U j (_,Q,_,3) ab (d.less ba) (G _ _ _ _ p3 ((X _ (A8 P l.size) ab).trans H) (by
         rw [K]
         unfold xg
         rw [JZ9 di,JZ9 di,JZ8 (by simpa using Y)]
         rfl))
end
theorem QZ (g:Nat):∀ q ∈ aF zeroM zeroA,q.v.ownBlock≠some g:=λq a e=>by simp only [aF,List.mem_cons,List.not_mem_nil,or_false] at a;rcases a with rfl | rfl | rfl | rfl | rfl<;>cases e
theorem T0:(do pure (.value (<- P2 48 #[(0,.agg (ak B l))])):Sem Next).run prog D=.ok (.value (.agg (pcs B l 0))) D:=GC (r:=none) (λ_ h=>ni) _ _ [] ba (λ_ h=>ni)
structure Wx (w:D1) (g:Nat) (l:List (Int × Int)) (V:MV × Nat) (j:Nat) (x:MV × MA × Nat × Nat) (W:D1):Prop where
 ej:x.2.2.2+j=l.length
 pp:Pp w g x.1 x.2.1 x.2.2.1 W
 gw:Gw x.1
 sm:x.2.2.1<=300*x.2.2.2
 st:V=((iN (l.drop x.2.2.2) x.1).1,x.2.2.1+(iN (l.drop x.2.2.2) x.1).2)
theorem rI (A:List (Int × Int)) (a:Option F0) (c:Nat) (w:D1) (hl:iR B) (hs:oe w B l) (hf:RS B) (hT:pu w) (he:Es w a A) (hw:∀ i,(A.getD i (0,0)).2<=9223372036854775807):F3 prog 6 #[.agg (ak B l),.slice a A.length c] w (mQ w ((mA B A).1,((mA B A).2:Int))):=by
 have HM:=λW (hb:Bw w W)=>dZ B l W hl (hs.below hb) hf.mw.cs
 unfold mA
 refine br (S:=Bs w [(ak B l,29),(ak zeroM zeroA,29)]) (args:=[.agg (ak B l),.slice a A.length c]) [(ak B l,29),(ak zeroM zeroA,29)] func6 ?_
 cases ok:dJ B with
 | false =>
   rw [ok] at HM
   rw [JZ9 di]
   refine ae Bs.eng {cv:=[(10,fM HM)]} 40 (Bs.start _ _) λW1 D=>?_
   exact gK (R:=[]) trivial {} 40 (D.1 1 _ rfl) rfl (bO _ _) underlying29 ⟨zeroA,rfl,gC _ _ _,aI D.2 ab _⟩
 | true =>
   rw [ok] at HM
   cases dl:decide ((100:Int)<(A.length:Int)) with
   | true =>
     have:=of_decide_eq_true dl
     rw [JZ9 bv]
     refine ae Bs.eng {cv:=[(10,fM HM)],eq:=[(15,an dl)]} 40 (Bs.start _ _) λW1 D=>?_
     exact gK (R:=[]) trivial {} 40 (D.1 1 _ rfl) rfl (bO _ _) underlying29 ⟨zeroA,rfl,gC _ _ _,aI D.2 ab _⟩
   | false =>
     have hn:=of_decide_eq_false dl
     rw [JZ8 bv]
     have hg:Gw B:=⟨hf.gd ok,hf.ud⟩
     have fin:∀ (S:D1->Prop) (g:Nat) (C:MA) (W:D1),Pp w g zeroM zeroA 0 W->bj (w.heap.size+2) W.heap.size W (aF B C)->(∀ q ∈ aF B C,q.v.ownBlock≠some g)->Wg prog S (D8 prog Tryz.f6 (mQ w ((iN A B).1,((iN A B).2:Int)))) Tryz.f6.ntmps [.code (au 3 (aM Tryz.f6))] [(1,.slice a A.length c,0),(4,.p (w.heap.size+1) 0,0),(6,.p g 0,1)] (W.setRow g (pcs B C 0)):=by
      intro S g C W hz f0 n0
      obtain ⟨V,f⟩:∃ V,V=iN A B:=⟨_,rfl⟩
      have h0:Wx w g A V A.length (B,C,0,0) (W.setRow g (pcs B C 0)):=⟨di,hz.put f0 n0 0,hg,di,by rw [f];simp⟩
      rw [<- f]
      generalize W.setRow g (pcs B C 0)=W0 at h0 ⊢
      refine aj (R:=[]) trivial {} 20 ?_
      refine gJ (λx:MV × MA × Nat × Nat=>[(4,.p (w.heap.size+1) 0,0),(6,.p g 0,1),(24,.slice a A.length c,0),(25,.i A.length,0),(26,.i (x.2.2.2:Nat),0)]) (Wx w g A V) A.length (B,C,0,0) ba ba h0 ?_
      clear h0 f hz f0 n0
      rintro j ⟨H,G,s,i⟩ W h T hT2
      have ej:=h.ej
      have gw:=h.gw
      have sm:=h.sm
      have E:=h.pp
      dsimp only at ej gw sm E ⊢
      cases j with
      | zero =>
        have q:decide ((i:Int)<(A.length:Int))=false:=by rw [JZ7];omega
        have Z:=h.st
        dsimp only at Z
        rw [List.drop_of_length_le ab] at Z
        rw [Z]
        refine aj (R:=[]) trivial {eq:=[(27,an q)]} 7 ?_
        refine af [.code (au 4 (aM Tryz.f6))] [(4,.p (w.heap.size+1) 0,0),(6,.p g 0,1)] ?_
        refine aj (R:=[]) trivial {} 1 ?_
        have hz:Ez (λV=>V.heap[g]?=some (.cells (pcs H G s) 48 (0,0))) [⟨g,pcs H G s,[]⟩]:=⟨λV f r hr=>by rw [List.mem_singleton.1 hr];exact ⟨_,_,f⟩,λV f=>f⟩
        refine aL (λV=>V.heap[g]?=some (.cells (pcs H G s) 48 (0,0))) ?_
        have hgo:w.heap.size+1≠g:=by have:=E.lo;omega
        refine vk hz E.row {} 40 (λV=>V.setRow (w.heap.size+1) (ak H G)) (λV f=>av (t:=29) (ty:=29) (old:=ak zeroM zeroA) (by obtain ⟨d,rfl⟩:=f;exact E.out) ba rfl (bO _ _)) λV f=>⟨(D2 _ _ _ _ (Ne.symm hgo)).trans (by obtain ⟨d,rfl⟩:=f;exact E.row),?_⟩
        refine zD hz ((D2 _ _ _ _ (Ne.symm hgo)).trans (by obtain ⟨d,rfl⟩:=f;exact E.row)) {} 40 λV2 a J hk=>⟨.tuple #[.agg (ak H G),.i s],zE hk rfl ba ba (t:=29) (by obtain ⟨d,rfl⟩:=J;obtain ⟨d2,rfl⟩:=f;exact D3 _ _ _ _ _ _ E.out) underlying29 rfl ba,G,rfl,?_,J.below (aI (f.below E.bl) ab _)⟩
        have f2:bj w.heap.size (V.setRow (w.heap.size+1) (ak H G)).heap.size (V.setRow (w.heap.size+1) (ak H G)) (aF H G):=by
         rw [D4]
         refine ((f.fam E.fam).mono λk D v m=>D2 _ _ _ _ ab).low ab ?_
         rw [f.size]
         exact A5 _
        rw [J.size]
        exact J.fam f2
      | succ j =>
        have q:decide ((i:Int)<(A.length:Int)):=by rw [JZ6];omega
        obtain ⟨b,o,ha,D,v,m⟩:=he.below E.bl i ab
        have Y:=hw i
        obtain ⟨k,n,hk⟩:∃ k n,A.getD i (0,0)=(k,n):=⟨_,_,rfl⟩
        rw [hk] at v m Y
        dsimp only at v m Y
        refine gz (R:=[]) trivial {eq:=[(27,an q)],ov:=[(28,UA A.length c i ha ab underlying30 ba),(29,Wn b (o+i*2) (.i k) (.i n) underlying43 rfl ba λV f=>by subst f;exact ⟨v,m⟩)]} 60 2 (ct (T:=43) (z:=.agg #[.i 0,.i 0]) ba W) ?_
        refine bx (R:=[]) trivial {} 20 (av (g:=W.heap.size) (t:=43) (ty:=43) (old:=#[.i 0,.i 0]) (cells:=#[.i k,.i n]) (C6 _ _) ba rfl ia) ?_
        have e3:(K0 #[.i 0,.i 0]).cells=#[.i 0,.i 0]:=rfl
        rw [e3]
        have b2:=iE W #[.i 0,.i 0] #[.i k,.i n] 43
        have r2:((W.alloc (.cells #[.i 0,.i 0] 43)).setRow W.heap.size #[.i k,.i n]).heap[W.heap.size]?=some (.cells #[.i k,.i n] 43 (0,0)):=D3 _ _ _ _ _ _ (C6 _ _)
        have p2:=E.below b2
        generalize (W.alloc (.cells #[.i 0,.i 0] 43)).setRow W.heap.size #[.i k,.i n]=I at b2 r2 p2 ⊢
        refine aC (R:=[⟨g,pcs H G s,[]⟩,⟨W.heap.size,#[.i k,.i n],[]⟩]) ⟨⟨_,_,p2.row⟩,⟨_,_,r2⟩,trivial⟩ {} 60 (TZ p2 gw hT k n Y ab) ?_
        rintro e y ⟨rfl,C3,p3⟩
        refine ⟨_,0,rfl,?_⟩
        have hw:IntKind.i64.wrap (((i:Nat):Int)+1)=((i+1:Nat):Int):=by rw [IntKind.wrap_i64];omega
        have hd:=Iq H k n
        have Z:=h.st
        dsimp only at Z
        rw [AS ab,hk] at Z
        exact dY (R:=[]) trivial {eq:=[(32,cR .i64 hw)]} 60 λb hb=>hT2 b y j (_,C3,_,i+1) ab (hb.less ba) ⟨cb,p3,DA gw k n,cb,by rw [Z];dsimp only;rw [Nat.add_assoc]⟩
     refine ae Bs.eng {cv:=[(10,fM HM)],eq:=[(15,an dl)]} 14 (Bs.start _ _) λW0 h0=>?_
     refine af [.code (au 2 (aM Tryz.f6))] [(1,.slice a A.length c,0),(2,.p w.heap.size 0,1),(4,.p (w.heap.size+1) 0,2)] ?_
     refine aj (R:=[]) trivial {} 1 ?_
     refine fV 1 ?_
     have hcl:=λW (h:Bs w [(ak B l,29),(ak zeroM zeroA,29)] W)=>jY l.ar B.ram.length l.cr B.ram W rfl hl.ram (hs.below h.2).ram
     have X:=λ(N:Option F0) (O M:Nat) W (h:Bs w [(ak B l,29),(ak zeroM zeroA,29)] W) (hR:bj M W.heap.size W [aE N B.ram.length O B.ram]) (hB:M<=W.heap.size)=>ng B l B.ram N B.ram.length O M W hl (hs.below h.2) hR hB rfl
     have p:=h0.below (I3 W0.heap.size W0).drew
     have s0:=p.two
     have zp:(K0 (pcs zeroM zeroA 0)).cells=pcs zeroM zeroA 0:=rfl
     have al:∀ W:D1,Bw W (W.alloc (.cells (pcs zeroM zeroA 0) 48)):=λW=>bal _ _
     have u:∀ W:D1,(W.alloc (.cells (pcs zeroM zeroA 0) 48)).heap.size=W.heap.size+1:=λW=>R4 _ _
     have F:∀ W:D1,_:=λ(W:D1)=>ct (P:=prog) (T:=48) (z:=.agg (pcs zeroM zeroA 0)) ba W
     rw [zp] at F
     have pz:∀ (W W':D1),Bs w [(ak B l,29),(ak zeroM zeroA,29)] W->Below (W.alloc (.cells (pcs zeroM zeroA 0) 48)).heap.size (W.alloc (.cells (pcs zeroM zeroA 0) 48)) W'->Pp w W.heap.size zeroM zeroA 0 W':=λW W' h k=>by
      have K:=aa (al W) k
      exact ⟨aD k (C6 _ _),gC _ _ _,QZ _,h.two,aD K (h.1 1 _ rfl),aa h.2 K⟩
     have L:∀ (g:Nat) (C:MA) (W:D1),Pp w g zeroM zeroA 0 W->_:=λg C W z=>av (P:=prog) (g:=g) (t:=48) (ty:=48) (old:=pcs zeroM zeroA 0) (cells:=pcs B C 0) z.row ba rfl (by simp [pcs,L0])
     generalize W0.drew=W1 at p s0 ⊢
     refine ae (jQ p) {} 3 rfl ?_
     rintro _ rfl
     rename_i W1
     refine kN (i:=3) (j:=6) ?_ ?_
     ·refine kl (hcl _ p) ?_
      rintro e I ⟨N,O,rfl,o2,K⟩
      have v:=p.below K
      have z2:=K.size
      have f2:=pM o2 z2
      refine ⟨_,0,rfl,v,?_⟩
      refine kN (i:=4) (j:=6) ?_ ?_
      ·refine kl (X N O _ I v f2 z2) ?_
       rintro e y ⟨C,_,_,rfl,Q,n3,k3⟩
       have m:=v.below k3
       have z3:=k3.size
       have U:=m.below (al y)
       have z:=pz y _ m (I3 _ _)
       have f4:bj (w.heap.size+2) (y.alloc (.cells (pcs zeroM zeroA 0) 48)).heap.size (y.alloc (.cells (pcs zeroM zeroA 0) 48)) (aF B C):=(Q.below (al y)).low s0 (by rw [u];omega)
       have n4:∀ q ∈ aF B C,q.v.ownBlock≠some y.heap.size:=λq hq e=>by have:=Q.hi q hq _ e;omega
       refine ⟨_,0,rfl,m,?_⟩
       refine kN (i:=5) (j:=6) ?_ ?_
       ·refine mt 0 (T0 B C y) m ?_
        refine dt 0 (F y) (hS:=λ_=>U) ?_
        refine ae (jQ U) {} 1 rfl ?_
        rintro _ rfl
        refine bE (L _ C _ z) ?_
        refine aj (R:=[]) trivial {} 1 ?_
        exact af _ _ (fin _ _ C _ z f4 n4)
       ·refine mt 0 (F y) U ?_
        refine ae (jQ U) {} 2 rfl ?_
        rintro _ rfl
        refine bE (L _ C _ z) ?_
        refine aj (R:=[]) trivial {} 1 ?_
        exact af _ _ (fin _ _ C _ z f4 n4)
      ·have m:=v.below (al I)
       refine mt 0 (F I) m ?_
       have Q:=(f2.below (al I)).low (A5 _) (show I.heap.size<=(I.alloc (.cells (pcs zeroM zeroA 0) 48)).heap.size by rw [u];omega)
       refine io (X N O _ _ m Q (by rw [u];omega)) ?_
       rintro e W4 ⟨C,_,_,rfl,f4,n4,k4⟩
       have U:=m.below k4
       have z:=pz I _ v k4
       refine ⟨_,0,rfl,λ_=>U,?_⟩
       refine ae (jQ U) {} 2 rfl ?_
       rintro _ rfl
       refine bE (L _ C _ z) ?_
       refine aj (R:=[]) trivial {} 1 ?_
       exact af _ _ (fin _ _ C _ z (f4.low s0 (A5 _)) λq hq e=>by
        rcases n4 q hq _ e with n|n
        ·rw [u] at n;omega
        ·have:=(o2.lt _ n).2;omega)
     ·have D:=p.below (al W1)
      refine mt 0 (F W1) D ?_
      refine io (hcl _ D) ?_
      rintro e I ⟨N,O,rfl,o2,K⟩
      have v:=D.below K
      have z2:=K.size
      have f2:=pM o2 z2
      refine ⟨_,0,rfl,λ_=>v,?_⟩
      refine io (X N O _ I v f2 z2) ?_
      rintro e y ⟨C,_,_,rfl,Q,n3,k3⟩
      have m:=v.below k3
      have z:=pz W1 _ p (aa K k3)
      rw [u] at z2
      refine ⟨_,0,rfl,λ_=>m,?_⟩
      refine ae (jQ m) {} 2 rfl ?_
      rintro _ rfl
      refine bE (L _ C _ z) ?_
      refine aj (R:=[]) trivial {} 1 ?_
      exact af _ _ (fin _ _ C _ z (Q.low (by rw [u];omega) (A5 _)) λq hq e=>by
       have:=((Q.own q hq).lt _ e).1
       rw [u] at this
       omega)
