/- Own lemmas. -/
import Derived.Test.YtfagphfjfhpmjaaGreatDoorAuj
import Derived.Test.YtfagphfjfhpmjaaGreatDoorJ21
import Derived.Deep.SlicePairs
set_option maxRecDepth 100000
namespace Go.Proofs.YtfagphfjfhpmjaaGreatDoor
open Go.RowKit Tryz
set_option linter.unusedVariables false
variable {w M:World} {W C:Nat} {a:Option Addr} {g:List Int} {c:MV} {A:MA} {n:Array Value} (l:MV) (B:MA) (D:World)
structure Pr (w:World) (cs:Array Value) (g:Nat) (M:MV) (C:MA) (W:World):Prop where
 b:Bs w [(cs,32),(ap au zeroA,32)] W
 row:W.heap[g]?=some (.cells (bz au zeroA ⟨.nilFunc,0,0,0,0,0,0,.nilIface,0,0,false,false,0,0⟩) 82 (0,0))
 fam:aZ (w.heap.size+2) W.heap.size W (aJ M C)
 ne:∀ q ∈ aJ M C,q.v.ownBlock≠some g
 lo:w.heap.size+2<=g
theorem tM:(bz l B tS).all (·.oneCell')=true:=by unfold bz;kernel_rfl
theorem Bs.two (h:Bs w [(n,32),(ap au zeroA,32)] M):w.heap.size+2<=M.heap.size:=by have:=(Array.getElem?_eq_some_iff.1 (h.1 1 _ rfl)).1;omega
theorem jG {P:Program} {fn:Func} {Rs:Ending->World->Prop} {bs:List (Array Value × TypeId)} (h:Bs w bs M):oM P (Bs w bs) (λx=>x=M) (lf w.heap.size bs) false (bodyPost P fn Rs):=
 ⟨λ_ e=>e ▸ h,(Bs.eng (P:=P) (fn:=fn) (Rs:=Rs)).rows,(λh=>kd),cL⟩
theorem MC:(do pure (.value (<- Instr.build 82 #[(0,.agg (ap (tj l l.ram) B)),(1,.func (.func 50) #[] #[])])):Sem Next).run prog D=.ok (.value (.agg (bz l B tS))) D:=by kernel_rfl
theorem pd {c':Nat} (o:w.ownsRow W 5 1 (.slice a C c') C (g.map (Value.int .u8))) (b:W<=w.heap.size):aZ W w.heap.size w [aw a C c' g]:=(aZ.nil W W w).cons (aw a C c' g) W w.heap.size o (Nat.le_refl _) (Nat.le_refl _) (Nat.le_refl _) b
theorem zZ (hl:iU l) (hs:tA D l B) (hf:OH l) (hT:ou D):Calls prog 13 #[.agg (ap l B)] D (mQ D (Mn l)):=by
 have U:=λW (hb:Bw D W)=>fO l B W hl (hs.below hb) hf.mw.cs;unfold Mn;refine bf (S:=Bs D [(ap l B,32),(ap au zeroA,32)]) (args:=[.agg (ap l B)]) [(ap l B,32),(ap au zeroA,32)] func13 ?_;cases ok:gE l with
 | false =>rw [ok] at U;rw [if_neg a6];refine ae Bs.eng {cv:=[(7,eY U)]} 40 (Bs.start _ _) λW1 u=>?_;refine bx (aD (g:=D.heap.size+1) (old:=ap au zeroA) (cells:=ap au zeroA) (t:=32) (ty:=32) (u.1 1 _ rfl) a4 rfl (cj _ _)) ?_;refine jv (R:=[]) trivial {} 40 λa H=>⟨.tuple #[.agg (ap au zeroA),.i 0],yp H rfl a4 a4 (setRow_heap _ _ _ _ _ _ (u.1 1 _ rfl)) underlying32 rfl a4,zeroA,rfl,g9 _ _ _,aR u.2 ab _⟩
 | true =>
   rw [ok] at U;rw [if_pos rfl];have hg:=hf.gd ok;have O:=λ(A g:Nat) (w0 W:World) (C:MA) (h:Tq A g w0 l C tS W)=>QS h hg hf.ud;generalize dP l=V at O ⊢;have hGw:=hT.lt;have fin:∀ (S:World->Prop) (g:Nat) (C:MA) (W:World),Pr D (ap l B) g l C W->Wg prog S (bodyPost prog Tryz.f13 (mQ D V)) Tryz.f13.ntmps [.code (ay 3 (aW Tryz.f13))] [(2,.p (D.heap.size+1) 0,0),(4,.p g 0,1)] (W.setRow g (bz l C tS)):=by
    intro S g C W v;have hlo:=v.lo;have y:Bw D (W.setRow g (bz l C tS)):=aR v.b.2 ab _;have r1:(W.setRow g (bz l C tS)).heap[D.heap.size+1]?=some (.cells (ap au zeroA) 32 (0,0)):=(setRow_other _ _ _ _ ab).trans (v.b.1 1 _ rfl);have q0:Tq (D.heap.size+2) g (W.setRow g (bz l C tS)) l C tS (W.setRow g (bz l C tS)):=by
     refine ⟨⟨_,setRow_heap _ _ _ _ _ _ v.row⟩,?_,v.ne,?_,rfl,rfl,rfl,Nat.le_refl _,λ_ _ _=>rfl,hT.below y,ab,ab⟩;·rw [setRow_size];exact v.fam.other λq I k e=>setRow_other _ _ _ _ (λe2=>v.ne q I (by rw [e,e2]))
     ·rw [setRow_size];exact v.b.two
    generalize W.setRow g (bz l C tS)=W1 at y r1 q0 ⊢;refine eB (R:=[]) trivial {} 40 (O _ _ _ _ C q0) ?_;rintro e c ⟨rfl,w,tx,J⟩;refine ⟨_,0,rfl,?_⟩;have s:∀ k,k<D.heap.size+2->c.heap[k]?=W1.heap[k]?:=λk H=>J.block k H ab;have b2:Bw D c:=⟨J.os.trans y.os,J.tape.trans y.tape,J.output.trans y.output,Nat.le_trans y.size J.size,λk H=>(s k ab).trans (y.block k H)⟩;have r2:c.heap[D.heap.size+1]?=some (.cells (ap au zeroA) 32 (0,0)):=(s _ ab).trans r1;refine aL 4 1 ?_;refine eQ (R:=[⟨g,bz V.1 w tx,[]⟩]) ⟨J.row.in_,trivial⟩ {} 40 (aD (g:=D.heap.size+1) (t:=32) (ty:=32) (old:=ap au zeroA) (cells:=ap V.1 w) r2 a4 rfl (cj _ _)) ?_;refine jv (R:=[]) trivial {} 40 λa H=>⟨.tuple #[.agg (ap V.1 w),.i V.2],yp H rfl a4 a4 (setRow_heap _ _ _ _ _ _ r2) underlying32 rfl a4,w,rfl,?_,aR b2 ab _⟩;refine aZ.low (B:=D.heap.size+2) ?_ ab (Nat.le_refl _);rw [setRow_size];exact J.fam.mono λk u p f=>setRow_other _ _ _ _ ab
   refine ae Bs.eng {cv:=[(7,eY U)]} 9 (Bs.start _ _) λZ h0=>?_;refine an [.code (ay 2 (aW Tryz.f13))] [(1,.p D.heap.size 0,1),(2,.p (D.heap.size+1) 0,2)] ?_;refine aP (R:=[]) trivial {} 1 ?_;refine ol 1 ?_;have N:=λW (h:Bs D [(ap l B,32),(ap au zeroA,32)] W)=>kT B.ar l.ram.length B.cr l.ram W rfl hl.ram (hs.below h.2).ram;have G:=λ(x:Option Addr) (E A:Nat) W (h:Bs D [(ap l B,32),(ap au zeroA,32)] W) (hR:aZ A W.heap.size W [aw x l.ram.length E l.ram]) (hB:A<=W.heap.size)=>mL l B l.ram x l.ram.length E A W hl (hs.below h.2) hR hB rfl;have d:=h0.below (Below.refl Z.heap.size Z).drew;have s0:=d.two;have L:∀ W:World,Bw W (W.alloc (.cells (bz au zeroA ⟨.nilFunc,0,0,0,0,0,0,.nilIface,0,0,false,false,0,0⟩) 82)):=λW=>bal _ _;have b:∀ W:World,(W.alloc (.cells (bz au zeroA ⟨.nilFunc,0,0,0,0,0,0,.nilIface,0,0,false,false,0,0⟩) 82)).heap.size=W.heap.size+1:=λW=>World.size_alloc _ _;have m:=λ(W:World)=>cT (P:=prog) (T:=82) (z:=.agg (bz au zeroA ⟨.nilFunc,0,0,0,0,0,0,.nilIface,0,0,false,false,0,0⟩)) a4 W;have zc:(Value.agg (bz au zeroA ⟨.nilFunc,0,0,0,0,0,0,.nilIface,0,0,false,false,0,0⟩)).cells=(bz au zeroA ⟨.nilFunc,0,0,0,0,0,0,.nilIface,0,0,false,false,0,0⟩):=rfl;rw [zc] at m;generalize Z.drew=W1 at d s0 ⊢;refine ae (jG d) {} 3 rfl ?_;rintro _ rfl;rename_i W1;refine mr (i:=3) (j:=6) ?_ ?_
   ·refine lY (N _ d) ?_;rintro e c ⟨x,E,rfl,Y,s⟩;have p:=d.below s;have K:=s.size;have X:=pd Y K;refine ⟨_,0,rfl,p,?_⟩;refine mr (i:=4) (j:=6) ?_ ?_
    ·refine lY (G x E _ c p X K) ?_;rintro e M ⟨C,_,_,rfl,F,n3,Q⟩;have f:=p.below Q;have z3:=Q.size;have r:=f.below (L M);have o:Pr D (ap l B) M.heap.size l C (M.alloc (.cells (bz au zeroA ⟨.nilFunc,0,0,0,0,0,0,.nilIface,0,0,false,false,0,0⟩) 82)):=⟨r,heap_alloc_new _ _,(F.below (L M)).low s0 (by rw [b];omega),λq I e=>by have:=F.hi q I _ e;omega,ab⟩;refine ⟨_,0,rfl,f,?_⟩;refine mr (i:=5) (j:=6) ?_ ?_;·refine nI 0 (MC l C M) f ?_;refine fz 0 (m M) (hS:=λ_=>r) ?_;refine ae (jG r) {} 1 rfl ?_;rintro _ rfl;refine bx (aD (g:=M.heap.size) (t:=82) (ty:=82) (old:=(bz au zeroA ⟨.nilFunc,0,0,0,0,0,0,.nilIface,0,0,false,false,0,0⟩)) (cells:=bz l C tS) o.row a4 rfl (tM _ _)) ?_;refine aP (R:=[]) trivial {} 1 ?_;exact an _ _ (fin _ _ C _ o)
     ·refine nI 0 (m M) r ?_;refine ae (jG r) {} 2 rfl ?_;rintro _ rfl;refine bx (aD (g:=M.heap.size) (t:=82) (ty:=82) (old:=(bz au zeroA ⟨.nilFunc,0,0,0,0,0,0,.nilIface,0,0,false,false,0,0⟩)) (cells:=bz l C tS) o.row a4 rfl (tM _ _)) ?_;refine aP (R:=[]) trivial {} 1 ?_;exact an _ _ (fin _ _ C _ o)
    ·have f:=p.below (L c);refine nI 0 (m c) f ?_;have F:=(X.below (L c)).low (Nat.le_refl _) (show c.heap.size<=(c.alloc (.cells (bz au zeroA ⟨.nilFunc,0,0,0,0,0,0,.nilIface,0,0,false,false,0,0⟩) 82)).heap.size by rw [b];omega);refine ij (G x E _ _ f F (by rw [b];omega)) ?_;rintro e W4 ⟨C,_,_,rfl,f4,n4,k4⟩;have r:=f.below k4;have o:Pr D (ap l B) c.heap.size l C W4:=by
      refine ⟨r,aB k4 (heap_alloc_new _ _),f4.low s0 (Nat.le_refl _),λq I e=>?_,ab⟩;rcases n4 q I _ e with n | n;·rw [b] at n;omega
      ·have:=(Y.lt _ n).2;omega
     refine ⟨_,0,rfl,λ_=>r,?_⟩;refine ae (jG r) {} 2 rfl ?_;rintro _ rfl;refine bx (aD (g:=c.heap.size) (t:=82) (ty:=82) (old:=(bz au zeroA ⟨.nilFunc,0,0,0,0,0,0,.nilIface,0,0,false,false,0,0⟩)) (cells:=bz l C tS) o.row a4 rfl (tM _ _)) ?_;refine aP (R:=[]) trivial {} 1 ?_;exact an _ _ (fin _ _ C _ o)
   ·have u:=d.below (L W1);refine nI 0 (m W1) u ?_;refine ij (N _ u) ?_;rintro e c ⟨x,E,rfl,Y,s⟩;have p:=u.below s;have K:=s.size;have X:=pd Y K;refine ⟨_,0,rfl,λ_=>p,?_⟩;refine ij (G x E _ c p X K) ?_;rintro e M ⟨C,_,_,rfl,F,n3,Q⟩;have f:=p.below Q;rw [b] at K;have o:Pr D (ap l B) W1.heap.size l C M:=(by refine ⟨f,aB Q (aB s (heap_alloc_new _ _)),F.low (by rw [b];omega) (Nat.le_refl _),λq I e=>?_,ab⟩;have:=((F.own q I).lt _ e).1;rw [b] at this;omega);refine ⟨_,0,rfl,λ_=>f,?_⟩;refine ae (jG f) {} 2 rfl ?_;rintro _ rfl;refine bx (aD (g:=W1.heap.size) (t:=82) (ty:=82) (old:=(bz au zeroA ⟨.nilFunc,0,0,0,0,0,0,.nilIface,0,0,false,false,0,0⟩)) (cells:=bz l C tS) o.row a4 rfl (tM _ _)) ?_;refine aP (R:=[]) trivial {} 1 ?_;exact an _ _ (fin _ _ C _ o)
structure Pm (w:World) (g:Nat) (cs:Array Value) (M:MV) (C:MA) (W:World):Prop where
 out:W.heap[w.heap.size+1]?=some (.cells (ap au zeroA) 32 (0,0))
 row:W.heap[g]?=some (.cells cs 32 (0,0))
 fam:aZ (w.heap.size+2) W.heap.size W (aJ M C)
 ne:∀ q ∈ aJ M C,q.v.ownBlock≠some g
 lo:w.heap.size+2<=g
 bl:Bw w W
structure Pl (w:World) (g:Nat) (M:MV) (C:MA) (xs:List Int) (a:Option Addr) (c:Nat) (W:World):Prop where
 pm:Pm w g (ap M C) M C W
 own:W.ownsRow (w.heap.size+2) 2 1 (.slice a xs.length c) xs.length (xs.map (Value.int .i64))
theorem Pm.put (h:Pm w W n c A M) (d:Array Value):Pm w W d c A (M.setRow W d):=by have:=h.lo;refine ⟨(setRow_other _ _ _ _ ab).trans h.out,setRow_heap _ _ _ _ _ _ h.row,?_,h.ne,h.lo,aR h.bl ab _⟩;rw [setRow_size];exact h.fam.other λq b k e=>setRow_other _ _ _ _ (λa=>h.ne q b (by rw [e,a]))
theorem Pl.far (h:Pl w W c A g a C M) {k:Nat} (e:(Value.slice a g.length C).ownBlock=some k):k≠W:=by
 rintro rfl;rcases h.own.2 with ⟨f,_⟩|⟨b,cap,i,f,_,d,_⟩;·rw [f] at e;cases e
 ·rw [f] at e;cases e;rw [h.pm.row] at d;injection d with d
  injection d with _ e4
  exact absurd e4 a6
theorem Pl.step {W1:World} {N:MV} {D:MA} (h:Pl w W c A g a C M) (f:aZ M.heap.size W1.heap.size W1 (aJ N D)) (k:Bw M W1):Pl w W N D g a C (((W1.alloc (.cells (ap au zeroA) 32)).setRow W1.heap.size (ap N D)).setRow W (ap N D)):=by have d:Bw W1 ((W1.alloc (.cells (ap au zeroA) 32)).setRow W1.heap.size (ap N D)):=aR (bal _ _) (Nat.le_refl _) _;have b:=aa k d;have l:=(Array.getElem?_eq_some_iff.1 h.pm.row).1;have p:Pm w W (ap c A) N D ((W1.alloc (.cells (ap au zeroA) 32)).setRow W1.heap.size (ap N D)):=⟨aB b h.pm.out,aB b h.pm.row,(f.below d).low (by have:=h.pm.lo;omega) d.size,λq i e=>by have:=((f.own q i).lt _ e).1;omega,h.pm.lo,aa h.pm.bl b⟩;exact ⟨p.put _,ew h.own λj e=>(setRow_other _ _ _ _ (h.far e)).trans (b.block j (h.own.lt j e).2)⟩
theorem Pl.push (h:Pl w W c A g a C M) (hn:g.length<=1000000) (x:Int):∃ (f:Option Addr) (l:Nat) (d:World),(Cw 39 (.slice a g.length C) (.slice (some ⟨M.heap.size,0,none⟩) 1 1)).run prog (M.alloc (.cells #[.i x] 2))=.ok (.value (.slice f (g++[x]).length l)) d/\Pl w W c A (g++[x]) f l d:=by
 have v:=(Array.getElem?_eq_some_iff.1 h.pm.row).1;have y:=h.pm.lo;obtain ⟨f,l,d,u,o,p,r,m,s,i⟩:=Cx h.own ab hn x;refine ⟨f,l,d,u,⟨(i _ ab λj b e=>?_).trans h.pm.out,(i _ v λj b e=>h.far b e).trans h.pm.row,?_,h.pm.ne,y,⟨r.trans h.pm.bl.os,m.trans h.pm.bl.tape,s.trans h.pm.bl.output,Nat.le_trans h.pm.bl.size p,λk t=>(i k (by have:=h.pm.bl.size;omega) λj b e=>?_).trans (h.pm.bl.block k t)⟩⟩,o⟩;·have:=(h.own.lt j b).1;omega
 ·refine (h.pm.fam.other λq n k e=>i k ((h.pm.fam.own q n).lt k e).2 λj b m=>?_).low (Nat.le_refl _) p;exact pO h.own h.pm.fam b q n (by rw [m];exact e)
 ·have:=(h.own.lt j b).1;omega
structure Lp (w:World) (g:Nat) (M:MV) (n j:Nat) (x:MV × MA × List Int × Option Addr × Nat × Nat) (W:World):Prop where
 ej:x.2.2.2.2.2+j=n
 pl:Pl w g x.1 x.2.1 x.2.2.1 x.2.2.2.1 x.2.2.2.2.1 W
 gw:Gw x.1
 ln:x.2.2.1.length=x.2.2.2.2.2
 st:cw n M=((cw j x.1).1,x.2.2.1++(cw j x.1).2)
theorem xb (n:Int) (w:World) (hl:iU l) (hs:tA w l B) (hf:OH l) (hT:ou w):Calls prog 18 #[.agg (ap l B),.i n] w (SW w (EE l n)):=by
 have Z:=λW (hb:Bw w W)=>fO l B W hl (hs.below hb) hf.mw.cs;unfold EE;refine bf (S:=Bs w [(ap l B,32),(ap au zeroA,32)]) (args:=[.agg (ap l B),.i n]) [(ap l B,32),(ap au zeroA,32)] func18 ?_;cases ok:gE l with
 | false =>rw [ok] at Z;rw [if_neg bc];refine ae Bs.eng {cv:=[(11,eY Z)]} 40 (Bs.start _ _) λW1 u=>?_;exact a0y
 | true =>
   rw [ok] at Z;cases d1:decide (n<0) with
   | true =>have:=of_decide_eq_true d1;rw [if_neg a8];refine ae Bs.eng {cv:=[(11,eY Z)],eq:=[(15,af d1)]} 40 (Bs.start _ _) λW1 u=>?_;exact a0y
   | false =>
     have n0:=of_decide_eq_false d1;cases d2:decide (300<n) with
     | true =>have:=of_decide_eq_true d2;rw [if_neg a8];refine ae Bs.eng {cv:=[(11,eY Z)],eq:=[(15,af d1),(19,af d2)]} 40 (Bs.start _ _) λW1 u=>?_;exact a0y
     | false =>
       have n1:=of_decide_eq_false d2;rw [if_pos a8];have hg:Gw l:=⟨hf.gd ok,hf.ud⟩;obtain ⟨m,rfl⟩:=Int.eq_ofNat_of_zero_le (show 0<=n by omega);rw [Int.toNat_natCast];have fin:∀ (S:World->Prop) (g:Nat) (C:MA) (W:World),Pm w g (ap au zeroA) l C W->Wg prog S (bodyPost prog Tryz.f18 (SW w (cw m l))) Tryz.f18.ntmps [.code (ay 3 (aW Tryz.f18))] [(1,.i (m:Nat),0),(4,.p (w.heap.size+1) 0,0),(6,.p g 0,1)] (W.setRow g (ap l C)):=by
        intro S g C W hp;have h0:Lp w g l m m (l,C,[],none,0,0) (W.setRow g (ap l C)):=⟨bc,⟨hp.put _,⟨rfl,.inl ⟨rfl,rfl⟩⟩⟩,hg,rfl,bc⟩;generalize W.setRow g (ap l C)=W0 at h0 ⊢;refine aP (R:=[]) trivial {} 20 ?_;refine jc (λx:MV × MA × List Int × Option Addr × Nat × Nat=>[(4,.p (w.heap.size+1) 0,0),(6,.p g 0,1),(7,.slice x.2.2.2.1 x.2.2.1.length x.2.2.2.2.1,0),(27,.i (m:Nat),0),(28,.i (x.2.2.2.2.2:Nat),0)]) (Lp w g l m) m (l,C,[],none,0,0) a4 a4 h0 ?_;clear h0 hp;rintro j ⟨f,Q,xs,a,c,i⟩ W ⟨ej,pl,H,ln,N⟩ R hR;dsimp only at ej pl H ln N ⊢;have O:∀ (o:MV) (M:MA) (ys:List Int) (b:Option Addr) (d:Nat) (V:World),cw m l=(o,ys)->Pl w g o M ys b d V->SW w (cw m l) (.returned (.tuple #[.agg (ap o M),.slice b ys.length d])) (V.setRow (w.heap.size+1) (ap o M)):=(by intro o M ys b d V e p;rw [e];have lo:=p.pm.lo;refine ⟨M,b,d,rfl,?_,ew (dG p.own ab) λk e=>setRow_other _ _ _ _ (by have:=(p.own.lt k e).1;omega),aR p.pm.bl ab _⟩;rw [setRow_size];exact (p.pm.fam.mono λk u I v=>setRow_other _ _ _ _ ab).low ab (Nat.le_refl _));cases j with
        | zero =>have q:decide ((i:Int)<(m:Int))=false:=ba;have e:cw m l=(f,xs):=(by rw [N];simp [cw]);exact hO (R:=[⟨g,ap f Q,[]⟩]) ⟨⟨_,_,pl.pm.row⟩,trivial⟩ {eq:=[(29,af q)]} 60 pl.pm.out (by rfl) (cj _ _) underlying32 (O f Q xs a c W e pl)
        | succ j =>
          have q:decide ((i:Int)<(m:Int))=true:=bw;have sr:=zZ f Q W H.1.len pl.pm.fam.msl ⟨H.1.mw,H.1.ux,H.1.pc,H.1.hd,H.2⟩ (hT.below pl.pm.bl);have g1:=H.step;have e1:cw (j+1) f=if ((dP f).2==4)=true then ((dP f).1,[(dP f).2]) else ((cw j (dP f).1).1,(dP f).2::(cw j (dP f).1).2):=rfl
          rw [e1] at N;clear e1;unfold Mn at sr;rw [if_pos H.1.ok] at sr;generalize dP f=V at sr g1 N;obtain ⟨o,k⟩:=V;dsimp only at sr g1 N;refine eB (R:=[⟨g,ap f Q,[]⟩]) ⟨⟨_,_,pl.pm.row⟩,trivial⟩ {eq:=[(29,af q)]} 60 sr ?_;rintro e W1 ⟨M,rfl,f2,K⟩;refine ⟨_,0,rfl,?_⟩;have l2:=pl.step f2 K;have zc:(Value.agg (ap au zeroA)).cells=ap au zeroA:=rfl;refine jI (R:=[]) trivial {} 20 2 (cT (T:=32) (z:=.agg (ap au zeroA)) a4 W1) ?_;rw [zc];refine eQ (R:=[]) trivial {} 20 (aD (g:=W1.heap.size) (t:=32) (ty:=32) (old:=ap au zeroA) (cells:=ap o M) (heap_alloc_new _ _) a4 rfl (cj _ _)) ?_;have rg:((W1.alloc (.cells (ap au zeroA) 32)).setRow W1.heap.size (ap o M)).heap[g]?=some (.cells (ap f Q) 32 (0,0)):=aB (aa K (aR (bal _ _) (Nat.le_refl _) _)) pl.pm.row;refine eQ (R:=[⟨g,ap f Q,[]⟩,⟨W1.heap.size,ap o M,[]⟩]) ⟨⟨_,_,rg⟩,⟨_,_,setRow_heap _ _ _ _ _ _ (heap_alloc_new _ _)⟩,trivial⟩ {} 40 (aD (g:=g) (t:=32) (ty:=32) (old:=ap f Q) (cells:=ap o M) rg a4 rfl (cj _ _)) ?_;generalize ((W1.alloc (.cells (ap au zeroA) 32)).setRow W1.heap.size (ap o M)).setRow g (ap o M)=y at l2 ⊢;refine jI (R:=[]) trivial {} 20 0 (Gj y k) ?_;obtain ⟨E,F,D,hr,l3⟩:=l2.push ab k;refine fz 0 hr ?_;have hlen:(xs++[k]).length=xs.length+1:=bc;cases hk:(k==4) with
          | true =>rw [hk,if_pos rfl] at N;exact hO (R:=[⟨g,ap o M,[]⟩]) ⟨⟨_,_,l3.pm.row⟩,trivial⟩ {eq:=[(41,af hk)]} 60 l3.pm.out (by rfl) (cj _ _) underlying32 (O o M (xs++[k]) E F D N l3)
          | false =>rw [hk,if_neg a6] at N;have hw:IntKind.i64.wrap (((i:Nat):Int)+1)=((i+1:Nat):Int):=d6;exact fx (R:=[]) trivial {eq:=[(41,af hk),(42,cZ .i64 hw)]} 60 λb hb=>hR b D j (o,M,xs++[k],E,F,i+1) ab (hb.less a4) ⟨a9,l3,g1,by dsimp only;rw [hlen];omega,by rw [N];simp⟩
       refine ae Bs.eng {cv:=[(11,eY Z)],eq:=[(15,af d1),(19,af d2)]} 17 (Bs.start _ _) λW0 h0=>?_;refine an [.code (ay 2 (aW Tryz.f18))] [(1,.i (m:Nat),0),(2,.p w.heap.size 0,1),(4,.p (w.heap.size+1) 0,2)] ?_;refine aP (R:=[]) trivial {} 1 ?_;refine ol 1 ?_;have hcl:=λW (h:Bs w [(ap l B,32),(ap au zeroA,32)] W)=>kT B.ar l.ram.length B.cr l.ram W rfl hl.ram (hs.below h.2).ram;have X:=λ(E:Option Addr) (F A:Nat) W (h:Bs w [(ap l B,32),(ap au zeroA,32)] W) (hR:aZ A W.heap.size W [aw E l.ram.length F l.ram]) (hB:A<=W.heap.size)=>mL l B l.ram E l.ram.length F A W hl (hs.below h.2) hR hB rfl;have s:=h0.below (Below.refl W0.heap.size W0).drew;have s0:=s.two;have al:∀ W:World,Bw W (W.alloc (.cells (ap au zeroA) 32)):=λW=>bal _ _;have r:∀ W:World,(W.alloc (.cells (ap au zeroA) 32)).heap.size=W.heap.size+1:=λW=>World.size_alloc _ _;have L:∀ W:World,_:=λ(W:World)=>cT (P:=prog) (T:=32) (z:=.agg (ap au zeroA)) a4 W;have zc:(Value.agg (ap au zeroA)).cells=ap au zeroA:=rfl;rw [zc] at L;have Y:∀ (g:Nat) (C:MA) (W:World),Pm w g (ap au zeroA) l C W->_:=λg C W G=>aD (P:=prog) (g:=g) (t:=32) (ty:=32) (old:=ap au zeroA) (cells:=ap l C) G.row a4 rfl (cj _ _);generalize W0.drew=W1 at s s0 ⊢;refine ae (jG s) {} 3 rfl ?_;rintro _ rfl;rename_i W1;refine mr (i:=3) (j:=5) ?_ ?_
       ·refine lY (hcl _ s) ?_;rintro e y ⟨E,F,rfl,o2,K⟩;have I:=s.below K;have z2:=K.size;have f2:=pd o2 z2;refine ⟨_,0,rfl,I,?_⟩;refine mr (i:=4) (j:=5) ?_ ?_;·refine lY (X E F _ y I f2 z2) ?_;rintro e D ⟨C,_,_,rfl,U,n3,k3⟩;have v:=I.below k3;have z3:=k3.size;have J:=v.below (al D);have G:Pm w D.heap.size (ap au zeroA) l C (D.alloc (.cells (ap au zeroA) 32)):=⟨J.1 1 _ rfl,heap_alloc_new _ _,(U.below (al D)).low s0 (by rw [r];omega),λq hq e=>by have:=U.hi q hq _ e;omega,ab,J.2⟩;refine ⟨_,0,rfl,v,?_⟩;refine fz 0 (L D) (hS:=λ_=>J) ?_;refine ae (jG J) {} 1 rfl ?_;rintro _ rfl;refine bx (Y _ C _ G) ?_;refine aP (R:=[]) trivial {} 1 ?_;exact an _ _ (fin _ _ C _ G)
        ·have v:=I.below (al y);refine nI 0 (L y) v ?_;have U:=(f2.below (al y)).low (Nat.le_refl _) (show y.heap.size<=(y.alloc (.cells (ap au zeroA) 32)).heap.size by rw [r];omega);refine ij (X E F _ _ v U (by rw [r];omega)) ?_;rintro e W4 ⟨C,_,_,rfl,f4,n4,k4⟩;have J:=v.below k4;have G:Pm w y.heap.size (ap au zeroA) l C W4:=by
          refine ⟨J.1 1 _ rfl,aB k4 (heap_alloc_new _ _),f4.low s0 (Nat.le_refl _),λq hq e=>?_,ab,J.2⟩;rcases n4 q hq _ e with n | n;·rw [r] at n;omega
          ·have:=(o2.lt _ n).2;omega
         refine ⟨_,0,rfl,λ_=>J,?_⟩;refine ae (jG J) {} 1 rfl ?_;rintro _ rfl;refine bx (Y _ C _ G) ?_;refine aP (R:=[]) trivial {} 1 ?_;exact an _ _ (fin _ _ C _ G)
       ·have u:=s.below (al W1);refine nI 0 (L W1) u ?_;refine ij (hcl _ u) ?_;rintro e y ⟨E,F,rfl,o2,K⟩;have I:=u.below K;have z2:=K.size;have f2:=pd o2 z2;refine ⟨_,0,rfl,λ_=>I,?_⟩;refine ij (X E F _ y I f2 z2) ?_;rintro e D ⟨C,_,_,rfl,U,n3,k3⟩;have v:=I.below k3;rw [r] at z2;have G:Pm w W1.heap.size (ap au zeroA) l C D:=(by refine ⟨v.1 1 _ rfl,aB k3 (aB K (heap_alloc_new _ _)),U.low (by rw [r];omega) (Nat.le_refl _),λq hq e=>?_,ab,v.2⟩;have:=((U.own q hq).lt _ e).1;rw [r] at this;omega);refine ⟨_,0,rfl,λ_=>v,?_⟩;refine ae (jG v) {} 1 rfl ?_;rintro _ rfl;refine bx (Y _ C _ G) ?_;refine aP (R:=[]) trivial {} 1 ?_;exact an _ _ (fin _ _ C _ G)
def pcs (M:MV) (A:MA) (s:Nat):Array Value:=#[.u M.pc,.slice A.ax M.x.length A.cx,.i M.pr,.slice A.ac M.cs.length A.cc,.slice A.ar M.ram.length A.cr,.u M.d.t,.u M.d.cm,.bool M.d.so,.slice A.ai M.d.xs.length A.ci,.slice A.ao M.d.ys.length A.co,.i M.d.ir,.u M.hd,.bool M.hl,.bool M.wt,.i s]
structure Pp (w:World) (g:Nat) (M:MV) (A:MA) (s:Nat) (W:World):Prop where
 row:W.heap[g]?=some (.cells (pcs M A s) 107 (0,0))
 fam:aZ (w.heap.size+2) W.heap.size W (aJ M A)
 ne:∀ q ∈ aJ M A,q.v.ownBlock≠some g
 lo:w.heap.size+2<=g
 out:W.heap[w.heap.size+1]?=some (.cells (ap au zeroA) 32 (0,0))
 bl:Bw w W
section
variable {w W W1 : World} {g s : Nat} {M N : MV} {A C : MA}
theorem Pp.lt (h:Pp w g M A s W):g<W.heap.size:=(Array.getElem?_eq_some_iff.1 h.row).1
theorem Pp.below (h:Pp w g M A s W) (k:Bw W W1):Pp w g M A s W1:=⟨aB k h.row,(h.fam.below k).low (Nat.le_refl _) k.size,h.ne,h.lo,aB k h.out,aa h.bl k⟩
theorem Pp.put (h:Pp w g M A s W) (f:aZ (w.heap.size+2) W.heap.size W (aJ N C)) (hn:∀ q ∈ aJ N C,q.v.ownBlock≠some g) (c:Nat):Pp w g N C c (W.setRow g (pcs N C c)):=by have:=h.lo;refine ⟨setRow_heap _ _ _ _ _ _ h.row,?_,hn,h.lo,(setRow_other _ _ _ _ ab).trans h.out,aR h.bl ab _⟩;rw [setRow_size];exact f.other λq b k e=>setRow_other _ _ _ _ (λa=>hn q b (by rw [e,a]))
theorem Pp.new (h:Pp w g M A s W) (k:Bw W W1) (f:aZ W.heap.size W1.heap.size W1 (aJ N C)):Pp w g N C s (W1.setRow g (pcs N C s)):=by have c:=h.lt;have b:=h.lo;exact (h.below k).put (f.low ab (Nat.le_refl _)) (λq a e=>by have:=((f.own q a).lt g e).1;omega) s
theorem Pp.dev (h:Pp w g M A s W) (k:Bw W W1) (D:DV) {a:Option Addr} {c:Nat} {b:Option Addr} {d:Nat} (f:aZ W.heap.size W1.heap.size W1 (vO D a c b d)):Pp w g (ch M D) (lR A a c b d) s (W1.setRow g (pcs (ch M D) (lR A a c b d) s)):=by have m:=h.lt;have p:=h.lo;have i:fo W W1 A.ai A.ci M.d.xs A.ao A.co M.d.ys a c D.xs b d D.ys:=.inr (.inr (.inr f));refine (h.below k).put (Fi h.fam ab k D i) (λq n e=>?_) s;obtain ⟨o,l,j⟩:=Fj D i q n g e m;exact h.ne o l j
theorem Pp.tab (h:Pp w g M A s W) (t:ou w):ou W:=t.below h.bl
theorem QT (h:Pp w g M A s W):(do Instr.storeAt 32 (.p g 0) (.agg (ap N C));pure Next.skip:Sem Next).run prog W=.ok .skip (W.setRow g (pcs N C s)):=by have:=nK (P:=prog) W g 0 107 32 (pcs M A s) (ap N C) h.row a4 (Nat.le_of_ble_eq_true rfl) (cj _ _);simp only [Instr.storeAt,Instr.sureAddr,Sem.run_bind,Sem.run_pure,Result.andThen_ok,this];rfl
theorem MD (h:Pp w g M A s W) (D:DV) (a:Option Addr) (c:Nat) (b:Option Addr) (d:Nat):(do Instr.storeAt 30 (.p g 5) (.agg (il D a c b d));pure Next.skip:Sem Next).run prog W=.ok .skip (W.setRow g (pcs (ch M D) (lR A a c b d) s)):=by have:=nK (P:=prog) W g 5 107 30 (pcs M A s) (il D a c b d) h.row a4 (Nat.le_of_ble_eq_true rfl) (gm _ _ _ _ _);simp only [Instr.storeAt,Instr.sureAddr,Sem.run_bind,Sem.run_pure,Result.andThen_ok,this];rfl
theorem Pp.cnt (h:Pp w g M A s W) (c:Nat):Pp w g M A c (W.setCell ⟨g,14,none⟩ (.i c)):=by have:=h.lo;refine ⟨fH h.row _,?_,h.ne,h.lo,(Below.heap_setCell W _ _ _ a9).trans h.out,⟨h.bl.os,h.bl.tape,h.bl.output,by rw [aO];exact h.bl.size,λk b=>(Below.heap_setCell W _ _ k a9).trans (h.bl.block k b)⟩⟩;rw [aO];exact h.fam.other λq d k e=>Below.heap_setCell W _ _ k (λa=>h.ne q d (by rw [e];exact congrArg some a))
theorem aZ.setC {B E b:Nat} (h:aZ B E W (aJ M A)) (hb:A.ac=some ⟨b,0,none⟩) (i:Nat) (v:Int):aZ B E (W.setCell ⟨b,i,none⟩ (.u v)) (aJ (cM M (M.cs.set i v)) A):=by
 have c:W.ownsRow B 22 1 (.slice A.ac M.cs.length A.cc) M.cs.length (M.cs.map (Value.int .u64)):=h.own (aG A.ac M.cs.length A.cc M.cs) ck;rw [hb] at c;have a:=c.stored i (.u v);rw [kS] at a;have e:W.grownBy (W.setCell ⟨b,i,none⟩ (.u v)) (aG A.ac M.cs.length A.cc M.cs).v.ownBlock:=by simp only [aG];rw [hb];exact a.2
 have f:=aZ.mark (L1:=[aG A.ax M.x.length A.cx M.x]) (r:=aG A.ac M.cs.length A.cc M.cs) (L2:=[aw A.ar M.ram.length A.cr M.ram,aw A.ai M.d.xs.length A.ci M.d.xs,aw A.ao M.d.ys.length A.co M.d.ys]) h e ((M.cs.set i v).map (Value.int .u64)) (by simp only [aG];rw [hb];exact a.1);have d:aJ (cM M (M.cs.set i v)) A=[aG A.ax M.x.length A.cx M.x]++⟨(aG A.ac M.cs.length A.cc M.cs).t,(aG A.ac M.cs.length A.cc M.cs).v,(aG A.ac M.cs.length A.cc M.cs).n,(M.cs.set i v).map (Value.int .u64)⟩::[aw A.ar M.ram.length A.cr M.ram,aw A.ai M.d.xs.length A.ci M.d.xs,aw A.ao M.d.ys.length A.co M.d.ys]:=by simp [aJ,cM,aG]
 rw [d];exact f.1
theorem Pp.setC {b:Nat} (h:Pp w g M A s W) (hb:A.ac=some ⟨b,0,none⟩) (m:M.cs.length=22) (i:Nat) (v:Int):Pp w g (cM M (M.cs.set i v)) A s (W.setCell ⟨b,i,none⟩ (.u v)):=by
 have c:aG A.ac M.cs.length A.cc M.cs ∈ aJ M A:=ck
 have a:(aG A.ac M.cs.length A.cc M.cs).v.ownBlock=some b:=by show (Value.slice A.ac M.cs.length A.cc).ownBlock=_;rw [hb];rfl
 have o:=((h.fam.own _ c).lt b a).1;have l:g≠b:=λe=>h.ne _ c (by rw [a,e]);have d:∀ k,k≠b->(W.setCell ⟨b,i,none⟩ (.u v)).heap[k]?=W.heap[k]?:=λk a=>Below.heap_setCell W _ _ k a;refine ⟨(d g l).trans (h.row.trans ?_),by rw [aO];exact h.fam.setC hb i v,λq c=>?_,h.lo,(d _ ab).trans h.out,⟨h.bl.os,h.bl.tape,h.bl.output,by rw [aO];exact h.bl.size,λk a=>(d k ab).trans (h.bl.block k a)⟩⟩;·simp [pcs,cM]
 ·obtain ⟨n,j,f⟩:=iY (M:=M) (M':=cM M (M.cs.set i v)) (A:=A) rfl (show (M.cs.set i v).length=M.cs.length by simp) rfl rfl rfl q c;rw [<- f];exact h.ne n j
theorem QU (h:Pp w g M A s W) (hl:iU M) (a:M.cs.length=22) (hk:kP M.d.xs.length M.d.ys.length M.d.ir=true):Calls prog 128 #[.p g 0] W λe m=>e=.returned (.tuple #[])/\Pp w g (bL M) A s m:=by
 have f:=λW=>rE M.d A.ai A.ci A.ao A.co W hl.xs hl.ys;obtain ⟨b,j,-,d⟩:=oY (h.fam.own (aG A.ac M.cs.length A.cc M.cs) ck) a ab;obtain ⟨d,n⟩:=d 9 ab;have c:b<W.heap.size:=World.block_lt_of_cell? _ _ d;have e:bL M=cM M (M.cs.set 9 (bits .or .u64 (bits .andNot .u64 (M.cs.getD 9 0) 2184) (hH M.d))):=by rw [<- oA hk];rfl
 rw [e];have fin:=λV (k:Bw W V)=>(h.below k).setC j a 9 (bits .or .u64 (bits .andNot .u64 (M.cs.getD 9 0) 2184) (hH M.d));generalize hH M.d=y at f fin ⊢;generalize M.cs.getD 9 0=z at d fin ⊢;refine fj (args:=[.p g 0]) (R1 W g (pcs M A s) 107) func128 ?_;refine aL 0 1 ?_;refine ol 1 ?_;have ev:(pcs M A s)=#[.u M.pc,.slice A.ax M.x.length A.cx,.i M.pr,.slice (some ⟨b,0,none⟩) 22 A.cc,.slice A.ar M.ram.length A.cr,.u M.d.t,.u M.d.cm,.bool M.d.so,.slice A.ai M.d.xs.length A.ci,.slice A.ao M.d.ys.length A.co,.i M.d.ir,.u M.hd,.bool M.hl,.bool M.wt,.i s]:=by unfold pcs;rw [j,a]
 rw [ev];have l:=h.row;rw [ev] at l;refine ae R1.eng {ov:=[(11,jk ⟨b,9,none⟩ (.u z) underlying22 rfl λV i=>(i.2.cell (p:=⟨b,9,none⟩) c).trans d)],cv:=[(17,jb R1.below λV _=>f V)]} 60 ⟨l,(Below.refl _ _).drew⟩ λV i=>?_;refine bx (lV (T:=22) (v:=.u (bits .or .u64 (bits .andNot .u64 z 2184) y)) ⟨(i.2.cell (p:=⟨b,9,none⟩) c).trans d,(i.2.frozen (p:=⟨b,9,none⟩) c).trans n⟩ a4 rfl) ?_;exact iG {} 20 a4 a4 rfl ⟨rfl,fin V i.2⟩
theorem QV (h:Pp w g M A s W) (hl:iU M) (hb:dp M.d) (n:Int):Calls prog 194 #[.p g 0,.i n] W λe a=>e=.returned (.tuple #[])/\∃ C,Pp w g (ch M (gy M.d n)) C s a/\∀ k,k<W.heap.size->k≠g->a.heap[k]?=W.heap[k]?:=by have b:=h.fam.msl;refine fj (args:=[.p g 0,.i n]) (λ_=>True) func194 ?_;refine aL 0 1 ?_;refine eB (R:=[⟨g,pcs M A s,[]⟩]) ⟨⟨_,_,h.row⟩,trivial⟩ {} 60 (zk M.d A.ai A.ci A.ao A.co n W hl.xs hl.ys hb b.xs b.ys) ?_;rintro e W1 ⟨c,j,d,l,rfl,f,k⟩;refine ⟨_,0,rfl,?_⟩;refine eQ (R:=[]) trivial {} 20 (MD (h.below k) (gy M.d n) c j d l) ?_;exact iG {} 20 a4 a4 rfl ⟨rfl,_,h.dev k _ f,λi m o=>(setRow_other _ _ _ _ o).trans (k.block i m)⟩
theorem QW (h:Pp w g M A s W) (hl:iU M) (hb:dp M.d) (n:Int):Calls prog 195 #[.p g 0,.i n] W λe a=>e=.returned (.tuple #[])/\∃ C,Pp w g (ch M (gM M.d (IntKind.u8.wrap n))) C s a/\∀ k,k<W.heap.size->k≠g->a.heap[k]?=W.heap[k]?:=by have b:=h.fam.msl;refine fj (args:=[.p g 0,.i n]) (λ_=>True) func195 ?_;refine aL 0 1 ?_;refine eB (R:=[⟨g,pcs M A s,[]⟩]) ⟨⟨_,_,h.row⟩,trivial⟩ {} 60 (zl M.d A.ai A.ci A.ao A.co (IntKind.u8.wrap n) W hl.xs hl.ys hb b.xs b.ys) ?_;rintro e W1 ⟨c,j,d,l,rfl,f,k⟩;refine ⟨_,0,rfl,?_⟩;refine eQ (R:=[]) trivial {} 20 (MD (h.below k) (gM M.d (IntKind.u8.wrap n)) c j d l) ?_;exact iG {} 20 a4 a4 rfl ⟨rfl,_,h.dev k _ f,λi m o=>(setRow_other _ _ _ _ o).trans (k.block i m)⟩
theorem R9 (h:Pp w g M A s W) (D:Gw M) (J:ou w) (n:Nat) (hn:n<=300) (hs:s<=30000):Calls prog 193 #[.p g 0,.i n] W λe W'=>e=.returned (.tuple #[])/\∃ C,Pp w g (cw n M).1 C (s+qR (cw n M).2) W'/\∀ k,k<W.heap.size->k≠g->W'.heap[k]?=W.heap[k]?:=by
 have G:=xb M A n W D.1.len h.fam.msl ⟨D.1.mw,D.1.ux,D.1.pc,D.1.hd,D.2⟩ (h.tab J);have r:=oZ n M;unfold EE at G;rw [if_pos (by rw [D.1.ok];simp;omega),Int.toNat_natCast] at G;generalize cw n M=V at G r ⊢;obtain ⟨N,f⟩:=V;dsimp only at G r ⊢;refine fj (args:=[.p g 0,.i n]) (λ_=>True) func193 ?_;refine aL 0 1 ?_;refine eB (R:=[⟨g,pcs M A s,[]⟩]) ⟨⟨_,_,h.row⟩,trivial⟩ {} 60 G ?_;rintro e W1 ⟨C,a,c,rfl,f1,o1,k1⟩;refine ⟨_,0,rfl,?_⟩;dsimp only at f1 o1;have zc:(Value.agg (ap au zeroA)).cells=ap au zeroA:=rfl;refine jI (R:=[]) trivial {} 20 2 (cT (T:=32) (z:=.agg (ap au zeroA)) a4 W1) ?_;rw [zc];refine eQ (R:=[]) trivial {} 20 (aD (g:=W1.heap.size) (t:=32) (ty:=32) (old:=ap au zeroA) (cells:=ap N C) (heap_alloc_new _ _) a4 rfl (cj _ _)) ?_;have E:=iD W1 (ap au zeroA) (ap N C) 32;have r2:((W1.alloc (.cells (ap au zeroA) 32)).setRow W1.heap.size (ap N C)).heap[W1.heap.size]?=some (.cells (ap N C) 32 (0,0)):=setRow_heap _ _ _ _ _ _ (heap_alloc_new _ _);have F:=aa k1 E;have f2:=(f1.below E).low (Nat.le_refl _) E.size;have Y:=du o1 E;generalize (W1.alloc (.cells (ap au zeroA) 32)).setRow W1.heap.size (ap N C)=L at E r2 F f2 Y ⊢;refine eQ (R:=[⟨g,pcs M A s,[]⟩,⟨W1.heap.size,ap N C,[]⟩]) ⟨⟨_,_,aB F h.row⟩,⟨_,_,r2⟩,trivial⟩ {} 40 (QT (N:=N) (C:=C) (h.below F)) ?_;have p3:=h.new F f2;have hlt:=h.lt;have Z:(L.setRow g (pcs N C s)).ownsRow W.heap.size 2 1 (.slice a f.length c) f.length (f.map (Value.int .i64)):=ew Y λk e=>setRow_other _ _ _ _ (by have:=(Y.lt k e).1;omega);have a3:∀ k,k<W.heap.size->k≠g->(L.setRow g (pcs N C s)).heap[k]?=W.heap[k]?:=λi Q I=>(setRow_other _ _ _ _ I).trans (F.block i Q);generalize L.setRow g (pcs N C s)=W3 at p3 Z a3 ⊢;have ht:=gj Z;refine aP (R:=[]) trivial {} 20 ?_;refine jc (λx:Nat × Nat=>[(0,.p g 0,1),(21,.slice a f.length c,0),(22,.i f.length,0),(23,.i (x.1:Nat),0)]) (λj x V=>x.1+j=f.length/\x.2=s+qR (f.take x.1)/\Pp w g N C x.2 V/\∀ k,k≠g->V.heap[k]?=W3.heap[k]?) f.length (0,s) a4 a4 ⟨bc,by simp [qR],p3,λ_ _=>rfl⟩ ?_;rintro j ⟨q,u⟩ V ⟨ej,P,p,m⟩ T J;dsimp only at ej P p ⊢;cases j with
 | zero =>have d:decide ((q:Int)<(f.length:Int))=false:=ba;rw [List.take_of_length_le ab] at P;subst P;exact iG {eq:=[(24,af d)]} 40 a4 a4 rfl ⟨rfl,C,p,λi Q I=>(m i I).trans (a3 i Q I)⟩
 | succ j =>
   have d:decide ((q:Int)<(f.length:Int))=true:=bw;have O:=xX (l:=f) (q:=q) ab;have hgo:=zU (f.take (q+1));have hl2:=List.length_take_le (q+1) f;obtain ⟨b,o,S,K,hc⟩:=ht q ab;have U:b≠g:=(by have:=(Z.lt b (by rw [S];rfl)).1;omega);have B:V.cell? ⟨b,o+(q:Int).toNat,none⟩=some (.i (f.getD q 0)):=(by rw [Int.toNat_natCast,<- hc];simp only [World.cell?,m b U]);generalize f.getD q 0=y at O B;have hw:IntKind.i64.wrap (((q:Nat):Int)+1)=((q+1:Nat):Int):=d6;cases H:(y != 4) with
   | true =>rw [H,if_pos rfl] at O;have X:IntKind.i64.wrap (((u:Nat):Int)+1)=((u+1:Nat):Int):=d6;refine eQ (R:=[⟨g,pcs N C u,[]⟩]) ⟨⟨_,_,p.row⟩,trivial⟩ {eq:=[(24,af d),(28,af H),(33,cZ .i64 X)],ov:=[(25,pe f.length c .i64 q S ab underlying39 a4),(26,jk ⟨b,o+(q:Int).toNat,none⟩ (.i y) underlying2 rfl λV m=>by subst m;exact B)]} 80 (cy (T:=2) (v:=.i ((u+1:Nat):Int)) (i:=14) p.row (Nat.le_of_ble_eq_true rfl) a4 rfl) ?_;exact fx (R:=[]) trivial {eq:=[(36,cZ .i64 hw)]} 40 λb K=>J b _ j (q+1,u+1) ab (K.less a4) ⟨a9,a9,p.cnt (u+1),λk hk=>(Below.heap_setCell V _ _ k hk).trans (m k hk)⟩
   | false =>rw [H,if_neg a6] at O;exact fx (R:=[]) trivial {eq:=[(24,af d),(28,af H),(36,cZ .i64 hw)],ov:=[(25,pe f.length c .i64 q S ab underlying39 a4),(26,jk ⟨b,o+(q:Int).toNat,none⟩ (.i y) underlying2 rfl λV m=>by subst m;exact B)]} 80 λb K=>J b V j (q+1,u) ab (K.less a4) ⟨a9,a9,p,m⟩
def Aa:Array Value:=#[.i 1,.i 300,.func (.func 193) #[] #[],.i 2,.i 9223372036854775807,.func (.func 194) #[] #[],.i 3,.i 9223372036854775807,.func (.func 195) #[] #[]]
theorem EL (W:World):CB 127 #[] W (.agg Aa):=by refine bf (S:=Bs W [(#[.i 0,.i 0,.nilFunc,.i 0,.i 0,.nilFunc,.i 0,.i 0,.nilFunc],160)]) (args:=[]) [(#[.i 0,.i 0,.nilFunc,.i 0,.i 0,.nilFunc,.i 0,.i 0,.nilFunc],160)] func127 ?_;exact nJ (Bs.start _ _) {} 40 (i:=0) (cs:=Aa) (T:=160) rfl rfl a4 (by simp [Aa,Value.oneCell']) underlying160 rfl rfl a4 a4 (by intro _;kernel_rfl) (λV b=>⟨rfl,b⟩)
def Af (i:Nat) (k n:Int) (M:MV):MV × Nat:=if k<=(i:Int) then vL k n M else (M,0)
theorem Ab {i:Nat} {k:Int} (h:((((i+1:Nat):Int))==k)=false) (n:Int) (M:MV):Af (i+1) k n M=Af i k n M:=by
 have:¬ ((i+1:Nat):Int)=k:=cp
 unfold Af;by_cases a:k<=(i:Int);·rw [if_pos a,if_pos ab]
 ·rw [if_neg a,if_neg ab]
theorem EM (i:Nat) {k:Int} (h:((((i+1:Nat):Int))==k)=true) (n:Int) (M:MV):Af i k n M=(M,0)/\Af (i+1) k n M=vL k n M:=by have:=beq_iff_eq.1 h;unfold Af;rw [if_neg ab,if_pos ab];exact a0g
theorem Ac {n:Int} (h:¬ 0<=n) (k:Int) (M:MV):vL k n M=(M,0):=by unfold vL;rw [if_neg a8,if_neg a8,if_neg a8]
theorem Gv {k:Int} (h:k<=0\/3<k) (n:Int) (M:MV):vL k n M=(M,0):=by unfold vL;rw [if_neg a8,if_neg a8,if_neg a8]
theorem Sb (k n:Int) (M:MV):Af 0 k n M=(M,0):=by
 unfold Af;split;·exact Gv (.inl ab) n M
 ·rfl
theorem Sd (k n:Int) (M:MV):Af 3 k n M=vL k n M:=by
 unfold Af;split;·rfl
 ·exact (Gv (.inr ab) n M).symm
structure Sk (w W:World) (g:Nat) (k n:Int) (M:MV) (s:Nat) (j:Nat) (x:MV × MA × Nat × Nat) (V:World):Prop where
 ej:x.2.2.2+j=3
 pp:Pp w g x.1 x.2.1 x.2.2.1 V
 box:V.heap[W.heap.size]?=some (.cells #[.i k,.i n] 105 (0,0))
 st:(x.1,x.2.2.1)=((Af x.2.2.2 k n M).1,s+(Af x.2.2.2 k n M).2)
theorem QX (h:Pp w g M A s W) (J:Gw M) (hT:ou w) (k n:Int) (hn:n<=9223372036854775807) (hs:s<=30000):Calls prog 82 #[.p g 0,.agg #[.i k,.i n]] W λe W'=>e=.returned (.tuple #[])/\∃ C,Pp w g (qS k n M).1 C (s+(qS k n M).2) W':=by
 have hlt:=h.lt
 have B:=QL J k n
 rw [Gn J]
 refine bf (S:=λ_=>True) (args:=[.p g 0,.agg #[.i k,.i n]]) [(#[.i k,.i n],105)] func82 ?_
 obtain ⟨b1,b2⟩:=Bs.start W [(#[.i k,.i n],105)]
 have b0:=b1 0 _ rfl
 generalize dZ W [(#[.i k,.i n],105)]=W0 at b0 b2 ⊢
 refine eB (R:=[]) trivial {} 60 (EL W0) ?_
 rintro e W1 ⟨rfl,k1⟩
 refine ⟨_,0,rfl,?_⟩
 refine aP (R:=[]) trivial {} 20 ?_
 refine jc (λx:MV × MA × Nat × Nat=>[(0,.p g 0,0),(3,.p W.heap.size 0,1),(6,.agg Aa,0),(7,.i (x.2.2.2:Nat),0)]) (Sk w W g k n M s) 3 (M,A,s,0) a4 a4 ⟨rfl,(h.below b2).below k1,aB k1 b0,by show (M,s)=_;rw [Sb];rfl⟩ ?_
 clear b0 b1 b2 k1
 rintro j ⟨N,C,u,i⟩ V ⟨ej,pp,box,o⟩ T c
 dsimp only at ej pp box o ⊢
 have P:=(Array.getElem?_eq_some_iff.1 box).1
 cases j with
 | zero =>
   obtain rfl:i=3:=ab
   rw [Sd] at o
   generalize vL k n M=Z at o B ⊢
   obtain ⟨Z1,Z2⟩:=Z
   simp only [Prod.mk.injEq] at o
   obtain ⟨rfl,rfl⟩:=o
   refine eB (R:=[]) trivial {} 60 (QU pp B.1 B.2.1 B.2.2) ?_
   rintro e W2 ⟨rfl,D⟩
   refine ⟨_,0,rfl,?_⟩
   exact iG {} 20 a4 a4 rfl ⟨rfl,_,D⟩
 | succ j =>
   have new:∀ (x:Int) (y:Int) (f:Value),Bw V ((V.alloc (.cells #[.i 0,.i 0,.nilFunc] 159)).setRow V.heap.size #[.i x,.i y,f])/\((V.alloc (.cells #[.i 0,.i 0,.nilFunc] 159)).setRow V.heap.size #[.i x,.i y,f]).heap[V.heap.size]?=some (.cells #[.i x,.i y,f] 159 (0,0)):=λx y f=>⟨iD V _ _ _,setRow_heap _ _ _ _ _ _ (heap_alloc_new _ _)⟩
   have zc:(Value.agg #[.i 0,.i 0,.nilFunc]).cells=#[.i 0,.i 0,.nilFunc]:=rfl
   have c3:i=0\/i=1\/i=2:=ab
   rcases c3 with rfl|rfl|rfl
   ·obtain ⟨l,O⟩:=new 1 300 (.func (.func 193) #[] #[])
    refine jI (R:=[]) trivial {} 60 2 (cT (T:=159) (z:=.agg #[.i 0,.i 0,.nilFunc]) a4 V) ?_
    rw [zc]
    refine eQ (R:=[]) trivial {} 20 (aD (g:=V.heap.size) (t:=159) (ty:=159) (old:=#[.i 0,.i 0,.nilFunc]) (cells:=#[.i 1,.i 300,.func (.func 193) #[] #[]]) (heap_alloc_new _ _) a4 rfl i3) ?_
    generalize (V.alloc (.cells #[.i 0,.i 0,.nilFunc] 159)).setRow V.heap.size #[.i 1,.i 300,.func (.func 193) #[] #[]]=F at l O ⊢
    have R2:gH F [⟨W.heap.size,#[.i k,.i n],[]⟩,⟨V.heap.size,#[.i 1,.i 300,.func (.func 193) #[] #[]],[]⟩]:=⟨⟨_,_,aB l box⟩,⟨_,_,O⟩,trivial⟩
    have D:=pp.below l
    have H:=aB l box
    have G:∀ (v:World) (r:MV) (I:MA) (E:Nat),Pp w g r I E v->v.heap[W.heap.size]?=some (.cells #[.i k,.i n] 105 (0,0))->(r,E)=((Af 1 k n M).1,s+(Af 1 k n M).2)->Sk w W g k n M s j (r,I,E,1) v:=λv r I E p b e=>⟨a9,p,b,e⟩
    cases a:((1:Int)==k) with
    | false=>exact fx R2 {eq:=[(14,af a)]} 60 λb d=>c b F j (N,C,u,1) ab (d.less a4) (G _ _ _ _ D H (by rw [o,Ab a]))
    | true =>
      obtain ⟨q1,K⟩:=EM 0 a n M
      have e:=(beq_iff_eq.1 a).symm
      subst e
      rw [q1] at o
      simp only [Prod.mk.injEq,Nat.add_zero] at o
      obtain ⟨rfl,rfl⟩:=o
      cases q:decide (0<=n) with
      | false =>
        have e:=Ac (of_decide_eq_false q) 1 N
        exact fx R2 {eq:=[(14,af a),(18,af q)]} 60 λb d=>c b F j (N,C,u,1) ab (d.less a4) (G _ _ _ _ D H (by rw [K,e];rfl))
      | true =>
        have Y:=of_decide_eq_true q
        cases L:decide (n<=300) with
        | false =>
          have:=of_decide_eq_false L
          have e:vL 1 n N=(N,0):=by
           unfold vL
           rw [if_neg a8,if_neg bc,if_neg bc]
          exact fx R2 {eq:=[(14,af a),(18,af q),(25,af L)]} 60 λb d=>c b F j (N,C,u,1) ab (d.less a4) (G _ _ _ _ D H (by rw [K,e];rfl))
        | true =>
          have n3:=of_decide_eq_true L
          obtain ⟨m,rfl⟩:=Int.eq_ofNat_of_zero_le Y
          refine eB R2 {eq:=[(14,af a),(18,af q),(25,af L)]} 80 (R9 D J hT m ab hs) ?_
          rintro e U ⟨rfl,Q,p3,X⟩
          refine ⟨_,0,rfl,?_⟩
          exact fx (R:=[]) trivial {} 60 λb d=>c b U j (_,Q,_,1) ab (d.less a4) (G _ _ _ _ p3 ((X _ (Nat.lt_of_lt_of_le P l.size) ab).trans H) (by
           rw [K]
           unfold vL
           rw [if_pos a8]
           rfl))
   ·obtain ⟨l,O⟩:=new 2 9223372036854775807 (.func (.func 194) #[] #[])
    refine jI (R:=[]) trivial {} 60 2 (cT (T:=159) (z:=.agg #[.i 0,.i 0,.nilFunc]) a4 V) ?_
    rw [zc]
    refine eQ (R:=[]) trivial {} 20 (aD (g:=V.heap.size) (t:=159) (ty:=159) (old:=#[.i 0,.i 0,.nilFunc]) (cells:=#[.i 2,.i 9223372036854775807,.func (.func 194) #[] #[]]) (heap_alloc_new _ _) a4 rfl i3) ?_
    generalize (V.alloc (.cells #[.i 0,.i 0,.nilFunc] 159)).setRow V.heap.size #[.i 2,.i 9223372036854775807,.func (.func 194) #[] #[]]=F at l O ⊢
    have R2:gH F [⟨W.heap.size,#[.i k,.i n],[]⟩,⟨V.heap.size,#[.i 2,.i 9223372036854775807,.func (.func 194) #[] #[]],[]⟩]:=⟨⟨_,_,aB l box⟩,⟨_,_,O⟩,trivial⟩
    have D:=pp.below l
    have H:=aB l box
    have G:∀ (v:World) (r:MV) (I:MA) (E:Nat),Pp w g r I E v->v.heap[W.heap.size]?=some (.cells #[.i k,.i n] 105 (0,0))->(r,E)=((Af 2 k n M).1,s+(Af 2 k n M).2)->Sk w W g k n M s j (r,I,E,2) v:=λv r I E p b e=>⟨a9,p,b,e⟩
    cases a:((2:Int)==k) with
    | false=>exact fx R2 {eq:=[(14,af a)]} 60 λb d=>c b F j (N,C,u,2) ab (d.less a4) (G _ _ _ _ D H (by rw [o,Ab a]))
    | true =>
      obtain ⟨q1,K⟩:=EM 1 a n M
      have e:=(beq_iff_eq.1 a).symm
      subst e
      rw [q1] at o
      simp only [Prod.mk.injEq,Nat.add_zero] at o
      obtain ⟨rfl,rfl⟩:=o
      cases q:decide (0<=n) with
      | false =>
        have e:=Ac (of_decide_eq_false q) 2 N
        exact fx R2 {eq:=[(14,af a),(18,af q)]} 60 λb d=>c b F j (N,C,u,2) ab (d.less a4) (G _ _ _ _ D H (by rw [K,e];rfl))
      | true =>
        have Y:=of_decide_eq_true q
        have L:decide (n<=9223372036854775807)=true:=decide_eq_true hn
        refine eB R2 {eq:=[(14,af a),(18,af q),(25,af L)]} 80 (QV D J.1.len ⟨J.1.mw.xs,J.1.mw.ys⟩ n) ?_
        rintro e U ⟨rfl,Q,p3,X⟩
        refine ⟨_,0,rfl,?_⟩
        exact fx (R:=[]) trivial {} 60 λb d=>c b U j (_,Q,_,2) ab (d.less a4) (G _ _ _ _ p3 ((X _ (Nat.lt_of_lt_of_le P l.size) ab).trans H) (by
         rw [K]
         unfold vL
         rw [if_neg bc,if_pos (by simpa using Y)]
         rfl))
   ·obtain ⟨l,O⟩:=new 3 9223372036854775807 (.func (.func 195) #[] #[])
    refine jI (R:=[]) trivial {} 60 2 (cT (T:=159) (z:=.agg #[.i 0,.i 0,.nilFunc]) a4 V) ?_
    rw [zc]
    refine eQ (R:=[]) trivial {} 20 (aD (g:=V.heap.size) (t:=159) (ty:=159) (old:=#[.i 0,.i 0,.nilFunc]) (cells:=#[.i 3,.i 9223372036854775807,.func (.func 195) #[] #[]]) (heap_alloc_new _ _) a4 rfl i3) ?_
    generalize (V.alloc (.cells #[.i 0,.i 0,.nilFunc] 159)).setRow V.heap.size #[.i 3,.i 9223372036854775807,.func (.func 195) #[] #[]]=F at l O ⊢
    have R2:gH F [⟨W.heap.size,#[.i k,.i n],[]⟩,⟨V.heap.size,#[.i 3,.i 9223372036854775807,.func (.func 195) #[] #[]],[]⟩]:=⟨⟨_,_,aB l box⟩,⟨_,_,O⟩,trivial⟩
    have D:=pp.below l
    have H:=aB l box
    have G:∀ (v:World) (r:MV) (I:MA) (E:Nat),Pp w g r I E v->v.heap[W.heap.size]?=some (.cells #[.i k,.i n] 105 (0,0))->(r,E)=((Af 3 k n M).1,s+(Af 3 k n M).2)->Sk w W g k n M s j (r,I,E,3) v:=λv r I E p b e=>⟨a9,p,b,e⟩
    cases a:((3:Int)==k) with
    | false=>exact fx R2 {eq:=[(14,af a)]} 60 λb d=>c b F j (N,C,u,3) ab (d.less a4) (G _ _ _ _ D H (by rw [o,Ab a]))
    | true =>
      obtain ⟨q1,K⟩:=EM 2 a n M
      have e:=(beq_iff_eq.1 a).symm
      subst e
      rw [q1] at o
      simp only [Prod.mk.injEq,Nat.add_zero] at o
      obtain ⟨rfl,rfl⟩:=o
      cases q:decide (0<=n) with
      | false =>
        have e:=Ac (of_decide_eq_false q) 3 N
        exact fx R2 {eq:=[(14,af a),(18,af q)]} 60 λb d=>c b F j (N,C,u,3) ab (d.less a4) (G _ _ _ _ D H (by rw [K,e];rfl))
      | true =>
        have Y:=of_decide_eq_true q
        have L:decide (n<=9223372036854775807)=true:=decide_eq_true hn
        refine eB R2 {eq:=[(14,af a),(18,af q),(25,af L)]} 80 (QW D J.1.len ⟨J.1.mw.xs,J.1.mw.ys⟩ n) ?_
        rintro e U ⟨rfl,Q,p3,X⟩
        refine ⟨_,0,rfl,?_⟩
        exact fx (R:=[]) trivial {} 60 λb d=>c b U j (_,Q,_,3) ab (d.less a4) (G _ _ _ _ p3 ((X _ (Nat.lt_of_lt_of_le P l.size) ab).trans H) (by
         rw [K]
         unfold vL
         rw [if_neg bc,if_neg bc,if_pos (by simpa using Y)]
         rfl))
end
theorem OQ (g:Nat):∀ q ∈ aJ au zeroA,q.v.ownBlock≠some g:=λq a e=>by simp only [aJ,List.mem_cons,List.not_mem_nil,or_false] at a;rcases a with rfl | rfl | rfl | rfl | rfl<;>cases e
theorem QY:(do pure (.value (<- Instr.build 107 #[(0,.agg (ap l B))])):Sem Next).run prog D=.ok (.value (.agg (pcs l B 0))) D:=ER (r:=none) (λ_ h=>kd) _ _ [] a4 (λ_ h=>kd)
structure Tg (w:World) (g:Nat) (l:List (Int × Int)) (V:MV × Nat) (j:Nat) (x:MV × MA × Nat × Nat) (W:World):Prop where
 ej:x.2.2.2+j=l.length
 pp:Pp w g x.1 x.2.1 x.2.2.1 W
 gw:Gw x.1
 sm:x.2.2.1<=300*x.2.2.2
 st:V=((lO (l.drop x.2.2.2) x.1).1,x.2.2.1+(lO (l.drop x.2.2.2) x.1).2)
theorem Ad (M:List (Int × Int)) (a:Option Addr) (c:Nat) (w:World) (hl:iU l) (hs:tA w l B) (hf:OH l) (hT:ou w) (he:Es w a M) (hw:∀ i,(M.getD i (0,0)).2<=9223372036854775807):Calls prog 33 #[.agg (ap l B),.slice a M.length c] w (mQ w ((px l M).1,((px l M).2:Int))):=by
 have HM:=λW (hb:Bw w W)=>fO l B W hl (hs.below hb) hf.mw.cs
 unfold px
 refine bf (S:=Bs w [(ap l B,32),(ap au zeroA,32)]) (args:=[.agg (ap l B),.slice a M.length c]) [(ap l B,32),(ap au zeroA,32)] func33 ?_
 cases ok:gE l with
 | false =>
   rw [ok] at HM
   rw [if_neg bc]
   refine ae Bs.eng {cv:=[(10,eY HM)]} 40 (Bs.start _ _) λW1 D=>?_
   exact hO (R:=[]) trivial {} 40 (D.1 1 _ rfl) rfl (cj _ _) underlying32 ⟨zeroA,rfl,g9 _ _ _,aR D.2 ab _⟩
 | true =>
   rw [ok] at HM
   cases dl:decide ((100:Int)<(M.length:Int)) with
   | true =>
     have:=of_decide_eq_true dl
     rw [if_neg a8]
     refine ae Bs.eng {cv:=[(10,eY HM)],eq:=[(15,af dl)]} 40 (Bs.start _ _) λW1 D=>?_
     exact hO (R:=[]) trivial {} 40 (D.1 1 _ rfl) rfl (cj _ _) underlying32 ⟨zeroA,rfl,g9 _ _ _,aR D.2 ab _⟩
   | false =>
     have hn:=of_decide_eq_false dl
     rw [if_pos a8]
     have hg:Gw l:=⟨hf.gd ok,hf.ud⟩
     have fin:∀ (S:World->Prop) (g:Nat) (C:MA) (W:World),Pp w g au zeroA 0 W->aZ (w.heap.size+2) W.heap.size W (aJ l C)->(∀ q ∈ aJ l C,q.v.ownBlock≠some g)->Wg prog S (bodyPost prog Tryz.f33 (mQ w ((lO M l).1,((lO M l).2:Int)))) Tryz.f33.ntmps [.code (ay 3 (aW Tryz.f33))] [(1,.slice a M.length c,0),(4,.p (w.heap.size+1) 0,0),(6,.p g 0,1)] (W.setRow g (pcs l C 0)):=by
      intro S g C W hz f0 n0
      obtain ⟨V,f⟩:∃ V,V=lO M l:=⟨_,rfl⟩
      have h0:Tg w g M V M.length (l,C,0,0) (W.setRow g (pcs l C 0)):=⟨bc,hz.put f0 n0 0,hg,bc,by rw [f];simp⟩
      rw [<- f]
      generalize W.setRow g (pcs l C 0)=W0 at h0 ⊢
      refine aP (R:=[]) trivial {} 20 ?_
      refine jc (λx:MV × MA × Nat × Nat=>[(4,.p (w.heap.size+1) 0,0),(6,.p g 0,1),(24,.slice a M.length c,0),(25,.i M.length,0),(26,.i (x.2.2.2:Nat),0)]) (Tg w g M V) M.length (l,C,0,0) a4 a4 h0 ?_
      clear h0 f hz f0 n0
      rintro j ⟨H,G,s,i⟩ W h T hT2
      have ej:=h.ej
      have gw:=h.gw
      have sm:=h.sm
      have E:=h.pp
      dsimp only at ej gw sm E ⊢
      cases j with
      | zero =>
        have q:decide ((i:Int)<(M.length:Int))=false:=by rw [decide_eq_false_iff_not];omega
        have Z:=h.st
        dsimp only at Z
        rw [List.drop_of_length_le ab] at Z
        rw [Z]
        refine aP (R:=[]) trivial {eq:=[(27,af q)]} 7 ?_
        refine an [.code (ay 4 (aW Tryz.f33))] [(4,.p (w.heap.size+1) 0,0),(6,.p g 0,1)] ?_
        refine aP (R:=[]) trivial {} 1 ?_
        have hz:Ez (λV=>V.heap[g]?=some (.cells (pcs H G s) 107 (0,0))) [⟨g,pcs H G s,[]⟩]:=⟨λV f r hr=>by rw [List.mem_singleton.1 hr];exact ⟨_,_,f⟩,λV f=>f⟩
        refine aK (λV=>V.heap[g]?=some (.cells (pcs H G s) 107 (0,0))) ?_
        have hgo:w.heap.size+1≠g:=by have:=E.lo;omega
        refine Ar hz E.row {} 40 (λV=>V.setRow (w.heap.size+1) (ap H G)) (λV f=>aD (t:=32) (ty:=32) (old:=ap au zeroA) (by obtain ⟨d,rfl⟩:=f;exact E.out) a4 rfl (cj _ _)) λV f=>⟨(setRow_other _ _ _ _ (Ne.symm hgo)).trans (by obtain ⟨d,rfl⟩:=f;exact E.row),?_⟩
        refine yo hz ((setRow_other _ _ _ _ (Ne.symm hgo)).trans (by obtain ⟨d,rfl⟩:=f;exact E.row)) {} 40 λV2 a J hk=>⟨.tuple #[.agg (ap H G),.i s],yp hk rfl a4 a4 (t:=32) (by obtain ⟨d,rfl⟩:=J;obtain ⟨d2,rfl⟩:=f;exact setRow_heap _ _ _ _ _ _ E.out) underlying32 rfl a4,G,rfl,?_,J.below (aR (f.below E.bl) ab _)⟩
        have f2:aZ w.heap.size (V.setRow (w.heap.size+1) (ap H G)).heap.size (V.setRow (w.heap.size+1) (ap H G)) (aJ H G):=by
         rw [setRow_size]
         refine ((f.fam E.fam).mono λk D v m=>setRow_other _ _ _ _ ab).low ab ?_
         rw [f.size]
         exact Nat.le_refl _
        rw [J.size]
        exact J.fam f2
      | succ j =>
        have q:decide ((i:Int)<(M.length:Int))=true:=by rw [decide_eq_true_eq];omega
        obtain ⟨b,o,ha,D,v,m⟩:=he.below E.bl i ab
        have Y:=hw i
        obtain ⟨k,n,hk⟩:∃ k n,M.getD i (0,0)=(k,n):=⟨_,_,rfl⟩
        rw [hk] at v m Y
        dsimp only at v m Y
        refine jI (R:=[]) trivial {eq:=[(27,af q)],ov:=[(28,Bl M.length c i ha ab underlying53 a4),(29,Ro b (o+i*2) (.i k) (.i n) underlying105 rfl a4 λV f=>by subst f;exact ⟨v,m⟩)]} 60 2 (cT (T:=105) (z:=.agg #[.i 0,.i 0]) a4 W) ?_
        refine eQ (R:=[]) trivial {} 20 (aD (g:=W.heap.size) (t:=105) (ty:=105) (old:=#[.i 0,.i 0]) (cells:=#[.i k,.i n]) (heap_alloc_new _ _) a4 rfl i3) ?_
        have e3:(Value.agg #[.i 0,.i 0]).cells=#[.i 0,.i 0]:=rfl
        rw [e3]
        have b2:=iD W #[.i 0,.i 0] #[.i k,.i n] 105
        have r2:((W.alloc (.cells #[.i 0,.i 0] 105)).setRow W.heap.size #[.i k,.i n]).heap[W.heap.size]?=some (.cells #[.i k,.i n] 105 (0,0)):=setRow_heap _ _ _ _ _ _ (heap_alloc_new _ _)
        have p2:=E.below b2
        generalize (W.alloc (.cells #[.i 0,.i 0] 105)).setRow W.heap.size #[.i k,.i n]=I at b2 r2 p2 ⊢
        refine eB (R:=[⟨g,pcs H G s,[]⟩,⟨W.heap.size,#[.i k,.i n],[]⟩]) ⟨⟨_,_,p2.row⟩,⟨_,_,r2⟩,trivial⟩ {} 60 (QX p2 gw hT k n Y ab) ?_
        rintro e y ⟨rfl,C3,p3⟩
        refine ⟨_,0,rfl,?_⟩
        have hw:IntKind.i64.wrap (((i:Nat):Int)+1)=((i+1:Nat):Int):=by rw [IntKind.wrap_i64];omega
        have hd:=Pe H k n
        have Z:=h.st
        dsimp only at Z
        rw [Gm ab,hk] at Z
        exact fx (R:=[]) trivial {eq:=[(32,cZ .i64 hw)]} 60 λb hb=>hT2 b y j (_,C3,_,i+1) ab (hb.less a4) ⟨a9,p3,Gk gw k n,a9,by rw [Z];dsimp only;rw [Nat.add_assoc]⟩
     refine ae Bs.eng {cv:=[(10,eY HM)],eq:=[(15,af dl)]} 14 (Bs.start _ _) λW0 h0=>?_
     refine an [.code (ay 2 (aW Tryz.f33))] [(1,.slice a M.length c,0),(2,.p w.heap.size 0,1),(4,.p (w.heap.size+1) 0,2)] ?_
     refine aP (R:=[]) trivial {} 1 ?_
     refine ol 1 ?_
     have hcl:=λW (h:Bs w [(ap l B,32),(ap au zeroA,32)] W)=>kT B.ar l.ram.length B.cr l.ram W rfl hl.ram (hs.below h.2).ram
     have X:=λ(N:Option Addr) (O A:Nat) W (h:Bs w [(ap l B,32),(ap au zeroA,32)] W) (hR:aZ A W.heap.size W [aw N l.ram.length O l.ram]) (hB:A<=W.heap.size)=>mL l B l.ram N l.ram.length O A W hl (hs.below h.2) hR hB rfl
     have p:=h0.below (Below.refl W0.heap.size W0).drew
     have s0:=p.two
     have zp:(Value.agg (pcs au zeroA 0)).cells=pcs au zeroA 0:=rfl
     have al:∀ W:World,Bw W (W.alloc (.cells (pcs au zeroA 0) 107)):=λW=>bal _ _
     have u:∀ W:World,(W.alloc (.cells (pcs au zeroA 0) 107)).heap.size=W.heap.size+1:=λW=>World.size_alloc _ _
     have F:∀ W:World,_:=λ(W:World)=>cT (P:=prog) (T:=107) (z:=.agg (pcs au zeroA 0)) a4 W
     rw [zp] at F
     have pz:∀ (W W':World),Bs w [(ap l B,32),(ap au zeroA,32)] W->Below (W.alloc (.cells (pcs au zeroA 0) 107)).heap.size (W.alloc (.cells (pcs au zeroA 0) 107)) W'->Pp w W.heap.size au zeroA 0 W':=λW W' h k=>by
      have K:=aa (al W) k
      exact ⟨aB k (heap_alloc_new _ _),g9 _ _ _,OQ _,h.two,aB K (h.1 1 _ rfl),aa h.2 K⟩
     have L:∀ (g:Nat) (C:MA) (W:World),Pp w g au zeroA 0 W->_:=λg C W z=>aD (P:=prog) (g:=g) (t:=107) (ty:=107) (old:=pcs au zeroA 0) (cells:=pcs l C 0) z.row a4 rfl (by simp [pcs,Value.oneCell'])
     generalize W0.drew=W1 at p s0 ⊢
     refine ae (jG p) {} 3 rfl ?_
     rintro _ rfl
     rename_i W1
     refine mr (i:=3) (j:=6) ?_ ?_
     ·refine lY (hcl _ p) ?_
      rintro e I ⟨N,O,rfl,o2,K⟩
      have v:=p.below K
      have z2:=K.size
      have f2:=pd o2 z2
      refine ⟨_,0,rfl,v,?_⟩
      refine mr (i:=4) (j:=6) ?_ ?_
      ·refine lY (X N O _ I v f2 z2) ?_
       rintro e y ⟨C,_,_,rfl,Q,n3,k3⟩
       have m:=v.below k3
       have z3:=k3.size
       have U:=m.below (al y)
       have z:=pz y _ m (Below.refl _ _)
       have f4:aZ (w.heap.size+2) (y.alloc (.cells (pcs au zeroA 0) 107)).heap.size (y.alloc (.cells (pcs au zeroA 0) 107)) (aJ l C):=(Q.below (al y)).low s0 (by rw [u];omega)
       have n4:∀ q ∈ aJ l C,q.v.ownBlock≠some y.heap.size:=λq hq e=>by have:=Q.hi q hq _ e;omega
       refine ⟨_,0,rfl,m,?_⟩
       refine mr (i:=5) (j:=6) ?_ ?_
       ·refine nI 0 (QY l C y) m ?_
        refine fz 0 (F y) (hS:=λ_=>U) ?_
        refine ae (jG U) {} 1 rfl ?_
        rintro _ rfl
        refine bx (L _ C _ z) ?_
        refine aP (R:=[]) trivial {} 1 ?_
        exact an _ _ (fin _ _ C _ z f4 n4)
       ·refine nI 0 (F y) U ?_
        refine ae (jG U) {} 2 rfl ?_
        rintro _ rfl
        refine bx (L _ C _ z) ?_
        refine aP (R:=[]) trivial {} 1 ?_
        exact an _ _ (fin _ _ C _ z f4 n4)
      ·have m:=v.below (al I)
       refine nI 0 (F I) m ?_
       have Q:=(f2.below (al I)).low (Nat.le_refl _) (show I.heap.size<=(I.alloc (.cells (pcs au zeroA 0) 107)).heap.size by rw [u];omega)
       refine ij (X N O _ _ m Q (by rw [u];omega)) ?_
       rintro e W4 ⟨C,_,_,rfl,f4,n4,k4⟩
       have U:=m.below k4
       have z:=pz I _ v k4
       refine ⟨_,0,rfl,λ_=>U,?_⟩
       refine ae (jG U) {} 2 rfl ?_
       rintro _ rfl
       refine bx (L _ C _ z) ?_
       refine aP (R:=[]) trivial {} 1 ?_
       exact an _ _ (fin _ _ C _ z (f4.low s0 (Nat.le_refl _)) λq hq e=>by
        rcases n4 q hq _ e with n|n
        ·rw [u] at n;omega
        ·have:=(o2.lt _ n).2;omega)
     ·have D:=p.below (al W1)
      refine nI 0 (F W1) D ?_
      refine ij (hcl _ D) ?_
      rintro e I ⟨N,O,rfl,o2,K⟩
      have v:=D.below K
      have z2:=K.size
      have f2:=pd o2 z2
      refine ⟨_,0,rfl,λ_=>v,?_⟩
      refine ij (X N O _ I v f2 z2) ?_
      rintro e y ⟨C,_,_,rfl,Q,n3,k3⟩
      have m:=v.below k3
      have z:=pz W1 _ p (aa K k3)
      rw [u] at z2
      refine ⟨_,0,rfl,λ_=>m,?_⟩
      refine ae (jG m) {} 2 rfl ?_
      rintro _ rfl
      refine bx (L _ C _ z) ?_
      refine aP (R:=[]) trivial {} 1 ?_
      exact an _ _ (fin _ _ C _ z (Q.low (by rw [u];omega) (Nat.le_refl _)) λq hq e=>by
       have:=((Q.own q hq).lt _ e).1
       rw [u] at this
       omega)
end Go.Proofs.YtfagphfjfhpmjaaGreatDoor
namespace Go.Proofs.YtfagphfjfhpmjaaGreatDoor
open Go.ChangeShapes Go.WideShapes Go.ChangeAt Go.RowKit
set_option linter.unusedVariables false
theorem Se {H:Type} {enc:TypeId × Value->H} {P:Program} {w:World} {held:Bool} {s t i:TypeId} {p r:Field} {fuel:Nat} {a:Option Addr} {n c:Nat} {x:DataW H × List MemPlace} (hs:P.underlying s=some (.slice t)) (O:P.underlying t=some (.struct #[p,r])) (f:P.underlying i=some (.int .i64)) (M:P.cellsOf t=2) (C:P.cellsOf i=1) (t0:p.type=i) (L:r.type=i) (Q:p.offset=0) (o1:r.offset=1) (h:DataW.trod enc P w 0 (λ_=>true) held fuel s [.slice a n c]=some x):∃ l,R6 w a n l:=by
 rcases Go.Deep.open_slice_pairs hs O M Q o1 (by rw [t0,C]) (by rw [L,C]) h with ⟨e,_⟩ | ⟨A,len,cap,m,k,X,Y,T,U,V,W,e,_,N,y,K,_,z⟩;·simp at e;obtain ⟨rfl,rfl,rfl⟩:=e;exact ⟨[],rfl,ab,λi f=>absurd f bc,λi=>bc⟩
 ·simp only [List.cons.injEq,Value.slice.injEq,and_true] at e;obtain ⟨rfl,rfl,rfl⟩:=e;simp only [if_true] at K;subst K;have each:∀ i,i<n->∃ q:Int × Int,w.cell? (A.add (i*2))=some (.i q.1)/\w.cell? (A.add (i*2+1))=some (.i q.2)/\(Lit.int .i64 q.2).wf=true:=(by intro i d;obtain ⟨g,j,G,I⟩:=z i ab;rw [t0] at G;rw [L] at I;obtain ⟨u,D,_,_⟩:=DataW.trod_int f G;obtain ⟨v,E,_,S⟩:=DataW.trod_int f I;simp only [List.cons.injEq,and_true] at D E;exact ⟨(u,v),by rw [g,D],by rw [j,E],S⟩);obtain ⟨F,hF⟩:=Go.Deep.choose_lt each;have J:∀ i,i<n->((List.range n).map F).getD i (0,0)=F i:=λi f=>by simp [List.getD,List.getElem?_map,List.getElem?_range f]
  refine ⟨(List.range n).map F,bc,by unfold maxLen at y;omega,λi d=>?_,λi=>?_⟩;·simp only [List.length_map,List.length_range] at d;obtain ⟨b,o,R⟩:=A;have B:R=none:=(by simpa [Addr.add] using World.cell?_spot (hF 0 ab).1);subst B;obtain ⟨g,j,_⟩:=hF i d;rw [Al] at g j;rw [J i d];exact ⟨b,o,rfl,World.block_lt_of_cell? _ _ g,g,j⟩
  ·by_cases d:i<n;·rw [J i d];have:=Dz (hF i d).2.2;omega
   ·simp [List.getD,List.getElem?_eq_none (show ((List.range n).map F).length<=i by simp;omega)]
end Go.Proofs.YtfagphfjfhpmjaaGreatDoor
