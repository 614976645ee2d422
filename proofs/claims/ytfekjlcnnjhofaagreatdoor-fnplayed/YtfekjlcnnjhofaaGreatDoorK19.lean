/- Own lemmas. -/
import Derived.Test.YtfekjlcnnjhofaaGreatDoorAut
import Derived.Test.YtfekjlcnnjhofaaGreatDoorK18
set_option maxRecDepth 100000
set_option maxHeartbeats 3200000
namespace Go.Proofs.YtfekjlcnnjhofaaGreatDoor
open Go.RowKit Tryz
open IntKind renaming u64->Uz
open Below renaming heap_alloc->I2,refl->I3
open Calls renaming quiet_of->K1
open Go renaming heap_alloc_new->A5,World->A6,Calls->A8,bits->A9,Addr->C5,bodyPost->C6,Value->D1,Ending->D2,callsD_of_wpS->D3,setRow_size->D4,setRow_heap->D8,leaves_cons->F0
open Nat renaming le_refl->K0
open Value renaming int->I4,agg->I5
open World renaming size_alloc->F3,cell?->G1,frozen?->H8
open _root_.Array renaming getElem?_eq_some_iff->I1
set_option linter.unusedVariables false
variable {n k p l g:Nat} {b a c w:A6} {e A:List Int} {d j r:Int} {x:MV} {M:TypeId} {m:MA} {B:D1} {W:Option C5} {t:Fd} {V:Program} {f:A6->Prop} {s:Func} {z:D2->A6->Prop} {y:Array D1} {q:List D1} {F:C5} (P:List Int) (S:Int) (T:Option C5) (o D J:Nat) (R:List Int) (C:Option C5) (E:A6) (G I K:Nat) (L:List Int) (N O Q:Int)
noncomputable def Wt:Go.Code:=nV (nV (au 1 (fW (au 5 (aM Tryz.f7)))))
noncomputable def Wu:Go.Code:=nV (fW (au 1 Wt))
noncomputable def Wv (T:Act->A6->Prop):List KI:=[.blk 1,.code (au 2 Wt),.fin T,.blk 0,.code (au 6 (aM Tryz.f7))]
def Vo (w:A6) (a:Option C5) (m c r b s i:Nat):Fr:=[(1,.slice a m c,0),(4,.p (w.heap.size+1) 0,0),(6,.p r 0,1),(7,.p b 0,0),(8,.i (s:Nat),0),(9,.i (i:Nat),0)]
structure Py (w:A6) (hh r:Nat) (M:MV) (A:MA) (W:A6):Prop where
 ht:Ht (w.heap.size+2) hh r M A W
 out:W.heap[w.heap.size+1]?=some (.cells (ak zeroM zeroA) 29 (0,0))
 bl:Bw w W
theorem Py.to {M2:MV} {W:MA} (h:Py b n k x m a) (r:Mp (b.heap.size+2) k M2 W c) (d:Kx k (aF x m) (aF M2 W) a c):Py b n k M2 W c:=by have w:=h.ht.mp.under d;exact ⟨h.ht.step r d,(w.block _ ab).trans h.out,⟨w.os.trans h.bl.os,w.tape.trans h.bl.tape,w.output.trans h.bl.output,Nat.le_trans h.bl.size w.size,λr e=>(w.block r ab).trans (h.bl.block r e)⟩⟩
theorem Py.below (h:Py b n k x m a) (hb:Bw a c):Py b n k x m c:=h.to (h.ht.mp.below hb) (Kx.of_below hb)
structure Uf (w:A6) (hh r:Nat) (l:List (Int × Int)) (V:MV × Nat) (j:Nat) (x:MV × MA × Nat × Nat) (W:A6):Prop where
 ej:x.2.2.2+j=l.length
 py:Py w hh r x.1 x.2.1 W
 gw:Gw x.1
 sm:x.2.2.1<=300*x.2.2.2
 st:V=((iN (l.drop x.2.2.2) x.1).1,x.2.2.1+(iN (l.drop x.2.2.2) x.1).2)
theorem Uf.next {r:List (Int × Int)} {V:MV × Nat} {A:Nat} {M2:MV} {f:MA} (h:Uf b n k r V (p+1) (x,m,l,g) a) (hl:r.getD g (0,0)=(d,j)) (e:pJ d j x=(M2,A)) (W':Py b n k M2 f c):Uf b n k r V p (M2,f,l+A,g+1) c:=by have w:=DA h.gw d j;have s:=Iq x d j;have M:=h.ej;have o:=h.sm;have W:=h.st;dsimp only at M o W;rw [AS ab,hl] at W;dsimp only at W;rw [e] at W s w;dsimp only at W s w;exact ⟨cb,W',w,cb,by rw [W];dsimp only;rw [Nat.add_assoc]⟩
theorem AT (M:MV) (A:MA) (l:List (Int × Int)) (a:Option C5) (c:Nat) (w:A6) (hl:iR M) (hs:oe w M A) (hf:RS M) (he:Es w a l):A8 prog 7 #[.agg (ak M A),.slice a l.length c] w (mQ w ((mA M l).1,((mA M l).2:Int))):=by
 have HM:=λW (K:Bw w W)=>mu M A W hl (hs.below K);unfold mA;refine br (S:=Bs w [(ak M A,29),(ak zeroM zeroA,29)]) (args:=[.agg (ak M A),.slice a l.length c]) [(ak M A,29),(ak zeroM zeroA,29)] func7 ?_;cases ok:dJ M with
 | false =>rw [ok] at HM;rw [JZ9 di];refine ae Bs.eng {cv:=[(14,fM HM)]} 40 (Bs.start _ _) λW1 I=>?_;exact gK (R:=[]) trivial {} 40 (I.1 1 _ rfl) rfl (bO _ _) underlying29 ⟨zeroA,rfl,gC _ _ _,aI I.2 ab _⟩
 | true =>
   rw [ok] at HM;cases dl:decide ((100:Int)<(l.length:Int)) with
   | true =>have:=of_decide_eq_true dl;rw [JZ9 bv];refine ae Bs.eng {cv:=[(14,fM HM)],eq:=[(19,an dl)]} 40 (Bs.start _ _) λW1 I=>?_;exact gK (R:=[]) trivial {} 40 (I.1 1 _ rfl) rfl (bO _ _) underlying29 ⟨zeroA,rfl,gC _ _ _,aI I.2 ab _⟩
   | false =>
     have hn:=of_decide_eq_false dl;rw [JZ8 bv];have hg:Gw M:=⟨hf.gd ok,hf.ud⟩;refine aT Bs.eng {cv:=[(14,fM HM)],eq:=[(19,an dl)]} 40 (Bs.start _ _) (λW1 I=>Ft M A W1 hl (hs.below I.2)) ?_;rintro W1 e B I ⟨C,rfl,F2,O⟩;refine ⟨_,0,rfl,gi ba,?_⟩;have Y:=I.below O;have s1:w.heap.size+2<=W1.heap.size:=(by have:=(I1.1 (I.1 1 _ rfl)).1;omega);refine dt 1 (ct (T:=29) (z:=.agg (ak zeroM zeroA)) ba B) ?_;refine bE (av (g:=B.heap.size) (t:=29) (ty:=29) (old:=ak zeroM zeroA) (cells:=ak M C) (A5 _ _) ba rfl (bO _ _)) ?_;have b3:Bw B ((B.alloc (.cells (ak zeroM zeroA) 29)).setRow B.heap.size (ak M C)):=aI (bal _ _) (K0 _) _;have r3:((B.alloc (.cells (ak zeroM zeroA) 29)).setRow B.heap.size (ak M C)).heap[B.heap.size]?=some (.cells (ak M C) 29 (0,0)):=D8 _ _ _ _ _ _ (A5 _ _);have z3:((B.alloc (.cells (ak zeroM zeroA) 29)).setRow B.heap.size (ak M C)).heap.size=B.heap.size+1:=(by rw [D4,F3]);have e3:(I5 (ak zeroM zeroA)).cells=ak zeroM zeroA:=rfl;rw [e3];generalize (B.alloc (.cells (ak zeroM zeroA) 29)).setRow B.heap.size (ak M C)=D at b3 r3 z3 ⊢;refine gz (R:=[]) trivial {} 40 0 (v:=.p D.heap.size 0) (w':=D.alloc (.cells #[.p B.heap.size 0,.slice none 0 0] 55)) (TG 55 (.agg #[.p B.heap.size 0,.slice none 0 0]) D) ?_;have b4:Bw D (D.alloc (.cells #[.p B.heap.size 0,.slice none 0 0] 55)):=bal _ _;have r4:(D.alloc (.cells #[.p B.heap.size 0,.slice none 0 0] 55)).heap[D.heap.size]?=some (.cells #[.p B.heap.size 0,.slice none 0 0] 55 (0,0)):=A5 _ _;generalize D.alloc (.cells #[.p B.heap.size 0,.slice none 0 0] 55)=W4 at b4 r4 ⊢;have k4:=aa b3 b4;have s2:=O.size;have f4:bj (w.heap.size+2) W4.heap.size W4 (aF M C):=(F2.below k4).low s1 k4.size;have m4:Mp (w.heap.size+2) B.heap.size M C W4:=⟨aD b4 r3,f4,λq hq e=>by have:=F2.hi q hq _ e;omega,ab⟩;have t4:Py w D.heap.size B.heap.size M C W4:=⟨⟨r4,m4,ab,λq hq e=>by have:=F2.hi q hq _ e;omega⟩,(Y.below k4).1 1 _ rfl,(Y.below k4).2⟩;obtain ⟨V,N⟩:∃ V,V=iN l M:=⟨_,rfl⟩;have l0:Uf w D.heap.size B.heap.size l V l.length (M,C,0,0) W4:=⟨di,t4,hg,di,by rw [N];simp⟩;rw [<- N];refine aj (R:=[]) trivial {} 7 ?_;refine af [.code (fW (au 5 (aM Tryz.f7))),.code (au 6 (aM Tryz.f7))] [(1,.slice a l.length c,0),(4,.p (w.heap.size+1) 0,0),(6,.p B.heap.size 0,1),(7,.p D.heap.size 0,0),(8,.i 0,0)] ?_;generalize D.heap.size=Z at l0 ⊢;generalize B.heap.size=r at l0 ⊢;clear I F2 O Y b3 r3 b4 r4 k4 f4 m4 t4 N HM s1 s2 e3 z3;refine aj (R:=[]) trivial {} 20 ?_;refine gJ (λx:MV × MA × Nat × Nat=>Vo w a l.length c r Z x.2.2.1 x.2.2.2) (Uf w Z r l V) l.length (M,C,0,0) ba ba l0 ?_;clear l0;rintro j ⟨f,E,s,i⟩ W h T hT;have ej:=h.ej;have X:=h.gw;have sm:=h.sm;have py:=h.py;dsimp only at ej X sm py ⊢;cases j with
     | zero =>have q:decide ((i:Int)<(l.length:Int))=false:=ck;have st:=h.st;dsimp only at st;rw [List.drop_of_length_le ab] at st;rw [st];exact gK (R:=[⟨r,ak f E,[]⟩]) ⟨⟨_,_,py.ht.mp.row⟩,trivial⟩ {eq:=[(29,an q)]} 60 py.out (by rfl) (bO _ _) underlying29 ⟨E,rfl,by rw [D4];exact (py.ht.mp.fam.mono λk I Y h3=>setRow_other _ _ _ _ ab).low ab (K0 _),aI py.bl ab _⟩
     | succ j =>
       have q:decide ((i:Int)<(l.length:Int)):=ek;obtain ⟨b,o,ha,I,Y,h3⟩:=he.below py.bl i ab;obtain ⟨k,n,hk⟩:∃ k n,l.getD i (0,0)=(k,n):=⟨_,_,rfl⟩;rw [hk] at Y h3;dsimp only at Y h3;refine gz (R:=[]) trivial {eq:=[(29,an q)],ov:=[(34,UA l.length c i ha ab underlying30 ba),(35,Wn b (o+i*2) (.i k) (.i n) underlying43 rfl ba λV N=>by subst N;exact ⟨Y,h3⟩)]} 60 2 (ct (T:=43) (z:=.agg #[.i 0,.i 0]) ba W) ?_;refine bx (R:=[]) trivial {} 20 (av (g:=W.heap.size) (t:=43) (ty:=43) (old:=#[.i 0,.i 0]) (cells:=#[.i k,.i n]) (A5 _ _) ba rfl ia) ?_;have e3:(I5 #[.i 0,.i 0]).cells=#[.i 0,.i 0]:=rfl;rw [e3];have b2:=iE W #[.i 0,.i 0] #[.i k,.i n] 43;have r2:((W.alloc (.cells #[.i 0,.i 0] 43)).setRow W.heap.size #[.i k,.i n]).heap[W.heap.size]?=some (.cells #[.i k,.i n] 43 (0,0)):=D8 _ _ _ _ _ _ (A5 _ _);have H:=py.below b2;refine aj (R:=[]) trivial {} 1 ?_;refine af (.code (au 1 Wu)::Wv T) ((10,.p W.heap.size 0,2)::Vo w a l.length c r Z s i) ?_;generalize (W.alloc (.cells #[.i 0,.i 0] 43)).setRow W.heap.size #[.i k,.i n]=B at b2 r2 H ⊢;generalize W.heap.size=g at r2 ⊢;have R2:fN B [⟨r,ak f E,[]⟩,⟨g,#[.i k,.i n],[]⟩]:=⟨⟨_,_,H.ht.mp.row⟩,⟨_,_,r2⟩,trivial⟩;have hw:IntKind.i64.wrap (((i:Nat):Int)+1)=((i+1:Nat):Int):=e8;have pass:pJ k n f=(f,0)->∀ P,Py w Z r f E P->Uf w Z r l V j (f,E,s,i+1) P:=λe P p=>h.next hk e p;have fin:∀ (L:MV) (A2:MA) (d:Nat) (P:A6),iR L->L.cs.length=22->pJ k n f=(bK L,d)->Py w Z r L A2 P->Wg prog (Bs w [(ak M A,29),(ak zeroM zeroA,29)]) (C6 prog Tryz.f7 (mQ w (V.1,(V.2:Int)))) Tryz.f7.ntmps (.code (au 3 Wu)::Wv T) (Vo w a l.length c r Z (s+d) i) P:=λL A2 d P hl2 J e p=>by refine aC (R:=[]) trivial {} 60 (rU L A2 _ r P J hl2 p.ht.mp) ?_;rintro e D ⟨rfl,m3,k3⟩;refine ⟨_,0,rfl,?_⟩;exact dY (R:=[]) trivial {eq:=[(31,cR .i64 hw)]} 60 λb K=>hT b D j (bK L,A2,s+d,i+1) ab (K.less ba) (h.next hk e (p.to m3 k3))
       cases Q:decide (n<0) with
       | true =>have:=of_decide_eq_true Q;have e:pJ k n f=(f,0):=(by unfold pJ;rw [JZ9 bv,JZ9 bv,JZ9 bv]);exact dY R2 {eq:=[(38,an Q),(31,cR .i64 hw)]} 60 λb K=>hT b B j (f,E,s,i+1) ab (K.less ba) (pass e B H)
       | false =>
         have n0:0<=n:=(by have:=of_decide_eq_false Q;omega);have l1:=X.1.len;have J:=kC (db X.1.ok).2.2.1;cases k1:(k==1) with
         | true =>
           have e1:=beq_iff_eq.1 k1;subst e1;cases dm:decide (300<n) with
           | true =>have:=of_decide_eq_true dm;have e:pJ 1 n f=(f,0):=(by unfold pJ;rw [JZ9 bv];rfl);exact dY R2 {eq:=[(38,an Q),(42,an k1),(45,an dm),(31,cR .i64 hw)]} 80 λb K=>hT b B j (f,E,s,i+1) ab (K.less ba) (pass e B H)
           | false =>
             have n3:=of_decide_eq_false dm;obtain ⟨m,rfl⟩:=Int.eq_ofNat_of_zero_le n0;have sr:=QI m ab H.ht X;have e:pJ 1 m f=((cG m f).1,rF (cG m f).2):=(by unfold pJ;rw [JZ8 bv];rfl);have F:=rE m X;have hlen:=pI m f;generalize cG m f=U at sr e F hlen;obtain ⟨L,told⟩:=U;dsimp only at sr e F hlen;refine aC R2 {eq:=[(38,an Q),(42,an k1),(45,an dm)]} 80 sr ?_;rintro e D ⟨a',c',A2,rfl,l3⟩;refine ⟨_,0,rfl,?_⟩;have p3:=H.to l3.ht.mp l3.kx;have ht:=fJ l3.own;dsimp only at p3 ht;refine aj (R:=[]) trivial {} 20 ?_;refine gJ (λx:Nat × Nat=>(11,.slice a' told.length c',0)::(12,.i (x.1:Nat),0)::Vo w a l.length c r Z x.2 i) (λj x W=>x.1+j=told.length/\x.2=s+rF (told.take x.1)/\W=D) told.length (0,s) ba ba ⟨di,by simp [rF],rfl⟩ ?_;rintro j2 ⟨G,u⟩ W ⟨e2,eu,rfl⟩ T2 hT2;dsimp only at e2 eu ⊢;cases j2 with
             | zero =>have q:decide ((G:Int)<(told.length:Int))=false:=ck;rw [List.take_of_length_le ab] at eu;subst eu;refine aj (R:=[]) trivial {eq:=[(53,an q)]} 11 ?_;exact af _ _ (fin L A2 (rF told) W F.1.len (kC (db F.1.ok).2.2.1) (by rw [F.line];exact e) p3)
             | succ j2 =>
               have q:decide ((G:Int)<(told.length:Int)):=ek;have eg:=zg (l:=told) (q:=G) ab;have hgo:=AR (told.take (G+1));obtain ⟨b',o',ha',hb',hc'⟩:=ht G ab;have hlt:=List.length_take_le (G+1) told;generalize told.getD G 0=y at eg hc';have hw2:IntKind.i64.wrap (((G:Nat):Int)+1)=((G+1:Nat):Int):=e8;cases dy:(y != 4) with
               | true =>rw [dy,JZ8 rfl] at eg;have hw3:IntKind.i64.wrap (((u:Nat):Int)+1)=((u+1:Nat):Int):=e8;exact dY (R:=[]) trivial {eq:=[(53,an q),(60,an dy),(62,cR .i64 hw3),(55,cR .i64 hw2)],ov:=[(58,kW told.length c' .i64 G ha' ab underlying56 ba),(59,iP ⟨b',o'+(G:Int).toNat,none⟩ (.i y) underlying2 rfl λV N=>by subst N;exact hc')]} 80 λb K=>hT2 b W j2 (G+1,u+1) ab (K.less ba) ⟨cb,cb,rfl⟩
               | false =>rw [dy,JZ9 bc] at eg;exact dY (R:=[]) trivial {eq:=[(53,an q),(60,an dy),(55,cR .i64 hw2)],ov:=[(58,kW told.length c' .i64 G ha' ab underlying56 ba),(59,iP ⟨b',o'+(G:Int).toNat,none⟩ (.i y) underlying2 rfl λV N=>by subst N;exact hc')]} 80 λb K=>hT2 b W j2 (G+1,u) ab (K.less ba) ⟨cb,cb,rfl⟩
         | false =>
           have e1:¬ k=1:=(by simpa using k1);have sl:=H.ht.mp.fam.msl;cases O:(k==2) with
           | true =>have e2:=beq_iff_eq.1 O;subst e2;have e:pJ 2 n f=(bK (bW f (gx f.d n)),0):=(by unfold pJ;rw [JZ9 di,JZ8 (by simpa using n0)]);have F:=(X.tick n0).1.len;refine aC R2 {eq:=[(38,an Q),(42,an k1),(64,an O)]} 80 (AD f.d E.ai E.ci E.ao E.co n B l1.xs l1.ys sl.xs sl.ys) ?_;rintro e D ⟨b1,d1,b2,d2,rfl,f3,x3⟩;refine ⟨_,0,rfl,?_⟩;obtain ⟨m3,kx⟩:=H.ht.mp.dev x3 (gx f.d n) (.inr (.inr (.inr f3)));refine bx (R:=[]) trivial {} 10 (An (gx f.d n) b1 d1 b2 d2 (aD x3 H.ht.mp.row) rfl) ?_;refine aj (R:=[]) trivial {} 2 ?_;exact af _ _ (fin (bW f (gx f.d n)) _ 0 _ ⟨F.x,l1.cs,F.ram,F.xs,F.ys⟩ J e (H.to m3 kx))
           | false =>
             have e2:¬ k=2:=(by simpa using O);cases k3:(k==3) with
             | true =>have e3:=beq_iff_eq.1 k3;subst e3;have e:pJ 3 n f=(bK (bW f (gR f.d (IntKind.u8.wrap n))),0):=(by unfold pJ;rw [JZ9 di,JZ9 di,JZ8 (by simpa using n0)]);have F:=(X.byte (Al (y:=IntKind.u8.wrap n) lx)).1.len;have h8:IntKind.u8.wrap (n.tmod 256)=IntKind.u8.wrap n:=(by rw [IntKind.wrap_u8,IntKind.wrap_u8,Int.tmod_eq_emod_of_nonneg n0];omega);refine aC R2 {eq:=[(38,an Q),(42,an k1),(64,an O),(72,an k3),(78,cR .u8 h8)],ov:=[(77,Lh .i64 n 256 bc)]} 80 (AE f.d E.ai E.ci E.ao E.co (IntKind.u8.wrap n) B l1.xs l1.ys sl.xs sl.ys) ?_;rintro e D ⟨b1,d1,b2,d2,rfl,f3,x3⟩;refine ⟨_,0,rfl,?_⟩;obtain ⟨m3,kx⟩:=H.ht.mp.dev x3 (gR f.d (IntKind.u8.wrap n)) (.inr (.inr (.inr f3)));refine bx (R:=[]) trivial {} 10 (An (gR f.d (IntKind.u8.wrap n)) b1 d1 b2 d2 (aD x3 H.ht.mp.row) rfl) ?_;refine aj (R:=[]) trivial {} 2 ?_;exact af _ _ (fin (bW f (gR f.d (IntKind.u8.wrap n))) _ 0 _ ⟨F.x,l1.cs,F.ram,F.xs,F.ys⟩ J e (H.to m3 kx))
             | false =>have e3:¬ k=3:=(by simpa using k3);have e:pJ k n f=(bK f,0):=(by unfold pJ;rw [JZ9 (by simp [e1]),JZ9 (by simp [e2]),JZ9 (by simp [e3]),X.line]);refine aj R2 {eq:=[(38,an Q),(42,an k1),(64,an O),(72,an k3)]} 36 ?_;exact af _ _ (fin f E 0 B l1 J e H)
def ik (c:Int):Ending:=.panicked [{v:=.iface 192 (.i c),recovered:=false}]
def DB (k:Int):Int:=if k=2 then 5 else if k=3 then 7 else 1
theorem Iw (b:1<=S) (c:S<=3):DB S=dI S:=by
 have a:S=1\/S=2\/S=3:=ab
 rcases a with rfl|rfl|rfl<;>rfl
theorem Of (h:¬ (1<=S/\S<=3)):DB S=1:=by unfold DB;rw [JZ9 ab,JZ9 ab]
theorem pf:CE 129 #[.i S] E (.i (DB S)):=by
 have F:Hid (DB S=if S=2 then 5 else if S=3 then 7 else 1):=(rfl:DB S=_);generalize DB S=v at *;cases c:(S==2) with
 | true =>have e2:S=2:=kc;have b:Hid (v=5):=F.out.trans (JZ8 e2);exact a0v
 | false =>
   have e2:¬ S=2:=kc;cases d:(S==3) with
   | true =>have e3:S=3:=lg;have b:Hid (v=7):=F.out.trans ((JZ9 e2).trans (JZ8 e3));exact a0v
   | false =>have e3:¬ S=3:=lg;have b:Hid (v=1):=F.out.trans ((JZ9 e2).trans (JZ9 e3));exact a0v
theorem AU (d:1<=S) (f:S<=3) (w:A6):CE 167 #[.i S] w (.i (eY S)):=by
 have b:S=1\/S=2\/S=3:=ab
 rcases b with rfl|rfl|rfl;·go_enter func167,ntmps167;exact a02
 ·go_enter func167,ntmps167;exact a02
 ·go_enter func167,ntmps167;exact a02
theorem nZ (n m:Nat) (j:Option C5) (l:Nat) (p va k:Int) (f:1<=k) (g:k<=3) (w:A6): A8 prog 171 #[.agg #[.slice T n m,.slice j 22 l,.i p,.u va,.i k]] w λe c=>e=ik (dI k)/\Bw w c:=by
 have d:Hid (∀ w,CE 129 #[.i k] w (.i (dI k))):=λw=>by have:=pf k w;rw [Iw k f g] at this;exact this
 generalize dI k=o at *;go_enter func171,ntmps171;go_wp2_with fail;refine (d.out _).mono ?_;rintro e q ⟨rfl,b⟩;subst b;go_wp2_with fail;exact ⟨rfl,rfl,bal _ _⟩
theorem kt (n m:Nat) (j:Option C5) (l:Nat) (p va k:Int) (f:1<=k) (g:k<=3) (w:A6): A8 prog 139 #[.agg #[.slice T n m,.slice j 22 l,.i p,.u va,.i k]] w λe c=>e=ik (eY k)/\Bw w c:=by have d:Hid (∀ w,CE 167 #[.i k] w (.i (eY k))):=λw=>AU k f g w;generalize eY k=o at *;go_enter func139,ntmps139;go_wp2_with fail;refine (d.out _).mono ?_;rintro e q ⟨rfl,b⟩;subst b;go_wp2_with fail;exact ⟨rfl,rfl,bal _ _⟩
structure Wk (w:A6) (g n rc:Nat) (zs:List Int) (b off lc:Nat) (l:List Int) (p va k:Int):Prop where
 hz:zs.length=n
 hr:bf n
 hs:Sl .u8 w (some ⟨g,0,none⟩) zs
 hw:∀ y ∈ zs,(Lit.int .u8 y).wf
 hc:n<=rc
 hc2:rc<=9223372036854775807
 hlz:l.length=22
 hl:Sl .u64 w (some ⟨b,off,none⟩) l
 hU:∀ j,U (l.getD j 0)
 hg:bm 22 l p
 hva:U va
 hk1:1<=k
 hk3:k<=3
 hT:pu w
theorem Wk.below {g:Nat} {c:Nat} (h:Wk b g n k e p l c A d j r) (hb:Bw b a):Wk a g n k e p l c A d j r :=
 ⟨h.hz,h.hr,h.hs.below hb,h.hw,h.hc,h.hc2,h.hlz,h.hl.below hb,h.hU,h.hg,h.hva,h.hk1,h.hk3,h.hT.below hb⟩
theorem Wk.at {b i:Nat} {k:Int} (h:Wk w g n p e b l i A d j k) (va:Nat) (f:va<22):w.cell? ⟨b,l+va,none⟩=some (.u (A.getD va 0)):=by obtain ⟨o,c,m,_,zs⟩:=h.hl va (by rw [h.hlz];exact f);simp only [Option.some.injEq,Addr.mk.injEq,and_true] at m;obtain ⟨rfl,rfl⟩:=m;exact zs
theorem Wk.one {c:Nat} (h:Wk b g n k e p l c A d j r):bm 22 A 1:=by have:=h.hg;unfold bm at this ⊢;rw [Bool.and_eq_true] at this;rw [this.1];rfl
theorem mM {W c d e:D1} {f:Nat × Nat} (h:b.heap[g]?=some (.cells #[B,W,c,d,e] M f)):b.cell? ⟨g,0,none⟩=some B/\b.cell? ⟨g,1,none⟩=some W/\b.cell? ⟨g,2,none⟩=some c/\b.cell? ⟨g,3,none⟩=some d/\b.cell? ⟨g,4,none⟩=some e:=by refine ⟨?_,?_,?_,?_,?_⟩<;>simp [G1,h]
theorem gj (hb:Bw b a) {g:Nat} {o:Obj} (h:b.heap[g]?=some o):a.heap[g]?=some o:=by rw [hb.block g (I1.1 h).1];exact h
theorem tZ (h:o<=2) (w:A6):CE 168 #[.i (o:Int)] w (.i ((12+9*o:Nat):Int)):=by
 have:o=0\/o=1\/o=2:=ab
 rcases this with rfl|rfl|rfl;·go_enter func168,ntmps168;exact a02
 ·go_enter func168,ntmps168;exact a02
 ·go_enter func168,ntmps168;exact a02
def rG (zs:List Int) (n:Nat) (l:List Int) (k x:Int):D2 :=
 if gQ n x 8=true then (if aJ l 1 x (bu x 8) 2 4 0=true then (if pQ (fP zs x)=true then ik (eY k) else .returned (.tuple #[.u x,.u (fP zs x)])) else ik (dI k)) else ik (dI k)
theorem Og (a:∀ y ∈ P,(Lit.int .u8 y).wf) (x:Int):U (fP P x):=by have:=uM P (jg a) 8 (x-2147483648).toNat ab;exact ⟨this.1,this.2⟩
theorem t6 (p va k T:Int) (lv:Nat) (S:lv<=2) (w:A6) (W:Wk w o D J R G I K L p va k): A8 prog 140 #[.agg #[.slice (some ⟨o,0,none⟩) D J,.slice (some ⟨G,I,none⟩) 22 K,.i p,.u va,.i k],.u T,.i (lv:Int)] w λe c=>e=rG R D L k (bL T va lv)/\Bw w c:=by
 have HW:Hid (Wk w o D J R G I K L p va k):=W;have hn:D<=1048576:=by have:=gu W.hr;omega
 obtain ⟨q,V⟩:∃ q:Nat,q=12+9*lv:=⟨_,rfl⟩;have HL:Hid (∀ w,A8 prog 168 #[.i (lv:Int)] w λe c=>e=.returned (.i (q:Int))/\∃ m,c=w.drewN m):=λw=>by rw [V];exact (tZ lv S w).mono λ_ _ h=>⟨h.1,0,h.2⟩
 have Z:Hid (∀ w,A8 prog 31 #[.u va,.i (q:Int),.i 9] w λe c=>e=.returned (.u (de va q 9))/\∃ m,c=w.drewN m):=λw=>(bJ va q 9 W.hva.1 W.hva.2 ab ab w).mono λ_ _ h=>⟨h.1,1,h.2⟩;have PX:Hid (Uz.wrap (T+Uz.wrap (8*de va q 9))=bL T va lv):=by show _=_;rw [V];exact Tn T va W.hva lv
 clear V;have zs:U (bL T va lv):=aW _;generalize bL T va lv=x at *;have f:Hid (∀ c,Bw w c->CB 169 #[.slice (some ⟨o,0,none⟩) D J,.u x,.i 8] c (.tuple #[.u (mT R D x 8),.bool (gQ D x 8)])):=λc M =>
  qz o D J R x 8 c W.hz hn (W.hs.below M) W.hw W.hc W.hc2 zs.1 (by have:=zs.2;omega)
 have B:Hid (∀ c,Bw w c->CB 170 #[.slice (some ⟨G,I,none⟩) 22 K,.i 1,.u x,.i 8,.i 2] c (.bool (vC 22 L 1 x 8 2))):=λc M =>
  kP (some ⟨G,I,none⟩) 22 K L 1 x 8 2 c W.hlz (W.hl.below M) W.hU zs (W.hT.below M)
 have A:Hid (∀ w,A8 prog 171 #[.agg #[.slice (some ⟨o,0,none⟩) D J,.slice (some ⟨G,I,none⟩) 22 K,.i p,.u va,.i k]] w λe c=>e=ik (dI k)/\Bw w c):=λw=>nZ _ _ _ _ _ _ _ _ W.hk1 W.hk3 w;have r:Hid (∀ w,A8 prog 139 #[.agg #[.slice (some ⟨o,0,none⟩) D J,.slice (some ⟨G,I,none⟩) 22 K,.i p,.u va,.i k]] w λe c=>e=ik (eY k)/\Bw w c):=λw=>kt _ _ _ _ _ _ _ _ W.hk1 W.hk3 w;have n:∀ g m,Bw w ((w.alloc g).drewN m):=λg m=>lD (bal _ _) m;have F:Hid (rG R D L k x=if gQ D x 8=true then (if aJ L 1 x (bu x 8) 2 4 0=true then (if pQ (fP R x)=true then ik (eY k) else .returned (.tuple #[.u x,.u (fP R x)])) else ik (dI k)) else ik (dI k)):=(rfl:rG R D L k x=_);have y:=W.one;clear W;go_enter func140,ntmps140;go_wp2_with fail;go_quiet (first | (go_at_call 168;with_reducible refine K1 (HL.out _)) | (go_at_call 31;with_reducible refine K1 (Z.out _)))
 rw [PX.out];go_wp2_with fail;refine (f.out _ (n _ _)).mono ?_;rintro e w1 ⟨rfl,E⟩;have Q:Hid (Bw w w1):=aa (n _ _) E;have R1:Hid (w1.heap[w.heap.size]?=some (.cells #[.slice (some ⟨o,0,none⟩) D J,.slice (some ⟨G,I,none⟩) 22 K,.i p,.u va,.i k] 185 (0,0))):=gj E (A5 w _);obtain ⟨k0,k1,k2,k3,k4⟩:=mM R1.out;clear E n f HL Z;cases u:gQ D x 8 with
 | false =>rw [u] at F;have s:Hid (rG R D L k x=ik (dI k)):=F.out.trans (JZ9 bc);clear F B r;go_wp2_with fail;refine (A.out _).mono ?_;rintro e X ⟨rfl,t⟩;exact ⟨rfl,s.out.symm,aa Q.out t⟩
 | true =>
   rw [u,JZ8 rfl] at F;have z:mT R D x 8=fP R x:=(by unfold mT fP;rw [u];rfl);rw [z];have l:=If D L x 2 y u ab ab;go_wp2_with fail;refine (B.out _ Q.out).mono ?_;rintro e X ⟨rfl,t⟩;rw [l];have H:Hid (Bw w X):=aa Q.out t;have R2:Hid (X.heap[w.heap.size]?=some (.cells #[.slice (some ⟨o,0,none⟩) D J,.slice (some ⟨G,I,none⟩) 22 K,.i p,.u va,.i k] 185 (0,0))):=gj t R1.out;clear k0 k1 k2 k3 k4 t;obtain ⟨k0,k1,k2,k3,k4⟩:=mM R2.out;clear B z l;have UE:U (fP R x):=Og R HW.out.hw x;have Y:=Tl (fP R x) UE;rw [<- Y] at F;clear Y;generalize fP R x=C at *;generalize aJ L 1 x (bu x 8) 2 4 0=pb at *;cases pb with
   | false =>have s:Hid (rG R D L k x=ik (dI k)):=F.out.trans (JZ9 bc);clear F r;go_wp2_with fail;refine (A.out _).mono ?_;exact a0w
   | true =>
     have j:rG R D L k x=if Qd C=true then ik (eY k) else .returned (.tuple #[.u x,.u C]):=F.out.trans (JZ8 rfl)
     clear F A;unfold Qd at j;cases N:(A9 .and .u64 C 1==0) with
     | true =>
       rw [N] at j;have s:Hid (rG R D L k x=ik (eY k)):=j.trans (JZ8 rfl);clear j;cases O:(A9 .and .u64 C 6==4) with
       | true =>go_wp2_with fail;refine (r.out _).mono ?_;exact a0w
       | false =>go_wp2_with fail;refine (r.out _).mono ?_;exact a0w
     | false =>
       cases O:(A9 .and .u64 C 6==4) with
       | true =>rw [N,O] at j;have s:Hid (rG R D L k x=ik (eY k)):=j.trans (JZ8 rfl);clear j;go_wp2_with fail;refine (r.out _).mono ?_;exact a0w
       | false =>
         cases t3:(A9 .and .u64 C 18428729675200069632 != 0) with
         | true =>rw [N,O,t3] at j;have s:Hid (rG R D L k x=ik (eY k)):=j.trans (JZ8 rfl);clear j;go_wp2_with fail;refine (r.out _).mono ?_;exact a0w
         | false =>rw [N,O,t3] at j;have s:Hid (rG R D L k x=.returned (.tuple #[.u x,.u C])):=j.trans (JZ9 bc);clear j;go_wp2_with fail;go_ret2;exact ⟨s.out.symm,H.out⟩
theorem Gb (he:U S) (w:A6):CE 141 #[.u S] w (.bool (!mG S)):=by have F:Hid ((A9 .and .u64 S 10 != 0)=!mG S):=Qe S he;generalize (!mG S)=v at *;go_enter func141,ntmps141;exact a09
theorem t7 (he:U S) (w:A6):A8 prog 172 #[.u S] w λr c=>r=.returned (.u (de S 10 44))/\c=w.drew:=by have d:Hid (∀ w,A8 prog 31 #[.u S,.i 10,.i 44] w λr c=>r=.returned (.u (de S 10 44))/\c=w.drew):=λw=>bJ S 10 44 he.1 he.2 ab ab w;generalize de S 10 44=f at *;go_enter func172,ntmps172;go_wp2_with fail;refine (d.out _).mono ?_;rintro r g ⟨rfl,b⟩;subst b;exact a02
def QJ (k e:Int) (lv:Nat):Ending:=if kY e lv=true then ik (eY k) else .returned (.u (Uz.wrap (fu e*4096)))
theorem DC (e:Int) (lv:Nat) (he:U e) (B:1<=Q) (C:Q<=3) (w:A6): A8 prog 142 #[.agg #[.slice (some ⟨o,0,none⟩) D J,.slice (some ⟨G,I,none⟩) 22 K,.i N,.u O,.i Q],.u e,.i (lv:Int)] w λr q=>r=QJ Q e lv/\Bw w q:=by
 have l:Hid (∀ w,A8 prog 139 #[.agg #[.slice (some ⟨o,0,none⟩) D J,.slice (some ⟨G,I,none⟩) 22 K,.i N,.u O,.i Q]] w λe q=>e=ik (eY Q)/\Bw w q):=λw=>kt _ _ _ _ _ _ _ _ B C w;have A:Hid (∀ w,A8 prog 172 #[.u e] w λr q=>r=.returned (.u (fu e))/\q=w.drew):=λw=>by have:=t7 e he w;rw [wK e he] at this;exact this
 have F:QJ Q e lv=if (((lv:Int)==0)||(A9 .and .u64 e 208 != 0))=true then ik (eY Q) else .returned (.u (Uz.wrap (fu e*4096))):=by rw [Qf e he lv];rfl
 have c:∀ g,Bw w (w.alloc g):=λg=>bal _ _;generalize fu e=f at *;generalize QJ Q e lv=v at *;cases t:((lv:Int)==0) with
 | true =>rw [t] at F;have j:Hid (v=ik (eY Q)):=F.trans (JZ8 rfl);clear F;go_enter func142,ntmps142;go_wp2_with fail;refine (l.out _).mono ?_;rintro r n ⟨rfl,d⟩;exact ⟨rfl,j.out.symm,aa (c _) d⟩
 | false =>
   cases z:(A9 .and .u64 e 208 != 0) with
   | true =>rw [t,z] at F;have j:Hid (v=ik (eY Q)):=F.trans (JZ8 rfl);clear F;go_enter func142,ntmps142;go_wp2_with fail;refine (l.out _).mono ?_;rintro r n ⟨rfl,d⟩;exact ⟨rfl,j.out.symm,aa (c _) d⟩
   | false =>rw [t,z] at F;have j:Hid (v=.returned (.u (Uz.wrap (f*4096)))):=F.trans (JZ9 bc);clear F;go_enter func142,ntmps142;go_wp2_with fail;refine (A.out _).mono ?_;rintro r E ⟨rfl,s⟩;subst s;go_wp2_with fail;go_ret;exact ⟨j.out.symm,lD (c _) 1⟩
theorem DD (e x:Int) (u:1<=Q) (y:Q<=3) (w:A6) (z:∀ n,(w.alloc n).cell? ⟨J,G,none⟩=some (.u x)): CB 173 #[.agg #[.slice T o D,.slice (some ⟨J,G,none⟩) 22 I,.i N,.u O,.i Q],.u e] w (.bool (oZ x Q e)):=by
 have c:∀ n,Bw w (w.alloc n):=λn=>bal _ _;have g:Q=1\/Q=2\/Q=3:=ab
 rcases g with rfl|rfl|rfl;·have F:Hid (oZ x 1 e=(A9 .and .u64 e 8 != 0)):=(rfl:oZ x 1 e=_);generalize oZ x 1 e=v at *;go_enter func173,ntmps173;go_wp2_with fail;go_ret;exact ⟨bh,c _⟩
 ·have F:oZ x 2 e=((A9 .and .u64 e 2 != 0)||((A9 .and .u64 x 524288 != 0)&&(A9 .and .u64 e 8 != 0))):=rfl;generalize oZ x 2 e=v at *;cases m:(A9 .and .u64 e 2 != 0)<;>cases q:(A9 .and .u64 x 524288 != 0)<;>cases s:(A9 .and .u64 e 8 != 0);all_goals
   rw [m,q,s] at F
   have f:=iz F
   clear F
   go_enter func173,ntmps173
   go_wp2_with fail
   go_ret
   exact ⟨by rw [f.out];rfl,c _⟩
 ·have F:Hid (oZ x 3 e=(A9 .and .u64 e 4 != 0)):=(rfl:oZ x 3 e=_);generalize oZ x 3 e=v at *;go_enter func173,ntmps173;go_wp2_with fail;go_ret;exact ⟨bh,c _⟩
theorem DE (e x:Int) (w:A6) (u:∀ n,(w.alloc n).cell? ⟨J,G,none⟩=some (.u x)): CB 174 #[.agg #[.slice T o D,.slice (some ⟨J,G,none⟩) 22 I,.i N,.u O,.i Q],.u e] w (.bool (CZ x N Q e)):=by
 have c:∀ n,Bw w (w.alloc n):=λn=>bal _ _;have F:CZ x N Q e=if (A9 .and .u64 e 16==0)=true then (N==1) else ((N==0)||((Q != 1)&&(A9 .and .u64 x 262144 != 0))):=rfl
 generalize CZ x N Q e=v at *;cases t0:(A9 .and .u64 e 16==0) with
 | true =>have g:Hid (v=(N==1)):=(by rw [t0] at F;exact F.trans (JZ8 rfl));clear F;go_enter func174,ntmps174;go_wp2_with fail;go_ret;exact ⟨by rw [g.out];rfl,c _⟩
 | false =>
   have f:v=((N==0)||((Q != 1)&&(A9 .and .u64 x 262144 != 0))):=(by rw [t0] at F;exact F.trans (JZ9 bc));clear F;cases m:(N==0)<;>cases q:(Q != 1)<;>cases s:(A9 .and .u64 x 262144 != 0);all_goals
    rw [m,q,s] at f
    have g:=iz f
    clear f
    go_enter func174,ntmps174
    go_wp2_with fail
    go_ret
    exact ⟨by rw [g.out];rfl,c _⟩
def QK (l:List Int) (p k e:Int) (lv:Nat):Ending:=if (nE e lv||hZ l k e||ic l p k e)=true then ik (eY k) else .returned (.tuple #[])
theorem xZ (k e:Int) (lv:Nat) (V:lv<=2) (he:U e) (hp:N=0\/N=1) (w:A6) (W:Wk w o D J R G I K L N O k): A8 prog 143 #[.agg #[.slice (some ⟨o,0,none⟩) D J,.slice (some ⟨G,I,none⟩) 22 K,.i N,.u O,.i k],.u e,.i (lv:Int)] w λr d=>r=QK L N k e lv/\Bw w d:=by
 have HW:Hid (Wk w o D J R G I K L N O k):=W;obtain ⟨q,Z⟩:∃ q:Nat,q=9*lv:=⟨_,rfl⟩;have u:Hid (9*(lv:Int)=(q:Int)):=by show _=_;omega
 have y:Hid (∀ w,A8 prog 31 #[.u e,.i 10,.i (q:Int)] w λr d=>r=.returned (.u (de e 10 q))/\d=w.drew):=λw=>bJ e 10 q he.1 he.2 ab ab w;have n:Hid (∀ w,A8 prog 139 #[.agg #[.slice (some ⟨o,0,none⟩) D J,.slice (some ⟨G,I,none⟩) 22 K,.i N,.u O,.i k]] w λe d=>e=ik (eY k)/\Bw w d):=λw=>kt _ _ _ _ _ _ _ _ W.hk1 W.hk3 w;have s:∀ g m,Bw w ((w.alloc g).drewN m):=λg m=>lD (bal _ _) m;have S:Hid (∀ d,Bw w d->∀ g,(d.alloc g).cell? ⟨G,I,none⟩=some (.u (L.getD 0 0))):=λd c g=>(W.below (aa c (bal _ _))).at 0 ab;have C:Hid (∀ d,Bw w d->CB 173 #[.agg #[.slice (some ⟨o,0,none⟩) D J,.slice (some ⟨G,I,none⟩) 22 K,.i N,.u O,.i k],.u e] d (.bool (!hZ L k e))):=λd c=>by have:=DD (some ⟨o,0,none⟩) D J G I K N O k e (L.getD 0 0) W.hk1 W.hk3 d (S.out d c);rw [NB L k e he (W.hU 0) W.hk1 W.hk3] at this;exact this
 have H:Hid (∀ d,Bw w d->CB 174 #[.agg #[.slice (some ⟨o,0,none⟩) D J,.slice (some ⟨G,I,none⟩) 22 K,.i N,.u O,.i k],.u e] d (.bool (!ic L N k e))):=λd c=>by have:=DE (some ⟨o,0,none⟩) D J G I K N O k e (L.getD 0 0) d (S.out d c);rw [NC L N k e he (W.hU 0) hp] at this;exact this
 have Y:(de e 10 q != 0)=nE e lv:=by rw [Z];exact NA e he lv V
 have F:QK L N k e lv=if (nE e lv||hZ L k e||ic L N k e)=true then ik (eY k) else .returned (.tuple #[]):=rfl
 rw [<- Y] at F;generalize QK L N k e lv=v at *;generalize de e 10 q=ff at *;generalize hZ L k e=nk at *;generalize ic L N k e=np at *;clear W S Z Y;cases Q:(ff != 0) with
 | true =>rw [Q] at F;have B:Hid (v=ik (eY k)):=F.trans (JZ8 rfl);clear F;go_enter func143,ntmps143;go_wp2_with fail;rw [u.out];refine (y.out _).mono ?_;rintro r X ⟨rfl,t⟩;subst t;go_wp2_with fail;refine (n.out _).mono ?_;rintro r b ⟨rfl,j⟩;exact ⟨rfl,B.out.symm,aa (s _ 1) j⟩
 | false =>
   cases nk with
   | true =>rw [Q] at F;have B:Hid (v=ik (eY k)):=F.trans (JZ8 rfl);clear F;go_enter func143,ntmps143;go_wp2_with fail;rw [u.out];refine (y.out _).mono ?_;rintro r X ⟨rfl,t⟩;subst t;go_wp2_with fail;refine (C.out _ (s _ 1)).mono ?_;rintro r z ⟨rfl,f⟩;have R2:Hid (z.heap[w.heap.size]?=some (.cells #[.slice (some ⟨o,0,none⟩) D J,.slice (some ⟨G,I,none⟩) 22 K,.i N,.u O,.i k] 185 (0,0))):=gj f (A5 w _);obtain ⟨l,M,p,va,P⟩:=mM R2.out;have A:Hid (Bw w z):=aa (s _ 1) f;clear f;go_wp2_with fail;refine (n.out _).mono ?_;rintro r b ⟨rfl,j⟩;exact ⟨rfl,B.out.symm,aa A.out j⟩
   | false =>
     cases np with
     | true =>rw [Q] at F;have B:Hid (v=ik (eY k)):=F.trans (JZ8 rfl);clear F;go_enter func143,ntmps143;go_wp2_with fail;rw [u.out];refine (y.out _).mono ?_;rintro r X ⟨rfl,t⟩;subst t;go_wp2_with fail;refine (C.out _ (s _ 1)).mono ?_;rintro r z ⟨rfl,f⟩;have R2:Hid (z.heap[w.heap.size]?=some (.cells #[.slice (some ⟨o,0,none⟩) D J,.slice (some ⟨G,I,none⟩) 22 K,.i N,.u O,.i k] 185 (0,0))):=gj f (A5 w _);obtain ⟨l,M,p,va,P⟩:=mM R2.out;have A:Hid (Bw w z):=aa (s _ 1) f;clear f;go_wp2_with fail;refine (H.out _ A.out).mono ?_;rintro r b ⟨rfl,j⟩;have R3:Hid (b.heap[w.heap.size]?=some (.cells #[.slice (some ⟨o,0,none⟩) D J,.slice (some ⟨G,I,none⟩) 22 K,.i N,.u O,.i k] 185 (0,0))):=gj j R2.out;clear l M p va P;obtain ⟨l,M,p,va,P⟩:=mM R3.out;have zs:Hid (Bw w b):=aa A.out j;clear j;go_wp2_with fail;refine (n.out _).mono ?_;rintro r w4 ⟨rfl,T⟩;exact ⟨rfl,B.out.symm,aa zs.out T⟩
     | false =>rw [Q] at F;have B:Hid (v=.returned (.tuple #[])):=F.trans (JZ9 bc);clear F;go_enter func143,ntmps143;go_wp2_with fail;rw [u.out];refine (y.out _).mono ?_;rintro r X ⟨rfl,t⟩;subst t;go_wp2_with fail;refine (C.out _ (s _ 1)).mono ?_;rintro r z ⟨rfl,f⟩;have R2:Hid (z.heap[w.heap.size]?=some (.cells #[.slice (some ⟨o,0,none⟩) D J,.slice (some ⟨G,I,none⟩) 22 K,.i N,.u O,.i k] 185 (0,0))):=gj f (A5 w _);obtain ⟨l,M,p,va,P⟩:=mM R2.out;have A:Hid (Bw w z):=aa (s _ 1) f;clear f;go_wp2_with fail;refine (H.out _ A.out).mono ?_;rintro r b ⟨rfl,j⟩;have zs:Hid (Bw w b):=aa A.out j;clear j;go_wp2_with fail;go_end0;exact ⟨B.out.symm,zs.out⟩
theorem QL (e:Int) (lv:Nat) (d:lv<=2) (he:U e) (hv:U O) (s:nE e lv=false) (w:A6): CB 144 #[.agg #[.slice (some ⟨o,0,none⟩) D J,.slice (some ⟨G,I,none⟩) 22 K,.i N,.u O,.i Q],.u e,.i (lv:Int)] w (.u (gS e O lv)):=by
 obtain ⟨q,j⟩:∃ q:Nat,q=12+9*lv:=⟨_,rfl⟩;have y:Hid (∀ w,A8 prog 168 #[.i (lv:Int)] w λe c=>e=.returned (.i (q:Int))/\∃ m,c=w.drewN m):=λw=>by rw [j];exact (tZ lv d w).mono λ_ _ h=>⟨h.1,0,h.2⟩
 have t:Hid (∀ w,A8 prog 31 #[.u O,.i 0,.i (q:Int)] w λe c=>e=.returned (.u (de O 0 q))/\∃ m,c=w.drewN m):=λw=>(bJ O 0 q hv.1 hv.2 ab ab w).mono λ_ _ h=>⟨h.1,1,h.2⟩;have u:Hid (∀ w,A8 prog 172 #[.u e] w λr c=>r=.returned (.u (de e 10 44))/\∃ m,c=w.drewN m):=λw=>(t7 e he w).mono λ_ _ h=>⟨h.1,1,h.2⟩;have F:Hid (A9 .or .u64 (Uz.wrap (de e 10 44*4096)) (de O 0 q)=gS e O lv):=by show _=_;rw [j];exact Qh e O he hv lv d s
 have f:∀ g m,Bw w ((w.alloc g).drewN m):=λg m=>lD (bal _ _) m;generalize gS e O lv=v at *;clear j s;go_enter func144,ntmps144;go_wp2_with fail;go_quiet (first | (go_at_call 168;with_reducible refine K1 (y.out _)) | (go_at_call 31;with_reducible refine K1 (t.out _)) | (go_at_call 172;with_reducible refine K1 (u.out _)))
 go_wp2_with fail;go_ret;exact ⟨bh,f _ _⟩
def gV (w w':A6) (zs:List Int) (a:Option C5) (n c:Nat):Prop:=w'.ownsRow w.heap.size 5 1 (.slice a n c) n (zs.map (I4 .u8))/\Bw w w'
theorem qt (hz:R.length=D) (N:1<=D) (hn:D<=1048576) (hs:Sl .u8 E (some ⟨o,0,none⟩) R): A8 prog 17 #[.slice (some ⟨o,0,none⟩) D J] E λr Q=>∃ (n:Option C5) (c:Nat),r=.returned (.slice n D c)/\gV E Q R n D c:=by
 have zs:∀ (E:A6) (a:Option C5) (D c C s:Nat),(binOp .eql 22 (.slice a D c) (.slice none C s)).run prog E=.ok (.bool a.isNone) E:=λE a D c C s=>Lib.run_eql_slice_nil E _ _ a D c C s underlying22
 obtain ⟨P,M,z,A,B⟩:=info_parts info5
 have p:Hid (∀ u ∈ R.map (I4 .u8),u.oneCell'):=ints_oneCell _ _
 have t:(0+D)*1<=140737488355328:=ab
 have y:0+D<=maxLen:=by unfold maxLen;omega
 have m:(R.map (I4 .u8)).length=D*1:=by rw [List.length_map,hz];omega
 have K:=EZ E E.heap.size (K0 _) (.cells #[] 5 (0,0)) rfl
 have f:Hid (∀ (g:Obj) (j:Nat) (u:D1),(R.map (I4 .u8))[j]?=some u->(E.alloc g).cell? ((⟨o,0,none⟩:C5).add j)=some u):=λg j u O=>O9 hs g j u O
 clear hs
 go_enter func17,ntmps17
 go_wp2_with (first
  | (at_builtin;refine wpList_append_own _ rfl (.tmp 5) (.tmp 6) 22 rfl _ 5 P (.int .u8 0) 1 1 underlying22 M z A B rfl bc _ 0 [] (by rfl) K ⟨o,0,none⟩ D J (R.map (I4 .u8)) rfl m (f.out _) p.out y t di ?_;intro S G b d l;simp only [Nat.zero_add,List.nil_append] at b;obtain ⟨F,I,w,L⟩:=jV b ab;rw [w] at b ⊢;have q:Hid (G.ownsRow E.heap.size 5 1 (.slice (some ⟨F,0,none⟩) D I) D (R.map (I4 .u8))):=b;have H:Hid (Bw E G):=JX d;clear l d b w L))
 go_ret
 exact ⟨_,_,rfl,q.out,H.out⟩
theorem KA (e x:Int) (he:U e) (hm:(cW e Q != e)=false) (w:A6) (W:Wk w o D J R G I K L N O Q): A8 prog 145 #[.agg #[.slice (some ⟨o,0,none⟩) D J,.slice (some ⟨G,I,none⟩) 22 K,.i N,.u O,.i Q],.u x,.u e] w λr m=>∃ (f:Option C5) (c:Nat),r=.returned (.slice f D c)/\gV w m R f D c:=by
 have E:=gu W.hr;have A:Hid (∀ g,A8 prog 17 #[.slice (some ⟨o,0,none⟩) D J] (w.alloc g) λr m=>∃ (f:Option C5) (c:Nat),r=.returned (.slice f D c)/\gV (w.alloc g) m R f D c):=λg=>qt o D J R (w.alloc g) W.hz ab ab (W.hs.below (bal _ _));have y:∀ g,Bw w (w.alloc g):=λg=>bal _ _;have B:Hid (∀ g m f c,gV (w.alloc g) m R f D c->gV w m R f D c):=λg m f c h=>⟨cQ h.1 di,aa (y g) h.2⟩;have d:=Ie e Q he;rw [hm] at d;have C:A9 .or .u64 64 128=192:=cp
 clear W;cases t:(Q==3) with
 | true =>have e3:Q=3:=(by simpa using t);have j:o6 Q=192:=JZ8 e3;rw [j] at d;have q:(A9 .and .u64 e 192==192):=d;clear d j e3;go_enter func145,ntmps145;go_wp2_with fail;refine (A.out _).mono ?_;rintro r F ⟨f,c,rfl,z⟩;go_wp2_with fail;go_ret;exact ⟨_,_,rfl,B.out _ _ _ _ z⟩
 | false =>have e3:¬ Q=3:=(by simpa using t);have j:o6 Q=64:=JZ9 e3;rw [j] at d;have q:(A9 .and .u64 e 64==64):=d;clear d j e3;go_enter func145,ntmps145;go_wp2_with fail;refine (A.out _).mono ?_;rintro r F ⟨f,c,rfl,z⟩;go_wp2_with fail;go_ret;exact ⟨_,_,rfl,B.out _ _ _ _ z⟩
def QM (l:List Int) (k e x:Int) (n:Nat) (zs:List Int) (w:A6) (r:D2) (w':A6):Prop :=
 if aJ l 1 x (bu x 8) 3 4 0=true then ∃ (a:Option C5) (c:Nat),r=.returned (.slice a n c)/\gV w w' (kU zs (x-2147483648).toNat (cW e k) 8) a n c else r=ik (dI k)/\Bw w w'
theorem Gc (va k e x:Int) (he:U e) (hx:gQ D x 8) (hm:(cW e k != e)) (w:A6) (W:Wk w o D J R G I K L N va k): A8 prog 145 #[.agg #[.slice (some ⟨o,0,none⟩) D J,.slice (some ⟨G,I,none⟩) 22 K,.i N,.u va,.i k],.u x,.u e] w λr s=>QM L k e x D R w r s:=by
 have hbd:=gu W.hr;have UX:U x:=by obtain ⟨_,_,h1,h2,_,_,_,h4⟩:=ku hx;exact ⟨ab,ab⟩
 have H:Hid (∀ w,A8 prog 171 #[.agg #[.slice (some ⟨o,0,none⟩) D J,.slice (some ⟨G,I,none⟩) 22 K,.i N,.u va,.i k]] w λe s=>e=ik (dI k)/\Bw w s):=λw=>nZ _ _ _ _ _ _ _ _ W.hk1 W.hk3 w;have m:∀ g,Bw w (w.alloc g):=λg=>bal _ _;have y:Hid (∀ g,CB 170 #[.slice (some ⟨G,I,none⟩) 22 K,.i 1,.u x,.i 8,.i 3] (w.alloc g) (.bool (aJ L 1 x (bu x 8) 3 4 0))):=λg=>by have:=kP (some ⟨G,I,none⟩) 22 K L 1 x 8 3 (w.alloc g) W.hlz (W.hl.below (m g)) W.hU UX (W.hT.below (m g));rw [If D L x 3 W.one hx ab ab] at this;exact this
 have j:Hid (∀ s,Bw w s->A8 prog 175 #[.slice (some ⟨o,0,none⟩) D J,.u x,.i 8,.u (cW e k)] s λr B=>∃ (n:Option C5) (c:Nat),r=.returned (.tuple #[.slice n D c,.bool true])/\gV w B (kU R (x-2147483648).toNat (cW e k) 8) n D c):=λs P=>by obtain ⟨_,_,h1,h2,_,_,_,h4⟩:=ku hx;obtain ⟨f,z⟩:∃ f:Nat,x=2147483648+(f:Int):=⟨(x-2147483648).toNat,ab⟩;subst z;have hu:=mI e k;have:=C9 (some ⟨o,0,none⟩) D J f 8 R (cW e k) s W.hz ab (W.hs.below P) hx hu.1 (by have:=hu.2;omega);rw [show (2147483648+(f:Int)-2147483648).toNat=f from ab];exact this.mono λr B h=>⟨_,_,h.1,cQ h.2.1 P.size,aa P h.2.2⟩
 have F:Hid (∀ r s,QM L k e x D R w r s=if aJ L 1 x (bu x 8) 3 4 0=true then ∃ (n:Option C5) (c:Nat),r=.returned (.slice n D c)/\gV w s (kU R (x-2147483648).toNat (cW e k) 8) n D c else r=ik (dI k)/\Bw w s):=λr s=>rfl;have q:=Ie e k he;have b:=Ic e k;rw [hm] at q;have Z:A9 .or .u64 64 128=192:=cp
 generalize aJ L 1 x (bu x 8) 3 4 0=pb at *;generalize kU R (x-2147483648).toNat (cW e k) 8=ms at *;generalize QM L k e x D R w=Q at *;generalize cW e k=we at *;clear W hm;obtain ⟨p,M,t⟩:∃ p,o6 k=p/\(((k==3)/\p=192)\/((k==3)=false/\p=64)):=by
  refine ⟨_,rfl,?_⟩;by_cases O:k=3;·exact .inl ⟨by simpa using O,JZ8 O⟩
  ·exact .inr ⟨by simpa using O,JZ9 O⟩
 rw [M] at q b;have A:Hid (A9 .or .u64 e p=we):=b;clear b M;rcases t with ⟨t,rfl⟩|⟨t,rfl⟩
 ·have l:(A9 .and .u64 e 192==192)=false:=q;clear q;cases pb with
  | false =>go_enter func145,ntmps145;go_wp2_with fail;refine (y.out _).mono ?_;rintro r u ⟨rfl,d⟩;have R1:Hid (u.heap[w.heap.size]?=some (.cells #[.slice (some ⟨o,0,none⟩) D J,.slice (some ⟨G,I,none⟩) 22 K,.i N,.u va,.i k] 185 (0,0))):=gj d (A5 w _);obtain ⟨zs,S,T,V,X⟩:=mM R1.out;have C:Hid (Bw w u):=aa (m _) d;clear d;go_wp2_with fail;refine (H.out _).mono ?_;rintro r Y ⟨rfl,E⟩;exact ⟨rfl,Eq.mpr ((F.out _ _).trans (JZ9 bc)) ⟨rfl,aa C.out E⟩⟩
  | true =>go_enter func145,ntmps145;go_wp2_with fail;refine (y.out _).mono ?_;rintro r u ⟨rfl,d⟩;have R1:Hid (u.heap[w.heap.size]?=some (.cells #[.slice (some ⟨o,0,none⟩) D J,.slice (some ⟨G,I,none⟩) 22 K,.i N,.u va,.i k] 185 (0,0))):=gj d (A5 w _);obtain ⟨zs,S,T,V,X⟩:=mM R1.out;have C:Hid (Bw w u):=aa (m _) d;clear d;go_wp2_with fail;rw [A.out];refine (j.out _ C.out).mono ?_;rintro r Y ⟨n,c,rfl,z⟩;go_wp2_with fail;exact Eq.mpr ((F.out _ _).trans (JZ8 bc)) ⟨_,_,rfl,z⟩
 ·have l:(A9 .and .u64 e 64==64)=false:=q;clear q;cases pb with
  | false =>go_enter func145,ntmps145;go_wp2_with fail;refine (y.out _).mono ?_;rintro r u ⟨rfl,d⟩;have R1:Hid (u.heap[w.heap.size]?=some (.cells #[.slice (some ⟨o,0,none⟩) D J,.slice (some ⟨G,I,none⟩) 22 K,.i N,.u va,.i k] 185 (0,0))):=gj d (A5 w _);obtain ⟨zs,S,T,V,X⟩:=mM R1.out;have C:Hid (Bw w u):=aa (m _) d;clear d;go_wp2_with fail;refine (H.out _).mono ?_;rintro r Y ⟨rfl,E⟩;exact ⟨rfl,Eq.mpr ((F.out _ _).trans (JZ9 bc)) ⟨rfl,aa C.out E⟩⟩
  | true =>go_enter func145,ntmps145;go_wp2_with fail;refine (y.out _).mono ?_;rintro r u ⟨rfl,d⟩;have R1:Hid (u.heap[w.heap.size]?=some (.cells #[.slice (some ⟨o,0,none⟩) D J,.slice (some ⟨G,I,none⟩) 22 K,.i N,.u va,.i k] 185 (0,0))):=gj d (A5 w _);obtain ⟨zs,S,T,V,X⟩:=mM R1.out;have C:Hid (Bw w u):=aa (m _) d;clear d;go_wp2_with fail;rw [A.out];refine (j.out _ C.out).mono ?_;rintro r Y ⟨n,c,rfl,z⟩;go_wp2_with fail;exact Eq.mpr ((F.out _ _).trans (JZ8 bc)) ⟨_,_,rfl,z⟩
def DF (zs:List Int) (n:Nat) (l:List Int) (p va k e x:Int) (lv:Nat):Fd :=
 if mG e=true then (if kY e lv=true then ch k else bT zs n l p va k (lv-1) (Uz.wrap (fu e*4096))) else du l p va k e x lv
theorem zh (T:Int) (lv:Nat): (rG P o R Q (bL T O lv)=ik (dI Q)/\bT P o R N O Q lv T=gc Q)\/(rG P o R Q (bL T O lv)=ik (eY Q)/\bT P o R N O Q lv T=ch Q) \/ (rG P o R Q (bL T O lv)=.returned (.tuple #[.u (bL T O lv),.u (fP P (bL T O lv))])/\gQ o (bL T O lv) 8/\bT P o R N O Q lv T=DF P o R N O Q (fP P (bL T O lv)) (bL T O lv) lv):=by
 rw [gM];unfold rG DF;generalize bL T O lv=x;by_cases a:gQ o x 8
 ·rw [JZ8 a,JZ8 a];by_cases b:aJ R 1 x (bu x 8) 2 4 0
  ·rw [JZ8 b,JZ8 b];by_cases c:pQ (fP P x);·rw [JZ8 c,JZ8 c];exact .inr (.inl ⟨rfl,rfl⟩)
   ·rw [JZ9 c,JZ9 c];exact .inr (.inr ⟨rfl,a,rfl⟩)
  ·rw [JZ9 b,JZ9 b];exact .inl ⟨rfl,rfl⟩
 ·rw [JZ9 a,JZ9 a];exact .inl ⟨rfl,rfl⟩
def KP (V:Fd) (zs:List Int) (n:Nat) (w:A6) (r:D2) (w':A6):Prop :=
 if V.code=0 then ∃ (a:Option C5) (c:Nat),r=.returned (.tuple #[.u V.addr,.slice a n c])/\gV w w' (bz zs V) a n c else r=ik V.code/\Bw w w'
theorem QN (h:t=ch d) (w:1<=d) (c:d<=3) (hb:Bw b a):KP t e n b (ik (eY d)) a:=by
 subst h;have w':d=1\/d=2\/d=3:=ab
 unfold KP;rw [JZ9];·exact ⟨rfl,hb⟩
 ·rcases w' with rfl|rfl|rfl<;>decide
theorem Oh (h:t=gc d) (w:1<=d) (c:d<=3) (hb:Bw b a):KP t e n b (ik (dI d)) a:=by
 subst h;have w':d=1\/d=2\/d=3:=ab
 unfold KP;rw [JZ9];·exact ⟨rfl,hb⟩
 ·rcases w' with rfl|rfl|rfl<;>decide
theorem Oi (h:t.code=0) (w':t.addr=d) (hm:bz e t=A) (zs:gV b a A W n k):KP t e n b (.returned (.tuple #[.u d,.slice W n k])) a:=by unfold KP;rw [JZ8 h,w',hm];exact ⟨_,_,rfl,zs⟩
theorem QO {l x:Int} (h:(nE l n||hZ e r l||ic e d r l)):du e d j r l x n=ch r:=by
 unfold du;cases a:nE l n
 ·cases b:hZ e r l
  ·cases c:ic e d r l;·rw [a,b,c] at h;cases h
   ·rfl
  ·rfl
 ·rfl
theorem QP {va x:Int} (h:(nE r n||hZ e j r||ic e d j r)=false):nE r n=false /\ du e d va j r x n=(if (cW r j != r)=true then (if aJ e 1 x (bu x 8) 3 4 0=true then ⟨gS r va n,0,true,x,cW r j⟩ else gc j) else ⟨gS r va n,0,false,0,0⟩):=by
 unfold du;cases a:nE r n
 ·cases b:hZ e j r
  ·cases c:ic e d j r;·exact ⟨rfl,rfl⟩
   ·rw [a,b,c] at h;cases h
  ·rw [a,b] at h;cases h
 ·rw [a] at h;cases h
theorem Oj {fn:Func} {Rs:List KI} {F:Fr} {Rc:D2->A6->Prop} (q:A8 V p y b Rc) (h:∀ e g,Rc e g->(∃ c,e=.panicked c/\z e g)\/∃ v t,e=.returned v/\(xr F Rs->f g)/\Wg V f (C6 V fn z) k (n7 F Rs) (pV F Rs v t) g) (hx:Jf V k F Rs=some (p,y):=by kernel_rfl):Wg V f (C6 V fn z) k Rs F b:=λa i=>by
 unfold Jf at hx;unfold n7 pV xr at h;cases l:Bn F Rs with
 | none=>rw [l] at hx;cases hx
 | some args =>
   obtain ⟨o,S,w⟩:=args;rw [l] at hx h;dsimp only at hx h;split at hx
   ·rename_i m;refine vj l i λK n=>?_;show o.upon V a K _ _;rw [po i hx b];refine q.mono λe g s=>?_;rcases h e g s with ⟨c,rfl,r⟩ | ⟨v,t,rfl,u,x⟩;·dsimp only;rw [lB];exact ⟨i.nod,r⟩
    ·refine n _ _ u (x _ ?_);cases j:o.dst with
     | none=>exact i
     | some d=>rw [j] at m;exact i.put m v t
   ·cases hx
theorem sT {J:A6->Prop} {R:List Rw} {dr:Bool} (E:n6 V f J R dr (C6 V s z)) (H:Hn V f J) (m:Nat) {k:List KI} {F:Fr} {w:A6} {S:Nat} {args:Array D1} {Rc:A6->D2->A6->Prop} (hS:J w) (i:∀ b,J b->A8 V S args b (Rc b)) (h:∀ b e a,J b->Rc b e a->(∃ c,e=.panicked c/\z e a)\/∃ v t,e=.returned v/\(xr (be V R H n dr m k F).1.2.2 (be V R H n dr m k F).1.2.1->f a)/\Wg V f (C6 V s z) n (n7 (be V R H n dr m k F).1.2.2 (be V R H n dr m k F).1.2.1) (pV (be V R H n dr m k F).1.2.2 (be V R H n dr m k F).1.2.1 v t) a) (hx:((be V R H n dr m k F).1.1,Jf V n (be V R H n dr m k F).1.2.2 (be V R H n dr m k F).1.2.1)=(false,some (S,args)):=by kernel_rfl) (he:(be V R H n dr m k F).2.map Prod.fst=(be V R H n dr m k F).2.map Prod.snd:=by kernel_rfl):Wg V f (C6 V s z) n k F w:=by simp only [Prod.mk.injEq] at hx;exact ae E H m hS (hret:=hx.1) (he:=he) λb d=>Oj (i b d) (hx:=hx.2) λe a g=>h b e a d g
theorem R1.ez:Ez (R1 b g y M) [⟨g,y,[]⟩]:=⟨λW h r a=>by rw [List.mem_singleton.1 a];exact ⟨_,_,h.1⟩,λ_ h=>h.below (I3 _ _).drew⟩
theorem gV.dw (h:gV b a e W n k) (d:Dw a c):gV b c e W n k:=⟨by obtain ⟨j,rfl⟩:=d;exact h.1,d.below h.2⟩
theorem gV.low (h:gV a c e W n k) (d:Bw b a):gV b c e W n k:=⟨cQ h.1 d.size,aa d h.2⟩
def KQ (g n d b a c:Nat) (p va k:Int):Array Value:=#[.slice (some ⟨g,0,none⟩) n d,.slice (some ⟨b,a,none⟩) 22 c,.i p,.u va,.i k]
theorem Ok (zs:List Int) (b a z:Nat) (l:List Int) (p va k:Int) (w:A6) (W:Wk w o D J zs b a z l p va k): A8 prog 132 #[.agg #[.slice (some ⟨o,0,none⟩) D J,.slice (some ⟨b,a,none⟩) 22 z,.i p,.u va,.i k]] w λr w'=>KP (cj zs D l p va k) zs D w r w':=by
 have hbd:=gu W.hr;have us:=W.hU 15;have u:=W.hk1;have K:=W.hk3;have FT:=Tm l us;have A:cj zs D l p va k=if ((p==3)||(de (l.getD 15 0) 60 4==0))=true then ⟨va,0,false,0,0⟩ else if (ay 39 va != va)=true then ch k else bT zs D l p va k 2 (n9 l):=by rw [Qi _ us];rfl
 have hp:=(gH W.hg).2;have wb:∀ {X},R1 w w.heap.size (KQ o D J b a z p va k) 185 X->Wk X o D J zs b a z l p va k:=λh=>W.below h.2;have c15:∀ X,R1 w w.heap.size (KQ o D J b a z p va k) 185 X->X.cell? ⟨b,a+15,none⟩=some (.u (l.getD 15 0)):=λX h=>(wb h).at 15 ab;generalize cj zs D l p va k=V at A ⊢;generalize l.getD 15 0=s at us FT A c15;have HB:=λ(i j:Nat) (hi:i<64) (hj:j<64) (X:A6)=>(bJ s i j us.1 us.2 hi hj X).mono λe w' h=>(⟨h.1,by rw [h.2];exact (I3 _ _).drew⟩:_/\Bw X w');have HW:=λ(X:A6)=>(i8 va 39 ab ab X).mono λe w' h=>(⟨h.1,vo⟩:_/\Bw X w');have HC:=λX (h:R1 w w.heap.size (KQ o D J b a z p va k) 185 X)=>qt o D J zs X W.hz ab ab (wb h).hs;have G:∀ {e X},V=ch k->e=ik (eY k)->Bw w X->∃ c,e=.panicked c/\KP V zs D w e X:=λB C I=>⟨_,C,by rw [C];exact QN B u K I⟩;have P:∀ {e X},V=gc k->e=ik (dI k)->Bw w X->∃ c,e=.panicked c/\KP V zs D w e X:=λB C I=>⟨_,C,by rw [C];exact Oh B u K I⟩;refine br (S:=R1 w w.heap.size (KQ o D J b a z p va k) 185) (args:=[.agg (KQ o D J b a z p va k)]) [(KQ o D J b a z p va k,185)] func132 ?_;have h0:R1 w w.heap.size (KQ o D J b a z p va k) 185 (bP w [(KQ o D J b a z p va k,185)]):=⟨A5 _ _,bal _ _⟩;have L:=iP (S:=R1 w w.heap.size (KQ o D J b a z p va k) 185) ⟨b,a+15,none⟩ (.u s) underlying24 rfl c15;cases t1:(p==3) with
 | true =>rw [t1] at A;refine aT R1.eng {eq:=[(15,an t1)],ov:=[(12,L)]} 60 h0 HC ?_;rintro X1 e X2 B ⟨E,c,rfl,f⟩;refine ⟨_,0,rfl,λ_=>B.below f.2,?_⟩;exact zD R1.ez (B.below f.2) {} 40 λX3 y d M=>⟨.tuple #[.u va,.slice E D c],li,Oi (by subst A;rfl) (by subst A;rfl) (by subst A;rfl) (gV.dw (gV.low f B.2) d)⟩
 | false =>
   have hp01:p=0\/p=1:=(by have C:¬ p=3:=(by simpa using t1);unfold bZ at hp;simp only [Bool.or_eq_true,beq_iff_eq] at hp;omega);rw [t1] at A;cases t2:(de s 60 4==0) with
   | true =>rw [t2] at A;refine aT R1.eng {eq:=[(15,an t1),(19,an t2)],ov:=[(12,L)],cv:=[(18,iQ R1.below λX _=>HB 60 4 ab ab X)]} 60 h0 HC ?_;rintro X1 e X2 B ⟨E,c,rfl,f⟩;refine ⟨_,0,rfl,λ_=>B.below f.2,?_⟩;exact zD R1.ez (B.below f.2) {} 40 λX3 y d M=>⟨.tuple #[.u va,.slice E D c],li,Oi (by subst A;rfl) (by subst A;rfl) (by subst A;rfl) (gV.dw (gV.low f B.2) d)⟩
   | false =>
     rw [t2,JZ9 bc] at A;cases t3:(ay 39 va != va) with
     | true =>rw [t3,JZ8 rfl] at A;refine sT R1.eng {eq:=[(15,an t1),(19,an t2),(31,an t3)],ov:=[(12,L)],cv:=[(18,iQ R1.below λX _=>HB 60 4 ab ab X),(28,iQ R1.below λX _=>HW X)]} 60 h0 (λX _=>kt (some ⟨o,0,none⟩) D J (some ⟨b,a,none⟩) z p va k u K X) λX1 e X2 B q=>.inl (G A q.1 (aa B.2 q.2))
     | false =>
       rw [t3,JZ9 bc] at A;have UD:((2:Nat):Int)=2:=rfl;refine sT R1.eng {eq:=[(15,an t1),(19,an t2),(31,an t3),(36,cR .u64 FT)],ov:=[(12,L)],cv:=[(18,iQ R1.below λX _=>HB 60 4 ab ab X),(28,iQ R1.below λX _=>HW X),(35,iQ R1.below λX _=>HB 0 44 ab ab X)]} 60 h0 (λX hX=>t6 o D J zs b a z l p va k (n9 l) 2 ab X (wb hX)) λX1 e X2 B q=>?_;obtain ⟨rfl,b2⟩:=q;have C:=B.below b2;rcases zh zs D l p va k (n9 l) 2 with ⟨n,e2⟩ | ⟨n,e2⟩ | ⟨n,N,g⟩;·exact .inl (P (A.trans e2) n C.2)
       ·exact .inl (G (A.trans e2) n C.2)
       rw [n];refine .inr ⟨_,0,rfl,gi ba,?_⟩;have g:=A.trans g;have F:=Og zs W.hw (bL (n9 l) va 2);generalize fP zs (bL (n9 l) va 2)=e0 at g F ⊢;generalize bL (n9 l) va 2=x0 at g N ⊢;refine aj (R:=[]) trivial {} 20 ?_;refine gJ (λx:Nat × Int × Int=>[(1,.p w.heap.size 0,1),(6,.i (x.1:Nat),0),(7,.u x.2.1,0),(8,.u x.2.2,0)]) (λj x X=>x.1=j/\j<=2/\U x.2.2/\gQ D x.2.1 8=true/\V=DF zs D l p va k x.2.2 x.2.1 x.1/\R1 w w.heap.size (KQ o D J b a z p va k) 185 X) 2 (2,x0,e0) ba ba ⟨rfl,K0 _,F,N,g,C⟩ ?_;clear g F N C n A;rintro _ ⟨O,x,e⟩ X ⟨rfl,hlv,F,N,g,hX⟩ T hT;dsimp only at hlv F N g hX ⊢;have H:=λY=>(Gb e F Y).mono λr w' h=>(⟨h.1,vo⟩:r=.returned (.bool (!mG e))/\Bw Y w');cases tp:mG e with
       | true =>
         rw [tp] at H;unfold DF at g;rw [JZ8 tp] at g;refine sT R1.eng {cv:=[(45,iQ R1.below λY _=>H Y)]} 60 hX (λY _=>DC o D J b a z p va k e O F u K Y) λX1 r X2 B q=>?_;obtain ⟨q,b2⟩:=q;have C:=B.below b2;unfold QJ at q;cases ts:kY e O with
         | true =>rw [JZ8 ts] at g q;exact .inl (G g q C.2)
         | false =>
           rw [JZ9 (by rw [ts];decide)] at g q;obtain ⟨m,rfl⟩:∃ m,O=m+1:=by
            cases O with
            | zero=>cases ts
            | succ m=>exact ⟨m,rfl⟩
           have hm:IntKind.i64.wrap (((m+1:Nat):Int)-1)=((m:Nat):Int):=e8;rw [Nat.add_sub_cancel] at g;generalize Uz.wrap (fu e*4096)=t at g q;refine .inr ⟨_,0,q,gi ba,?_⟩;refine sT R1.eng {eq:=[(52,cR .i64 hm)]} 60 C (λY Q=>t6 o D J zs b a z l p va k t m ab Y (wb Q)) λX3 r X4 I q=>?_;obtain ⟨rfl,b4⟩:=q;have h4:=I.below b4;rcases zh zs D l p va k t m with ⟨n,e2⟩ | ⟨n,e2⟩ | ⟨n,N,hv2⟩;·exact .inl (P (g.trans e2) n h4.2)
           ·exact .inl (G (g.trans e2) n h4.2)
           rw [n];refine .inr ⟨_,0,rfl,gi ba,?_⟩;exact dY (R:=[]) trivial {} 60 λy hy=>hT y X4 m (m,bL t va m,fP zs (bL t va m)) ab (hy.less ba) ⟨rfl,ab,Og zs W.hw _,N,g.trans hv2,h4⟩
       | false =>
         rw [tp] at H;unfold DF at g;rw [JZ9 (by rw [tp];decide)] at g;refine sT R1.eng {cv:=[(45,iQ R1.below λY _=>H Y)]} 60 hX (λY Q=>xZ o D J zs b a z l p va k e O hlv F hp01 Y (wb Q)) λX1 r X2 B q=>?_;obtain ⟨q,b2⟩:=q;have C:=B.below b2;unfold QK at q;cases tc:(nE e O||hZ l k e||ic l p k e) with
         | true =>rw [JZ8 tc] at q;exact .inl (G (g.trans (QO tc)) q C.2)
         | false =>
           rw [JZ9 (by rw [tc];decide)] at q;obtain ⟨ho,hlf⟩:=QP (va:=va) (x:=x) tc;rw [hlf] at g;refine .inr ⟨_,0,q,gi ba,?_⟩;have HP:=λY=>QL o D J b a z p va k e O hlv F W.hva ho Y;generalize gS e va O=ad at g HP;have HM:∀ Y,R1 w w.heap.size (KQ o D J b a z p va k) 185 Y->A8 prog 145 #[.agg (KQ o D J b a z p va k),.u x,.u e] Y λr Z=>(∃ c,r=.panicked c/\KP V zs D w r Z)\/∃ (E:Option C5) (c:Nat) (ms:List Int),r=.returned (.slice E D c)/\(V.code=0/\V.addr=ad/\bz zs V=ms)/\gV Y Z ms E D c:=λY Q=>by
            cases tm:(cW e k != e) with
            | false =>rw [JZ9 (by rw [tm];decide)] at g;exact (KA o D J zs b a z l p va k e x F tm Y (wb Q)).mono λr Z ⟨E,c,n,f⟩=>.inr ⟨E,c,zs,n,by subst g;exact ⟨rfl,rfl,rfl⟩,f⟩
            | true =>
              rw [JZ8 tm] at g;refine (Gc o D J zs b a z l p va k e x F N tm Y (wb Q)).mono λr Z h=>?_;unfold QM at h;cases tr:aJ l 1 x (bu x 8) 3 4 0 with
              | true =>rw [JZ8 tr] at h g;obtain ⟨E,c,n,f⟩:=h;exact .inr ⟨E,c,_,n,by subst g;exact ⟨rfl,rfl,rfl⟩,f⟩
              | false =>rw [JZ9 (by rw [tr];decide)] at h g;exact .inl (P g h.1 (aa Q.2 h.2))
           refine sT R1.eng {cv:=[(67,iQ R1.below λY _=>HP Y)]} 60 C HM λX3 r X4 I q=>?_;rcases q with q | ⟨E,c,ms,rfl,⟨v1,v2,v3⟩,f⟩;·exact .inl q
           refine .inr ⟨_,0,rfl,λ_=>I.below f.2,?_⟩;exact zD R1.ez (I.below f.2) {} 40 λX5 y d M=>⟨.tuple #[.u ad,.slice E D c],by rw [results_tmp2 rfl,M.slot (v:=.u ad) ba,M.slot (v:=.slice E D c) ba],Oi v1 v2 v3 (gV.dw (gV.low f I.2) d)⟩
theorem Ge:CE 131 #[.iface 192 (.i S)] E (.i S):=by
 have d:∀ (S:Int) (E:A6),(Instr.typeAssert (.iface 192 (.i S)) 20 192 false).run prog E=.ok (.i S) E:=λS E=>ba
 go_enter func131,ntmps131;exact a02
theorem Gf (p q r s:C5) (w:A6):CallsD prog 130 #[.pointer (some p),.pointer (some q),.pointer (some r),.pointer (some s)] .returning w λe f g=>e=.returned (.tuple #[])/\f=.returning/\g=w:=by
 have c:∀ w,(binOp .neq 20 .nilIface .nilIface).run prog w=.ok (.bool false) w:=λw=>ba
 refine D3 func130 rfl λb j d=>?_;apply wpS_seq;apply wpS_region;simp [wpOpsS,go_sem,recoverD,d,ntmps130,Exit.thenS];refine wpS_of_wp ?_;go_wp2_with fail;cases b;simp_all [bodyPostS,results,results130]
structure U7 (w:A6) (B g n rc:Nat):Prop where
 r0:w.heap[B]?=some (.cells #[.slice (some ⟨g,0,none⟩) n rc] 22 (0,0))
 r1:∃ v,w.heap[B+1]?=some (.cells #[v] 24 (0,0))
 r2:∃ v,w.heap[B+1+1]?=some (.cells #[v] 2 (0,0))
 r3:∃ v,w.heap[B+1+1+1]?=some (.cells #[v] 22 (0,0))
theorem ur (n B:Nat) (zs:List Int) (c:Int) (d:List PanicEntry) (w:A6) (hF:U7 w o D n B) (hz:zs.length=n) (u:1<=n) (hn:n<=1048576) (hs:Sl .u8 w (some ⟨D,0,none⟩) zs): CallsD prog 130 #[.p o 0,.p (o+1) 0,.p (o+1+1) 0,.p (o+1+1+1) 0] (.panicking ({v:=.iface 192 (.i c),recovered:=false}::d)) w λe M l => e=.returned (.tuple #[])/\M=.panicking ({v:=.iface 192 (.i c),recovered:=true}::d)/\∃ (p:A6) (f:Option C5) (j:Nat),gV w p zs f n j/\l=((p.setCell ⟨o+1,0,none⟩ (.u 0)).setCell ⟨o+1+1,0,none⟩ (.i c)).setCell ⟨o+1+1+1,0,none⟩ (.slice f n j):=by
 have K:∀ (v:D1) (w:A6),(binOp .neq 20 (.iface 192 v) .nilIface).run prog w=.ok (.bool true) w:=λv w=>ba
 obtain ⟨E,⟨N,F⟩,⟨O,G⟩,⟨P,H⟩⟩:=hF
 have X:w.cell? ⟨o,0,none⟩=some (.slice (some ⟨D,0,none⟩) n B):=by simp [G1,E]
 have q:Hid (∀ l,Bw w l->A8 prog 17 #[.slice (some ⟨D,0,none⟩) n B] l λr b=>∃ (f:Option C5) (j:Nat),r=.returned (.slice f n j)/\Hid (gV w b zs f n j) /\
  (b.cell? ⟨o+1,0,none⟩=some N/\b.frozen? ⟨o+1,0,none⟩=false)/\(b.cell? ⟨o+1+1,0,none⟩=some O/\b.frozen? ⟨o+1+1,0,none⟩=false)/\(b.cell? ⟨o+1+1+1,0,none⟩=some P/\b.frozen? ⟨o+1+1+1,0,none⟩=false)):=λl m=>(qt D n B zs l hz u hn (hs.below m)).mono λr b ⟨f,j,J,e2,e3⟩=>by
  have A:=gj (aa m e3) F
  have C:=gj (aa m e3) G
  have g:=gj (aa m e3) H
  exact ⟨f,j,J,⟨cQ e2 m.size,aa m e3⟩,⟨by simp [G1,A],by simp [H8,A]⟩,⟨by simp [G1,C],by simp [H8,C]⟩,⟨by simp [G1,g],by simp [H8,g]⟩⟩
 have s:Hid (∀ w,CE 131 #[.iface 192 (.i c)] w (.i c)):=Ge c
 have I:Bw w w.drew:=(I3 _ _).drew
 clear E F G H hz hn hs
 refine D3 func130 rfl λz Q L=>?_
 apply wpS_seq
 apply wpS_region
 simp [wpOpsS,go_sem,recoverD,L,ntmps130,Exit.thenS]
 refine wpS_of_wp ?_
 go_wp2_with fail
 ·go_region_with (first | (go_at_call 131;with_reducible refine (s.out _).mono ?_;rintro e Y ⟨rfl,y⟩;subst y) | (go_at_call 17;with_reducible refine (q.out _ I).mono ?_;rintro e p ⟨f,j,rfl,t,⟨U,R⟩,⟨V,S⟩,⟨W,T⟩⟩))
  all_goals exact ⟨rfl,_,rfl,_,results_none rfl _ _ _,rfl,rfl,p,f,j,t.out,rfl⟩
theorem mB (h:b.ownsRow k M 1 (.slice W n p) n q) (c:C5) (v:D1) (j:c.block<k):(b.setCell c v).ownsRow k M 1 (.slice W n p) n q:=by
 refine ⟨h.1,?_⟩;rcases h.2 with d|⟨g,cap,w,e,d,f,i⟩;·exact .inl d
 ·exact .inr ⟨g,cap,w,e,d,(Below.heap_setCell b c v g ab).trans f,i⟩
theorem Ol:E.ownsRow G 5 1 (.slice none 0 0) 0 (([]:List Int).map (I4 .u8)):=⟨rfl,.inl ⟨rfl,rfl⟩⟩
theorem Om {o1 o2 o3 o4:Obj} (hb:Below ((((b.alloc o1).alloc o2).alloc o3).alloc o4).heap.size ((((b.alloc o1).alloc o2).alloc o3).alloc o4) a): a.heap[b.heap.size]?=some o1/\a.heap[b.heap.size+1]?=some o2/\a.heap[b.heap.size+1+1]?=some o3/\a.heap[b.heap.size+1+1+1]?=some o4:=by
 have e2:=A5 (b.alloc o1) o2
 have e3:=A5 ((b.alloc o1).alloc o2) o3
 have e4:=A5 (((b.alloc o1).alloc o2).alloc o3) o4
 rw [F3] at e2
 rw [F3,F3] at e3
 rw [F3,F3,F3] at e4
 exact ⟨gj hb ((I2 _ _ _ eh).trans ((I2 _ _ _ eh).trans ((I2 _ _ _ eh).trans (A5 b o1)))),
  gj hb ((I2 _ _ _ eh).trans ((I2 _ _ _ eh).trans e2)),gj hb ((I2 _ _ _ eh).trans e3),gj hb e4⟩
theorem mg (h:b.heap[g]?=some (.cells #[B] M (0,0))):b.cell? ⟨g,0,none⟩=some B/\b.frozen? ⟨g,0,none⟩=false:=⟨by simp [G1,h],by simp [H8,h]⟩
theorem DG (w:A6) (hn:o<=1048576) (s:L.length=G) (hl:Sl .u64 w C L) (r:∀ j,U (L.getD j 0)) (t:nG o G L N Q=false): CB 122 #[.slice T o D,.slice C G I,.i N,.u O,.i Q] w (.tuple #[.u 0,.i (if jp Q=true then dI Q else 1),.slice none 0 0]):=by
 have HR:Hid (∀ w,CE 34 #[.slice T o D] w (.bool (bf o))):=λw=>fx T o D w hn;have p:Hid (∀ f,Bw w f->CB 33 #[.slice C G I,.i N] f (.bool (bm G L N))):=λf V=>fF C G I L N f s (hl.below V) r;have P:Hid (∀ w,CE 128 #[.i Q] w (.bool (jp Q))):=λw=>by have:=lZ Q w;rw [rt] at this;exact this
 have B:Hid (∀ w,CE 129 #[.i Q] w (.i (if jp Q=true then dI Q else 1))):=λw=>by
  have:=pf Q w;have e:DB Q=if jp Q=true then dI Q else 1:=by
   by_cases h:1<=Q/\Q<=3;·rw [Iw Q h.1 h.2,JZ8 (by unfold jp;simpa using h)]
   ·rw [Of Q h,JZ9 (by unfold jp;simpa using h)]
  rw [e] at this;exact this
 have rcap:(bf o&&bm G L N&&jp Q)=false:=t;generalize (if jp Q=true then dI Q else 1)=fk at *;generalize jp Q=X at *;generalize bf o=Z at *;generalize bm G L N=Y at *;clear hl s hn t r;have g:∀ H cap J K,Bw w ((((w.alloc H).alloc cap).alloc J).alloc K):=λH cap J K=>((((I3 _ _).alloc (K0 _) H).alloc di cap).alloc bv J).alloc bv K;cases Z with
 | false =>go_enter_defers func122,ntmps122;go_wp2_with fail;refine (HR.out _).mono ?_;rintro e M ⟨rfl,d⟩;subst d;go_wp2_with fail;refine (B.out _).mono ?_;rintro e M ⟨rfl,d⟩;subst d;go_wp2_with fail;refine ⟨_,?_,rfl,g _ _ _ _⟩;simp [results,results122,go_sem]
 | true =>
   cases Y with
   | false =>go_enter_defers func122,ntmps122;go_wp2_with fail;refine (HR.out _).mono ?_;rintro e M ⟨rfl,d⟩;subst d;go_wp2_with fail;refine (p.out _ (g _ _ _ _)).mono ?_;rintro e w2 ⟨rfl,c⟩;obtain ⟨u,y,z,A⟩:=Om c;have q:=iz (aa (g _ _ _ _) c);obtain ⟨W,kind⟩:=mg u;obtain ⟨E,R⟩:=mg y;obtain ⟨F,S⟩:=mg z;obtain ⟨m,ra⟩:=mg A;clear u y z A c;go_wp2_with fail;refine (B.out _).mono ?_;rintro e va ⟨rfl,n⟩;have b:=n.symm;subst b;go_wp2_with fail;refine ⟨_,?_,rfl,((q.out.setCell di _).setCell bv _).setCell bv _⟩;simp [results,results122,go_sem,E,F,m]
   | true =>
     cases X with
     | false =>go_enter_defers func122,ntmps122;go_wp2_with fail;refine (HR.out _).mono ?_;rintro e M ⟨rfl,d⟩;subst d;go_wp2_with fail;refine (p.out _ (g _ _ _ _)).mono ?_;rintro e w2 ⟨rfl,c⟩;obtain ⟨u,y,z,A⟩:=Om c;have q:=iz (aa (g _ _ _ _) c);obtain ⟨W,kind⟩:=mg u;obtain ⟨E,R⟩:=mg y;obtain ⟨F,S⟩:=mg z;obtain ⟨m,ra⟩:=mg A;clear u y z A c;go_wp2_with fail;refine (P.out _).mono ?_;rintro e va ⟨rfl,n⟩;have b:=n.symm;subst b;go_wp2_with fail;refine (B.out _).mono ?_;rintro e va ⟨rfl,n⟩;have b:=n.symm;subst b;go_wp2_with fail;refine ⟨_,?_,rfl,((q.out.setCell di _).setCell bv _).setCell bv _⟩;simp [results,results122,go_sem,E,F,m]
     | true=>cases rcap
theorem Ix (x:Int) (lv:Nat):(du P S N O Q x lv).code=0\/((du P S N O Q x lv).addr=0/\(du P S N O Q x lv).marked=false):=by
 unfold du;split;·exact .inr ⟨rfl,rfl⟩
 ·split;·exact .inr ⟨rfl,rfl⟩
  ·split;·exact .inr ⟨rfl,rfl⟩
   ·split
    ·split;·exact .inl rfl
     ·exact .inr ⟨rfl,rfl⟩
    ·exact .inl rfl
theorem On:∀ (a:Nat) (T:Int),(bT P o R N O Q a T).code=0\/((bT P o R N O Q a T).addr=0/\(bT P o R N O Q a T).marked=false):=by
 intro a;induction a with
 | zero =>
   intro T;rw [bT];split
   ·split
    ·split;·exact .inr ⟨rfl,rfl⟩
     ·split;·exact .inr ⟨rfl,rfl⟩
      ·exact Ix _ _ _ _ _ _ _
    ·exact .inr ⟨rfl,rfl⟩
   ·exact .inr ⟨rfl,rfl⟩
 | succ a b =>
   intro T;rw [bT];split
   ·split
    ·split;·exact .inr ⟨rfl,rfl⟩
     ·split
      ·split;·exact .inr ⟨rfl,rfl⟩
       ·exact b _
      ·exact Ix _ _ _ _ _ _ _
    ·exact .inr ⟨rfl,rfl⟩
   ·exact .inr ⟨rfl,rfl⟩
theorem QQ (h:¬ (cj P o R N O Q).code=0):(cj P o R N O Q).addr=0/\bz P (cj P o R N O Q)=P:=by
 have a:(cj P o R N O Q).code=0\/((cj P o R N O Q).addr=0/\(cj P o R N O Q).marked=false):=by
  unfold cj;split;·exact .inl rfl
  ·split;·exact .inr ⟨rfl,rfl⟩
   ·exact On _ _ _ _ _ _ _ _
 rcases a with a|⟨a,b⟩;·exact absurd a h
 ·exact ⟨a,by unfold bz;rw [b];rfl⟩
theorem DH (v:D1) (h:b.cell? F=some B):(b.setCell F v).cell? F=some v:=World.cell?_setCell_same b F v h
theorem mN {p:C5} (v:D1) (h:b.cell? F=some B) (a:p.block≠F.block):(b.setCell p v).cell? F=some B:=by rw [World.cell?_setCell_other b p F v (λe=>a (by rw [e]))];exact h
theorem AV (p va kind:Int) (w:A6) (W:Wk w o D J R G I K L p va kind): A8 prog 122 #[.slice (some ⟨o,0,none⟩) D J,.slice (some ⟨G,I,none⟩) 22 K,.i p,.u va,.i kind] w λe m=>∃ (d:Option C5) (c:Nat),e=.returned (.tuple #[.u (cj R D L p va kind).addr,.i (cj R D L p va kind).code,.slice d D c]) /\ m.ownsRow w.heap.size 5 1 (.slice d D c) D ((bz R (cj R D L p va kind)).map (I4 .u8))/\Bw w m:=by
 have hbd:=gu W.hr;have HW:=iz W;have HR:Hid (∀ w,CE 34 #[.slice (some ⟨o,0,none⟩) D J] w (.bool true)):=λw=>by have:=fx (some ⟨o,0,none⟩) D J w ab;rw [W.hr] at this;exact this
 have HG:Hid (∀ m,Bw w m->CB 33 #[.slice (some ⟨G,I,none⟩) 22 K,.i p] m (.bool true)):=λm U=>by have:=fF (some ⟨G,I,none⟩) 22 K L p m W.hlz (W.hl.below U) W.hU;rw [W.hg] at this;exact this
 have HK:Hid (∀ w,CE 128 #[.i kind] w (.bool true)):=λw=>by have:=lZ kind w;rw [rt,decide_eq_true ⟨W.hk1,W.hk3⟩] at this;exact this
 have Q:Hid (∀ m,Bw w m->A8 prog 132 #[.agg #[.slice (some ⟨o,0,none⟩) D J,.slice (some ⟨G,I,none⟩) 22 K,.i p,.u va,.i kind]] m λr n=>KP (cj R D L p va kind) R D m r n):=λm U=>Ok o D J R G I K L p va kind m (W.below U);have b:∀ B C cap l,Bw w ((((w.alloc B).alloc C).alloc cap).alloc l):=λB C cap l=>((((I3 _ _).alloc (K0 _) B).alloc di C).alloc bv cap).alloc bv l;have hmf:∀ (fn:Fn) (s K:Array D1) (w:A6),(Instr.makeFunc fn s K).run prog w=.ok (.func fn s K) w:=λ_ _ _ _=>rfl;have S:=iz (QQ R D L p va kind);generalize cj R D L p va kind=V at *;clear W;go_enter_defers func122,ntmps122;go_wp2_with fail;refine (HR.out _).mono ?_;rintro e w1 ⟨rfl,X⟩;subst X;go_wp2_with fail;refine (HG.out _ (b _ _ _ _)).mono ?_;rintro e w2 ⟨rfl,A⟩;obtain ⟨q0,q1,q2,q3⟩:=Om A;have Q0:=iz q0;have Q1:=iz q1;have Q2:=iz q2;have M:=iz q3;have F:=iz (aa (b _ _ _ _) A);obtain ⟨j0,f0⟩:=mg q0;clear q0 q1 q2 q3 A;go_wp2_with fail;refine (HK.out _).mono ?_;rintro e w3 ⟨rfl,Y⟩;have rcap:=Y.symm;subst rcap;have u:=iz (F.out.alloc F.out.size (.cells #[.slice (some ⟨o,0,none⟩) D J,.slice (some ⟨G,I,none⟩) 22 K,.i p,.u va,.i kind] 185));go_wp2_with fail;refine (Q.out _ u.out).mono ?_;rintro r O j;unfold KP at j;by_cases N:V.code=0
 ·rw [JZ8 N] at j;obtain ⟨d,c,rfl,E⟩:=j;have FR:=iz E;have FS:=iz E.2.size;obtain ⟨Z,f1⟩:=mg (gj E.2 (oL Q1.out _));obtain ⟨j2,f2⟩:=mg (gj E.2 (oL Q2.out _));obtain ⟨j3,f3⟩:=mg (gj E.2 (oL M.out _));clear E j0 f0;obtain ⟨g,z⟩:∃ g,V.addr=g:=⟨_,rfl⟩;rw [z];have P:=iz z;clear z;go_wp2_with fail;go_region;go_wp2_with fail;refine F0 (f:=130) (args:=#[.p w.heap.size 0,.p (w.heap.size+1) 0,.p (w.heap.size+1+1) 0,.p (w.heap.size+1+1+1) 0]) di (by simp [go_sem]) ?_;refine (Gf _ _ _ _ _).mono ?_;rintro e u' w9 ⟨rfl,rfl,rfl⟩;have H:w.heap.size+1+1+1<(w2.alloc (.cells #[.slice (some ⟨o,0,none⟩) D J,.slice (some ⟨G,I,none⟩) 22 K,.i p,.u va,.i kind] 185)).heap.size:=(by have:=(I1.1 M.out).1;rw [F3];omega);have t1:=mN (p:=⟨w.heap.size+1+1+1,0,none⟩) (.slice d D c) (mN (p:=⟨w.heap.size+1+1,0,none⟩) (.i 0) (DH (.u g) (mN (p:=⟨w.heap.size+1+1+1,0,none⟩) (.slice d D c) (DH (.u g) Z) cb)) cb) cb;have t2:=mN (p:=⟨w.heap.size+1+1+1,0,none⟩) (.slice d D c) (DH (.i 0) (mN (p:=⟨w.heap.size+1,0,none⟩) (.u g) (mN (p:=⟨w.heap.size+1+1+1,0,none⟩) (.slice d D c) (mN (p:=⟨w.heap.size+1,0,none⟩) (.u g) j2 cb) cb) cb)) cb;have t3:=DH (.slice d D c) (mN (p:=⟨w.heap.size+1+1,0,none⟩) (.i 0) (mN (p:=⟨w.heap.size+1,0,none⟩) (.u g) (DH (.slice d D c) (mN (p:=⟨w.heap.size+1,0,none⟩) (.u g) j3 cb)) cb) cb);refine ⟨.tuple #[.u g,.i 0,.slice d D c],?_,d,c,by rw [N,P.out],?_,?_⟩;·generalize (((((O.setCell ⟨w.heap.size+1,0,none⟩ (.u g)).setCell ⟨w.heap.size+1+1+1,0,none⟩ (.slice d D c)).setCell ⟨w.heap.size+1,0,none⟩ (.u g)).setCell ⟨w.heap.size+1+1,0,none⟩ (.i 0)).setCell ⟨w.heap.size+1+1+1,0,none⟩ (.slice d D c))=W9 at *;simp [results,results122,go_sem,t1,t2,t3]
  ·have B:=mB FR.out.1 ⟨w.heap.size+1,0,none⟩ (.u g) (by show w.heap.size+1<_;omega);have C:=mB B ⟨w.heap.size+1+1+1,0,none⟩ (.slice d D c) H;have cap:=mB C ⟨w.heap.size+1,0,none⟩ (.u g) (by show w.heap.size+1<_;omega);have l:=mB cap ⟨w.heap.size+1+1,0,none⟩ (.i 0) (by show w.heap.size+1+1<_;omega);have o5:=mB l ⟨w.heap.size+1+1+1,0,none⟩ (.slice d D c) H;exact dc (cQ o5 u.out.size) (I3 _ _).drew
  ·exact ((((((aa u.out FR.out.2).setCell di _).setCell bv _).setCell di _).setCell bv _).setCell bv _).drew
 ·rw [JZ9 N] at j;obtain ⟨rfl,q⟩:=j;have y:=iz (aa u.out q);have HF:Hid (U7 O w.heap.size o D J):=⟨gj q (oL Q0.out _),⟨_,gj q (oL Q1.out _)⟩,⟨_,gj q (oL Q2.out _)⟩,⟨_,gj q (oL M.out _)⟩⟩;have zs:=iz (show w.heap.size+1+1+1<O.heap.size from (I1.1 (gj q (oL M.out (.cells #[.slice (some ⟨o,0,none⟩) D J,.slice (some ⟨G,I,none⟩) 22 K,.i p,.u va,.i kind] 185)))).1);refine F0 (f:=130) (args:=#[.p w.heap.size 0,.p (w.heap.size+1) 0,.p (w.heap.size+1+1) 0,.p (w.heap.size+1+1+1) 0]) di (by simp [go_sem]) ?_;refine (ur w.heap.size o D J R V.code [] O HF.out HW.out.hz ab ab (HW.out.hs.below y.out)).mono ?_;rintro e u' w9 ⟨rfl,rfl,w8,d,T,t,rfl⟩;obtain ⟨_,⟨v1,r1⟩,⟨v2,r2⟩,⟨v3,r3⟩⟩:=HF.out;obtain ⟨Z,_⟩:=mg (gj t.2 r1);obtain ⟨j2,_⟩:=mg (gj t.2 r2);obtain ⟨j3,_⟩:=mg (gj t.2 r3);obtain ⟨h1,h2⟩:=S.out N;rw [h1,h2];refine ⟨.tuple #[.u 0,.i V.code,.slice d D T],?_,d,T,rfl,?_,?_⟩;·simp [results,results122,go_sem,Z,j2,j3]
  ·have B:=mB t.1 ⟨w.heap.size+1,0,none⟩ (.u 0) (by have:=zs.out;simp;omega);have C:=mB B ⟨w.heap.size+1+1,0,none⟩ (.i V.code) (by have:=zs.out;simp;omega);exact cQ (mB C ⟨w.heap.size+1+1+1,0,none⟩ (.slice d D T) zs.out) y.out.size
  ·exact (((aa y.out t.2).setCell di _).setCell bv _).setCell bv _
def xh (n:Nat) (a:Option C5) (c:Nat):Prop:=(∀ b d,a=some ⟨b,d,none⟩->d=0)/\n<=c/\c<=maxLen
theorem DI {c:Nat} {a:Option C5} (h:w.ownsRow k M 1 (.slice a n c) n q):xh n a c:=by
 rcases h.2 with ⟨d,l⟩|⟨g,cap,i,d,_,_,j,base,_⟩
 ·injection d with e1 e2 e3
  subst e1 e3;exact ⟨λb f e=>(nomatch e),ab,Nat.zero_le _⟩
 ·injection d with e1 e2 e3
  subst e1 e3;exact ⟨λb f e=>by cases e;rfl,j,base⟩
theorem rH (w:A6) (hz:R.length=o) (hn:o<=1048576) (hs:Sl .u8 w T R) (A:∀ y ∈ R,(Lit.int .u8 y).wf) (k:L.length=G) (hl:Sl .u64 w C L) (f:∀ j,U (L.getD j 0)) (z:U O) (F:pu w) (t:xh o T D): A8 prog 122 #[.slice T o D,.slice C G I,.i N,.u O,.i Q] w λe s=>∃ (rcap:Option C5) (c:Nat),e=.returned (.tuple #[.u (GW R o G L N O Q),.i (GX R o G L N O Q),.slice rcap (vI R o G L N O Q).length c]) /\ s.ownsRow w.heap.size 5 1 (.slice rcap (vI R o G L N O Q).length c) (vI R o G L N O Q).length ((vI R o G L N O Q).map (I4 .u8))/\Bw w s:=by
 unfold GW GX vI;cases q:nG o G L N Q with
 | false =>simp only [Bool.false_eq_true,if_false];exact (DG T o D C G I L N O Q w hn k hl f q).mono λe s h=>⟨none,0,h.1,Ol s _,h.2⟩
 | true =>simp only [if_true];rw [kB,hz];have a:(bf o&&bm G L N&&jp Q):=q;simp only [Bool.and_eq_true] at a;obtain ⟨⟨E,i⟩,u⟩:=a;have d:1<=Q/\Q<=3:=(by simpa [jp] using u);obtain ⟨rfl,cap⟩:=gH i;have m:=gu E;obtain ⟨b,B,rfl,_,_⟩:=hl 0 ab;obtain ⟨g,n,rfl,_,_⟩:=hs 0 ab;obtain ⟨v,x,r⟩:=t;have H:=v g n rfl;subst H;exact AV g o D R b B I L N O Q w ⟨hz,E,hs,A,x,by unfold maxLen at r;omega,k,hl,f,i,z,d.1,d.2,F⟩
theorem DJ:CE 128 #[.i S] E (.bool (decide (1<=S/\S<=3))):=rt S ▸ lZ S E
theorem QR:(prog.info? 199).map (·.size)=some 9:=by kernel_rfl
theorem ya:CB 147 #[] E (.agg #[.i 3,.i 4,.i 6,.i 7,.i 8,.i 3,.i 7,.i 11,.i 2]):=by go_enter func147,ntmps147;go_wp2_with fail;exact bodyPost_ret (results_cell_row results147 _ _ _ _ _ _ _ rfl (A5 _ _) underlying199 rfl QR) rfl ⟨rfl,bal _ _⟩
theorem Oo (h:U S) (w:A6):CB 226 #[.agg #[.i 3,.i 4,.i 6,.i 7,.i 8,.i 3,.i 7,.i 11,.i 2],.u S] w (.i (wrap64 (de S 11 2))):=by have d:Hid (∀ w,A8 prog 31 #[.u S,.i 11,.i 2] w λe c=>e=.returned (.u (de S 11 2))/\c=w.drew):=λw=>bJ S 11 2 h.1 h.2 ab ab w;clear h;generalize de S 11 2=y at *;go_enter func226,ntmps226;go_wp2_with fail;refine (d.out _).mono ?_;rintro e f ⟨rfl,b⟩;subst b;go_wp2_with fail;go_ret;exact ⟨rfl,(bal _ _).drew⟩
theorem mC (w:A6) (hz:R.length=o) (hs:Sl .u64 w T R) (hl:∀ j,U (R.getD j 0)): CB 208 #[.slice T o D,.i N,.i O] w (.i (LU o R N O)):=by
 have d:=λW (i:Bw w W)=>fF T o D R N W hz (hs.below i) hl;have g:=lZ O;rw [rt] at g;refine br (S:=Bs w []) (args:=[.slice T o D,.i N,.i O]) [] func208 ?_;unfold LU;cases c:bm o R N;case true =>
  obtain ⟨rfl,s⟩:=gH c;rw [c] at d;obtain ⟨b,k,rfl,i,r⟩:=hs 0 ab;have f:=hl 0;have q:=λW=>Oo (R.getD 0 0) f W;have n:gg R N O=if ((O != 1)&&!(A9 .and .u64 (R.getD 0 0) 131072==0))=true then wrap64 (de (R.getD 0 0) 11 2) else N:=by unfold gg;rw [Ib _ f,WV,Bool.not_not,<- iD (R.getD 0 0) 11 2 f.1 f.2 ab];rfl
  rw [n];unfold bne;generalize wrap64 (de (R.getD 0 0) 11 2)=y at *;generalize R.getD 0 0=x at *;cases u:decide (1<=O/\O<=3)<;>cases v:(O==1)<;>cases z:(A9 .and .u64 x 131072==0)<;>rw [u] at g <;>
   exact bn (t:=6) Bs.eng {eq:=[(21,an v),(25,an z)],ov:=[(19,iP ⟨b,k,none⟩ (.u x) underlying24 rfl λW h=>(h.2.cell (by exact i)).trans r)],cv:=[(10,fM d),(14,nt λW _=>g W),(28,fM λW _=>ya W),(30,fM λW _=>q W)]} 60 (Bs.start _ _) (λm h=>⟨rfl,h.2⟩)
 rw [c] at d;exact bn (t:=6) Bs.eng {cv:=[(10,fM d)]} 60 (Bs.start _ _) (λm h=>⟨rfl,h.2⟩)
theorem AW (M:MV) (A:MA) (B r:Nat) (w:A6) (a:M.cs.length=22) (hl:iR M) (h:Mp B r M A w):A8 prog 42 #[.p r 0] w λe b=>e=.returned (.tuple #[])/\Mp B r (iC M) A b/\Kx r (aF M A) (aF (iC M) A) w b:=by have d:=i7 (M:=M) (M':=iC M) (A:=A) rfl (J1 M) rfl rfl rfl;refine (xK M A r B w.heap.size w a hl h.row h.fam h.ne).mono λe b ⟨i,j,k,c⟩=>⟨i,⟨j,k.low (K0 _) c.size,?_,h.lo⟩,Kx.of_keepL c d⟩;intro q l e;obtain ⟨m,g,f⟩:=d q l;exact h.ne m g (by rw [f];exact e)
structure V7 (M:MV):Prop where
 h22:M.cs.length=22
 U9:U (M.cs.getD 9 0)
 bells:lR M
 ok:lA M.d.xs.length M.d.ys.length M.d.ir
 ram:bf M.ram.length
 len:iR M
 wram:∀ y ∈ M.ram,(Lit.int .u8 y).wf
 wd:cS M.d
 hd:U M.hd
theorem Mp.shape (h:Mp n p x m w) (k:0<x.ram.length):∃ g,m.ar=some ⟨g,0,none⟩/\x.ram.length<=m.cr/\m.cr<=9223372036854775807:=by
 have f:=h.fam.own (aE m.ar x.ram.length m.cr x.ram) ef;have d:=DI (w:=w) (a:=m.ar) (c:=m.cr) f;rcases f.2 with ⟨e,j⟩|⟨b,cap,i,e,_⟩;·have:x.ram.length=0:=j;omega
 ·have e2:Value.slice m.ar x.ram.length m.cr=.slice (some ⟨b,0,none⟩) x.ram.length cap:=e;injection e2 with e3
  exact ⟨b,e3,d.2.1,by have:=d.2.2;unfold maxLen at this;exact this⟩
theorem TI {A:MA} (a:V7 x) (pa size:Int) (c:U pa) (h:Mp n k x A w):CB 169 #[.slice A.ar x.ram.length A.cr,.u pa,.i size] w (.tuple #[.u (mT x.ram x.ram.length pa size),.bool (gQ x.ram.length pa size)]):=by obtain ⟨g,b,f,i⟩:=h.shape (FG a.ram);have d:=h.fam.msl.ram;rw [b] at d;rw [b];exact qz g x.ram.length A.cr x.ram pa size w rfl a.len.ram d a.wram f i c.1 (by have:=c.2;omega)
theorem KB (M:MV) (A:MA) (B r:Nat) (pa size kind x:Int) (w:A6) (hm:Mp B r M A w) (d:V7 M) (L:jt size) (hk:kind=1\/kind=2\/kind=3) (o:U pa) (hx:U x):A8 prog 209 #[.p r 0,.u pa,.i size,.i kind,.u x] w λe a=>e=.returned (.tuple #[.u (CR M pa size kind x).1,.bool (CR M pa size kind x).2.1])/\∃ c,Mp B r (CR M pa size kind x).2.2 c a/\Kx r (aF M A) (aF (CR M pa size kind x).2.2 c) w a:=by
 have f:=d.len
 have q:vd M.d pa size=jz M.d (gF pa size):=by unfold vd;rw [d.ok];rfl
 have u:rP M.d pa size x=fU M.d x (gF pa size):=by unfold rP;rw [d.ok];rfl
 have D:=λa (h:Mp B r M A a)=>TI (A:=A) (w:=a) d pa size o h
 rcases hk with rfl|rfl|rfl
 ·refine (Qu M A B r pa size x _ _ w hm D).mono λe a h=>?_
  unfold CR mT at *
  revert h
  cases gQ M.ram.length pa size<;>intro h<;>exact h
 ·obtain ⟨g,i⟩:∃ X,X=if (jz M.d (gF pa size)).2.2=true then bW M (jz M.d (gF pa size)).2.1 else M:=⟨_,rfl⟩
  have p:g.cs.length=22:=by rw [i];split<;>exact d.h22
  have z:iR g:=by
   rw [i]
   have:=MT M.d (gF pa size) f.xs f.ys
   split
   ·exact ⟨f.x,f.cs,f.ram,this.1,this.2⟩
   ·exact f
  have G:∀ a,Mp B r M A a->A8 prog 228 #[.p r 5,.u pa,.i size] a λe b=>e=.returned (.tuple #[.u (jz M.d (gF pa size)).1,.bool (jz M.d (gF pa size)).2.2])/\∃ c,Mp B r g c b/\Kx r (aF M A) (aF g c) a b:=λa h=>by
   rw [i]
   refine Qr M A B r pa size _ (jz M.d (gF pa size)).2.1 _ a h (λb k=>?_)
   have l:=uj M.d A.ai A.ci A.ao A.co pa size b f.xs f.ys d.wd k.fam.msl.xs k.fam.msl.ys
   rw [q] at l
   exact l
  have v:=λ(c:MA) a (h:Mp B r g c a)=>AW g c B r a p z h
  refine (Qv M A B r pa size x _ _ g (iC g) _ _ w hm D G v).mono λe a h=>?_
  have e3:iC g=if (jz M.d (gF pa size)).2.2=true then bK (bW M (jz M.d (gF pa size)).2.1) else M:=by
   rw [i]
   cases m:(jz M.d (gF pa size)).2.2 with
   | true=>rw [JZ8 rfl,JZ8 rfl];exact oS (H9 M.d _ d.ok m)
   | false=>rw [JZ9 bc,JZ9 bc];rw [oS d.ok];exact sI d.h22 d.U9 d.bells
  rw [e3] at h
  have C:(jz M.d (gF pa size)).2.2=false->(jz M.d (gF pa size)).1=0:=Th M.d _
  unfold CR mT at *
  revert h C
  cases gQ M.ram.length pa size<;>cases (jz M.d (gF pa size)).2.2<;>intro h C
  ·rw [C rfl] at h;exact h
  ·exact h
  ·exact h
  ·exact h
 ·obtain ⟨R,j⟩:∃ R,R=kH M.ram M.ram.length pa size x:=⟨_,rfl⟩
  have s:R.length<=1048576:=by rw [j];exact D5 _ _ _ _ _ rfl f.ram
  have n:=GO M.d x f.xs (vf d.ok).2.1 (gF pa size)
  have t:=λa (h:Mp B r M A a)=>xw A.ar M.ram.length A.cr M.ram pa size x a rfl f.ram h.fam.msl.ram o.1 (by have:=o.2;omega) hx.1 (by have:=hx.2;omega)
  unfold iX at t
  simp only [<- j] at t
  have I:=λa (h:Mp B r M A a)=>Qs M A B r pa size x (fU M.d x (gF pa size)).1 (fU M.d x (gF pa size)).2 a h (λb k=>by
   have l:=sg M.d A.ai A.ci A.ao A.co pa size x b f.xs f.ys d.wd k.fam.msl.xs k.fam.msl.ys
   rw [u] at l
   exact l)
  have v:∀ (X:MV) (c:MA) a,Mp B r X c a->(X=bN M R\/X=bW M (fU M.d x (gF pa size)).1)->A8 prog 42 #[.p r 0] a λe b=>e=.returned (.tuple #[])/\Mp B r (iC X) c b/\Kx r (aF X c) (aF (iC X) c) a b:=λX c a h y=>by
   rcases y with rfl|rfl
   ·exact AW _ c B r a d.h22 ⟨f.x,f.cs,s,f.xs,f.ys⟩ h
   ·exact AW _ c B r a d.h22 ⟨f.x,f.cs,f.ram,n.1,n.2⟩ h
  have F:∀ (X:MV) (c:MA) a,Mp B r X c a->(X=iC (bN M R)\/X=iC (bW M (fU M.d x (gF pa size)).1))->A8 prog 261 #[.p r 0,.u pa] a λe b=>e=.returned (.tuple #[])/\Mp B r (oa X pa) c b/\Kx r (aF X c) (aF (oa X pa) c) a b:=λX c a h y=>by
   have K:U X.hd:=by rcases y with rfl|rfl<;>exact d.hd
   exact NS X c B r pa (lQ X pa) a h (P5 X pa o K)
  have H:=λa (h:Mp B r M A a)=>Tv M A B r pa size x R (fU M.d x (gF pa size)).1 (gQ M.ram.length pa size) (fU M.d x (gF pa size)).2 iC (λX=>oa X pa) a h t I v F
  refine (Qt M _ A B r pa size x _ w hm H).mono λe a h=>?_
  have E:iC (bN M R)=bN M R:=by
   have J:lR (bN M R):=d.bells
   rw [oS (M:=bN M R) d.ok]
   exact sI (M:=bN M R) d.h22 d.U9 J
  have e2:(fU M.d x (gF pa size)).2->iC (bW M (fU M.d x (gF pa size)).1)=bK (bW M (fU M.d x (gF pa size)).1):=λm=>oS (M:=bW M (fU M.d x (gF pa size)).1) (Ia M.d x pa size d.ok m)
  have e4:gQ M.ram.length pa size->R=kU M.ram (pa-2147483648).toNat x size.toNat:=λm=>by rw [j];unfold kH;rw [m];rfl
  rw [E] at h
  unfold CR
  revert h e2 e4
  cases gQ M.ram.length pa size<;>cases (fU M.d x (gF pa size)).2<;>intro h e2 e4
  ·exact h
  ·rw [e2 rfl] at h;exact h
  ·rw [e4 rfl] at h;exact h
  ·rw [e4 rfl] at h;exact h
