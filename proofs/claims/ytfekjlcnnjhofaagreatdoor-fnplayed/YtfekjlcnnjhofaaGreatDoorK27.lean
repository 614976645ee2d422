/- Own lemmas. -/
import Derived.Test.YtfekjlcnnjhofaaGreatDoorAut
import Derived.Test.YtfekjlcnnjhofaaGreatDoorK20
import Derived.Test.YtfekjlcnnjhofaaGreatDoorK26
set_option maxRecDepth 100000
set_option maxHeartbeats 1600000
namespace Go.Proofs.YtfekjlcnnjhofaaGreatDoor
open Go.RowKit Tryz
open Below renaming refl->I2
open Go renaming heap_alloc_new->A6,World->A8,Addr->A9,setRow_other->C5,run_buildSlice->C6
open Instr renaming buildSlice->I1
open List renaming getD_eq_getElem?_getD->F3,replicate->G1,length_replicate->H8
open Nat renaming le_refl->D1,lt_of_lt_of_le->D2,add_assoc->D3,le_trans->D4
open Option renaming map_eq_some_iff->A5
open World renaming cell?->D8,setRow_alloc_new->F0
set_option linter.unusedVariables false
variable {W w:A8} {l:Option A9} {a B:Nat} {b:List (Int × Int)} (d:Nat) (n:A8)
theorem pk {k:IntKind} {zs:List Int} (h:Sl k w l zs) (hb:∀ b d,l=some ⟨b,d,none⟩->W.heap[b]?=w.heap[b]?) (c:w.heap.size<=W.heap.size):Sl k W l zs:=λj g=>by obtain ⟨b,o,e,a,f⟩:=h j g;refine ⟨b,o,e,D2 a c,?_⟩;simp only [D8] at f ⊢;rw [hb b o e];exact f
theorem zk {M:MV} {A:MA} (h:oe w M A) (hn:td B A) (hk:∀ k,B<=k->W.heap[k]?=w.heap[k]?) (c:w.heap.size<=W.heap.size):oe W M A :=
 ⟨pk h.x (λb a e=>hk b (hn _ (.inl rfl) b a e)) c,pk h.cs (λb a e=>hk b (hn _ (.inr (.inl rfl)) b a e)) c,pk h.ram (λb a e=>hk b (hn _ (.inr (.inr (.inl rfl))) b a e)) c,pk h.xs (λb a e=>hk b (hn _ (.inr (.inr (.inr (.inl rfl)))) b a e)) c,pk h.ys (λb a e=>hk b (hn _ (.inr (.inr (.inr (.inr rfl)))) b a e)) c⟩
def zl (l:List (Int × Int)):List Value:=l.flatMap λe=>[.i e.1,.i e.2]
theorem zm:∀ (l:List (Int × Int)) (i:Nat),i<l.length->(zl l)[i*2]?=some (.i (l.getD i (0,0)).1)/\(zl l)[i*2+1]?=some (.i (l.getD i (0,0)).2)
 | e::l,0,_=>⟨rfl,rfl⟩
 | e::l,i+1,h=>by
   have:=zm l i et
   have a:(i+1)*2=i*2+2:=ab
   rw [a]
   exact this
abbrev xp (W:A8) (B:Nat) (a:Option A9) (c:Nat) (l:List (Int × Int)):Prop:=W.ownsRow B 43 2 (.slice a l.length c) l.length (zl l)
theorem xp.es (h:xp W B l a b):Es W l b:=λi m=>by
 rcases h.2 with ⟨_,o⟩|⟨g,cap,c,f,p,e,q,r,s,n⟩;·omega
 ·cases f;have d:=zm b i m;rw [<- n] at d;have k:∀ j v,(c.toList.take (b.length*2))[j]?=some v->W.cell? ⟨g,0+j,none⟩=some v:=λj v h=>by
   rw [List.getElem?_take] at h;split at h;·rw [Array.getElem?_toList] at h;simp [D8,e,h]
   ·cases h
  refine ⟨g,0,rfl,(Array.getElem?_eq_some_iff.1 e).1,k _ _ d.1,?_⟩;have:=k _ _ d.2;rw [<- D3] at this;exact this
theorem pO:(prog.info? 43).map (λi=>(i.zero,i.size,i.bytes))=some (some (.agg #[.i 0,.i 0]),2,16):=by kernel_rfl
theorem Rj (h:xp W B l a b) (hz:B<=W.heap.size) (hn:b.length<=1000000) (k n:Int):∃ (c:Option A9) (d:Nat) (W':A8),(xd 30 (.slice l b.length a) (.slice (some ⟨W.heap.size,0,none⟩) 1 1)).run prog (W.alloc (.cells #[.i k,.i n] 43))=.ok (.value (.slice c (b++[(k,n)]).length d)) W'/\xp W' B c d (b++[(k,n)])/\(W.alloc (.cells #[.i k,.i n] 43)).grownBy W' (Value.slice l b.length a).ownBlock:=by
 obtain ⟨C,A,e⟩:=A5.1 pO
 simp only [Prod.mk.injEq] at e
 obtain ⟨o,p,q⟩:=e
 have z:=(I2 W.heap.size W).alloc (D1 _) (.cells #[.i k,.i n] 43)
 obtain ⟨v,W',i,t,y,_⟩:=run_append_own (P:=prog) (W.alloc (.cells #[.i k,.i n] 43)) B 30 30 43 C (.agg #[.i 0,.i 0]) 2 16 underlying30 A o p q rfl bc _ b.length _ (dc h z) ⟨W.heap.size,0,none⟩ 1 1 [.i k,.i n] rfl (λj u f=>by
  have i:=A6 W (.cells #[.i k,.i n] 43)
  match j,f with
  | 0,f=>rw [show (⟨W.heap.size,0,none⟩:A9).add 0=⟨W.heap.size,0,none⟩ from rfl];simp only [D8,i];exact f
  | 1,f=>rw [show (⟨W.heap.size,0,none⟩:A9).add 1=⟨W.heap.size,1,none⟩ from rfl];simp only [D8,i];exact f) ia fb ab bv
 have m:∃ c d,v=.slice c (b.length+1) d:=by
  rcases t.2 with ⟨r,D⟩|⟨g,cap,w,r,_⟩
  ·omega
  ·exact ⟨_,_,r⟩
 obtain ⟨c,d,rfl⟩:=m
 have s:(b++[(k,n)]).length=b.length+1:=di
 refine ⟨c,d,W',zf (by rw [s];exact i),?_,y⟩
 have x:zl (b++[(k,n)])=zl b++[.i k,.i n]:=by simp [zl]
 unfold xp
 rw [s,x]
 exact t
theorem Rk:(do pure (.value (<- I1 30 0 #[])):Sem Next).run prog n=.ok (.value (.slice (some ⟨n.heap.size,0,none⟩) 0 0)) (n.alloc (.cells #[] 43)):=by obtain ⟨c,b,e⟩:=A5.1 pO;have a:∀ f:Nat->Value,Array.map f (Array.range 0)=#[]:=λf=>Array.eq_empty_of_size_eq_zero di;simp [I1,run_underlying underlying30,sizeOf,typeInfo,b,Instr.fill,newRow,a]
def xq:Array Value:=#[.i 0,.i 0,.i 4,.i 1,.i 1,.i (-1),.i 1,.i 301,.i 2,.i 4611686018427387904,.i 3,.i 300]
theorem Rl:(do pure (.value (<- I1 30 6 #[(0,.agg #[.i 0,.i 0]),(1,.agg #[.i 4,.i 1]),(2,.agg #[.i 1,.i (-1)]),(3,.agg #[.i 1,.i 301]),(4,.agg #[.i 2,.i 4611686018427387904]),(5,.agg #[.i 3,.i 300])])):Sem Next).run prog n=.ok (.value (.slice (some ⟨n.heap.size,0,none⟩) 6 6)) (n.alloc (.cells xq 43)):=by obtain ⟨c,b,e⟩:=A5.1 pO;simp only [Prod.mk.injEq] at e;obtain ⟨a,e2,e3⟩:=e;have:=C6 (P:=prog) n 30 43 6 #[(0,.agg #[.i 0,.i 0]),(1,.agg #[.i 4,.i 1]),(2,.agg #[.i 1,.i (-1)]),(3,.agg #[.i 1,.i 301]),(4,.agg #[.i 2,.i 4611686018427387904]),(5,.agg #[.i 3,.i 300])] xq c (.agg #[.i 0,.i 0]) underlying30 b a ph ph v9;simp [this]
theorem Rn (k m:Int):(do pure (.value (<- I1 30 1 #[(0,.agg #[.i k,.i m])])):Sem Next).run prog n=.ok (.value (.slice (some ⟨n.heap.size,0,none⟩) 1 1)) (n.alloc (.cells #[.i k,.i m] 43)):=by obtain ⟨c,b,e⟩:=A5.1 pO;simp only [Prod.mk.injEq] at e;obtain ⟨a,e2,e3⟩:=e;have:=C6 (P:=prog) n 30 43 1 #[(0,.agg #[.i k,.i m])] #[.i k,.i m] c (.agg #[.i 0,.i 0]) underlying30 b a ph ph v9;simp [this]
theorem Ro (W:Nat) (hn:W<=1000000):∃ W',(do pure (.value (<- Instr.makeSlice 30 (.i W) (.i W))):Sem Next).run prog n=.ok (.value (.slice (some ⟨n.heap.size,0,none⟩) W W)) W'/\Es W' (some ⟨n.heap.size,0,none⟩) (G1 W (0,0))/\Bw n W':=by
 obtain ⟨g,a,e⟩:=A5.1 pO;simp only [Prod.mk.injEq] at e;obtain ⟨c,e2,e3⟩:=e;have b:=run_makeSlice (P:=prog) n 30 43 g _ underlying30 a c .i64 .i64 W W ab ab (by rw [e2];simp;omega) (by rw [e3];omega) ab;rw [Int.toNat_natCast,e2] at b;refine ⟨_,by simp [b];rfl,λi a=>?_,bal _ _⟩;rw [H8] at a;have k:∀ j,j<W*2->(n.alloc (.cells (madeCells (Value.agg #[.i 0,.i 0]).cells (W*2)) 43)).cell? ⟨n.heap.size,0+j,none⟩=some (.i 0):=λj f=>by simp only [D8,A6];simp [madeCells,Value.cells,f];rcases (show j%2=0\/j%2=1 by omega) with h | h<;>rw [h]<;>rfl
 have d:(G1 W ((0:Int),(0:Int))).getD i (0,0)=(0,0):=by simp [F3,a]
 rw [d];exact ⟨n.heap.size,0,rfl,di,k _ ab,by have:=k (i*2+1) ab;rw [<- D3] at this;exact this⟩
structure De (w U:A8) (g:Nat) (a:Option A9) (n cap:Nat) (l:List (Int × Int)) (b:Option A9) (d:Nat) (W:A8):Prop where
 cs:Cs w g a n cap U W
 own:xp W U.heap.size b d l
 lt:g<U.heap.size
 lo:w.heap.size<=U.heap.size
theorem xp.room (h:xp W B l a b):b.length<=a:=by
 rcases h.2 with ⟨_,h⟩|⟨g,c,d,e,i,j,f,_⟩;·omega
 ·cases e;exact f
theorem xp.of (h:xp W B l a b) (hk:∀ k,(Value.slice l b.length a).ownBlock=some k->w.heap[k]?=W.heap[k]?):xp w B l a b:=by
 refine ⟨h.1,?_⟩;rcases h.2 with c|⟨g,cap,d,e,c,f,i⟩;·exact .inl c
 ·exact .inr ⟨g,cap,d,e,c,(hk g (by rw [e];rfl)).trans f,i⟩
theorem De.next {U W':A8} {cap d:Nat} {n:Option A9} (h:De w U a l B cap b n d W) (k:Cs w a l B cap W W'):De w U a l B cap b n d W' :=
 ⟨h.cs.trans k,h.own.of λj e=>by
  have:=h.own.lt j e
  have:=h.lt
  exact k.2.block j ab (λe=>by cases e;omega),h.lt,h.lo⟩
theorem De.push {U:A8} {cap d:Nat} {n:Option A9} (h:De w U a l B cap b n d W) (hn:b.length<=1000000) (k m:Int):∃ (r:Option A9) (s:Nat) (W':A8),(xd 30 (.slice n b.length d) (.slice (some ⟨W.heap.size,0,none⟩) 1 1)).run prog (W.alloc (.cells #[.i k,.i m] 43))=.ok (.value (.slice r (b++[(k,m)]).length s)) W'/\De w U a l B cap (b++[(k,m)]) r s W':=by obtain ⟨r,s,W',g,A,c⟩:=Rj h.own h.cs.2.size hn k m;refine ⟨r,s,W',g,?_,A,h.lt,h.lo⟩;have y:=h.next (Cs.alloc h.cs.1 (.cells #[.i k,.i m] 43));have v:∀ {j},(Value.slice n b.length d).ownBlock=some j->U.heap.size<=j:=λe=>(h.own.lt _ e).1;have C:=h.lt;have D:=h.lo;obtain ⟨f,p⟩:=y.cs;obtain ⟨i,x,z,o⟩:=f.row;have t:=(Array.getElem?_eq_some_iff.1 o).1;exact ⟨⟨f.new,⟨c.os.trans f.below.os,c.tape.trans f.below.tape,c.output.trans f.below.output,D4 f.below.size c.size,λk q=>(c.block k (D2 q f.below.size) (λe=>by have:=v e.symm;omega)).trans (f.below.block k q)⟩,i,x,z,(c.block a t (λe=>by have:=v e.symm;omega)).trans o⟩,⟨c.os.trans p.os,c.tape.trans p.tape,c.output.trans p.output,D4 p.size c.size,λk q u=>(c.block k (D2 q p.size) (λe=>by have:=v e.symm;omega)).trans (p.block k q u)⟩⟩
noncomputable def WH:Go.Code:=nV (nV (au 1 (fW (au 4 (aM Tryz.f5)))))
noncomputable def WI:Go.Code:=nV (fW (au 1 WH))
noncomputable def WJ (T:Act->A8->Prop):List KI:=[.blk 1,.code (au 2 WH),.fin T,.blk 0,.code (au 5 (aM Tryz.f5))]
def WK (w w3:A8) (g:Nat) (b:Option A9) (l d m:Nat):Fr:=[(2,.p w.heap.size 0,0),(4,.p g 0,0),(5,.p w3.heap.size 0,1),(6,.slice b l d,0),(7,.i (m:Nat),0)]
def Ua (w:A8) (e:Ending) (w':A8):Prop:=∃ (M:MV) (A:MA) (l:List (Int × Int)) (b:Option A9) (d:Nat),e=.returned (.tuple #[.agg (ak M A),.slice b l.length d])/\(l.length<=101/\l.length<=d/\∀ i,(l.getD i (0,0)).2<=9223372036854775807)/\Ma M/\oe w' M A/\Es w' b l/\Bw w w'
theorem Rp (h:∀ i,(b.getD i (0,0)).2<=9223372036854775807) (k m:Int) (hm:m<=9223372036854775807):∀ i,((b++[(k,m)]).getD i (0,0)).2<=9223372036854775807:=λi=>by
 have:=h i;simp only [F3,List.getElem?_append] at this ⊢;split;·exact this
 ·cases a:i-b.length with
  | zero=>simpa using hm
  | succ j=>simp
theorem GA {zs:List Int} (f:Code n l a zs):Calls prog 5 #[.slice l a d] n (Ua n):=by
 refine br (S:=λ_=>True) (args:=[.slice l a d]) [(ak zeroM zeroA,29)] func5 ?_;have hB0:Bw n (bP n [(ak zeroM zeroA,29)]):=bal _ _;have hS0:(bP n [(ak zeroM zeroA,29)]).heap.size=n.heap.size+1:=by simp [bP]
 have Z:=(Bs.start n [(ak zeroM zeroA,29)]).1 0 _ rfl;generalize bP n [(ak zeroM zeroA,29)]=w1 at *;have N:Code w1 l a zs:=⟨f.len,f.few,f.sl.below hB0,f.bd⟩;refine aC (R:=[]) trivial {} 40 (Qj d w1 N) ?_;rintro e w2 ⟨g,rfl,B⟩;refine ⟨_,0,rfl,?_⟩;have hc2:ma n w2 g l a d:=⟨by have:=B.out.new;omega,hB0.trans (B.out.below.mono ab),B.out.row⟩;refine aC (R:=[]) trivial {} 40 (DX f w2 hc2) ?_;rintro e s ⟨M,A,rfl,hma,hsl,hfm,O,J⟩;refine ⟨_,0,rfl,?_⟩;have hg1:=B.out.new;have hg2:=hc2.lt;have hg3:=J.out.2.size;have hz0:=B.out.below.size;have hr3:s.heap[n.heap.size]?=some (.cells (ak zeroM zeroA) 29 (0,0)):=J.out.keep (by rw [B.out.below.block _ ab];exact Z) ab;refine gz (R:=[]) trivial {} 10 1 (ct (T:=29) (z:=.agg (ak zeroM zeroA)) ba s) ?_;refine bx (R:=[]) trivial {} 10 (av (ty:=29) (cells:=ak M A) (A6 s _) ba ba (bO M A)) ?_;rw [F0];have hma':=hma.out;have Q:=O.out;have I:=(I2 s.heap.size s).alloc (D1 _) (.cells (ak M A) 29);have hsl4:=hsl.out.below I;have hr4:=aD I hr3;have hm4:=A6 s (.cells (ak M A) 29);have hc4:=(Cs.of_below J.out.1 I).1;have hz4:(s.alloc (.cells (ak M A) 29)).heap.size=s.heap.size+1:=World.size_alloc _ _;generalize s.alloc (.cells (ak M A) 29)=U at *;clear N J hma hsl hfm O Z I;have fin:∀ (W:A8) (cap:List (Int × Int)) (b:Option A9) (w:Nat),Cs n g l a d U W->Es W b cap->(cap.length<=101/\cap.length<=w/\∀ i,(cap.getD i (0,0)).2<=9223372036854775807)->(∀ u o,b=some ⟨u,o,none⟩->u≠n.heap.size)->Wg prog (λ_=>True) (bodyPost prog Tryz.f5 (Ua n)) Tryz.f5.ntmps [.code (au 6 (aM Tryz.f5))] [(2,.p n.heap.size 0,0),(5,.p s.heap.size 0,1),(6,.slice b cap.length w,0)] W:=by intro W cap b w hk he hl hb;have k1:=hk.keep hm4 ab;have k2:=hk.keep hr4 ab;have ks:=KM hsl4 hk.2 hg2 Q;refine gK (R:=[⟨s.heap.size,ak M A,[]⟩]) (cs:=ak M A) (v:=.slice b cap.length w) ⟨⟨_,_,k1⟩,trivial⟩ {} 40 k2 (by rfl) (bO _ _) underlying29 ⟨M,A,cap,b,w,rfl,hl,hma',zk ks Q (λk hk=>C5 _ _ _ _ ab) rz,λi hi=>?_,aI hk.1.below (D1 _) _⟩;obtain ⟨u,o,e,h1,p,E⟩:=he i hi;have hne:=hb u o e;exact ⟨u,o,e,by rw [setRow_size];exact h1,by simp only [D8] at p ⊢;rw [C5 _ _ _ _ hne];exact p,by simp only [D8] at E ⊢;rw [C5 _ _ _ _ hne];exact E⟩
 refine aj (R:=[]) trivial {} 1 ?_;refine af [.code (au 3 (aM Tryz.f5))] [(2,.p n.heap.size 0,0),(4,.p g 0,0),(5,.p s.heap.size 0,1)] ?_;refine gz (R:=[]) trivial {} 10 1 (Rk U) ?_;have hb5:=(I2 U.heap.size U).alloc (D1 _) (.cells #[] 43);have L:De n U g l a d [] (some ⟨U.heap.size,0,none⟩) 0 (U.alloc (.cells #[] 43)):=⟨Cs.of_below hc4 hb5,⟨rfl,.inr ⟨_,0,#[],rfl,D1 _,A6 _ _,D1 _,Nat.zero_le _,rfl,rfl⟩⟩,ab,ab⟩;generalize U.alloc (.cells #[] 43)=Y at L;refine aC (R:=[]) trivial {} 40 (az f 8 bc Y L.cs.1) ?_;rintro e w5 ⟨x,rfl,⟨X,hx1⟩,H⟩;have H:=L.next H.out;obtain ⟨m,rfl⟩:=Int.eq_ofNat_of_zero_le X;refine ⟨_,0,rfl,?_⟩;refine aj (R:=[]) trivial {} 20 ?_;refine gJ (λx:List (Int × Int) × Option A9 × Nat × Nat=>[(2,.p n.heap.size 0,0),(4,.p g 0,0),(5,.p s.heap.size 0,1),(6,.slice x.2.1 x.1.length x.2.2.1,0),(7,.i (x.2.2.2:Nat),0)]) (λj x W=>j=x.2.2.2/\De n U g l a d x.1 x.2.1 x.2.2.1 W/\x.1.length+j<=7/\∀ i,(x.1.getD i (0,0)).2<=9223372036854775807) m ([],some ⟨U.heap.size,0,none⟩,0,m) ba ba ⟨rfl,H,bv,di⟩ ?_;rintro j ⟨cap,b,w,m⟩ W ⟨rfl,F,hl,hv⟩ R hR;dsimp only at F hl hv;cases j with
 | zero =>
   have q:decide ((0:Int)<((0:Nat):Int))=false:=bc;refine aC (R:=[]) trivial {eq:=[(17,an q)]} 40 (bA f 60 bc W F.cs.1) ?_;rintro e r ⟨c,rfl,p⟩;have p:=F.next p.out;refine ⟨_,0,rfl,?_⟩;have ne:∀ u o,b=some ⟨u,o,none⟩->u≠n.heap.size:=λu o e hb=>by have:=p.own.lt u (by rw [e];rfl);omega
   cases c with
   | false =>refine aj (R:=[]) trivial {} 3 ?_;exact af _ _ (fin r cap b w p.cs p.own.es ⟨ab,p.own.room,hv⟩ ne)
   | true =>refine aC (R:=[]) trivial {} 40 (az f 2 bc r p.cs.1) ?_;rintro e W3 ⟨x,rfl,⟨X,hx1⟩,E⟩;have E:=p.next E.out;refine ⟨_,0,rfl,?_⟩;obtain ⟨y,hy⟩:∃ y:Nat,(100:Int)+x=y:=⟨(100+x).toNat,ab⟩;have hw:IntKind.i64.wrap ((100:Int)+x)=(y:Int):=e8;obtain ⟨h,hr,he,hb⟩:=Ro W3 y ab;refine aj (R:=[]) trivial {eq:=[(47,cR .i64 hw)]} 1 ?_;refine dt 0 hr ?_;refine aj (R:=[]) trivial {} 2 ?_;have hU:=E.cs.2.size;have:=fin h (G1 y (0,0)) (some ⟨W3.heap.size,0,none⟩) y (E.cs.trans (Cs.of_below E.cs.1 hb)) he ⟨bv,di,λi=>by simp [F3,List.getElem?_replicate];split<;>simp⟩ (λu o e hb=>by cases e;omega);rw [H8] at this;exact af _ _ this
 | succ j =>
   have q:decide ((0:Int)<((j+1:Nat):Int)):=ek;refine aC (R:=[]) trivial {eq:=[(17,an q)]} 40 (az f 3 bc W F.cs.1) ?_;rintro e W1 ⟨x,rfl,⟨X,hx1⟩,h1⟩;refine ⟨_,0,rfl,?_⟩;obtain ⟨k,hw1⟩:∃ k,IntKind.i64.wrap (1+x)=k:=⟨_,rfl⟩;refine aC (R:=[]) trivial {eq:=[(22,cR .i64 hw1)]} 40 (az f 30 bc W1 h1.out.1) ?_;rintro e r ⟨v,rfl,⟨hv0,hv1⟩,p⟩;refine ⟨_,0,rfl,?_⟩;have p:=h1.out.trans p.out;refine gz (R:=[]) trivial {} 10 1 (ct (T:=43) (z:=.agg #[.i 0,.i 0]) ba r) ?_;refine bx (R:=[]) trivial {} 10 (av (ty:=43) (cells:=#[.i k,.i v]) (A6 r _) ba ba ia) ?_;rw [F0];have b3:=(I2 r.heap.size r).alloc (D1 _) (.cells #[.i k,.i v] 43);have r3:=A6 r (.cells #[.i k,.i v] 43);have E:=p.trans (Cs.of_below p.1 b3);have z2:=p.2.size;generalize r.alloc (.cells #[.i k,.i v] 43)=W3 at *;refine aj (R:=[]) trivial {} 1 ?_;refine af (.code (au 1 WI)::WJ R) ((8,.p r.heap.size 0,1)::WK n s g b cap.length w (j+1)) ?_;have gl:=F.lt;have gl2:=F.cs.2.size;have z3:=E.2.size;have push:∀ (h:A8) (k v:Int),v<=9223372036854775807->Cs n g l a d W h->h.heap[r.heap.size]?=some (.cells #[.i k,.i v] 43 (0,0))->Wg prog (λ_=>True) (bodyPost prog Tryz.f5 (Ua n)) Tryz.f5.ntmps (.code (au 2 WI)::WJ R) ((8,.p r.heap.size 0,1)::WK n s g b cap.length w (j+1)) h:=(by intro h k v hv1 G K;obtain ⟨u,d',Y,hr,L⟩:=(F.next G).push ab k v;refine gz (R:=[⟨r.heap.size,#[.i k,.i v],[]⟩]) ⟨⟨_,_,K⟩,trivial⟩ {} 30 0 (Rn h k v) ?_;refine dt 0 hr ?_;have hw:IntKind.i64.wrap (((j+1:Nat):Int)-1)=(j:Int):=e8;exact dY (R:=[]) trivial {eq:=[(19,cR .i64 hw)]} 60 λc hc=>hR c Y j (cap++[(k,v)],u,d',j) ab (hc.less ba) ⟨rfl,L,bv,Rp hv k v hv1⟩);refine aC (R:=[]) trivial {} 40 (bA f 16 bc W3 E.1) ?_;rintro e h ⟨c,rfl,G⟩;refine ⟨_,0,rfl,?_⟩;have K:=G.out.keep r3 (by have:=F.lt;have:=F.cs.2.size;omega);have G:=E.trans G.out;cases c with
   | false =>refine aj (R:=[]) trivial {} 3 ?_;exact af _ _ (push h k v ab G K)
   | true =>
     refine gz (R:=[]) trivial {} 30 1 (Rl h) ?_;have b5:=(I2 h.heap.size h).alloc (D1 _) (.cells xq 43);have V:=A6 h (.cells xq 43);have L:=G.trans (Cs.of_below G.1 b5);have K:=aD b5 K;have z4:=G.2.size;have z5:=b5.size;generalize h.alloc (.cells xq 43)=Y at *;refine aC (R:=[]) trivial {} 40 (az f 6 bc Y L.1) ?_;rintro e W6 ⟨y,rfl,hy,H⟩;refine ⟨_,0,rfl,?_⟩;have V:=H.out.keep V ab;have K:=H.out.keep K ab;have H:=L.trans H.out;have D:=λ(k v:Int)=>av (P:=prog) (g:=r.heap.size) (t:=43) (ty:=43) (cells:=#[.i k,.i v]) K ba (by rfl) ia;have C:=λ(k v:Int) (hv:v<=9223372036854775807)=>push (W6.setRow r.heap.size #[.i k,.i v]) k v hv (H.behind (aI (I2 _ _) z2 _) ab (by have:=F.lo;omega)) (setRow_heap _ _ _ _ _ _ K);obtain rfl | rfl | rfl | rfl | rfl | rfl:y=0\/y=1\/y=2\/y=3\/y=4\/y=5:=ab;all_goals refine aj (R:=[]) trivial {} 1 ?_
     all_goals refine aP 37 1 ?_
     ·refine bx (R:=[⟨h.heap.size,xq,[]⟩]) ⟨⟨_,_,V⟩,trivial⟩ {} 20 (D 0 0) ?_;refine aj (R:=[]) trivial {} 1 ?_;exact af _ _ (C 0 0 bc)
     ·refine bx (R:=[⟨h.heap.size,xq,[]⟩]) ⟨⟨_,_,V⟩,trivial⟩ {} 20 (D 4 1) ?_;refine aj (R:=[]) trivial {} 1 ?_;exact af _ _ (C 4 1 bc)
     ·refine bx (R:=[⟨h.heap.size,xq,[]⟩]) ⟨⟨_,_,V⟩,trivial⟩ {} 20 (D 1 (-1)) ?_;refine aj (R:=[]) trivial {} 1 ?_;exact af _ _ (C 1 (-1) bc)
     ·refine bx (R:=[⟨h.heap.size,xq,[]⟩]) ⟨⟨_,_,V⟩,trivial⟩ {} 20 (D 1 301) ?_;refine aj (R:=[]) trivial {} 1 ?_;exact af _ _ (C 1 301 bc)
     ·refine bx (R:=[⟨h.heap.size,xq,[]⟩]) ⟨⟨_,_,V⟩,trivial⟩ {} 20 (D 2 4611686018427387904) ?_;refine aj (R:=[]) trivial {} 1 ?_;exact af _ _ (C 2 4611686018427387904 bc)
     ·refine bx (R:=[⟨h.heap.size,xq,[]⟩]) ⟨⟨_,_,V⟩,trivial⟩ {} 20 (D 3 300) ?_;refine aj (R:=[]) trivial {} 1 ?_;exact af _ _ (C 3 300 bc)
def WZ {S:A8->Prop} (a:Option A9) (n c:Nat) (s:ByteArray) (h:∀ W,S W->(convert 22 9 (.slice a n c)).run prog W=.ok (.string s) W):Ov prog S :=
 ⟨do pure (.value (<- convert 22 9 (.slice a n c))),.string s,0,λW b=>by simp [h W b]⟩
