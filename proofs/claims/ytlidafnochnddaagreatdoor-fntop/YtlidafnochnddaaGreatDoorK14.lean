/- Own lemmas. -/
import Derived.Test.YtlidafnochnddaaGreatDoorAut
import Derived.Test.YtlidafnochnddaaGreatDoorK10
import Derived.Test.YtlidafnochnddaaGreatDoorK13
set_option maxRecDepth 100000
set_option maxHeartbeats 1600000
namespace Go.Proofs.YtlidafnochnddaaGreatDoor
open Go.RowKit Tryz
open IntKind renaming u64->Uz
open Below renaming refl->L5
open Go renaming World->G3,results_cell_row->H1,Value->H2,Addr->H3,Calls->H5,bodyPost_ret->H8,heap_alloc_new->I4,Program->I5,setRow_heap->K0,setRow_other->K1
open List renaming mem_singleton->A5,mem_cons->A6
open Nat renaming le_refl->F0,blt->F3
open World renaming cell?->K4,size_alloc->L4
open _root_.Array renaming getElem?_eq_some_iff->A0
set_option linter.unusedVariables false
variable {w L W:G3} {B D P g:Nat} {b n:Array H2} {c:List FRow} {d:I5} {k:G3->Prop} {M:Exit->Act->G3->Prop} {Q:List KI} {a:Fr} {A:MV} {F:MA} {S:List Nat} {f:Option H3} {x:Int} (j:DV) (l:Option H3) (o:Nat) (p:Option H3) (t:Nat) (e m:Int) (V:G3)
theorem fG (cm:Int) (j:Bool) (d:Option H3) (b g:Nat) (f:Option H3) (c i:Nat) (a:Int) (w:G3) (p:b<=1048576) (q:c<=1048576): CB 76 #[.agg #[.u e,.u cm,.bool j,.slice d b g,.slice f c i,.i a]] w (.bool (lm b c a)):=by
 have t:lm b c a=(decide ((b:Int)<=16)&&decide ((c:Int)<=4096)&&((a==0)||(a==1))):=by unfold lm;rw [decide_eq_decide.2 (show b<=16↔(b:Int)<=16 by omega),decide_eq_decide.2 (show c<=4096↔(c:Int)<=4096 by omega),show decide (0<=a/\a<=1)=((a==0)||(a==1)) by rw [Bool.eq_iff_iff];simp;omega]
 rw [t];refine cF (S:=Bs w [(#[.u e,.u cm,.bool j,.slice d b g,.slice f c i,.i a],34)]) (args:=[.agg #[.u e,.u cm,.bool j,.slice d b g,.slice f c i,.i a]]) [(#[.u e,.u cm,.bool j,.slice d b g,.slice f c i,.i a],34)] func76 ?_;cases l:decide ((b:Int)<=16)<;>cases m:decide ((c:Int)<=4096)<;>cases n:(a==0)<;>cases o:(a==1)<;>exact bg (t:=2) Bs.eng {eq:=[(6,aD l),(11,aD m),(16,aD n),(20,aD o)]} 60 (Bs.start _ _) (λk h=>⟨rfl,h.2⟩)
theorem JT (size:e=33554432->¬ m=4) (k1:e=33570816->¬ m=8) (k2:e=33603576->¬ m=8) (n:e=268435456->¬ m=1) (o:e=268435457->¬ m=1) (p:e=268435461->¬ m=1) (w:G3): CE 274 #[.u e,.i m] w (.bool false):=by
 have g:∀ {c d:Int},(e=c->¬ m=d)->(e==c)->(m==d)=false:=λh k=>by simpa using h (by simpa using k)
 refine cF (S:=λx=>x=w) (args:=[.u e,.i m]) [] func274 ?_;cases a:(e==33554432);case true=>exact dD (R:=[]) trivial {eq:=[(7,aD a),(9,aD (g size a))]} 99 (t:=4) ⟨rfl,rfl⟩
 cases b:(e==33570816);case true=>exact dD (R:=[]) trivial {eq:=[(7,aD a),(11,aD b),(14,aD (g k1 b))]} 99 (t:=4) ⟨rfl,rfl⟩
 cases f:(e==33603576);case true=>exact dD (R:=[]) trivial {eq:=[(7,aD a),(11,aD b),(12,aD f),(14,aD (g k2 f))]} 99 (t:=4) ⟨rfl,rfl⟩
 cases i:(e==268435456);case true=>exact dD (R:=[]) trivial {eq:=[(7,aD a),(11,aD b),(12,aD f),(16,aD i),(20,aD (g n i))]} 99 (t:=4) ⟨rfl,rfl⟩
 cases j:(e==268435457);case true=>exact dD (R:=[]) trivial {eq:=[(7,aD a),(11,aD b),(12,aD f),(16,aD i),(17,aD j),(20,aD (g o j))]} 99 (t:=4) ⟨rfl,rfl⟩
 cases l:(e==268435461);case true=>exact dD (R:=[]) trivial {eq:=[(7,aD a),(11,aD b),(12,aD f),(16,aD i),(17,aD j),(18,aD l),(20,aD (g p l))]} 99 (t:=4) ⟨rfl,rfl⟩
 exact dD (R:=[]) trivial {eq:=[(7,aD a),(11,aD b),(12,aD f),(16,aD i),(17,aD j),(18,aD l)]} 99 (t:=4) ⟨rfl,rfl⟩
theorem wh (k:j.xs.length<=1048576) (b:j.ys.length<=1048576): CB 103 #[.agg #[.u j.t,.u j.cm,.bool j.so,.slice l j.xs.length o,.slice p j.ys.length t,.i j.ir]] V (.u (fL j)):=by obtain ⟨f,g,i,D,d,a⟩:=j;have r:=λW (_:Bw V W)=>fG f g i l D.length o p d.length t a W k b;have c:decide ((D.length:Int)>0)=decide (0<D.length):=decide_eq_decide.2 aa;unfold fL dK;dsimp only;generalize lm D.length d.length a=x at *;generalize D.length=n at *;generalize d.length=m at *;refine cF (S:=Bs V [(#[.u f,.u g,.bool i,.slice l n o,.slice p m t,.i a],34)]) (args:=[.agg #[.u f,.u g,.bool i,.slice l n o,.slice p m t,.i a]]) [(#[.u f,.u g,.bool i,.slice l n o,.slice p m t,.i a],34)] func103 ?_;cases x<;>cases i<;>cases s:decide (g<=f)<;>cases u:(a==1)<;>cases v:decide (0<n)<;>rw [v] at c<;>exact bg (t:=2) Bs.eng {eq:=[(15,aD s),(20,aD u),(25,aD c)],cv:=[(5,fu r)]} 90 (Bs.start _ _) (λq h=>⟨rfl,h.2⟩)
theorem yR (Q:Nat) (n:Int) (w:G3) (m:j.xs.length<=1048576) (M:j.ys.length<=1048576) (hb:cT j) (r:Sl .u8 w l j.xs) (s:Sl .u8 w p j.ys): H5 prog 137 #[.agg #[.u j.t,.u j.cm,.bool j.so,.slice l j.xs.length o,.slice p j.ys.length Q,.i j.ir],.i n] w λe g=>∃ (y:Option H3) (A:Nat) (z:Option H3) (B:Nat),e=.returned (.agg (iU (ky j n) y A z B)) /\ bi w.heap.size g.heap.size g (zP (ky j n) y A z B)/\Bw w g:=by
 have c:Hid (∀ w,CB 76 #[.agg #[.u j.t,.u j.cm,.bool j.so,.slice l j.xs.length o,.slice p j.ys.length Q,.i j.ir]] w (.bool (lm j.xs.length j.ys.length j.ir))):=λw=>fG _ _ _ _ _ _ _ _ _ _ w m M;have q:Hid (∀ g,Bw w g->H5 prog 110 #[.agg #[.u j.t,.u j.cm,.bool j.so,.slice l j.xs.length o,.slice p j.ys.length Q,.i j.ir]] g λe G=>∃ (y:Option H3) (A:Nat) (z:Option H3) (B:Nat),e=.returned (.agg #[.u j.t,.u j.cm,.bool j.so,.slice y j.xs.length A,.slice z j.ys.length B,.i j.ir])/\bi g.heap.size G.heap.size G (oK y j.xs.length A j.xs z j.ys.length B j.ys)/\Bw g G):=λg hb=>kH _ _ _ _ _ _ _ _ _ _ j.xs j.ys g rfl rfl m M (r.below hb) (s.below hb);cases d:lm j.xs.length j.ys.length j.ir with
 | false =>have F:ky j n=zeroD:=(by unfold ky;rw [d];rfl);rw [F];rw [d] at c;clear r s hb m M q F d;obtain ⟨t,V,so,J,K,W⟩:=j;dsimp only at c ⊢;generalize J.length=X at *;generalize K.length=Y at *;go_enter func137,ntmps137;go_wp2_with fail;refine (c.out _).mono ?_;rintro e N ⟨rfl,b⟩;obtain ⟨E,D⟩:=tR b;have R1:=ah D;have H:=ah (ae uM b);obtain ⟨Z,s1,s2,s3,s4,s5⟩:=cW D;obtain ⟨y0,y1,y2,y3,y4,y5⟩:=wI D;clear E D b;go_wp2_with fail;exact H8 (H1 results137 _ _ _ _ _ _ _ rfl (lO R1.out _ _ _ _ _ _) underlying34 rfl lN) rfl ⟨none,0,none,0,rfl,kz _ _ _,iT H.out aa _ _ _ _ _ _⟩
 | true =>
   rw [d] at c;cases u:decide (n<0) with
   | true =>have F:ky j n=zeroD:=(by unfold ky;rw [d,u];rfl);rw [F];clear r s hb m M q F d;obtain ⟨t,V,so,J,K,W⟩:=j;dsimp only at c ⊢;generalize J.length=X at *;generalize K.length=Y at *;go_enter func137,ntmps137;go_wp2_with fail;refine (c.out _).mono ?_;rintro e N ⟨rfl,b⟩;obtain ⟨E,D⟩:=tR b;have R1:=ah D;have H:=ah (ae uM b);obtain ⟨Z,s1,s2,s3,s4,s5⟩:=cW D;obtain ⟨y0,y1,y2,y3,y4,y5⟩:=wI D;clear E D b;go_wp2_with fail;exact H8 (H1 results137 _ _ _ _ _ _ _ rfl (lO R1.out _ _ _ _ _ _) underlying34 rfl lN) rfl ⟨none,0,none,0,rfl,kz _ _ _,iT H.out aa _ _ _ _ _ _⟩
   | false =>obtain ⟨R,C⟩:∃ R,Uz.wrap (j.t+Uz.wrap n)=R:=⟨_,rfl⟩;have F:ky j n=⟨R,j.cm,j.so,j.xs,j.ys,j.ir⟩:=(by unfold ky;rw [d,u,C];rfl);rw [F];have T:=ah C;clear r s hb m M F d C;obtain ⟨t,V,so,J,K,W⟩:=j;dsimp only [iU,zP] at c q T ⊢;generalize J.length=X at *;generalize K.length=Y at *;go_enter func137,ntmps137;go_wp2_with fail;refine (c.out _).mono ?_;rintro e N ⟨rfl,b⟩;obtain ⟨E,D⟩:=tR b;have R0:=ah E;have R1:=ah D;have H:=ah (ae uM b);obtain ⟨p0,p1,p2,p3,p4,p5⟩:=cW E;clear E D b;go_wp2_with fail;refine (q.out _ H.out).mono ?_;rintro e w2 ⟨y,A,z,B,rfl,I,L⟩;have O:=ah I;have S0:=ah (aA L R0.out);have f:=ah (aA L R1.out);have S:=ah (ae H.out L);have U:=ah (show w.heap.size+1<N.heap.size/\N.heap.size<=w2.heap.size from ⟨(A0.1 R1.out).1,L.size⟩);have u0:=λP=>(cW (aB S0.out P)).1;have Z:=λP=>(cW (aB f.out P)).1;have s1:=λP=>(cW (aB f.out P)).2.1;have s2:=λP=>(cW (aB f.out P)).2.2.1;have s3:=λP=>(cW (aB f.out P)).2.2.2.1;have s4:=λP=>(cW (aB f.out P)).2.2.2.2.1;have s5:=λP=>(cW (aB f.out P)).2.2.2.2.2;have y0:=λP=>fK (aB f.out P) 0;have y1:=λP=>fK (aB f.out P) 1;have y2:=λP=>fK (aB f.out P) 2;have y3:=λP=>fK (aB f.out P) 3;have y4:=λP=>fK (aB f.out P) 4;have y5:=λP=>fK (aB f.out P) 5;clear I L p0 p1 p2 p3 p4 p5;go_wp2_with fail;rw [T.out];exact H8 (H1 results137 _ _ _ _ _ _ _ rfl (lO (aB f.out _) _ _ _ _ _ _) underlying34 rfl lN) rfl ⟨y,A,z,B,rfl,(((O.out.below (bal _ _)).put6 (w.heap.size+1) (.inl U.out.1) _ _ _ _ _ _).low (by have:=U.out;omega) (by simp only [cy,L4];omega)),iT (S.out.alloc S.out.size _) aa _ _ _ _ _ _⟩
theorem yS (U:Option H3) (c2:Nat) (b:Int) (w:G3) (A:j.xs.length<=1048576) (B:j.ys.length<=1048576) (hb:cT j) (C:Sl .u8 w l j.xs) (H:Sl .u8 w U j.ys): H5 prog 138 #[.agg #[.u j.t,.u j.cm,.bool j.so,.slice l j.xs.length o,.slice U j.ys.length c2,.i j.ir],.int .u8 b] w λe c=>∃ (M:Option H3) (N:Nat) (y:Option H3) (z:Nat),e=.returned (.agg (iU (lP j b) M N y z)) /\ bi w.heap.size c.heap.size c (zP (lP j b) M N y z)/\Bw w c:=by
 have g:Hid (∀ w,CB 76 #[.agg #[.u j.t,.u j.cm,.bool j.so,.slice l j.xs.length o,.slice U j.ys.length c2,.i j.ir]] w (.bool (lm j.xs.length j.ys.length j.ir))):=λw=>fG _ _ _ _ _ _ _ _ _ _ w A B;have G:Hid (∀ c,Bw w c->H5 prog 110 #[.agg #[.u j.t,.u j.cm,.bool j.so,.slice l j.xs.length o,.slice U j.ys.length c2,.i j.ir]] c λe L=>∃ (M:Option H3) (N:Nat) (y:Option H3) (z:Nat),e=.returned (.agg #[.u j.t,.u j.cm,.bool j.so,.slice M j.xs.length N,.slice y j.ys.length z,.i j.ir])/\bi c.heap.size L.heap.size L (oK M j.xs.length N j.xs y j.ys.length z j.ys)/\Bw c L):=λc hb=>kH _ _ _ _ _ _ _ _ _ _ j.xs j.ys c rfl rfl A B (C.below hb) (H.below hb);cases f:lm j.xs.length j.ys.length j.ir with
 | false =>have F:lP j b=zeroD:=(by unfold lP;rw [f];rfl);rw [F];rw [f] at g;clear C H hb A B G F f;obtain ⟨t,cm,so,xs,ys,ir⟩:=j;dsimp only [iU,zP] at g ⊢;generalize xs.length=n1 at *;generalize ys.length=n2 at *;go_enter func138,ntmps138;go_wp2_with fail;refine (g.out _).mono ?_;rintro e w1 ⟨rfl,d⟩;obtain ⟨O,I⟩:=tR d;have R0:=ah O;have R1:=ah I;have S:=ah (ae uM d);obtain ⟨s0,s1,s2,s3,s4,s5⟩:=cW I;obtain ⟨y0,y1,y2,y3,y4,y5⟩:=wI I;clear O I d;go_wp2_with fail;exact H8 (H1 results138 _ _ _ _ _ _ _ rfl (lO R1.out _ _ _ _ _ _) underlying34 rfl lN) rfl ⟨none,0,none,0,rfl,kz _ _ _,iT S.out aa _ _ _ _ _ _⟩
 | true =>have F:lP j b=⟨j.t,j.cm,j.so,dW j.xs b 16,j.ys,j.ir⟩:=(by unfold lP dW;rw [f,JZ8 rfl]);rw [F];have HW:Hid (∀ c,Bw w c->H5 prog 141 #[.slice l j.xs.length o,.int .u8 b,.i 16] c λe L=>∃ (s:Option H3) (u:Nat),e=.returned (.slice s (dW j.xs b 16).length u)/\L.ownsRow c.heap.size 5 1 (.slice s (dW j.xs b 16).length u) (dW j.xs b 16).length ((dW j.xs b 16).map (Value.int .u8))/\Bw c L):=λc hb=>nS l _ o 16 j.xs b c rfl aa (yP f).1 (C.below hb);rw [f] at g;clear C H hb A B F f;generalize dW j.xs b 16=zs at *;obtain ⟨t,cm,so,xs,ys,ir⟩:=j;dsimp only [iU,zP] at g G HW ⊢;generalize hm:zs.length=m at *;generalize xs.length=n1 at *;generalize ys.length=n2 at *;go_enter func138,ntmps138;go_wp2_with fail;refine (g.out _).mono ?_;rintro e w1 ⟨rfl,d⟩;obtain ⟨O,I⟩:=tR d;have R0:=ah O;have R1:=ah I;have S:=ah (ae uM d);obtain ⟨p0,p1,p2,p3,p4,p5⟩:=cW O;clear O I d;go_wp2_with fail;refine (G.out _ S.out).mono ?_;rintro e E ⟨M,N,y,z,rfl,Q,q⟩;have V:=ah Q;have J:=ah (aA q R0.out);have D:=ah (aA q R1.out);have T:=ah (ae S.out q);have K:=ah (show w.heap.size+1<w1.heap.size/\w1.heap.size<=E.heap.size from ⟨(A0.1 R1.out).1,q.size⟩);have nd1:¬ E.heap.size=w.heap.size+1:=(by have:=K.out;omega);have nd2:¬ w.heap.size+1=E.heap.size:=(by have:=K.out;omega);clear Q q p0 p1 p2 p3 p4 p5;have u0:=λP=>(cW (aB J.out P)).1;have u1:=λP=>(cW (aB J.out P)).2.1;have u2:=λP=>(cW (aB J.out P)).2.2.1;have u3:=λP=>(cW (aB J.out P)).2.2.2.1;have u4:=λP=>(cW (aB J.out P)).2.2.2.2.1;have u5:=λP=>(cW (aB J.out P)).2.2.2.2.2;have s0:=λP=>(cW (aB D.out P)).1;have s1:=λP=>(cW (aB D.out P)).2.1;have s2:=λP=>(cW (aB D.out P)).2.2.1;have s3:=λP=>(cW (aB D.out P)).2.2.2.1;have s4:=λP=>(cW (aB D.out P)).2.2.2.2.1;have s5:=λP=>(cW (aB D.out P)).2.2.2.2.2;have y0:=λP=>fK (aB D.out P) 0;have y1:=λP=>fK (aB D.out P) 1;have y2:=λP=>fK (aB D.out P) 2;have y3:=λP=>fK (aB D.out P) 3;have y4:=λP=>fK (aB D.out P) 4;have y5:=λP=>fK (aB D.out P) 5;go_wp2_with fail;refine (HW.out _ (T.out.alloc T.out.size _)).mono ?_;rintro e w3 ⟨s,u,rfl,R,r⟩;have OW:=ah R;have Z:=ah (aA r (I4 E _));have Y:=ah (aA r (aB D.out _));have B3:=ah (ae (T.out.alloc T.out.size _) r);have W:=ah ((V.out.below (bal _ _)).below r);have Z3:=ah (show E.heap.size<w3.heap.size from (A0.1 Z.out).1);obtain ⟨x0,x1,x2,x3,x4,x5⟩:=cW Z.out;obtain ⟨f0,f1,f2,f3,f4,f5⟩:=wI Z.out;clear u0 s0 y0 u1 s1 y1 u2 s2 y2 u3 s3 y3 u4 s4 y4 u5 s5 y5;obtain ⟨s0,s1,s2,s3,s4,s5⟩:=cW Y.out;obtain ⟨y0,y1,y2,y3,y4,y5⟩:=wI Y.out;clear R r;go_wp2_with fail;have X:=GJ OW.out ⟨E.heap.size,3,none⟩ (.slice s m u) d4;have A4:=((W.out.set ⟨E.heap.size,3,none⟩ (.slice s m u) (.inr (F0 _))).newIn s m u zs _ w3.heap.size X d4 (by have:=K.out;simp only [L4];omega) kb (by have:=Z3.out;omega)).put6 (w.heap.size+1) (.inl K.out.1) (.u t) (.u cm) (.bool so) (.slice s m u) (.slice y n2 z) (.i ir);have T1:=lO (mt Y.out ⟨E.heap.size,3,none⟩ (.slice s m u) nd2) (.u t) (.u cm) (.bool so) (.slice s m u) (.slice y n2 z) (.i ir);exact H8 (H1 results138 _ _ _ _ _ _ _ rfl T1 underlying34 rfl lN) rfl ⟨s,u,y,z,rfl,A4.low (by have:=K.out;omega) (by simp only [cy];exact F0 _),iT (B3.out.setCell (p:=⟨E.heap.size,3,none⟩) (by have:=K.out;dsimp only;omega) _) aa _ _ _ _ _ _⟩
def OM:List KI->Option (List Nat)
 | .sq all (_+1) listed::_=>some (Region.ready .any all listed)
 | _=>none
def AQ (F:Fr) (i:Nat):List KI->Option (Oper × List KI)
 | .sq all (m+1) listed::k=>match all[i]? with
   | some o=>match wn all F o with
     | some true=>some (o,.sq all m (listed.setIfInBounds i true)::k)
     | _=>none
   | none=>none
 | _=>none
def MT (F:Fr) (i:Nat) (k:List KI):List KI:=match AQ F i k with
 | some x=>x.2
 | none=>[]
def Rr (n:Nat) (F:Fr) (i:Nat) (k:List KI):Option (Sem Next):=match AQ F i k with
 | some (o,_)=>match o.op.operands.all (kn F)&&Am o.op&&(match o.dst with | some d=>F3 d n | none=>true) with
   | true=>some (execOp (ev F) o)
   | false=>none
 | none=>none
def MU (F:Fr) (i:Nat) (k:List KI) (v:H2) (t:Nat):Fr:=match AQ F i k with
 | some (o,_)=>match o.dst with
   | some d=>(d,v,t)::F
   | none=>F
 | none=>F
def Rt (P:I5) (n:Nat) (F:Fr) (i:Nat) (k:List KI):Option (Nat × Array H2):=match AQ F i k with
 | some (o,_)=>match (match o.dst with | some d=>F3 d n | none=>true) with
   | true=>qP P F o
   | false=>none
 | none=>none
def Sk (P:I5) (S:G3->Prop) (Q:Exit->Act->G3->Prop) (i:Nat) (a:Act) (w:G3):List KI->Prop
 | .sq all (m+1) listed::k'=>wpOp P all (gK P S Q k') i (λc b=>S b/\wpAnyH P .any all (gK P S Q k') S m (listed.setIfInBounds i true) c b) a w
 | _=>False
def Br (P:I5) (S:G3->Prop) (Q:Exit->Act->G3->Prop) (n:Nat) (k:List KI) (F:Fr) (w:G3) (i:Nat):Prop:=∀ a,bn F n a->Sk P S Q i a w k
theorem mM {i j:Nat} (g:Br d k M B Q a w i) (h:Br d k M B Q a w j) (b:OM Q=some [i,j]:=by kernel_rfl):Wg d k M B Q a w:=λF e=>by
 have c:=g F e;have P:=h F e;unfold Sk at c P;unfold OM at b;split at b
 ·rename_i all m listed l;simp only [Option.some.injEq] at b;show wpAnyH d .any all (gK d k M l) k (m+1) listed F w;refine wpAnyH_all b bh λq f=>?_;simp only [A6,List.not_mem_nil,or_false] at f;rcases f with rfl | rfl;·exact c
  ·exact P
 ·cases b
theorem EI {o:Oper} {e:List KI} (h:AQ a D Q=some (o,e)) {F:Act} (hk:bn a B F) (q:∀ K:Act->G3->Prop,(∀ c b,k b->gK d k M e .normal c b->K c b)->o.wp d F w K (gK d k M e)):Sk d k M D F w Q:=by
 unfold AQ at h;split at h
 ·rename_i all m listed r;split at h
  ·rename_i s l;split at h;·rename_i P;simp only [Option.some.injEq,Prod.mk.injEq] at h;obtain ⟨rfl,rfl⟩:=h;simp only [Sk];refine wpOp_step l λf g=>?_;rw [JZ8 (jZ hk P)];exact q f λc b p j=>g c b ⟨p,j⟩
   ·cases h
  ·cases h
 ·cases h
theorem nU {s:Sem Next} {v:H2} (p:s.run d w=.ok (.value v) L) (hS:k L) (h:Wg d k M B (MT a D Q) (MU a D Q v o) L) (hx:Rr B a D Q=some s:=by kernel_rfl):Br d k M B Q a w D:=λF f=>by
 unfold Rr at hx;unfold MT MU at h;cases j:AQ a D Q with
 | none=>rw [j] at hx;cases hx
 | some y =>
   obtain ⟨t,q⟩:=y;rw [j] at hx h;dsimp only at hx h;split at hx
   ·rename_i c;cases hx;rw [Bool.and_eq_true,Bool.and_eq_true] at c;have g:execOp F.eval t=execOp (ev a) t:=execOp_congr t (λcs b e=>by have:=c.1.2;rw [e] at this;cases this) λx hx=>f.eval (Array.all_eq_true_iff_forall_mem.1 c.1.1 x hx);refine EI j f λK l=>?_;show t.upon d F K _ _;rw [g,p];refine l _ _ hS (h _ ?_);cases m:t.dst with
    | none=>exact f
    | some P=>rw [m] at c;exact f.put c.2 v o
   ·cases hx
theorem mN {Rc:Ending->G3->Prop} (p:H5 d P b w Rc) (h:∀ e args,Rc e args->∃ v t,e=.returned v/\k args/\Wg d k M B (MT a D Q) (MU a D Q v t) args) (hx:Rt d B a D Q=some (P,b):=by kernel_rfl):Br d k M B Q a w D:=λF c=>by
 unfold Rt at hx;unfold MT MU at h;cases j:AQ a D Q with
 | none=>rw [j] at hx;cases hx
 | some y =>
   obtain ⟨o,u⟩:=y;rw [j] at hx h;dsimp only at hx h;split at hx
   ·rename_i l;refine EI j c λK m=>?_;show o.upon d F K _ _;rw [oo c hx w];refine p.mono λe args q=>?_;obtain ⟨v,t,rfl,r,s⟩:=h e args q;refine m _ _ r (s _ ?_);cases g:o.dst with
    | none=>exact c
    | some S=>rw [g] at l;exact c.put l v t
   ·cases hx
structure TV where
 ld:H2
 wd:Int
 op:Int
 rd:Int
 ra:Int
 rb:Int
 im:Int
 fm:H2
 rs:Int
 nx:Int
 wr:Bool
 up:Bool
 cz:Int
 vl:Int
def aW (M:MV) (A:MA) (t:TV):Array Value:=#[.u M.pc,.slice A.ax M.x.length A.cx,.i M.pr,.slice A.ac M.cs.length A.cc,.slice A.ar M.ram.length A.cr,.u M.d.t,.u M.d.cm,.bool M.d.so,.slice A.ai M.d.xs.length A.ci,.slice A.ao M.d.ys.length A.co,.i M.d.ir,.u M.hd,.bool M.hl,.bool M.wt,t.ld,.u t.wd,.i t.op,.i t.rd,.i t.ra,.i t.rb,.i t.im,t.fm,.u t.rs,.u t.nx,.bool t.wr,.bool t.up,.i t.cz,.u t.vl]
theorem Iv.one (h:fY ⟨B,b,[]⟩ w):Iv [B] w [⟨B,b,[]⟩] w:=⟨λr a=>by rw [A5] at a;subst a;exact h,Ag.refl _ _,λr a=>by rw [A5] at a;subst a;simp,bh⟩
theorem jm {M:MV} {A:MA} {t:TV} (h:fY ⟨B,aW M A t,[]⟩ w):H5 prog 198 #[.p B 0,.i e,.u m] w λc b=>c=.returned (.tuple #[])/\Iv [B] w [⟨B,aW M A {t with up:=true,cz:=e,vl:=m},[]⟩] b:=by refine bE (args:=[.p B 0,.i e,.u m]) (λ_=>True) func198 ?_;refine aY 0 1 ?_;exact eZ (Iv.one h) {} 40 λW a=>⟨rfl,a⟩
theorem Iv.then1 (h:Iv S w [⟨B,b,[]⟩] W) (k:Iv [B] W [⟨B,n,[]⟩] L):Iv S w [⟨B,n,[]⟩] L :=
 ⟨k.rows,h.ag.trans ⟨k.ag.os,k.ag.tape,k.ag.output,k.ag.size,λi c cs=>k.ag.block i c (by rw [A5];exact λe=>cs (by rw [e];exact h.sub _ (A5.2 rfl)))⟩,λr a=>by rw [A5] at a;subst a;exact h.sub ⟨B,b,[]⟩ (A5.2 rfl),bh⟩
theorem Iv.row1 (h:Iv S w [⟨B,b,[]⟩] W):fY ⟨B,b,[]⟩ W:=h.rows _ (A5.2 rfl)
def vE {P:I5} {bs:List Nat} {g:Nat} {w:G3} {cs:Array H2} {f:Nat} {args:Array H2} {v:H2} (h:∀ W,Iv bs w [⟨g,cs,[]⟩] W->H5 P f args W λe b=>e=.returned v/\Iv [g] W [⟨g,cs,[]⟩] b):Cv P (Iv bs w [⟨g,cs,[]⟩]):=⟨f,args,v,0,λW a=>(h W a).mono λe b k=>⟨k.1,a.then1 k.2⟩⟩
theorem kI {p:H3} {v:H2} (h:w.cell? p=some v):p.block<w.heap.size:=by
 unfold K4 at h;split at h;·rename_i a;exact (A0.1 a).1
 ·cases h
theorem sa {t:TV} (h:fY ⟨B,aW A F t,[]⟩ w):H5 prog 175 #[.p B 0] w λe b=>e=.returned (.u (Uz.wrap t.im))/\Iv [B] w [⟨B,aW A F t,[]⟩] b:=by refine bE (args:=[.p B 0]) (λ_=>True) func175 ?_;refine aY 0 1 ?_;exact uq (t:=2) (v:=.u (Uz.wrap t.im)) (Iv.one h) {} 40 λW a=>⟨rfl,a⟩
theorem oA {t:TV} (h:fY ⟨B,aW A F t,[]⟩ w):H5 prog 169 #[.p B 0] w λe d=>e=.returned (.tuple #[])/\Iv [B] w [⟨B,aW A F {t with up:=true,cz:=2,vl:=t.wd},[]⟩] d:=by refine bE (args:=[.p B 0]) (λ_=>True) func169 ?_;refine aY 0 1 ?_;refine fQ (Iv.one h) {} 40 (R1:=[⟨B,aW A F t,[]⟩]) (λW a=>jm 2 t.wd a.row1) λW e d a c=>⟨_,0,c.1,?_⟩;exact eZ (Iv.one c.2.row1) {} 40 λf b=>⟨rfl,(a.then1 c.2).then1 b⟩
theorem JU {t:TV} (h:fY ⟨B,aW A F t,[]⟩ w) (c:F.ax=some ⟨D,P,none⟩) (f:0<=t.ra/\t.ra<A.x.length) (hb:D≠B) (hx:w.cell? ⟨D,P+t.ra.toNat,none⟩=some (.u x)):H5 prog 174 #[.p B 0] w λe i=>e=.returned (.u x)/\Iv [B] w [⟨B,aW A F t,[]⟩] i:=by
 have d:∀ W,Ag [B] w W->W.cell? ⟨D,P+t.ra.toNat,none⟩=some (.u x):=λW a=>by rw [<- hx];simp only [K4,a.block D (kI hx) (by simpa using hb)]
 refine bE (args:=[.p B 0]) (λ_=>True) func174 ?_;refine aY 0 1 ?_;exact uq (t:=2) (v:=.u x) (Iv.one h) {ov:=[(13,pA A.x.length F.cx .i64 t.ra c f underlying31 ab),(14,lw _ _ underlying32 rfl d)]} 40 λW a=>⟨rfl,a⟩
theorem Sm {t:TV} (h:fY ⟨B,aW A F t,[]⟩ w) (c:F.ax=some ⟨D,P,none⟩) (f:0<=t.rb/\t.rb<A.x.length) (hb:D≠B) (hx:w.cell? ⟨D,P+t.rb.toNat,none⟩=some (.u x)):H5 prog 177 #[.p B 0] w λe i=>e=.returned (.u x)/\Iv [B] w [⟨B,aW A F t,[]⟩] i:=by
 have d:∀ W,Ag [B] w W->W.cell? ⟨D,P+t.rb.toNat,none⟩=some (.u x):=λW a=>by rw [<- hx];simp only [K4,a.block D (kI hx) (by simpa using hb)]
 refine bE (args:=[.p B 0]) (λ_=>True) func177 ?_;refine aY 0 1 ?_;exact uq (t:=2) (v:=.u x) (Iv.one h) {ov:=[(13,pA A.x.length F.cx .i64 t.rb c f underlying31 ab),(14,lw _ _ underlying32 rfl d)]} 40 λW a=>⟨rfl,a⟩
theorem uO:H5 prog 274 #[.u e,.i m] V λaddr a=>addr=.returned (.bool (decide (ic e m<6)))/\a=V :=
 lQ e m (λk=>CE 274 #[.u e,.i m] V (.bool (decide (k<6)))) (by rintro rfl rfl;exact JI V) (by rintro rfl rfl;exact JJ V) (by rintro rfl rfl;exact JK V) (by rintro rfl rfl;exact JL V) (by rintro rfl rfl;exact JM V) (by rintro rfl rfl;exact JN V) λb c d f g h=>JT e m b c d f g h V
theorem rj:(e=33554432/\ic e m=0)\/(e=33570816/\ic e m=1)\/(e=33603576/\ic e m=2)\/(e=268435456/\ic e m=3)\/(e=268435457/\ic e m=4)\/(e=268435461/\ic e m=5)\/ic e m=6 :=
 lQ e m (λk=>(e=33554432/\k=0)\/(e=33570816/\k=1)\/(e=33603576/\k=2)\/(e=268435456/\k=3)\/(e=268435457/\k=4)\/(e=268435461/\k=5)\/k=6) (by simp_all) (by simp_all) (by simp_all) (by simp_all) (by simp_all) (by simp_all) bh
structure Dv (w:G3) (D0:Array H2) (g B:Nat) (cs:Array H2) (L:List FRow) (W:G3):Prop where
 inp:W.heap[w.heap.size]?=some (.cells D0 34 (0,0))
 out:∃ o:Array H2,o.size=6/\W.heap[w.heap.size+1]?=some (.cells o 34 (0,0))
 row:W.heap[g]?=some (.cells cs 34 (0,0))
 fam:bi B W.heap.size W L
 far:∀ q ∈ L,q.v.ownBlock≠some g
 lo:w.heap.size+2<=B/\B<=g
 bl:Bw w W
theorem Dv.below (h:Dv w b g B n c W) {W':G3} (k:Bw W W'):Dv w b g B n c W':=⟨aA k h.inp,let ⟨o,a,D0⟩:=h.out;⟨o,a,aA k D0⟩,aA k h.row,(h.fam.below k).low (F0 _) k.size,h.far,h.lo,ae h.bl k⟩
theorem Dv.set (h:Dv w b D B n c W) (i:Nat) (v:H2):Dv w b D B (n.setIfInBounds i v) c (W.setCell ⟨D,i,none⟩ v):=by have:=h.lo;refine ⟨mt h.inp _ _ ca,let ⟨o,L,d⟩:=h.out;⟨o,L,mt d _ _ ca⟩,bj h.row i v,?_,h.far,h.lo,h.bl.setCell (p:=⟨D,i,none⟩) ca _⟩;rw [cy];exact ⟨λr a=>dp (h.fam.own r a) λk e=>Below.heap_setCell W _ v k λD0=>h.far r a (e.trans (congrArg some D0)),h.fam.hi,h.fam.ne⟩
theorem Dv.put (h:Dv w b D B n c W) (d:Array H2) (hd:d.size=6):Dv w b D B n c (W.setRow (w.heap.size+1) d):=by have:=h.lo;obtain ⟨o,D0,a⟩:=h.out;refine ⟨(K1 _ _ _ _ aa).trans h.inp,⟨d,hd,K0 _ _ _ _ _ _ a⟩,(K1 _ _ _ _ aa).trans h.row,?_,h.far,h.lo,aN h.bl aa _⟩;rw [setRow_size];exact h.fam.mono λk L e f=>K1 _ _ _ _ aa
theorem Dv.fin (h:Dv w b D B n c W):bi w.heap.size W.heap.size W c/\Bw w W:=⟨h.fam.low (by have:=h.lo;omega) (F0 _),h.bl⟩
theorem Dv.st (h:Dv w b D B n c W) (T:TypeId) (i:Nat) (v:H2) (P:n.size=6:=by rfl) (D0:i<6:=by decide) (a:(d.info? T).map (·.size)=some 1:=by kernel_rfl) (hv:v.cells=#[v]:=by rfl) (L:v.oneCell':=by rfl):(do Instr.storeAt T (.p D i) v;pure Next.skip:Sem Next).run d W=.ok .skip (W.setCell ⟨D,i,none⟩ v):=
 oq (old:=n[i]) ⟨by simp [K4,h.row,P,D0],fK h.row i⟩ a hv L
theorem Dv.rows (h:Dv w b D B n c W):fN W [⟨w.heap.size,b,[]⟩,⟨w.heap.size,b,[]⟩,⟨D,n,[]⟩]:=⟨⟨_,_,h.inp⟩,⟨_,_,h.inp⟩,⟨_,_,h.row⟩,trivial⟩
theorem Dv.start {c:DV} {i j b:Option H3} {d:Nat} (m:Bs w [(iU c i B j P,34),(iU zeroD none 0 none 0,34)] L) (h:bi L.heap.size W.heap.size W (zP c f D b d)) (k2:Bw L W):Dv w (iU c i B j P) W.heap.size L.heap.size (iU c f D b d) (zP c f D b d) ((W.alloc (.cells (Value.agg (iU zeroD none 0 none 0)).cells 34)).setRow W.heap.size (iU c f D b d)):=by have a:Bw W ((W.alloc (.cells (Value.agg (iU zeroD none 0 none 0)).cells 34)).setRow W.heap.size (iU c f D b d)):=aN (bal _ _) (F0 _) _;have g:=(m.below k2).below a;have p:=(A0.1 (m.1 1 _ rfl)).1;have o:=k2.size;exact ⟨g.1 0 _ rfl,⟨_,rfl,g.1 1 _ rfl⟩,K0 _ _ _ _ _ _ (I4 _ _),(h.below a).low (F0 _) a.size,λq n e=>by have:=h.hi q n _ e;omega,⟨aa,o⟩,g.2⟩
theorem rk (m:Nat) (addr size x:Int) (w:G3) (E:j.xs.length<=1048576) (F:j.ys.length<=1048576) (hb:cT j) (L:Sl .u8 w l j.xs) (G:Sl .u8 w p j.ys): H5 prog 273 #[.agg #[.u j.t,.u j.cm,.bool j.so,.slice l j.xs.length o,.slice p j.ys.length m,.i j.ir],.u addr,.i size,.u x] w λe O=>∃ (b:Option H3) (c:Nat) (f:Option H3) (i:Nat),e=.returned (.tuple #[.agg (iU (qJ j addr size x).1 b c f i),.bool (qJ j addr size x).2]) /\ bi w.heap.size O.heap.size O (zP (qJ j addr size x).1 b c f i)/\Bw w O:=by
 have v:=λW (_:Bw w W)=>fG j.t j.cm j.so l j.xs.length o p j.ys.length m j.ir W E F
 have H:=λW (_:Bw w W)=>uO addr size W
 unfold qJ
 refine cF (S:=Bs w [(iU j l o p m,34),(iU zeroD none 0 none 0,34)]) (args:=[.agg (iU j l o p m),.u addr,.i size,.u x]) [(iU j l o p m,34),(iU zeroD none 0 none 0,34)] func273 ?_
 cases N:lm j.xs.length j.ys.length j.ir with
 | false =>
   rw [N] at v
   rw [JZ9 ba]
   refine ak Bs.eng {cv:=[(12,fu v)]} 40 (Bs.start _ _) λy n=>?_
   exact g6 (R:=[]) trivial {} 40 (n.1 1 _ rfl) rfl (fp _ _ _ _ _) underlying34 ⟨none,0,none,0,rfl,kz _ _ _,aN n.2 aa _⟩
 | true =>
   rw [N] at v
   rw [JZ8 rfl]
   by_cases P:ic addr size=6
   ·rw [P] at H ⊢
    refine ak Bs.eng {cv:=[(12,fu v),(17,wU H)]} 40 (Bs.start _ _) λy n=>?_
    exact g6 (R:=[]) trivial {} 40 (n.1 1 _ rfl) rfl (fp _ _ _ _ _) underlying34 ⟨none,0,none,0,rfl,kz _ _ _,aN n.2 aa _⟩
   ·rw [decide_eq_true (by rcases rj addr size with h|h|h|h|h|h|h<;>omega)] at H
    refine bF Bs.eng {cv:=[(12,fu v),(17,wU H)]} 60 (Bs.start _ _) (λy n=>kH j.t j.cm j.so l j.xs.length o p j.ys.length m j.ir j.xs j.ys y rfl rfl E F (L.below n.2) (G.below n.2)) ?_
    rintro y e A n ⟨b,c,f,i,rfl,U,V⟩
    refine ⟨_,0,rfl,jw ab,?_⟩
    refine eH 3 (dV (T:=34) (z:=.agg (iU zeroD none 0 none 0)) ab A) ?_
    refine cP (aF (g:=A.heap.size) (t:=34) (ty:=34) (old:=iU zeroD none 0 none 0) (cells:=iU j b c f i) (I4 _ _) ab rfl (fp _ _ _ _ _)) ?_
    have q:=Dv.start n U V
    generalize (A.alloc (.cells (Value.agg (iU zeroD none 0 none 0)).cells 34)).setRow A.heap.size (iU j b c f i)=s at q ⊢
    generalize A.heap.size=g at q ⊢
    rcases rj addr size with ⟨rfl,e⟩|⟨rfl,e⟩|⟨rfl,e⟩|⟨rfl,e⟩|⟨rfl,e⟩|⟨rfl,e⟩|e<;>rw [e]
    ·refine aE (R:=[]) trivial {} 40 (xk x s) ?_
     rintro e I ⟨rfl,J⟩
     refine ⟨_,0,rfl,?_⟩
     have d:=q.below (L5 s.heap.size s).drew
     rw [<- J] at d
     have a:=d.set 2 (.bool (bits .and .u64 x 1==1))
     refine du (R:=[]) trivial {} 40 (d.st 4 2 (.bool (bits .and .u64 x 1==1))) ?_
     obtain ⟨u,D,k⟩:=a.out
     exact g6 a.rows {} 40 k (by exact D) (fp _ _ _ _ _) underlying34 ⟨b,c,f,i,rfl,(a.put _ rfl).fin⟩
    ·have a:=q.set 1 (.u x)
     refine du (R:=[]) trivial {} 40 (q.st 32 1 (.u x)) ?_
     obtain ⟨u,D,k⟩:=a.out
     exact g6 a.rows {} 40 k (by exact D) (fp _ _ _ _ _) underlying34 ⟨b,c,f,i,rfl,(a.put _ rfl).fin⟩
    ·have a:=q.set 0 (.u x)
     refine du (R:=[]) trivial {} 40 (q.st 32 0 (.u x)) ?_
     obtain ⟨u,D,k⟩:=a.out
     exact g6 a.rows {} 40 k (by exact D) (fp _ _ _ _ _) underlying34 ⟨b,c,f,i,rfl,(a.put _ rfl).fin⟩
    ·refine aE q.rows {} 40 (nS p _ m 4096 j.ys (IntKind.u8.wrap x) s rfl aa (yP N).2.1 (G.below q.bl)) ?_
     rintro e I ⟨B,C,rfl,Q,M⟩
     refine ⟨_,0,rfl,?_⟩
     have d:=q.below M
     have Y:=(A0.1 q.row).1
     have Z:=q.lo
     have X:Dv w (iU j l o p m) g y.heap.size (iU j b c f i) (zP ⟨j.t,j.cm,j.so,j.xs,dW j.ys (IntKind.u8.wrap x) 4096,j.ir⟩ b c B C) I:=⟨d.inp,d.out,d.row,((q.fam.below M).newOut B _ C _ _ I.heap.size Q (F0 _) aa (F0 _) M.size),λr K e=>by
      rcases A6.1 K with rfl|K
      ·exact q.far _ (List.mem_cons_self ..) e
      ·rw [A5.1 K] at e
       have:=(Q.lt g e).1
       omega,d.lo,d.bl⟩
     have a:=X.set 4 (.slice B (dW j.ys (IntKind.u8.wrap x) 4096).length C)
     refine du (R:=[]) trivial {} 40 (d.st 22 4 (.slice B (dW j.ys (IntKind.u8.wrap x) 4096).length C)) ?_
     obtain ⟨u,D,k⟩:=a.out
     exact g6 a.rows {} 40 k (by exact D) (fp ⟨j.t,j.cm,j.so,j.xs,dW j.ys (IntKind.u8.wrap x) 4096,j.ir⟩ _ _ _ _) underlying34 ⟨b,c,B,C,rfl,(a.put _ rfl).fin⟩
    ·rw [show fy j x 4=(⟨j.t,j.cm,j.so,j.xs,j.ys,IntKind.i64.wrap (bits .and .u64 x 1)⟩,true) by simp only [fy,IntKind.wrap_i64,wrap64]]
     refine aE (R:=[]) trivial {} 40 (xk x s) ?_
     rintro e I ⟨rfl,J⟩
     refine ⟨_,0,rfl,?_⟩
     have d:=q.below (L5 s.heap.size s).drew
     rw [<- J] at d
     have a:=d.set 5 (.i (IntKind.i64.wrap (bits .and .u64 x 1)))
     refine du (R:=[]) trivial {} 40 (d.st 2 5 (.i (IntKind.i64.wrap (bits .and .u64 x 1)))) ?_
     obtain ⟨u,D,k⟩:=a.out
     exact g6 a.rows {} 40 k (by exact D) (fp _ _ _ _ _) underlying34 ⟨b,c,f,i,rfl,(a.put _ rfl).fin⟩
    ·obtain ⟨u,D,k⟩:=q.out
     exact g6 (cs:=iU j b c f i) q.rows {} 90 k D (fp _ _ _ _ _) underlying34 ⟨b,c,f,i,rfl,(q.put _ rfl).fin⟩
    ·exact absurd e P
theorem Dv.dw (h:Dv w b g B n c W) (k:Dw W L):Dv w b g B n c L:=h.below (k.below (L5 _ _))
theorem Dv.ez:Ez (Dv w b D B n c) [⟨w.heap.size,b,[]⟩,⟨w.heap.size,b,[]⟩,⟨D,n,[]⟩]:=⟨λW h=>λr a=>pf h.rows a,λW h=>h.below (L5 _ _).drew⟩
theorem JV (g:ic e m≠6) (f:e≠268435456) (W:G3):CB 276 #[.agg (iU j l o p t),.u e] W (.u (ml j (ic e m)).1):=by
 rcases rj e m with ⟨rfl,addr⟩|⟨rfl,addr⟩|⟨rfl,addr⟩|⟨rfl,addr⟩|⟨rfl,addr⟩|⟨rfl,addr⟩|addr<;>rw [addr];·exact P7 _ _ _ _ _ _ _ _ _ _ W
 ·exact P8 _ _ _ _ _ _ _ _ _ _ W
 ·exact P9 _ _ _ _ _ _ _ _ _ _ W
 ·exact absurd rfl f
 ·exact Qa _ _ _ _ _ _ _ _ _ _ W
 ·exact Qb _ _ _ _ _ _ _ _ _ _ W
 ·exact absurd addr g
theorem sN (i:Option H3) (D:Nat) (addr size:Int) (w:G3) (H:j.xs.length<=1048576) (I:j.ys.length<=1048576) (hb:cT j) (J:Sl .u8 w l j.xs) (Q:Sl .u8 w i j.ys): H5 prog 267 #[.agg #[.u j.t,.u j.cm,.bool j.so,.slice l j.xs.length o,.slice i j.ys.length D,.i j.ir],.u addr,.i size] w λe X=>∃ (k:Option H3) (m:Nat) (b:Option H3) (c:Nat),e=.returned (.tuple #[.u (tT j addr size).1,.agg (iU (tT j addr size).2.1 k m b c),.bool (tT j addr size).2.2]) /\ bi w.heap.size X.heap.size X (zP (tT j addr size).2.1 k m b c)/\Bw w X:=by
 have F:=λW (_:Bw w W)=>fG j.t j.cm j.so l j.xs.length o i j.ys.length D j.ir W H I
 have L:=λW (_:Bw w W)=>uO addr size W
 unfold tT
 refine cF (S:=Bs w [(iU j l o i D,34),(iU zeroD none 0 none 0,34)]) (args:=[.agg (iU j l o i D),.u addr,.i size]) [(iU j l o i D,34),(iU zeroD none 0 none 0,34)] func267 ?_
 cases U:lm j.xs.length j.ys.length j.ir with
 | false =>
   rw [U] at F
   rw [JZ9 ba]
   refine ak Bs.eng {cv:=[(13,fu F)]} 40 (Bs.start _ _) λB f=>?_
   refine cP (aF (t:=34) (ty:=34) (cells:=iU zeroD none 0 none 0) (f.1 1 _ rfl) ab rfl (fp _ _ _ _ _)) ?_
   refine jM (R:=[]) trivial {} 40 λa E=>⟨.tuple #[.u 0,.agg (iU zeroD none 0 none 0),.bool false],?_,none,0,none,0,rfl,kz _ _ _,aN f.2 aa _⟩
   rw [mu results267 a.tmps _ _ _ _ (0,0) _ (E.slot ab) (K0 _ _ _ _ _ _ (f.1 1 _ rfl)) underlying34 rfl ab,E.slot (v:=.u 0) ab,E.slot (v:=.bool false) ab]
 | true =>
   rw [U] at F
   rw [JZ8 rfl]
   by_cases O:ic addr size=6
   ·rw [O] at L ⊢
    refine ak Bs.eng {cv:=[(13,fu F),(18,wU L)]} 40 (Bs.start _ _) λB f=>?_
    refine cP (aF (t:=34) (ty:=34) (cells:=iU zeroD none 0 none 0) (f.1 1 _ rfl) ab rfl (fp _ _ _ _ _)) ?_
    refine jM (R:=[]) trivial {} 40 λa E=>⟨.tuple #[.u 0,.agg (iU zeroD none 0 none 0),.bool false],?_,none,0,none,0,rfl,kz _ _ _,aN f.2 aa _⟩
    rw [mu results267 a.tmps _ _ _ _ (0,0) _ (E.slot ab) (K0 _ _ _ _ _ _ (f.1 1 _ rfl)) underlying34 rfl ab,E.slot (v:=.u 0) ab,E.slot (v:=.bool false) ab]
   ·rw [decide_eq_true (by rcases rj addr size with h|h|h|h|h|h|h<;>omega)] at L
    refine bF Bs.eng {cv:=[(13,fu F),(18,wU L)]} 60 (Bs.start _ _) (λB f=>kH j.t j.cm j.so l j.xs.length o i j.ys.length D j.ir j.xs j.ys B rfl rfl H I (J.below f.2) (Q.below f.2)) ?_
    rintro B e G f ⟨k,m,b,c,rfl,F2,k2⟩
    refine ⟨_,0,rfl,jw ab,?_⟩
    refine eH 3 (dV (T:=34) (z:=.agg (iU zeroD none 0 none 0)) ab G) ?_
    refine cP (aF (g:=G.heap.size) (t:=34) (ty:=34) (old:=iU zeroD none 0 none 0) (cells:=iU j k m b c) (I4 _ _) ab rfl (fp _ _ _ _ _)) ?_
    have q:=Dv.start f F2 k2
    generalize (G.alloc (.cells (Value.agg (iU zeroD none 0 none 0)).cells 34)).setRow G.heap.size (iU j k m b c)=W3 at q ⊢
    generalize G.heap.size=g at q ⊢
    cases M:(addr==268435456) with
    | false =>
      have Y:=JV j l o i D addr size O (by simpa using M)
      have e2:ml j (ic addr size)=((ml j (ic addr size)).1,j,true):=by
       rcases rj addr size with ⟨rfl,e⟩ | ⟨rfl,e⟩ | ⟨rfl,e⟩ | ⟨rfl,e⟩ | ⟨rfl,e⟩ | ⟨rfl,e⟩ | e<;>first | exact absurd e O | simp at M;done | (rw [e];rfl)
      rw [e2]
      generalize (ml j (ic addr size)).1=v at Y ⊢
      refine bO (Dv w (iU j l o i D) g B.heap.size (iU j k m b c) (zP j k m b c)) ?_
      refine te Dv.ez q {eq:=[(25,aD M)]} 60 (λW _=>Y W) ?_
      rintro W e N x ⟨rfl,K⟩
      have n:=(q.dw x).below K
      refine ⟨_,0,rfl,n,?_⟩
      exact kY (s:=6) (p:=7) (u:=8) (T:=34) (cs:=iU j k m b c) (v1:=.u v) (v2:=.bool true) Dv.ez n {} 60 (λW h=>h.put _ rfl) (λW h=>let ⟨d,x,C⟩:=h.out;⟨d,_,x,C⟩) ab (fp _ _ _ _ _) underlying34 rfl rfl ab ab ab λW V x C=>⟨k,m,b,c,rfl,(((n.dw x).put _ rfl).dw C).fin⟩
    | true =>
      have e3:addr=268435456:=by simpa using M
      subst e3
      have e4:ic 268435456 size=3:=by rcases rj 268435456 size with h|h|h|h|h|h|h<;>omega
      rw [e4]
      have hw:Uz.wrap (j.xs.getD 0 0)=j.xs.getD 0 0:=JO _ (j7 hb.1 0).1 (j7 hb.1 0).2
      refine aE q.rows {} 60 (rf l _ o j.xs W3 rfl (by have:=(yP U).1;omega) (J.below q.bl)) ?_
      rintro e N ⟨y,A,rfl,Z,K⟩
      refine ⟨_,0,rfl,?_⟩
      have n:=q.below K
      have s3:=(A0.1 q.row).1
      have s4:=q.lo
      have q6:Dv w (iU j l o i D) g B.heap.size (iU j k m b c) (zP ⟨j.t,j.cm,j.so,j.xs.drop 1,j.ys,j.ir⟩ y A b c) N:=⟨n.inp,n.out,n.row,((q.fam.below K).newIn y _ A _ _ N.heap.size Z (F0 _) aa (F0 _) K.size),λr P e=>by
       rcases A6.1 P with rfl|P
       ·have:=(Z.lt g e).1
        omega
       ·exact q.far _ (List.mem_cons_of_mem _ P) e,n.lo,n.bl⟩
      have q5:=q6.set 3 (.slice y (j.xs.drop 1).length A)
      refine du (R:=[]) trivial {} 40 (n.st 22 3 (.slice y (j.xs.drop 1).length A)) ?_
      refine bO (Dv w (iU j l o i D) g B.heap.size (iU ⟨j.t,j.cm,j.so,j.xs.drop 1,j.ys,j.ir⟩ y A b c) (zP ⟨j.t,j.cm,j.so,j.xs.drop 1,j.ys,j.ir⟩ y A b c)) ?_
      exact kY (s:=6) (p:=7) (u:=8) (T:=34) (cs:=iU ⟨j.t,j.cm,j.so,j.xs.drop 1,j.ys,j.ir⟩ y A b c) (v1:=.u (Uz.wrap (j.xs.getD 0 0))) (v2:=.bool true) Dv.ez q5 {} 60 (λW h=>h.put _ rfl) (λW h=>let ⟨d,x,C⟩:=h.out;⟨d,_,x,C⟩) ab (fp _ _ _ _ _) underlying34 rfl rfl ab ab ab λW V x C=>⟨y,A,b,c,by rw [hw];rfl,(((Dv.dw q5 x).put _ rfl).dw C).fin⟩
def Es (w:G3) (a:Option H3) (l:List (Int × Int)):Prop :=
 ∀ i,i<l.length->∃ b o,a=some ⟨b,o,none⟩/\b<w.heap.size/\w.cell? ⟨b,o+i*2,none⟩=some (.i (l.getD i (0,0)).1)/\w.cell? ⟨b,o+i*2+1,none⟩=some (.i (l.getD i (0,0)).2)
theorem Es.below {l:List (Int × Int)} (h:Es w f l) (hb:Bw w L):Es L f l:=λi g=>by obtain ⟨b,o,e,c,d,a⟩:=h i g;exact ⟨b,o,e,Nat.lt_of_lt_of_le c hb.size,(hb.cell (p:=⟨b,o+i*2,none⟩) c).trans d,(hb.cell (p:=⟨b,o+i*2+1,none⟩) c).trans a⟩
def SH {P:I5} {S:G3->Prop} {T E:TypeId} {a:Option H3} {b o:Nat} (n c:Nat) (i:Nat) (f:a=some ⟨b,o,none⟩) (g:i<n) (h:P.underlying T=some (.slice E)) (hz:(P.info? E).map (·.size)=some 2):Ov P S :=
 ⟨do pure (.value (<- Instr.indexAt T (.slice a n c) (.i i))),.p b (o+i*2),0,λW j=>by
  subst f
  obtain ⟨info,d,e⟩:=Option.map_eq_some_iff.1 hz
  simp [Instr.indexAt,asIntOf,underlying,program,sizeOf,typeInfo,h,d,e,g,Addr.add,Sem.run,Bind.bind,Sem.bind,Pure.pure]⟩
def Ts {P:I5} {S:G3->Prop} {T:TypeId} {d:TypeDesc} (b o:Nat) (u v:H2) (i:P.underlying T=some d) (hd:(match d with | .struct _ | .array _ _=>true | _=>false)=true) (hz:(P.info? T).map (·.size)=some 2) (h:∀ W,S W->W.cell? ⟨b,o,none⟩=some u/\W.cell? ⟨b,o+1,none⟩=some v):Ov P S :=
 ⟨do pure (.value (<- Instr.loadAt T (.p b o))),.agg #[u,v],0,λW a=>by
  obtain ⟨f,g⟩:=h W a
  obtain ⟨info,c,e⟩:=Option.map_eq_some_iff.1 hz
  cases d<;>simp_all [Instr.loadAt,Instr.sureAddr,loadVar,isAgg,underlying,program,load,loadCells,loadCellsFrom,sizeOf,typeInfo,Addr.add,Sem.run,Bind.bind,Sem.bind,Pure.pure]⟩
