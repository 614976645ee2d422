/- Own lemmas. -/
import Derived.Test.YtfagphfjfhpmjaaGreatDoorAuj
import Derived.Test.YtfagphfjfhpmjaaGreatDoorJ04
import Derived.Test.YtfagphfjfhpmjaaGreatDoorJ11
set_option maxRecDepth 100000
set_option maxHeartbeats 1600000
namespace Go.Proofs.YtfagphfjfhpmjaaGreatDoor
open Go.RowKit Tryz
open IntKind renaming u64->Uz
set_option linter.unusedVariables false
variable {w L:World} {B W g:Nat} {D d:Array Value} {b:List FRow} (c:DV) (a:Option Addr) (j:Nat) (P:Option Addr) (f:Nat) (l n:Int) (m:World)
theorem gZ (t cm:Int) (j:Bool) (d:Option Addr) (b g:Nat) (f:Option Addr) (c i:Nat) (a:Int) (w:World) (p:b<=1048576) (q:c<=1048576):CB 80 #[.agg #[.u t,.u cm,.bool j,.slice d b g,.slice f c i,.i a]] w (.bool (kP b c a)):=by
 have e:kP b c a=(decide ((b:Int)<=16)&&decide ((c:Int)<=4096)&&((a==0)||(a==1))):=by unfold kP;rw [decide_eq_decide.2 (show b<=16↔(b:Int)<=16 by omega),decide_eq_decide.2 (show c<=4096↔(c:Int)<=4096 by omega),show decide (0<=a/\a<=1)=((a==0)||(a==1)) by rw [Bool.eq_iff_iff];simp;omega]
 rw [e];refine bf (S:=Bs w [(#[.u t,.u cm,.bool j,.slice d b g,.slice f c i,.i a],30)]) (args:=[.agg #[.u t,.u cm,.bool j,.slice d b g,.slice f c i,.i a]]) [(#[.u t,.u cm,.bool j,.slice d b g,.slice f c i,.i a],30)] func80 ?_;cases l:decide ((b:Int)<=16)<;>cases m:decide ((c:Int)<=4096)<;>cases n:(a==0)<;>cases o:(a==1)<;>exact aU (t:=2) Bs.eng {eq:=[(6,af l),(11,af m),(16,af n),(20,af o)]} 60 (Bs.start _ _) (λk h=>⟨rfl,h.2⟩)
theorem KQ (addr size:Int) (m:addr=33554432->¬ size=4) (k1:addr=33570816->¬ size=8) (n:addr=33603576->¬ size=8) (o:addr=268435456->¬ size=1) (p:addr=268435457->¬ size=1) (q:addr=268435461->¬ size=1) (w:World):CE 313 #[.u addr,.i size] w (.bool false):=by
 have g:∀ {c d:Int},(addr=c->¬ size=d)->(addr==c)=true->(size==d)=false:=λh k=>by simpa using h (by simpa using k)
 refine bf (S:=λx=>x=w) (args:=[.u addr,.i size]) [] func313 ?_;cases a:(addr==33554432);case true=>exact gI (R:=[]) trivial {eq:=[(7,af a),(9,af (g m a))]} 99 (t:=4) ⟨rfl,rfl⟩
 cases b:(addr==33570816);case true=>exact gI (R:=[]) trivial {eq:=[(7,af a),(11,af b),(14,af (g k1 b))]} 99 (t:=4) ⟨rfl,rfl⟩
 cases f:(addr==33603576);case true=>exact gI (R:=[]) trivial {eq:=[(7,af a),(11,af b),(12,af f),(14,af (g n f))]} 99 (t:=4) ⟨rfl,rfl⟩
 cases i:(addr==268435456);case true=>exact gI (R:=[]) trivial {eq:=[(7,af a),(11,af b),(12,af f),(16,af i),(20,af (g o i))]} 99 (t:=4) ⟨rfl,rfl⟩
 cases j:(addr==268435457);case true=>exact gI (R:=[]) trivial {eq:=[(7,af a),(11,af b),(12,af f),(16,af i),(17,af j),(20,af (g p j))]} 99 (t:=4) ⟨rfl,rfl⟩
 cases l:(addr==268435461);case true=>exact gI (R:=[]) trivial {eq:=[(7,af a),(11,af b),(12,af f),(16,af i),(17,af j),(18,af l),(20,af (g q l))]} 99 (t:=4) ⟨rfl,rfl⟩
 exact gI (R:=[]) trivial {eq:=[(7,af a),(11,af b),(12,af f),(16,af i),(17,af j),(18,af l)]} 99 (t:=4) ⟨rfl,rfl⟩
theorem wG (w:World) (k:c.xs.length<=1048576) (l:c.ys.length<=1048576): CB 126 #[.agg #[.u c.t,.u c.cm,.bool c.so,.slice a c.xs.length j,.slice P c.ys.length f,.i c.ir]] w (.u (hH c)):=by obtain ⟨t,g,i,b,o,D⟩:=c;have r:=λW (_:Bw w W)=>gZ t g i a b.length j P o.length f D W k l;have p:decide ((b.length:Int)>0)=decide (0<b.length):=decide_eq_decide.2 ab;unfold hH dD;dsimp only;generalize kP b.length o.length D=x at *;generalize b.length=n at *;generalize o.length=m at *;refine bf (S:=Bs w [(#[.u t,.u g,.bool i,.slice a n j,.slice P m f,.i D],30)]) (args:=[.agg #[.u t,.u g,.bool i,.slice a n j,.slice P m f,.i D]]) [(#[.u t,.u g,.bool i,.slice a n j,.slice P m f,.i D],30)] func126 ?_;cases x<;>cases i<;>cases s:decide (g<=t)<;>cases u:(D==1)<;>cases v:decide (0<n)<;>rw [v] at p<;>exact aU (t:=2) Bs.eng {eq:=[(15,af s),(20,af u),(25,af p)],cv:=[(5,eY r)]} 90 (Bs.start _ _) (λq h=>⟨rfl,h.2⟩)
theorem zk (Q:Nat) (n:Int) (w:World) (m:c.xs.length<=1048576) (p:c.ys.length<=1048576) (hb:dp c) (r:Sl .u8 w a c.xs) (s:Sl .u8 w P c.ys): Calls prog 244 #[.agg #[.u c.t,.u c.cm,.bool c.so,.slice a c.xs.length j,.slice P c.ys.length Q,.i c.ir],.i n] w λe g=>∃ (y:Option Addr) (A:Nat) (z:Option Addr) (B:Nat),e=.returned (.agg (il (gy c n) y A z B)) /\ aZ w.heap.size g.heap.size g (vO (gy c n) y A z B)/\Bw w g:=by
 have D:Hid (∀ w,CB 80 #[.agg #[.u c.t,.u c.cm,.bool c.so,.slice a c.xs.length j,.slice P c.ys.length Q,.i c.ir]] w (.bool (kP c.xs.length c.ys.length c.ir))):=λw=>gZ _ _ _ _ _ _ _ _ _ _ w m p;have q:Hid (∀ g,Bw w g->Calls prog 105 #[.agg #[.u c.t,.u c.cm,.bool c.so,.slice a c.xs.length j,.slice P c.ys.length Q,.i c.ir]] g λe G=>∃ (y:Option Addr) (A:Nat) (z:Option Addr) (B:Nat),e=.returned (.agg #[.u c.t,.u c.cm,.bool c.so,.slice y c.xs.length A,.slice z c.ys.length B,.i c.ir])/\aZ g.heap.size G.heap.size G (fC y c.xs.length A c.xs z c.ys.length B c.ys)/\Bw g G):=λg hb=>lE _ _ _ _ _ _ _ _ _ _ c.xs c.ys g rfl rfl m p (r.below hb) (s.below hb);cases d:kP c.xs.length c.ys.length c.ir with
 | false =>have F:gy c n=zeroD:=(by unfold gy;rw [d];rfl);rw [F];rw [d] at D;clear r s hb m p q F d;obtain ⟨t,V,so,J,K,W⟩:=c;dsimp only at D ⊢;generalize J.length=X at *;generalize K.length=Y at *;go_enter func244,ntmps244;go_wp2_with fail;refine (D.out _).mono ?_;rintro e N ⟨rfl,b⟩;obtain ⟨E,M⟩:=jH b;have R1:=ak M;have H:=ak (aa vc b);obtain ⟨Z,s1,s2,s3,s4,s5⟩:=aH M;obtain ⟨y0,y1,y2,y3,y4,y5⟩:=kY M;clear E M b;go_wp2_with fail;exact bodyPost_ret (results_cell_row results244 _ _ _ _ _ _ _ rfl (eH R1.out _ _ _ _ _ _) underlying30 rfl aT) rfl ⟨none,0,none,0,rfl,gO _ _ _,cK H.out ab _ _ _ _ _ _⟩
 | true =>
   rw [d] at D;cases u:decide (n<0) with
   | true =>have F:gy c n=zeroD:=(by unfold gy;rw [d,u];rfl);rw [F];clear r s hb m p q F d;obtain ⟨t,V,so,J,K,W⟩:=c;dsimp only at D ⊢;generalize J.length=X at *;generalize K.length=Y at *;go_enter func244,ntmps244;go_wp2_with fail;refine (D.out _).mono ?_;rintro e N ⟨rfl,b⟩;obtain ⟨E,M⟩:=jH b;have R1:=ak M;have H:=ak (aa vc b);obtain ⟨Z,s1,s2,s3,s4,s5⟩:=aH M;obtain ⟨y0,y1,y2,y3,y4,y5⟩:=kY M;clear E M b;go_wp2_with fail;exact bodyPost_ret (results_cell_row results244 _ _ _ _ _ _ _ rfl (eH R1.out _ _ _ _ _ _) underlying30 rfl aT) rfl ⟨none,0,none,0,rfl,gO _ _ _,cK H.out ab _ _ _ _ _ _⟩
   | false =>obtain ⟨R,C⟩:∃ R,Uz.wrap (c.t+Uz.wrap n)=R:=⟨_,rfl⟩;have F:gy c n=⟨R,c.cm,c.so,c.xs,c.ys,c.ir⟩:=(by unfold gy;rw [d,u,C];rfl);rw [F];have T:=ak C;clear r s hb m p F d C;obtain ⟨t,V,so,J,K,W⟩:=c;dsimp only [il,vO] at D q T ⊢;generalize J.length=X at *;generalize K.length=Y at *;go_enter func244,ntmps244;go_wp2_with fail;refine (D.out _).mono ?_;rintro e N ⟨rfl,b⟩;obtain ⟨E,M⟩:=jH b;have R0:=ak E;have R1:=ak M;have H:=ak (aa vc b);obtain ⟨p0,p1,p2,p3,p4,p5⟩:=aH E;clear E M b;go_wp2_with fail;refine (q.out _ H.out).mono ?_;rintro e w2 ⟨y,A,z,B,rfl,I,l⟩;have O:=ak I;have S0:=ak (aB l R0.out);have f:=ak (aB l R1.out);have S:=ak (aa H.out l);have U:=ak (show w.heap.size+1<N.heap.size/\N.heap.size<=w2.heap.size from ⟨(Array.getElem?_eq_some_iff.1 R1.out).1,l.size⟩);have u0:=λo=>(aH (ah S0.out o)).1;have Z:=λo=>(aH (ah f.out o)).1;have s1:=λo=>(aH (ah f.out o)).2.1;have s2:=λo=>(aH (ah f.out o)).2.2.1;have s3:=λo=>(aH (ah f.out o)).2.2.2.1;have s4:=λo=>(aH (ah f.out o)).2.2.2.2.1;have s5:=λo=>(aH (ah f.out o)).2.2.2.2.2;have y0:=λo=>dh (ah f.out o) 0;have y1:=λo=>dh (ah f.out o) 1;have y2:=λo=>dh (ah f.out o) 2;have y3:=λo=>dh (ah f.out o) 3;have y4:=λo=>dh (ah f.out o) 4;have y5:=λo=>dh (ah f.out o) 5;clear I l p0 p1 p2 p3 p4 p5;go_wp2_with fail;rw [T.out];exact bodyPost_ret (results_cell_row results244 _ _ _ _ _ _ _ rfl (eH (ah f.out _) _ _ _ _ _ _) underlying30 rfl aT) rfl ⟨y,A,z,B,rfl,(((O.out.below (bal _ _)).put6 (w.heap.size+1) (.inl U.out.1) _ _ _ _ _ _).low (by have:=U.out;omega) (by simp only [aO,World.size_alloc];omega)),cK (S.out.alloc S.out.size _) ab _ _ _ _ _ _⟩
theorem zl (U:Option Addr) (c2:Nat) (b:Int) (w:World) (A:c.xs.length<=1048576) (B:c.ys.length<=1048576) (hb:dp c) (C:Sl .u8 w a c.xs) (H:Sl .u8 w U c.ys): Calls prog 245 #[.agg #[.u c.t,.u c.cm,.bool c.so,.slice a c.xs.length j,.slice U c.ys.length c2,.i c.ir],.int .u8 b] w λe D=>∃ (M:Option Addr) (N:Nat) (y:Option Addr) (z:Nat),e=.returned (.agg (il (gM c b) M N y z)) /\ aZ w.heap.size D.heap.size D (vO (gM c b) M N y z)/\Bw w D:=by
 have g:Hid (∀ w,CB 80 #[.agg #[.u c.t,.u c.cm,.bool c.so,.slice a c.xs.length j,.slice U c.ys.length c2,.i c.ir]] w (.bool (kP c.xs.length c.ys.length c.ir))):=λw=>gZ _ _ _ _ _ _ _ _ _ _ w A B;have G:Hid (∀ D,Bw w D->Calls prog 105 #[.agg #[.u c.t,.u c.cm,.bool c.so,.slice a c.xs.length j,.slice U c.ys.length c2,.i c.ir]] D λe l=>∃ (M:Option Addr) (N:Nat) (y:Option Addr) (z:Nat),e=.returned (.agg #[.u c.t,.u c.cm,.bool c.so,.slice M c.xs.length N,.slice y c.ys.length z,.i c.ir])/\aZ D.heap.size l.heap.size l (fC M c.xs.length N c.xs y c.ys.length z c.ys)/\Bw D l):=λD hb=>lE _ _ _ _ _ _ _ _ _ _ c.xs c.ys D rfl rfl A B (C.below hb) (H.below hb);cases f:kP c.xs.length c.ys.length c.ir with
 | false =>have F:gM c b=zeroD:=(by unfold gM;rw [f];rfl);rw [F];rw [f] at g;clear C H hb A B G F f;obtain ⟨t,cm,so,xs,ys,ir⟩:=c;dsimp only [il,vO] at g ⊢;generalize xs.length=n1 at *;generalize ys.length=n2 at *;go_enter func245,ntmps245;go_wp2_with fail;refine (g.out _).mono ?_;rintro e w1 ⟨rfl,d⟩;obtain ⟨O,I⟩:=jH d;have R0:=ak O;have R1:=ak I;have S:=ak (aa vc d);obtain ⟨s0,s1,s2,s3,s4,s5⟩:=aH I;obtain ⟨y0,y1,y2,y3,y4,y5⟩:=kY I;clear O I d;go_wp2_with fail;exact bodyPost_ret (results_cell_row results245 _ _ _ _ _ _ _ rfl (eH R1.out _ _ _ _ _ _) underlying30 rfl aT) rfl ⟨none,0,none,0,rfl,gO _ _ _,cK S.out ab _ _ _ _ _ _⟩
 | true =>have F:gM c b=⟨c.t,c.cm,c.so,fd c.xs b 16,c.ys,c.ir⟩:=(by unfold gM fd;rw [f,if_pos rfl]);rw [F];have HW:Hid (∀ D,Bw w D->Calls prog 272 #[.slice a c.xs.length j,.int .u8 b,.i 16] D λe l=>∃ (s:Option Addr) (u:Nat),e=.returned (.slice s (fd c.xs b 16).length u)/\l.ownsRow D.heap.size 5 1 (.slice s (fd c.xs b 16).length u) (fd c.xs b 16).length ((fd c.xs b 16).map (Value.int .u8))/\Bw D l):=λD hb=>ot a _ j 16 c.xs b D rfl ab (zg f).1 (C.below hb);rw [f] at g;clear C H hb A B F f;generalize fd c.xs b 16=zs at *;obtain ⟨t,cm,so,xs,ys,ir⟩:=c;dsimp only [il,vO] at g G HW ⊢;generalize hm:zs.length=m at *;generalize xs.length=n1 at *;generalize ys.length=n2 at *;go_enter func245,ntmps245;go_wp2_with fail;refine (g.out _).mono ?_;rintro e w1 ⟨rfl,d⟩;obtain ⟨O,I⟩:=jH d;have R0:=ak O;have R1:=ak I;have S:=ak (aa vc d);obtain ⟨p0,p1,p2,p3,p4,p5⟩:=aH O;clear O I d;go_wp2_with fail;refine (G.out _ S.out).mono ?_;rintro e E ⟨M,N,y,z,rfl,Q,q⟩;have V:=ak Q;have J:=ak (aB q R0.out);have P:=ak (aB q R1.out);have T:=ak (aa S.out q);have K:=ak (show w.heap.size+1<w1.heap.size/\w1.heap.size<=E.heap.size from ⟨(Array.getElem?_eq_some_iff.1 R1.out).1,q.size⟩);have nd1:¬ E.heap.size=w.heap.size+1:=(by have:=K.out;omega);have nd2:¬ w.heap.size+1=E.heap.size:=(by have:=K.out;omega);clear Q q p0 p1 p2 p3 p4 p5;have u0:=λo=>(aH (ah J.out o)).1;have u1:=λo=>(aH (ah J.out o)).2.1;have u2:=λo=>(aH (ah J.out o)).2.2.1;have u3:=λo=>(aH (ah J.out o)).2.2.2.1;have u4:=λo=>(aH (ah J.out o)).2.2.2.2.1;have u5:=λo=>(aH (ah J.out o)).2.2.2.2.2;have s0:=λo=>(aH (ah P.out o)).1;have s1:=λo=>(aH (ah P.out o)).2.1;have s2:=λo=>(aH (ah P.out o)).2.2.1;have s3:=λo=>(aH (ah P.out o)).2.2.2.1;have s4:=λo=>(aH (ah P.out o)).2.2.2.2.1;have s5:=λo=>(aH (ah P.out o)).2.2.2.2.2;have y0:=λo=>dh (ah P.out o) 0;have y1:=λo=>dh (ah P.out o) 1;have y2:=λo=>dh (ah P.out o) 2;have y3:=λo=>dh (ah P.out o) 3;have y4:=λo=>dh (ah P.out o) 4;have y5:=λo=>dh (ah P.out o) 5;go_wp2_with fail;refine (HW.out _ (T.out.alloc T.out.size _)).mono ?_;rintro e w3 ⟨s,u,rfl,R,r⟩;have OW:=ak R;have Z:=ak (aB r (heap_alloc_new E _));have Y:=ak (aB r (ah P.out _));have B3:=ak (aa (T.out.alloc T.out.size _) r);have W:=ak ((V.out.below (bal _ _)).below r);have Z3:=ak (show E.heap.size<w3.heap.size from (Array.getElem?_eq_some_iff.1 Z.out).1);obtain ⟨x0,x1,x2,x3,x4,x5⟩:=aH Z.out;obtain ⟨f0,f1,f2,f3,f4,f5⟩:=kY Z.out;clear u0 s0 y0 u1 s1 y1 u2 s2 y2 u3 s3 y3 u4 s4 y4 u5 s5 y5;obtain ⟨s0,s1,s2,s3,s4,s5⟩:=aH Y.out;obtain ⟨y0,y1,y2,y3,y4,y5⟩:=kY Y.out;clear R r;go_wp2_with fail;have X:=In OW.out ⟨E.heap.size,3,none⟩ (.slice s m u) bv;have A4:=((W.out.set ⟨E.heap.size,3,none⟩ (.slice s m u) (.inr (Nat.le_refl _))).newIn s m u zs _ w3.heap.size X bv (by have:=K.out;simp only [World.size_alloc];omega) ep (by have:=Z3.out;omega)).put6 (w.heap.size+1) (.inl K.out.1) (.u t) (.u cm) (.bool so) (.slice s m u) (.slice y n2 z) (.i ir);have T1:=eH (dS Y.out ⟨E.heap.size,3,none⟩ (.slice s m u) nd2) (.u t) (.u cm) (.bool so) (.slice s m u) (.slice y n2 z) (.i ir);exact bodyPost_ret (results_cell_row results245 _ _ _ _ _ _ _ rfl T1 underlying30 rfl aT) rfl ⟨s,u,y,z,rfl,A4.low (by have:=K.out;omega) eh,cK (B3.out.setCell (p:=⟨E.heap.size,3,none⟩) (by have:=K.out;dsimp only;omega) _) ab _ _ _ _ _ _⟩
theorem vg:Calls prog 313 #[.u l,.i n] m λe a=>e=.returned (.bool (decide (gC l n<6)))/\a=m :=
 jM l n (λk=>CE 313 #[.u l,.i n] m (.bool (decide (k<6)))) (by rintro rfl rfl;exact Kz m) (by rintro rfl rfl;exact KA m) (by rintro rfl rfl;exact KB m) (by rintro rfl rfl;exact KD m) (by rintro rfl rfl;exact KE m) (by rintro rfl rfl;exact KF m) λb c d f g h=>KQ l n b c d f g h m
theorem rC:(l=33554432/\gC l n=0)\/(l=33570816/\gC l n=1)\/(l=33603576/\gC l n=2)\/(l=268435456/\gC l n=3)\/(l=268435457/\gC l n=4)\/(l=268435461/\gC l n=5)\/gC l n=6 :=
 jM l n (λk=>(l=33554432/\k=0)\/(l=33570816/\k=1)\/(l=33603576/\k=2)\/(l=268435456/\k=3)\/(l=268435457/\k=4)\/(l=268435461/\k=5)\/k=6) (by simp_all) (by simp_all) (by simp_all) (by simp_all) (by simp_all) (by simp_all) bc
structure Dv (w:World) (D0:Array Value) (g B:Nat) (cs:Array Value) (L:List FRow) (W:World):Prop where
 inp:W.heap[w.heap.size]?=some (.cells D0 30 (0,0))
 out:∃ o:Array Value,o.size=6/\W.heap[w.heap.size+1]?=some (.cells o 30 (0,0))
 row:W.heap[g]?=some (.cells cs 30 (0,0))
 fam:aZ B W.heap.size W L
 far:∀ q ∈ L,q.v.ownBlock≠some g
 lo:w.heap.size+2<=B/\B<=g
 bl:Bw w W
theorem Dv.below (h:Dv w D g B d b L) {W':World} (k:Bw L W'):Dv w D g B d b W':=⟨aB k h.inp,let ⟨o,a,cs⟩:=h.out;⟨o,a,aB k cs⟩,aB k h.row,(h.fam.below k).low (Nat.le_refl _) k.size,h.far,h.lo,aa h.bl k⟩
theorem Dv.set (h:Dv w D W B d b L) (i:Nat) (v:Value):Dv w D W B (d.setIfInBounds i v) b (L.setCell ⟨W,i,none⟩ v):=by have:=h.lo;refine ⟨dS h.inp _ _ a9,let ⟨o,c,cs⟩:=h.out;⟨o,c,dS cs _ _ a9⟩,bC h.row i v,?_,h.far,h.lo,h.bl.setCell (p:=⟨W,i,none⟩) a9 _⟩;rw [aO];exact ⟨λr a=>ew (h.fam.own r a) λk e=>Below.heap_setCell L _ v k λg=>h.far r a (e.trans (congrArg some g)),h.fam.hi,h.fam.ne⟩
theorem Dv.put (h:Dv w D W B d b L) (cs:Array Value) (hd:cs.size=6):Dv w D W B d b (L.setRow (w.heap.size+1) cs):=by have:=h.lo;obtain ⟨o,g,a⟩:=h.out;refine ⟨(setRow_other _ _ _ _ ab).trans h.inp,⟨cs,hd,setRow_heap _ _ _ _ _ _ a⟩,(setRow_other _ _ _ _ ab).trans h.row,?_,h.far,h.lo,aR h.bl ab _⟩;rw [setRow_size];exact h.fam.mono λk c e f=>setRow_other _ _ _ _ ab
theorem Dv.fin (h:Dv w D W B d b L):aZ w.heap.size L.heap.size L b/\Bw w L:=⟨h.fam.low (by have:=h.lo;omega) (Nat.le_refl _),h.bl⟩
theorem Dv.st {P:Program} (h:Dv w D W B d b L) (T:TypeId) (i:Nat) (v:Value) (hs:d.size=6:=by rfl) (g:i<6:=by decide) (a:(P.info? T).map (·.size)=some 1:=by kernel_rfl) (hv:v.cells=#[v]:=by rfl) (c:v.oneCell'=true:=by rfl):(do Instr.storeAt T (.p W i) v;pure Next.skip:Sem Next).run P L=.ok .skip (L.setCell ⟨W,i,none⟩ v):=
 lV (old:=d[i]) ⟨by simp [World.cell?,h.row,hs,g],dh h.row i⟩ a hv c
theorem Dv.rows (h:Dv w D W B d b L):gH L [⟨w.heap.size,D,[]⟩,⟨w.heap.size,D,[]⟩,⟨W,d,[]⟩]:=⟨⟨_,_,h.inp⟩,⟨_,_,h.inp⟩,⟨_,_,h.row⟩,trivial⟩
theorem Dv.start {D:DV} {i a j b:Option Addr} {l d:Nat} {W2:World} (m:Bs w [(il D i B j l,30),(il zeroD none 0 none 0,30)] L) (h:aZ L.heap.size W2.heap.size W2 (vO D a W b d)) (n:Bw L W2):Dv w (il D i B j l) W2.heap.size L.heap.size (il D a W b d) (vO D a W b d) ((W2.alloc (.cells (Value.agg (il zeroD none 0 none 0)).cells 30)).setRow W2.heap.size (il D a W b d)):=by have f:Bw W2 ((W2.alloc (.cells (Value.agg (il zeroD none 0 none 0)).cells 30)).setRow W2.heap.size (il D a W b d)):=aR (bal _ _) (Nat.le_refl _) _;have g:=(m.below n).below f;have r:=(Array.getElem?_eq_some_iff.1 (m.1 1 _ rfl)).1;have p:=n.size;exact ⟨g.1 0 _ rfl,⟨_,rfl,g.1 1 _ rfl⟩,setRow_heap _ _ _ _ _ _ (heap_alloc_new _ _),(h.below f).low (Nat.le_refl _) f.size,λq o e=>by have:=h.hi q o _ e;omega,⟨ab,p⟩,g.2⟩
theorem rD (m:Option Addr) (p:Nat) (addr size x:Int) (w:World) (E:c.xs.length<=1048576) (F:c.ys.length<=1048576) (hb:dp c) (L:Sl .u8 w a c.xs) (G:Sl .u8 w m c.ys): Calls prog 312 #[.agg #[.u c.t,.u c.cm,.bool c.so,.slice a c.xs.length j,.slice m c.ys.length p,.i c.ir],.u addr,.i size,.u x] w λe O=>∃ (b:Option Addr) (D:Nat) (f:Option Addr) (i:Nat),e=.returned (.tuple #[.agg (il (qW c addr size x).1 b D f i),.bool (qW c addr size x).2]) /\ aZ w.heap.size O.heap.size O (vO (qW c addr size x).1 b D f i)/\Bw w O:=by
 have v:=λW (_:Bw w W)=>gZ c.t c.cm c.so a c.xs.length j m c.ys.length p c.ir W E F
 have H:=λW (_:Bw w W)=>vg addr size W
 unfold qW
 refine bf (S:=Bs w [(il c a j m p,30),(il zeroD none 0 none 0,30)]) (args:=[.agg (il c a j m p),.u addr,.i size,.u x]) [(il c a j m p,30),(il zeroD none 0 none 0,30)] func312 ?_
 cases N:kP c.xs.length c.ys.length c.ir with
 | false =>
   rw [N] at v
   rw [if_neg a6]
   refine ae Bs.eng {cv:=[(12,eY v)]} 40 (Bs.start _ _) λy l=>?_
   exact hO (R:=[]) trivial {} 40 (l.1 1 _ rfl) rfl (gm _ _ _ _ _) underlying30 ⟨none,0,none,0,rfl,gO _ _ _,aR l.2 ab _⟩
 | true =>
   rw [N] at v
   rw [if_pos rfl]
   by_cases P:gC addr size=6
   ·rw [P] at H ⊢
    refine ae Bs.eng {cv:=[(12,eY v),(17,jX H)]} 40 (Bs.start _ _) λy l=>?_
    exact hO (R:=[]) trivial {} 40 (l.1 1 _ rfl) rfl (gm _ _ _ _ _) underlying30 ⟨none,0,none,0,rfl,gO _ _ _,aR l.2 ab _⟩
   ·rw [decide_eq_true (by rcases rC addr size with h|h|h|h|h|h|h<;>omega)] at H
    refine aN Bs.eng {cv:=[(12,eY v),(17,jX H)]} 60 (Bs.start _ _) (λy l=>lE c.t c.cm c.so a c.xs.length j m c.ys.length p c.ir c.xs c.ys y rfl rfl E F (L.below l.2) (G.below l.2)) ?_
    rintro y e A l ⟨b,D,f,i,rfl,U,V⟩
    refine ⟨_,0,rfl,fi a4,?_⟩
    refine fz 3 (cT (T:=30) (z:=.agg (il zeroD none 0 none 0)) a4 A) ?_
    refine bx (aD (g:=A.heap.size) (t:=30) (ty:=30) (old:=il zeroD none 0 none 0) (cells:=il c b D f i) (heap_alloc_new _ _) a4 rfl (gm _ _ _ _ _)) ?_
    have q:=Dv.start l U V
    generalize (A.alloc (.cells (Value.agg (il zeroD none 0 none 0)).cells 30)).setRow A.heap.size (il c b D f i)=s at q ⊢
    generalize A.heap.size=g at q ⊢
    rcases rC addr size with ⟨rfl,e⟩|⟨rfl,e⟩|⟨rfl,e⟩|⟨rfl,e⟩|⟨rfl,e⟩|⟨rfl,e⟩|e<;>rw [e]
    ·refine eB (R:=[]) trivial {} 40 (xG x s) ?_
     rintro e I ⟨rfl,J⟩
     refine ⟨_,0,rfl,?_⟩
     have d:=q.below (Below.refl s.heap.size s).drew
     rw [<- J] at d
     have n:=d.set 2 (.bool (bits .and .u64 x 1==1))
     refine eQ (R:=[]) trivial {} 40 (d.st 4 2 (.bool (bits .and .u64 x 1==1))) ?_
     obtain ⟨o,u,k⟩:=n.out
     exact hO n.rows {} 40 k x7 (gm _ _ _ _ _) underlying30 ⟨b,D,f,i,rfl,(n.put _ rfl).fin⟩
    ·have n:=q.set 1 (.u x)
     refine eQ (R:=[]) trivial {} 40 (q.st 22 1 (.u x)) ?_
     obtain ⟨o,u,k⟩:=n.out
     exact hO n.rows {} 40 k x7 (gm _ _ _ _ _) underlying30 ⟨b,D,f,i,rfl,(n.put _ rfl).fin⟩
    ·have n:=q.set 0 (.u x)
     refine eQ (R:=[]) trivial {} 40 (q.st 22 0 (.u x)) ?_
     obtain ⟨o,u,k⟩:=n.out
     exact hO n.rows {} 40 k x7 (gm _ _ _ _ _) underlying30 ⟨b,D,f,i,rfl,(n.put _ rfl).fin⟩
    ·refine eB q.rows {} 40 (ot m _ p 4096 c.ys (IntKind.u8.wrap x) s rfl ab (zg N).2.1 (G.below q.bl)) ?_
     rintro e I ⟨B,C,rfl,Q,M⟩
     refine ⟨_,0,rfl,?_⟩
     have d:=q.below M
     have Y:=(Array.getElem?_eq_some_iff.1 q.row).1
     have Z:=q.lo
     have X:Dv w (il c a j m p) g y.heap.size (il c b D f i) (vO ⟨c.t,c.cm,c.so,c.xs,fd c.ys (IntKind.u8.wrap x) 4096,c.ir⟩ b D B C) I:=⟨d.inp,d.out,d.row,((q.fam.below M).newOut B _ C _ _ I.heap.size Q (Nat.le_refl _) ab (Nat.le_refl _) M.size),λr K e=>by
      rcases List.mem_cons.1 K with rfl|K
      ·exact q.far _ (List.mem_cons_self ..) e
      ·rw [List.mem_singleton.1 K] at e
       have:=(Q.lt g e).1
       omega,d.lo,d.bl⟩
     have n:=X.set 4 (.slice B (fd c.ys (IntKind.u8.wrap x) 4096).length C)
     refine eQ (R:=[]) trivial {} 40 (d.st 24 4 (.slice B (fd c.ys (IntKind.u8.wrap x) 4096).length C)) ?_
     obtain ⟨o,u,k⟩:=n.out
     exact hO n.rows {} 40 k x7 (gm ⟨c.t,c.cm,c.so,c.xs,fd c.ys (IntKind.u8.wrap x) 4096,c.ir⟩ _ _ _ _) underlying30 ⟨b,D,B,C,rfl,(n.put _ rfl).fin⟩
    ·rw [show fL c x 4=(⟨c.t,c.cm,c.so,c.xs,c.ys,IntKind.i64.wrap (bits .and .u64 x 1)⟩,true) by simp only [fL,IntKind.wrap_i64,wrap64]]
     refine eB (R:=[]) trivial {} 40 (xG x s) ?_
     rintro e I ⟨rfl,J⟩
     refine ⟨_,0,rfl,?_⟩
     have d:=q.below (Below.refl s.heap.size s).drew
     rw [<- J] at d
     have n:=d.set 5 (.i (IntKind.i64.wrap (bits .and .u64 x 1)))
     refine eQ (R:=[]) trivial {} 40 (d.st 2 5 (.i (IntKind.i64.wrap (bits .and .u64 x 1)))) ?_
     obtain ⟨o,u,k⟩:=n.out
     exact hO n.rows {} 40 k x7 (gm _ _ _ _ _) underlying30 ⟨b,D,f,i,rfl,(n.put _ rfl).fin⟩
    ·obtain ⟨o,u,k⟩:=q.out
     exact hO (cs:=il c b D f i) q.rows {} 90 k u (gm _ _ _ _ _) underlying30 ⟨b,D,f,i,rfl,(q.put _ rfl).fin⟩
    ·exact absurd e P
theorem Dv.dw {V:World} (h:Dv w D g B d b L) (k:Dw L V):Dv w D g B d b V:=h.below (k.below (Below.refl _ _))
theorem Dv.ez:Ez (Dv w D W B d b) [⟨w.heap.size,D,[]⟩,⟨w.heap.size,D,[]⟩,⟨W,d,[]⟩]:=⟨λg h=>λr a=>pE h.rows a,λg h=>h.below (Below.refl _ _).drew⟩
theorem KR (g:gC l n≠6) (d:l≠268435456) (W:World):CB 315 #[.agg (il c a j P f),.u l] W (.u (jq c (gC l n)).1):=by
 rcases rC l n with ⟨rfl,e⟩|⟨rfl,e⟩|⟨rfl,e⟩|⟨rfl,e⟩|⟨rfl,e⟩|⟨rfl,e⟩|e<;>rw [e];·exact P5 _ _ _ _ _ _ _ _ _ _ W
 ·exact P6 _ _ _ _ _ _ _ _ _ _ W
 ·exact P7 _ _ _ _ _ _ _ _ _ _ W
 ·exact absurd rfl d
 ·exact P8 _ _ _ _ _ _ _ _ _ _ W
 ·exact P9 _ _ _ _ _ _ _ _ _ _ W
 ·exact absurd e g
theorem th (l:Nat) (addr size:Int) (w:World) (H:c.xs.length<=1048576) (I:c.ys.length<=1048576) (hb:dp c) (J:Sl .u8 w a c.xs) (Q:Sl .u8 w P c.ys): Calls prog 309 #[.agg #[.u c.t,.u c.cm,.bool c.so,.slice a c.xs.length j,.slice P c.ys.length l,.i c.ir],.u addr,.i size] w λe X=>∃ (k:Option Addr) (m:Nat) (b:Option Addr) (D:Nat),e=.returned (.tuple #[.u (ue c addr size).1,.agg (il (ue c addr size).2.1 k m b D),.bool (ue c addr size).2.2]) /\ aZ w.heap.size X.heap.size X (vO (ue c addr size).2.1 k m b D)/\Bw w X:=by
 have F:=λW (_:Bw w W)=>gZ c.t c.cm c.so a c.xs.length j P c.ys.length l c.ir W H I
 have L:=λW (_:Bw w W)=>vg addr size W
 unfold ue
 refine bf (S:=Bs w [(il c a j P l,30),(il zeroD none 0 none 0,30)]) (args:=[.agg (il c a j P l),.u addr,.i size]) [(il c a j P l,30),(il zeroD none 0 none 0,30)] func309 ?_
 cases U:kP c.xs.length c.ys.length c.ir with
 | false =>
   rw [U] at F
   rw [if_neg a6]
   refine ae Bs.eng {cv:=[(13,eY F)]} 40 (Bs.start _ _) λB f=>?_
   refine bx (aD (t:=30) (ty:=30) (cells:=il zeroD none 0 none 0) (f.1 1 _ rfl) a4 rfl (gm _ _ _ _ _)) ?_
   refine jv (R:=[]) trivial {} 40 λd E=>⟨.tuple #[.u 0,.agg (il zeroD none 0 none 0),.bool false],?_,none,0,none,0,rfl,gO _ _ _,aR f.2 ab _⟩
   rw [bF results309 d.tmps _ _ _ _ (0,0) _ (E.slot a4) (setRow_heap _ _ _ _ _ _ (f.1 1 _ rfl)) underlying30 rfl a4,E.slot (v:=.u 0) a4,E.slot (v:=.bool false) a4]
 | true =>
   rw [U] at F
   rw [if_pos rfl]
   by_cases O:gC addr size=6
   ·rw [O] at L ⊢
    refine ae Bs.eng {cv:=[(13,eY F),(18,jX L)]} 40 (Bs.start _ _) λB f=>?_
    refine bx (aD (t:=30) (ty:=30) (cells:=il zeroD none 0 none 0) (f.1 1 _ rfl) a4 rfl (gm _ _ _ _ _)) ?_
    refine jv (R:=[]) trivial {} 40 λd E=>⟨.tuple #[.u 0,.agg (il zeroD none 0 none 0),.bool false],?_,none,0,none,0,rfl,gO _ _ _,aR f.2 ab _⟩
    rw [bF results309 d.tmps _ _ _ _ (0,0) _ (E.slot a4) (setRow_heap _ _ _ _ _ _ (f.1 1 _ rfl)) underlying30 rfl a4,E.slot (v:=.u 0) a4,E.slot (v:=.bool false) a4]
   ·rw [decide_eq_true (by rcases rC addr size with h|h|h|h|h|h|h<;>omega)] at L
    refine aN Bs.eng {cv:=[(13,eY F),(18,jX L)]} 60 (Bs.start _ _) (λB f=>lE c.t c.cm c.so a c.xs.length j P c.ys.length l c.ir c.xs c.ys B rfl rfl H I (J.below f.2) (Q.below f.2)) ?_
    rintro B e G f ⟨k,m,b,D,rfl,F2,k2⟩
    refine ⟨_,0,rfl,fi a4,?_⟩
    refine fz 3 (cT (T:=30) (z:=.agg (il zeroD none 0 none 0)) a4 G) ?_
    refine bx (aD (g:=G.heap.size) (t:=30) (ty:=30) (old:=il zeroD none 0 none 0) (cells:=il c k m b D) (heap_alloc_new _ _) a4 rfl (gm _ _ _ _ _)) ?_
    have q:=Dv.start f F2 k2
    generalize (G.alloc (.cells (Value.agg (il zeroD none 0 none 0)).cells 30)).setRow G.heap.size (il c k m b D)=W3 at q ⊢
    generalize G.heap.size=g at q ⊢
    cases M:(addr==268435456) with
    | false =>
      have Y:=KR c a j P l addr size O (by simpa using M)
      have e2:jq c (gC addr size)=((jq c (gC addr size)).1,c,true):=by
       rcases rC addr size with ⟨rfl,e⟩ | ⟨rfl,e⟩ | ⟨rfl,e⟩ | ⟨rfl,e⟩ | ⟨rfl,e⟩ | ⟨rfl,e⟩ | e<;>first | exact absurd e O | simp at M;done | (rw [e];rfl)
      rw [e2]
      generalize (jq c (gC addr size)).1=v at Y ⊢
      refine aK (Dv w (il c a j P l) g B.heap.size (il c k m b D) (vO c k m b D)) ?_
      refine tC Dv.ez q {eq:=[(25,af M)]} 60 (λW _=>Y W) ?_
      rintro W e N x ⟨rfl,K⟩
      have n:=(q.dw x).below K
      refine ⟨_,0,rfl,n,?_⟩
      exact lT (s:=6) (p:=7) (u:=8) (T:=30) (cs:=il c k m b D) (v1:=.u v) (v2:=.bool true) Dv.ez n {} 60 (λW h=>h.put _ rfl) (λW h=>let ⟨o,x,C⟩:=h.out;⟨o,_,x,C⟩) a4 (gm _ _ _ _ _) underlying30 rfl rfl a4 a4 a4 λW V x C=>⟨k,m,b,D,rfl,(((n.dw x).put _ rfl).dw C).fin⟩
    | true =>
      have e3:addr=268435456:=by simpa using M
      subst e3
      have e4:gC 268435456 size=3:=by rcases rC 268435456 size with h|h|h|h|h|h|h<;>omega
      rw [e4]
      have hw:Uz.wrap (c.xs.getD 0 0)=c.xs.getD 0 0:=KG _ (ja hb.1 0).1 (ja hb.1 0).2
      refine eB q.rows {} 60 (rz a _ j c.xs W3 rfl (by have:=(zg U).1;omega) (J.below q.bl)) ?_
      rintro e N ⟨y,A,rfl,Z,K⟩
      refine ⟨_,0,rfl,?_⟩
      have n:=q.below K
      have s3:=(Array.getElem?_eq_some_iff.1 q.row).1
      have s4:=q.lo
      have q6:Dv w (il c a j P l) g B.heap.size (il c k m b D) (vO ⟨c.t,c.cm,c.so,c.xs.drop 1,c.ys,c.ir⟩ y A b D) N:=⟨n.inp,n.out,n.row,((q.fam.below K).newIn y _ A _ _ N.heap.size Z (Nat.le_refl _) ab (Nat.le_refl _) K.size),λr i e=>by
       rcases List.mem_cons.1 i with rfl|i
       ·have:=(Z.lt g e).1
        omega
       ·exact q.far _ (List.mem_cons_of_mem _ i) e,n.lo,n.bl⟩
      have q5:=q6.set 3 (.slice y (c.xs.drop 1).length A)
      refine eQ (R:=[]) trivial {} 40 (n.st 24 3 (.slice y (c.xs.drop 1).length A)) ?_
      refine aK (Dv w (il c a j P l) g B.heap.size (il ⟨c.t,c.cm,c.so,c.xs.drop 1,c.ys,c.ir⟩ y A b D) (vO ⟨c.t,c.cm,c.so,c.xs.drop 1,c.ys,c.ir⟩ y A b D)) ?_
      exact lT (s:=6) (p:=7) (u:=8) (T:=30) (cs:=il ⟨c.t,c.cm,c.so,c.xs.drop 1,c.ys,c.ir⟩ y A b D) (v1:=.u (Uz.wrap (c.xs.getD 0 0))) (v2:=.bool true) Dv.ez q5 {} 60 (λW h=>h.put _ rfl) (λW h=>let ⟨o,x,C⟩:=h.out;⟨o,_,x,C⟩) a4 (gm _ _ _ _ _) underlying30 rfl rfl a4 a4 a4 λW V x C=>⟨y,A,b,D,by rw [hw];rfl,(((Dv.dw q5 x).put _ rfl).dw C).fin⟩
end Go.Proofs.YtfagphfjfhpmjaaGreatDoor
