/- Own lemmas. -/
import Derived.Test.YtfagphfjfhpmjaaGreatDoorAuj
import Derived.Test.YtfagphfjfhpmjaaGreatDoorJ13
import Derived.RangeFuncNested
import Derived.RangeFuncBound
import Derived.Shelf.RegionOpen
import Derived.OwnWalkIn
import Derived.LoopNIn
import Derived.LoopIn
set_option maxRecDepth 100000
set_option maxHeartbeats 4000000
namespace Go.Proofs.YtfagphfjfhpmjaaGreatDoor
open Go.RowKit Tryz
open IntKind renaming u64->Uz
set_option linter.unusedVariables false
variable (a k w b x:Int) (l:World) (r y c:Nat) (d:List Int) (p:Nat)
theorem kU {B:Nat} {w w':World} (h:Below B w w') (q:Nat):Below B w (w'.drewN q):=⟨h.os,h.tape,h.output,h.size,h.block⟩
def FJ (k:Int):Bool:=(k==1)||(k==2)||(k==3)
theorem qC (k:Int):FJ k=decide (1<=k/\k<=3):=by
 unfold FJ;by_cases a:k=1;·subst a;rfl
 ·by_cases b:k=2;·subst b;rfl
  ·by_cases c:k=3;·subst c;rfl
   ·have:¬ (1<=k/\k<=3):=by omega
    rw [decide_eq_false this];simp [a,b,c]
theorem lF (k:Int) (w:World):CE 106 #[.i k] w (.bool (FJ k)):=by refine bf (S:=λx=>x=w) (args:=[.i k]) [] func106 ?_;unfold FJ;cases a:(k==1)<;>cases b:(k==2)<;>cases c:(k==3)<;>exact gI (R:=[]) trivial {eq:=[(4,af a),(7,af b),(11,af c)]} 40 (t:=2) ⟨rfl,rfl⟩
def BJ (k:Int):Int:=if (k==1)=true then 4 else if (k==2)=true then 1 else 2
theorem BK (k:Int) (w:World):CE 273 #[.i k] w (.u (BJ k)):=by refine bf (S:=λx=>x=w) (args:=[.i k]) [] func273 ?_;unfold BJ;cases a:(k==1)<;>cases b:(k==2)<;>exact gI (R:=[]) trivial {eq:=[(5,af a),(7,af b)]} 40 (t:=2) ⟨rfl,rfl⟩
def Ea (b a x y:Int):Bool:=decide (b<=x)&&decide (y<=a)
theorem Eb:CB 253 #[.agg #[.u a,.u k,.u w],.u b,.u x] l (.bool (Ea a k b x)):=by refine bf (S:=Bs l [(#[.u a,.u k,.u w],101)]) (args:=[.agg #[.u a,.u k,.u w],.u b,.u x]) [(#[.u a,.u k,.u w],101)] func253 ?_;unfold Ea;cases d:decide (a<=b)<;>cases f:decide (x<=k)<;>exact aU (t:=6) Bs.eng {eq:=[(10,af d),(15,af f)]} 60 (Bs.start _ _) (λc h=>⟨rfl,h.2⟩)
def oB (r p k:Int):Bool:=((p==3)&&(bits .and .u64 r 128==0))||(bits .and .u64 r (BJ k) != 0)
theorem Ed:CB 254 #[.agg #[.u a,.u k,.u w],.i b,.i x] l (.bool (oB w b x)):=by refine bf (S:=Bs l [(#[.u a,.u k,.u w],101)]) (args:=[.agg #[.u a,.u k,.u w],.i b,.i x]) [(#[.u a,.u k,.u w],101)] func254 ?_;have d:=BK x;unfold oB;generalize BJ x=m at *;cases f:(b==3)<;>cases g:(bits .and .u64 w 128==0)<;>cases i:(bits .and .u64 w m != 0)<;>exact aU (t:=6) Bs.eng {eq:=[(8,af f),(13,af g),(20,af i)],cv:=[(18,jX λW _=>d W)]} 60 (Bs.start _ _) (λc h=>⟨rfl,h.2⟩)
theorem zq (q:p<4) (w:World) (l:w.cell? ⟨r,y+(16+p),none⟩=some (.u (d.getD (16+p) 0))): CB 191 #[.slice (some ⟨r,y,none⟩) 22 c,.i p] w (.u (sE d p)):=by
 have F:Hid (sE d p=if (p==0)=true then 0 else Uz.wrap (4*d.getD (16+p) 0)):=(rfl:sE d p=_);rcases Nat.eq_zero_or_pos p with h|h;·subst h;go_enter func191,ntmps191;exact a0m
 ·have i:((p:Int)==0)=false:=a8;have m:wrap64 (17+(p:Int))=((17+p:Nat):Int):=lg;have j:wrap64 (((17+p:Nat):Int)-1)=((16+p:Nat):Int):=lg;have g:0<=((16+p:Nat):Int)/\((16+p:Nat):Int)<((22:Nat):Int):=ab;have f:Hid (sE d p=Uz.wrap (4*d.getD (16+p) 0)):=(by have:=F.out;rw [if_neg a8] at this;exact this);clear F;generalize d.getD (16+p) 0=a at *;go_enter func191,ntmps191;go_wp2_with fail;go_ret;exact ⟨by rw [f.out];rfl,Below.refl _ _⟩
theorem Qi:bt (bits .xor .u64 a k) r=(bt a r ^^ bt k r):=by show (BitVec.ofInt 64 (Uz.wrap ((BitVec.ofInt 64 a ^^^ BitVec.ofInt 64 k).toNat:Int))).getLsbD r=_;rw [pZ];simp [bt]
theorem NP (h:r<18446744073709551616):bits .xor .u64 IntKind.u64.max (r:Int)=((18446744073709551615-r:Nat):Int):=by
 have e:IntKind.u64.max=18446744073709551615:=rfl;rw [e];refine bu _ _ (aj _ _ _) ⟨ab,ab⟩ λi b=>?_;rw [Qi,yR i b,oa _ ⟨ab,ab⟩,oa _ ⟨ab,ab⟩];have c:(18446744073709551615-r:Nat)=2^64-(r+1):=ab
 simp only [Int.toNat_natCast];rw [c,Nat.testBit_two_pow_sub_succ h,decide_eq_true b];simp
theorem vj (q:bits .xor .u64 IntKind.u64.max a=(r:Int)) (hk:min y 53=c) (o:c<=53) (w:World) (l:Hid (CE 243 #[.u r] w (.i y))): CB 192 #[.u a] w (.tuple #[.u (qB a c),.u (sF a c)]):=by
 have j:Hid (min y 53=c):=hk;have p:IntKind.u64.signed=false:=rfl;clear hk;go_enter func192,ntmps192;go_wp2_with fail;refine l.out.mono ?_;rintro e x ⟨rfl,d⟩;have f:=d.symm;subst f;go_wp2_with fail;case inl =>
  rename_i b;have k:Hid (c=53):=(by have:=j.out;show c=53;omega);go_quiet (fail)
  go_wp2_with fail;go_ret2;exact ⟨by rw [k.out];rfl,kU (Below.refl _ _) _⟩
 case inr =>
  rename_i b;have m:Hid (c=y):=(by have:=j.out;show c=y;omega);go_quiet (fail)
  go_wp2_with fail;go_ret2;exact ⟨by rw [m.out];rfl,kU (Below.refl _ _) _⟩
theorem wI (h:U a) (w:World) (c:ou w): CB 192 #[.u a] w (.tuple #[.u (qB a (qA a)),.u (sF a (qA a))]):=by
 obtain ⟨n,rfl⟩:∃ n:Nat,a=n:=⟨a.toNat,by have:=h.1;omega⟩;have d:n<18446744073709551616:=by have:=h.2;omega
 have b:(18446744073709551615-(n:Int)).toNat=18446744073709551615-n:=ab
 refine vj (n:Int) (18446744073709551615-n) (Lib.ctz 64 (18446744073709551615-n)) _ (NP n d) ?_ ?_ w (Qb _ ab w c);·unfold qA;rw [b]
 ·unfold qA;exact Nat.min_le_right _ _
theorem KZ (c cap:Nat) (l:List Int) (i:Nat) (D:i<4) (w:World) (C:ou w) (hl:∀ j,U (l.getD j 0)) (d:w.cell? ⟨r,c+16,none⟩=some (.u (l.getD 16 0))) (p:w.cell? ⟨r,c+(17+i),none⟩=some (.u (l.getD (17+i) 0))) (n:w.cell? ⟨r,c+(16+i),none⟩=some (.u (l.getD (16+i) 0))): CB 123 #[.slice (some ⟨r,c,none⟩) 22 cap,.i i] w (.tuple #[.u (eM l i).1,.u (eM l i).2]):=by
 have u:r<w.heap.size:=World.block_lt_of_cell? w _ d;have HR:=λW (_:Bw w W)=>(qk (l.getD 16 0) i ab (hl 16).1 (hl 16).2 W).mono λe g (h:_/\g=W.drew)=>(⟨h.1,by rw [h.2];exact (Below.refl _ _).drew⟩:_/\Bw W g);have z:=λW (k:Bw w W)=>zq r c cap l i D W ((k.cell x7).trans n);have A:=λW (k:Bw w W)=>wI (l.getD (17+i) 0) (hl (17+i)) W (C.below k);have b:IntKind.i64.wrap (17+(i:Int))=((17+i:Nat):Int):=by rw [IntKind.wrap_i64];omega
 have m:0<=((17+i:Nat):Int)/\((17+i:Nat):Int)<((22:Nat):Int):=ab
 obtain ⟨V,f⟩:∃ V,V=eM l i:=⟨_,rfl⟩;rw [<- f];unfold eM at f;generalize sE l i=F at *;generalize qA (l.getD (17+i) 0)=on at *;generalize qB (l.getD (17+i) 0) on=pl at *;generalize sF (l.getD (17+i) 0) on=G at *;generalize iN (l.getD 16 0) i=q at *;generalize l.getD (17+i) 0=a at *;generalize l.getD 16 0=B at *;refine bf (S:=Bs w []) (args:=[.slice (some ⟨r,c,none⟩) 22 cap,.i i]) [] func123 ?_;cases v:(q==1)<;>cases x:(q==2)<;>cases y:(q==3)<;>rw [v,x,y] at f<;>subst f <;>
  exact eC (t:=4) (s:=5) Bs.eng {eq:=[(9,cZ .i64 b),(18,af v),(25,af x),(32,af y)],ov:=[(10,pe (a:=some ⟨r,c,none⟩) (b:=r) (o:=c) 22 cap .i64 ((17+i:Nat):Int) rfl m underlying23 a4),(11,jk ⟨r,c+((17+i:Nat):Int).toNat,none⟩ (.u a) underlying22 rfl λW h=>(h.2.cell x7).trans p),(14,jk ⟨r,c+16,none⟩ (.u B) underlying22 rfl λW h=>(h.2.cell x7).trans d)],cv:=[(16,eY HR),(21,eY z),(34,eY A)]} 60 (Bs.start _ _) λE h=>⟨rfl,h.2⟩
end Go.Proofs.YtfagphfjfhpmjaaGreatDoor
namespace Go.Proofs.YtfagphfjfhpmjaaGreatDoor
open Go.RowKit Tryz Go.Shelf
open IntKind renaming u64->Uz
set_option linter.unusedVariables false
attribute [local go_sem] Oper.semAt_some
variable {g:World} {b:Nat} {W:Obj} {l:Array Value} {n:TypeId} {o:Nat × Nat} (w a c f t B d:Nat) (j:List Int)
theorem rF {w':World} (hb:Bw g w') (row:Option Nat):g.grownBy w' row:=⟨hb.os,hb.tape,hb.output,hb.size,λk a _=>hb.block k a⟩
def K1 (x:Nat × Int × Int × Int):Array Value:=#[.i (x.1:Int),.agg #[.u x.2.1,.u x.2.2.1,.u x.2.2.2]]
theorem BL (hl:∀ l,U (j.getD l 0)) (J Y:List (Nat × Int × Int × Int)->World->Prop) (hb:t<f) (L:c<f) (hg:0<f) (W:World) (hn:f<=W.heap.size) (hT:ou W) (hc:W.cell? ⟨c,0,none⟩=some (.slice (some ⟨t,B,none⟩) 22 d)) (hs:∀ l,l<22->W.cell? ⟨t,B+l,none⟩=some (.u (j.getD l 0))) (hJ:AbidesFrom W.heap.size J) (hY:∀ pre x D,J pre D->pre.length<4->YieldAt Fence.wide (w-1) prog a (K1 x) D λe s=>(e=.returned (.bool true)/\J (pre++[x]) s/\Below f D s)\/(e=.returned (.bool false)/\Y (pre++[x]) s)) (h0:J [] W): CallsIn Fence.wide w prog 122 #[.func (.yield a) #[] #[],.p c 0] W λe s=>(∃ v,e=.returned v)/\((∃ ys,ys=gg j 4/\J ys s)\/(∃ pre,pre <+: gg j 4/\Y pre s)):=by
 have HC:Hid (W.cell? ⟨c,0,none⟩=some (.slice (some ⟨t,B,none⟩) 22 d)):=hc;have X:Hid (∀ l,l<22->W.cell? ⟨t,B+l,none⟩=some (.u (j.getD l 0))):=hs;have HT:Hid (ou W):=hT;have HY:Hid (∀ pre x D,J pre D->pre.length<4->YieldAt Fence.wide (w-1) prog a (K1 x) D λe s=>(e=.returned (.bool true)/\J (pre++[x]) s/\Below f D s)\/(e=.returned (.bool false)/\Y (pre++[x]) s)):=hY;have HJ:Hid (AbidesFrom W.heap.size J):=hJ;have HL:Hid (∀ l,U (j.getD l 0)):=hl;clear hc hs hT hY hJ hl;refine callsIn_of_wp func122 rfl trivial ?_ rfl;simp only [ntmps122,List.size_toArray,List.length_cons,List.length_nil,Nat.reduceAdd,Nat.reduceSub,Array.replicate_succ,Array.replicate_zero,List.push_toArray,List.append_toArray,List.nil_append,List.cons_append];gi_wp2;gi_loopw [7] (λi wr=>∃ k:Nat,k<=4/\i=.i k/\J (gg j k) wr/\Below f W wr) (λi _=>4-(intOf i).toNat);case atStart=>exact ⟨0,ab,rfl,h0,Below.refl _ _⟩
 case round =>
  obtain ⟨k,hk,rfl,N,b⟩:=hrel;have y:Hid (Below f W wr):=b;have C:Hid (J (gg j k) wr):=N;have hcw:wr.cell? ⟨c,0,none⟩=some (.slice (some ⟨t,B,none⟩) 22 d):=(b.cell (p:=⟨c,0,none⟩) L).trans HC.out;have q:f<=wr.heap.size:=Nat.le_trans hn b.size;clear b N;by_cases hlt:k<4
  ·have m:Hid (CB 123 #[.slice (some ⟨t,B,none⟩) 22 d,.i k] wr (.tuple #[.u (eM j k).1,.u (eM j k).2])):=
    KZ t B d j k hlt wr (HT.out.from y.out hg) HL.out ((y.out.cell (p:=⟨t,B+16,none⟩) hb).trans (X.out 16 ab)) ((y.out.cell (p:=⟨t,B+(17+k),none⟩) hb).trans (X.out (17+k) ab)) ((y.out.cell (p:=⟨t,B+(16+k),none⟩) hb).trans (X.out (16+k) ab))
   by_cases o:(eM j k).2<=(eM j k).1
   ·have I:Hid (gg j (k+1)=gg j k):=Ir o;have O:decide ((eM j k).1>=(eM j k).2)=true:=(by simpa using o);gi_wp2_with fail;refine ⟨trivial,(λh=>kd),(callsIn_wide.2 m.out).mono ?_⟩;rintro e Bs ⟨rfl,g⟩;clear m;have A:Hid (J (gg j (k+1)) Bs):=(by have:=HJ.out _ wr Bs none C.out (rF g none) (λr e=>x8);rw [I.out];exact this);have z:Hid (Below f W Bs):=y.out.trans (g.mono q);gi_wp2_with fail;go_roundw;case rel=>exact ⟨k+1,ab,bc,A.out,z.out⟩
    case measure=>simp [intOf];omega
   ·have O:decide ((eM j k).1>=(eM j k).2)=false:=(by simpa using o);have I:Hid (gg j (k+1)=gg j k++[(k,(eM j k).1,Uz.wrap ((eM j k).2-1),cQ (j.getD 16 0) (8*k) 8)]):=Is o;have HPB:Hid (∀ n,Calls prog 124 #[.u (j.getD 16 0),.i k] n λe w'=>e=.returned (.u (cQ (j.getD 16 0) (8*k) 8))/\w'=n.drew):=λn=>og _ k ab (HL.out 16).1 (HL.out 16).2 n;have H:Hid (∀ Bs,Bw wr Bs->Bs.cell? ⟨t,B+16,none⟩=some (.u (j.getD 16 0))/\Bs.cell? ⟨c,0,none⟩=some (.slice (some ⟨t,B,none⟩) 22 d)):=λBs h1 =>
     ⟨(h1.cell (p:=⟨t,B+16,none⟩) (Nat.lt_of_lt_of_le hb q)).trans ((y.out.cell (p:=⟨t,B+16,none⟩) hb).trans (X.out 16 ab)),(h1.cell (p:=⟨c,0,none⟩) (Nat.lt_of_lt_of_le L q)).trans hcw⟩
    have HLN:Hid ((gg j k).length<4):=(by have:=KU j k;show (gg j k).length<4;omega);have HPR:Hid (gg j (k+1) <+: gg j 4):=(by have:=KV j (4-(k+1)) (k+1);rw [show k+1+(4-(k+1))=4 from ab] at this;exact this);generalize cQ (j.getD 16 0) (8*k) 8=E at *;generalize j.getD 16 0=c16 at *;obtain ⟨T,Q⟩:∃ T,(eM j k).1=T:=⟨_,rfl⟩;obtain ⟨s2,R⟩:∃ s2,(eM j k).2=s2:=⟨_,rfl⟩;rw [Q,R] at m I O;clear Q R o;gi_wp2_with fail;refine ⟨trivial,(λh=>kd),(callsIn_wide.2 m.out).mono ?_⟩;rintro e Bs ⟨rfl,g⟩;clear m;obtain ⟨hc1,hc2⟩:=H.out Bs g;have A:Hid (J (gg j k) Bs):=HJ.out _ wr Bs none C.out (rF g none) (λr e=>x8);have z:Hid (Below f W Bs):=y.out.trans (g.mono q);have S:Hid (f<=Bs.heap.size):=Nat.le_trans q g.size;clear g;gi_wp2_with fail;refine ⟨trivial,(λh=>kd),(callsIn_wide.2 (HPB.out _)).mono ?_⟩;rintro e w2 ⟨rfl,hw2⟩;subst hw2;gi_wp2_with fail;obtain ⟨V,F⟩:∃ V,Uz.wrap (s2-1)=V:=⟨_,rfl⟩;have K:Hid (gg j (k+1)=gg j k++[(k,T,V,E)]):=(by have:=I.out;rw [F] at this;exact this);rw [F];clear F I;have G:Hid (Bw Bs ((Bs.alloc (.cells #[.u T,.u V,.u E] 101)).drew)):=(bal _ _).drew;obtain ⟨fn,tmps,assign,body,hy,hR⟩:=HY.out (gg j k) (k,T,V,E) _ (HJ.out _ Bs _ none A.out (rF G.out none) (λr e=>x8)) HLN.out;simp only [K1] at hy;rw [hy];gi_wp2_with fail;refine ⟨(λh=>kd),hR.mono ?_⟩;rintro e W3 (⟨rfl,M,P⟩ | ⟨rfl,u⟩)
    ·have cap:Hid (J (gg j (k+1)) W3):=(by rw [K.out];exact M);have Z:Hid (Below f W W3):=(z.out.trans (G.out.mono S.out)).trans P;clear M P;gi_wp2_with fail;go_roundw;case rel=>exact ⟨k+1,ab,bc,cap.out,Z.out⟩
     case measure=>simp [intOf];omega
    ·have cap:Hid (Y (gg j (k+1)) W3):=(by rw [K.out];exact u);clear u;gi_wp2_with fail;refine bodyPost_ret (results_none rfl _ _ _) rfl ?_;exact ⟨⟨_,rfl⟩,.inr ⟨_,HPR.out,cap.out⟩⟩
  ·obtain rfl:k=4:=ab;gi_wp2_with fail;go_end0;exact ⟨⟨_,rfl⟩,.inl ⟨_,rfl,C.out⟩⟩
theorem Ee (a:Option Addr) (m cap:Nat) (n:World): CallsIn Fence.wide w prog 73 #[.slice a m cap] n λe b=>e=.returned (.func (.func 122) #[] #[.p n.heap.size 0])/\b=n.alloc (.cells #[.slice a m cap] 23):=by refine callsIn_of_wp func73 rfl trivial ?_ rfl;simp only [ntmps73,List.size_toArray,List.length_cons,List.length_nil,Nat.reduceAdd,Nat.reduceSub,Array.replicate_succ,Array.replicate_zero,List.push_toArray,List.append_toArray,List.nil_append,List.cons_append];gi_wp2;go_ret;exact a0g
theorem wJ (hl:∀ l,U (j.getD l 0)) (hb:f<c) (d:a<c) (Bs:0<c) (n:World) (hn:c<=n.heap.size) (m:ou n) (q:n.cell? ⟨a,0,none⟩=some (.slice (some ⟨f,t,none⟩) 22 B)) (hs:∀ l,l<22->n.cell? ⟨f,t+l,none⟩=some (.u (j.getD l 0))):
 SeqStopsK Fence.wide w prog 122 #[.p a 0] K1 (Below c) (λb=>b=gg j 4) (λpre=>pre <+: gg j 4) 4 n:=λs J g W e i k o h =>
 BL w s a c f t B j hl J g hb d Bs W (Nat.le_trans hn e.size) (m.from e (Nat.lt_of_lt_of_le Bs hn)) ((e.cell (p:=⟨a,0,none⟩) (Nat.lt_of_lt_of_le d hn)).trans q)
  (λl r=>(e.cell (p:=⟨f,t+l,none⟩) (Nat.lt_of_lt_of_le hb hn)).trans (hs l r)) i o h
theorem lG {B:World} {row:Option Nat} (h:g.heap[b]?=some (.cells l n o)) (c:g.grownBy B row) (hr:∀ r,row=some r->∃ f:Obj,g.heap[r]?=some f/\f.isCells=false):B.heap[b]?=some (.cells l n o):=by refine (c.block b (Array.getElem?_eq_some_iff.1 h).1 λe=>?_).trans h;obtain ⟨f,a,A⟩:=hr b e.symm;rw [h] at a;cases a;cases A
attribute [local go_sem] Oper.semAt_some
theorem eX {B j:Nat} (h:g.heap[b]?=some W) (a:b≠B) (v:Value):(g.setCell ⟨B,j,none⟩ v).heap[b]?=some W:=by simp only [World.setCell];rw [Array.getElem?_modify,if_neg (by simpa using Ne.symm a)];exact h
theorem tJ {D:Nat} {o:Obj} (h:g.heap[b]?=some W) (a:b≠D):(g.putObj D o).heap[b]?=some W :=
 ((grownBy_putObj' g D o).block b (Array.getElem?_eq_some_iff.1 h).1 qh).trans h
theorem oW (h:g.heap[b]?=some (.cells l n o)) (j:Nat):g.cell? ⟨b,j,none⟩=l[j]?:=by simp [World.cell?,h]
theorem rG (h:g.heap[b]?=some W) (a:Obj):(g.alloc a).heap[b]?=some W:=(Below.heap_alloc g a b (Array.getElem?_eq_some_iff.1 h).1).trans h
theorem zt (x y:Int) (b:World) (hbw:w<b.heap.size) (hs:∀ l,l<22->b.cell? ⟨w,a+l,none⟩=some (.u (j.getD l 0))) (hl:∀ l,U (j.getD l 0)) (hT:ou b): CB 252 #[.slice (some ⟨w,a,none⟩) 22 c,.u x,.u y] b (.tuple #[.agg #[.u (kM j x y).1,.u (kM j x y).2.1,.u (kM j x y).2.2.1],.bool (kM j x y).2.2.2]):=by
 have HS:Hid (∀ l,l<22->b.cell? ⟨w,a+l,none⟩=some (.u (j.getD l 0))):=hs;have HL:Hid (∀ l,U (j.getD l 0)):=hl;have HT:Hid (ou b):=hT;clear hs hl hT;refine (callsIn_wide (n:=3)).1 ?_;refine callsIn_of_wp_marks func252 rfl trivial ?_ rfl;simp only [ntmps252,List.size_toArray,List.length_cons,List.length_nil,Nat.reduceAdd,Nat.reduceSub,Array.replicate_succ,Array.replicate_zero,List.push_toArray,List.append_toArray,List.nil_append,List.cons_append];gi_wp2_with fail;refine ⟨trivial,(Ee _ _ _ _ _).mono ?_⟩;rintro e N ⟨rfl,rfl⟩;gi_wp2_with fail;have bX:=((((Boxed.new b 22 (.u x)).alloc (.cells #[.u y] 22)).alloc (.cells #[.u 0,.u 0,.u 0] 101)).alloc (.cells #[.bool false] 4)).alloc (.cells #[.slice (some ⟨w,a,none⟩) 22 c] 23);have bY:=(((Boxed.new (b.alloc (.cells #[.u x] 22)) 22 (.u y)).alloc (.cells #[.u 0,.u 0,.u 0] 101)).alloc (.cells #[.bool false] 4)).alloc (.cells #[.slice (some ⟨w,a,none⟩) 22 c] 23);have bR:=rG (rG (World.alloc_heap_new ((b.alloc (.cells #[.u x] 22)).alloc (.cells #[.u y] 22)) (.cells #[.u 0,.u 0,.u 0] 101)) (.cells #[.bool false] 4)) (.cells #[.slice (some ⟨w,a,none⟩) 22 c] 23);have bB:=(Boxed.new (((b.alloc (.cells #[.u x] 22)).alloc (.cells #[.u y] 22)).alloc (.cells #[.u 0,.u 0,.u 0] 101)) 4 (.bool false)).alloc (.cells #[.slice (some ⟨w,a,none⟩) 22 c] 23);have bS:=Boxed.new ((((b.alloc (.cells #[.u x] 22)).alloc (.cells #[.u y] 22)).alloc (.cells #[.u 0,.u 0,.u 0] 101)).alloc (.cells #[.bool false] 4)) 23 (.slice (some ⟨w,a,none⟩) 22 c);simp only [World.size_alloc] at bY bR bB bS;have L:Bw b (((((b.alloc (.cells #[.u x] 22)).alloc (.cells #[.u y] 22)).alloc (.cells #[.u 0,.u 0,.u 0] 101)).alloc (.cells #[.bool false] 4)).alloc (.cells #[.slice (some ⟨w,a,none⟩) 22 c] 23)):=(((((Below.refl _ b).alloc (Nat.le_refl _) _).alloc bc _).alloc a8 _).alloc a8 _).alloc a8 _;have hz6:(((((b.alloc (.cells #[.u x] 22)).alloc (.cells #[.u y] 22)).alloc (.cells #[.u 0,.u 0,.u 0] 101)).alloc (.cells #[.bool false] 4)).alloc (.cells #[.slice (some ⟨w,a,none⟩) 22 c] 23)).heap.size=b.heap.size+5:=bc
 obtain ⟨N,S⟩:∃ N,((((b.alloc (.cells #[.u x] 22)).alloc (.cells #[.u y] 22)).alloc (.cells #[.u 0,.u 0,.u 0] 101)).alloc (.cells #[.bool false] 4)).alloc (.cells #[.slice (some ⟨w,a,none⟩) 22 c] 23)=N:=⟨_,rfl⟩;rw [S] at bX bY bR bB bS L hz6 ⊢;clear S;have hT6:ou N:=HT.out.below L;have hs6:∀ l,l<22->N.cell? ⟨w,a+l,none⟩=some (.u (j.getD l 0)):=λl hj=>(L.cell (p:=⟨w,a+l,none⟩) hbw).trans (HS.out l hj);have hg5:0<b.heap.size:=HT.out.lt;refine wpIn_rangeFunc_ownH rfl ab (gf:=122) (lb:=#[.p (b.heap.size+1+1+1+1) 0]) rfl trivial (enters_of func122 a4 rfl)
  (wJ 2 (b.heap.size+1+1+1+1) (b.heap.size+5) w a c j HL.out ab ab ab N ab hT6 bS.cell hs6) belowK_t (belowK_b ab) (Below.refl _ _) (λ_=>rfl)
  (λpre W=>((∀ p ∈ pre,jB x y p=false)/\Boxed W b.heap.size 22 (.u x)/\Boxed W (b.heap.size+1) 22 (.u y)/\W.heap[b.heap.size+1+1]?=some (.cells #[.u 0,.u 0,.u 0] 101 (0,0))/\Boxed W (b.heap.size+1+1+1) 4 (.bool false)/\b.heap.size+5<=W.heap.size)/\Bw b W)
  (λcap pre W=>(cap=.ret/\∃ C d,pre=C++[d]/\(∀ p ∈ C,jB x y p=false)/\jB x y d=true/\W.heap[b.heap.size+1+1]?=some (.cells #[.u d.2.1,.u d.2.2.1,.u d.2.2.2] 101 (0,0))/\Boxed W (b.heap.size+1+1+1) 4 (.bool true))/\Bw b W)
  (OwnFrom.and (λs A B row hs H I=>⟨hs.1,lG hs.2.1 H (λr e=>(I r e).2),lG hs.2.2.1 H (λr e=>(I r e).2),lG hs.2.2.2.1 H (λr e=>(I r e).2),lG hs.2.2.2.2.1 H (λr e=>(I r e).2),Nat.le_trans hs.2.2.2.2.2 H.size⟩) (ownFrom_below (Nat.le_refl _) ab))
  (λcap=>OwnFrom.and (λs A B row hs H I=>by obtain ⟨hc,C,d,e1,e2,e3,e4,e5⟩:=hs;exact ⟨hc,C,d,e1,e2,e3,lG e4 H (λr e=>(I r e).2),lG e5 H (λr e=>(I r e).2)⟩) (ownFrom_below (Nat.le_refl _) ab))
  ⟨⟨bc,bX,bY,bR,bB,ab⟩,L⟩
  (λq a' W=>∃ J,b.heap.size+4<=J/\W.heap[J]?=some (.cells #[.u q.2.1,.u q.2.2.1,.u q.2.2.2] 101 (0,0))/\a'={tmps:=#[.slice (some ⟨w,a,none⟩) 22 c,.u x,.u y,undef,.p b.heap.size 0,.p (b.heap.size+1) 0,.p (b.heap.size+1+1) 0,.p (b.heap.size+1+1+1) 0,undef,.p J 0,.slice (some ⟨w,a,none⟩) 22 c,.func (.func 122) #[] #[.p (b.heap.size+1+1+1+1) 0],.i (q.1:Int),.agg #[.u q.2.1,.u q.2.2.1,.u q.2.2.2],undef,undef,undef,undef,undef,undef,undef,undef,undef,undef,undef,undef],defers:=[]})
  (λq a' _ X Y row hs H I=>by obtain ⟨J,Z,h2,h3⟩:=hs;exact ⟨J,Z,lG h2 H (λr e=>(I r e).2),h3⟩)
  ?assign ?body ?done ?stop
 case assign =>rintro lp pre q W K ⟨⟨O,t,u,f,m,z⟩,o⟩ R;simp only [K1];gi_wp2_with fail;exact R _ _ ((KeepsOthers.alloc _ _).from _) ((Below.refl _ W).alloc z _) ⟨⟨O,t.alloc _,u.alloc _,rG f _,m.alloc _,a8⟩,o.alloc o.size _⟩ ⟨W.heap.size,m.lt,World.alloc_heap_new W _,rfl⟩
 case body =>
  rintro lp pre q a' W hlp ⟨r,I⟩ ⟨⟨O,t,u,f,m,z⟩,o⟩ ⟨J,hBx,bQ,rfl⟩ hlt;have q0:W.cell? ⟨J,0,none⟩=some (.u q.2.1):=(by simp [World.cell?,bQ]);have q1:W.cell? ⟨J,1,none⟩=some (.u q.2.2.1):=(by simp [World.cell?,bQ]);have q2:W.cell? ⟨J,2,none⟩=some (.u q.2.2.2):=(by simp [World.cell?,bQ]);have cX:=t.cell;have cY:=u.cell;have M:Hid (jB x y q=(decide (q.2.1<=y)&&decide (x<=q.2.2.1))):=(rfl:jB x y q=_);cases Z:decide (q.2.1<=y) with
  | false =>rw [Z] at M;have V:Hid (jB x y q=false):=M.out;gi_wp2_with fail;exact ⟨KeepsFrom.refl _ _,Below.refl _ _,⟨λp P=>(List.mem_append.1 P).elim (O p) (λe=>by simp at e;subst e;exact V.out),t,u,f,m,z⟩,o⟩
  | true =>
    rw [Z] at M;cases h2:decide (x<=q.2.2.1) with
    | false =>rw [h2] at M;have V:Hid (jB x y q=false):=M.out;gi_wp2_with fail;exact ⟨KeepsFrom.refl _ _,Below.refl _ _,⟨λp P=>(List.mem_append.1 P).elim (O p) (λe=>by simp at e;subst e;exact V.out),t,u,f,m,z⟩,o⟩
    | true =>
      rw [h2] at M;have V:Hid (jB x y q=true):=M.out;have r0:W.cell? ⟨b.heap.size+1+1,0,none⟩=some (.u 0):=sv;have r1:W.cell? ⟨b.heap.size+1+1,1,none⟩=some (.u 0):=sv;have r2:W.cell? ⟨b.heap.size+1+1,2,none⟩=some (.u 0):=sv;have g0:W.frozen? ⟨b.heap.size+1+1,0,none⟩=false:=ph;have g1:W.frozen? ⟨b.heap.size+1+1,1,none⟩=false:=ph;have g2:W.frozen? ⟨b.heap.size+1+1,2,none⟩=false:=ph;have cB:=m.cell;have fB:=m.frozen;have Z1:Hid (KeepsFrom N.heap.size W ((((W.setCell ⟨b.heap.size+1+1,0,none⟩ (.u q.2.1)).setCell ⟨b.heap.size+1+1,1,none⟩ (.u q.2.2.1)).setCell ⟨b.heap.size+1+1,2,none⟩ (.u q.2.2.2)).setCell ⟨b.heap.size+1+1+1,0,none⟩ (.bool true))):=((((KeepsOthers.setCell W _ _).trans (KeepsOthers.setCell _ _ _)).trans (KeepsOthers.setCell _ _ _)).trans (KeepsOthers.setCell _ _ _)).from _
      have Z2:Hid (((((W.setCell ⟨b.heap.size+1+1,0,none⟩ (.u q.2.1)).setCell ⟨b.heap.size+1+1,1,none⟩ (.u q.2.2.1)).setCell ⟨b.heap.size+1+1,2,none⟩ (.u q.2.2.2)).setCell ⟨b.heap.size+1+1+1,0,none⟩ (.bool true)).heap[b.heap.size+1+1]?=some (.cells #[.u q.2.1,.u q.2.2.1,.u q.2.2.2] 101 (0,0))):=eX (fH (fH (fH f _) _) _) ab _;have Z3:Hid (Boxed ((((W.setCell ⟨b.heap.size+1+1,0,none⟩ (.u q.2.1)).setCell ⟨b.heap.size+1+1,1,none⟩ (.u q.2.2.1)).setCell ⟨b.heap.size+1+1,2,none⟩ (.u q.2.2.2)).setCell ⟨b.heap.size+1+1+1,0,none⟩ (.bool true)) (b.heap.size+1+1+1) 4 (.bool true)):=Boxed.set _ (v:=.bool false) (eX (eX (eX m ab _) ab _) ab _);have Z4:Hid (Bw b ((((W.setCell ⟨b.heap.size+1+1,0,none⟩ (.u q.2.1)).setCell ⟨b.heap.size+1+1,1,none⟩ (.u q.2.2.1)).setCell ⟨b.heap.size+1+1,2,none⟩ (.u q.2.2.2)).setCell ⟨b.heap.size+1+1+1,0,none⟩ (.bool true))):=(((o.setCell (p:=⟨b.heap.size+1+1,0,none⟩) a8 _).setCell (p:=⟨b.heap.size+1+1,1,none⟩) a8 _).setCell (p:=⟨b.heap.size+1+1,2,none⟩) a8 _).setCell (p:=⟨b.heap.size+1+1+1,0,none⟩) a8 _;gi_wp2_with fail;exact ⟨Z1.out,⟨rfl,pre,q,rfl,O,V.out,Z2.out,Z3.out⟩,Z4.out⟩
 case done =>rintro D ys W hD rfl ⟨⟨O,t,u,f,m,z⟩,o⟩ R;have FN:Hid (kM j x y=(0,0,0,false)):=(by show kM j x y=_;unfold kM;rw [Iu O]);have r0:W.cell? ⟨b.heap.size+1+1,0,none⟩=some (.u 0):=sv;have r1:W.cell? ⟨b.heap.size+1+1,1,none⟩=some (.u 0):=sv;have r2:W.cell? ⟨b.heap.size+1+1,2,none⟩=some (.u 0):=sv;have g0:W.frozen? ⟨b.heap.size+1+1,0,none⟩=false:=ph;have g1:W.frozen? ⟨b.heap.size+1+1,1,none⟩=false:=ph;have g2:W.frozen? ⟨b.heap.size+1+1,2,none⟩=false:=ph;have cB:=m.cell;have fB:=m.frozen;have k1:Hid (((((W.setCell ⟨b.heap.size+1+1,0,none⟩ (.u 0)).setCell ⟨b.heap.size+1+1,1,none⟩ (.u 0)).setCell ⟨b.heap.size+1+1,2,none⟩ (.u 0)).setCell ⟨b.heap.size+1+1+1,0,none⟩ (.bool false)).heap[D]?=some (.deferred (some []))):=eX (eX (eX (eX R ab _) ab _) ab _) ab _;have z2:((((W.setCell ⟨b.heap.size+1+1,0,none⟩ (.u 0)).setCell ⟨b.heap.size+1+1,1,none⟩ (.u 0)).setCell ⟨b.heap.size+1+1,2,none⟩ (.u 0)).setCell ⟨b.heap.size+1+1+1,0,none⟩ (.bool false)).heap[b.heap.size+1+1]?=some (.cells #[.u 0,.u 0,.u 0] 101 (0,0)):=eX (fH (fH (fH f _) _) _) ab _;have z3:Boxed ((((W.setCell ⟨b.heap.size+1+1,0,none⟩ (.u 0)).setCell ⟨b.heap.size+1+1,1,none⟩ (.u 0)).setCell ⟨b.heap.size+1+1,2,none⟩ (.u 0)).setCell ⟨b.heap.size+1+1+1,0,none⟩ (.bool false)) (b.heap.size+1+1+1) 4 (.bool false):=Boxed.set _ (v:=.bool false) (eX (eX (eX m ab _) ab _) ab _);have z4:Hid (Bw b ((((W.setCell ⟨b.heap.size+1+1,0,none⟩ (.u 0)).setCell ⟨b.heap.size+1+1,1,none⟩ (.u 0)).setCell ⟨b.heap.size+1+1,2,none⟩ (.u 0)).setCell ⟨b.heap.size+1+1+1,0,none⟩ (.bool false))):=(((o.setCell (p:=⟨b.heap.size+1+1,0,none⟩) a8 _).setCell (p:=⟨b.heap.size+1+1,1,none⟩) a8 _).setCell (p:=⟨b.heap.size+1+1,2,none⟩) a8 _).setCell (p:=⟨b.heap.size+1+1+1,0,none⟩) a8 _;have Z2:Hid (((((((W.setCell ⟨b.heap.size+1+1,0,none⟩ (.u 0)).setCell ⟨b.heap.size+1+1,1,none⟩ (.u 0)).setCell ⟨b.heap.size+1+1,2,none⟩ (.u 0)).setCell ⟨b.heap.size+1+1+1,0,none⟩ (.bool false))).putObj D (.deferred none)).heap[b.heap.size+1+1]?=some (.cells #[.u 0,.u 0,.u 0] 101 (0,0))):=tJ z2 ab;have Z3:Hid (Boxed (((((W.setCell ⟨b.heap.size+1+1,0,none⟩ (.u 0)).setCell ⟨b.heap.size+1+1,1,none⟩ (.u 0)).setCell ⟨b.heap.size+1+1,2,none⟩ (.u 0)).setCell ⟨b.heap.size+1+1+1,0,none⟩ (.bool false)).putObj D (.deferred none)) (b.heap.size+1+1+1) 4 (.bool false)):=tJ z3 ab;clear z2 z3;gi_wp2_with fail;refine ⟨bc,.inl ⟨_,_,rfl,run_takeDeferred k1.out,?_⟩⟩;have Q:=Z2.out;have y3:=Z3.out.cell;refine ⟨.tuple #[.agg #[.u 0,.u 0,.u 0],.bool false],?_,by rw [FN.out],z4.out.trans (belowK_b (w:=b) (Nat.le_refl _) _ D _ _ ab k1.out rfl rfl)⟩;have E:=oW Q 0;have F:=oW Q 1;have G:=oW Q 2;simp at E F G;simp [results,Tryz.f252,go_sem,E,F,G,y3]
 case stop =>rintro D cap pre W hD T ⟨⟨rfl,C,d,e1,e2,e3,f,m⟩,o⟩ R;have FN:Hid (kM j x y=(d.2.1,d.2.2.1,d.2.2.2,true)):=(by show kM j x y=_;unfold kM;rw [It T e1 e2 e3]);gi_wp2_with fail;refine ⟨bc,.inl ⟨_,_,rfl,run_takeDeferred R,?_⟩⟩;have Q:(W.putObj D (.deferred none)).heap[b.heap.size+1+1]?=_:=tJ f ab;have y3:=Boxed.cell (show Boxed (W.putObj D (.deferred none)) (b.heap.size+1+1+1) 4 (.bool true) from tJ m ab);have E:=oW Q 0;have F:=oW Q 1;have G:=oW Q 2;simp at E F G;refine ⟨.tuple #[.agg #[.u d.2.1,.u d.2.2.1,.u d.2.2.2],.bool true],?_,by rw [FN.out],o.trans (belowK_b (w:=b) (Nat.le_refl _) W D _ _ ab R rfl rfl)⟩;simp [results,Tryz.f252,go_sem,E,F,G,y3]
end Go.Proofs.YtfagphfjfhpmjaaGreatDoor
namespace Go.Proofs.YtfagphfjfhpmjaaGreatDoor
open Go.RowKit Tryz
open IntKind renaming u64->Uz
set_option linter.unusedVariables false
variable {x:List Int} {l:Nat} (k:MV) (n:DV) (D:List Int) (a:Nat) (p s w M:Int)
theorem K3 (hl:∀ j,U (x.getD j 0)) {q:Nat × Int × Int × Int} (h:q ∈ gg x l):∃ z:Nat,z<256/\q.2.2.2=z:=by
 obtain ⟨_,e⟩:=NM h;unfold mM at e;split at e;·cases e
 ·have:=Option.some.inj e;rw [<- this];obtain ⟨a,b⟩:=kv (x.getD 16 0) (8*q.1) 8;exact ⟨(cQ (x.getD 16 0) (8*q.1) 8).toNat,ab,by show cQ _ _ _=_;omega⟩
theorem Ix (hz:a<256) (p k:Int):wq a p k=oB a p k:=by
 obtain ⟨z,e,b,c,d,f⟩:=RB a hz;unfold wq oB BJ;rw [z];cases h:((p==3)&&((a:Int)/128==0)) with
 | true=>rfl
 | false =>
   cases g:(k==1) with
   | true=>simp only [if_true,Bool.false_eq_true,if_false,Bool.false_or];rw [b]
   | false =>
     cases i:(k==2) with
     | true=>simp only [if_true,Bool.false_eq_true,if_false,Bool.false_or];rw [c]
     | false=>simp only [Bool.false_eq_true,if_false,Bool.false_or];rw [d]
theorem K4 (hl:∀ j,U (x.getD j 0)) (a:br 22 x=true) (p l y k:Int): aE x p l y k 4 0=if (kM x l y).2.2.2=true then (Ea (kM x l y).1 (kM x l y).2.1 l y&&oB (kM x l y).2.2.1 p k) else (p==3):=by
 rw [Iw hl a p l y k 4 0 ab];have c:(List.range' 0 4).filterMap (mM x)=gg x 4:=by unfold gg;rw [List.range_eq_range']
 rw [c];unfold kM;cases b:(gg x 4).find? (jB l y) with
 | none=>rfl
 | some q =>
   obtain ⟨z,d,e⟩:=K3 hl (List.mem_of_find?_eq_some b);show (!(decide (l<q.2.1)||decide (q.2.2.1<y))&&wq q.2.2.2 p k)=(Ea q.2.1 q.2.2.1 l y&&oB q.2.2.2 p k);rw [e,Ix z d p k];congr 1;unfold Ea;rw [Bool.not_or];congr 1;·rw [<- decide_not];congr 1;exact propext ⟨λh=>ab,λh=>ab⟩
   ·rw [<- decide_not];congr 1;exact propext ⟨λh=>ab,λh=>ab⟩
theorem K5 {w:World} {a:Option Addr} (hs:Sl .u64 w a x) (hz:x.length=22):∃ b c,a=some ⟨b,c,none⟩/\b<w.heap.size/\∀ j,j<22->w.cell? ⟨b,c+j,none⟩=some (.u (x.getD j 0)):=by obtain ⟨b,c,rfl,f,_⟩:=hs 0 ab;refine ⟨b,c,rfl,f,λj i=>?_⟩;obtain ⟨h,d,e,_,g⟩:=hs j ab;cases e;exact g
theorem kA (a:Option Addr) (n cap:Nat) (l:List Int) (p x s k:Int) (w:World) (hz:l.length=n) (hs:Sl .u64 w a l) (hl:∀ j,U (l.getD j 0)) (hx:U x) (O:ou w):CB 209 #[.slice a n cap,.i p,.u x,.i s,.i k] w (.bool (uA n l p x s k)):=by
 have A:=λW (i:Bw w W)=>fp a n cap l p W hz (hs.below i) hl;have B:=gG s;have o:=lF k;rw [qC] at o;have D:Uz.wrap (Uz.wrap (x+Uz.wrap s)-1)=bm x s:=rfl;have L:be n l p=true->(∀ W,Bw w W->CB 252 #[.slice a n cap,.u x,.u (bm x s)] W (.tuple #[.agg #[.u (kM l x (bm x s)).1,.u (kM l x (bm x s)).2.1,.u (kM l x (bm x s)).2.2.1],.bool (kM l x (bm x s)).2.2.2])) /\
  aE l p x (bm x s) k 4 0=if (kM l x (bm x s)).2.2.2=true then (Ea (kM l x (bm x s)).1 (kM l x (bm x s)).2.1 x (bm x s)&&oB (kM l x (bm x s)).2.2.1 p k) else (p==3):=by
  intro h
  obtain ⟨rfl,V⟩:=gF h
  have u:br 22 l=true:=by unfold be at h;rw [Bool.and_eq_true] at h;exact h.1
  obtain ⟨b,f,rfl,i,P⟩:=K5 hs hz
  exact ⟨λW q=>zt b f cap l x (bm x s) W (Nat.lt_of_lt_of_le i q.size) (λj Q=>(q.cell (p:=⟨b,f+j,none⟩) i).trans (P j Q)) hl (O.below q),K4 hl u p x (bm x s) k⟩
 unfold uA;generalize aE l p x (bm x s) k 4 0=X at *;generalize decide (1<=k/\k<=3)=E at *;generalize jr s=G at *;generalize bm x s=y at *;generalize be n l p=F at *;generalize kM l x y=m at *;obtain ⟨d,c,r,R⟩:=m;refine bf (S:=Bs w []) (args:=[.slice a n cap,.i p,.u x,.i s,.i k]) [] func209 ?_;cases C:decide (y<x);case' false=>cases F;case' true=>cases G;case' true=>cases E
 case false.true.true.true =>obtain ⟨K,H⟩:=L rfl;refine ae Bs.eng {eq:=[(32,cZ .u64 D),(35,af C)],cv:=[(16,eY A),(20,jX λW _=>B W),(25,jX λW _=>o W),(40,eY K)]} 60 (Bs.start _ _) λW h=>?_;refine fz 1 (cT (T:=101) (z:=.agg #[.u 0,.u 0,.u 0]) a4 W) ?_;refine bx (aD (g:=W.heap.size) (t:=101) (ty:=101) (cells:=#[.u d,.u c,.u r]) (heap_alloc_new _ _) a4 rfl a4) ?_;refine aK (R1 w W.heap.size #[.u d,.u c,.u r] 101) ?_;have I:=λW=>Eb d c r x y W;have J:=λW=>Ed d c r p k W;generalize Ea d c x y=N at *;generalize oB r p k=Y at *;subst H;cases R<;>cases N<;>exact aU (t:=10) R1.eng {cv:=[(50,jb R1.below λW _=>I W),(55,jb R1.below λW _=>J W)]} 60 (R1.new h.2) (λM h=>⟨rfl,h.2⟩)
 all_goals (try cases F)<;>(try cases G)<;>(try cases E)<;>exact aU (t:=10) Bs.eng {eq:=[(32,cZ .u64 D),(35,af C)],cv:=[(16,eY A),(20,jX λW _=>B W),(25,jX λW _=>o W)]} 60 (Bs.start _ _) (λM h=>⟨rfl,h.2⟩)
theorem K6 (h:U p):bits .or .u64 (bits .andNot .u64 p s) (bits .and .u64 p s)=p:=by refine bu _ _ (aj _ _ _) h λi a=>?_;rw [cg,aA _ _ _ a,az];cases bt p i<;>cases bt s i<;>rfl
theorem K7 (hk:a<D.length) (hx:D.getD a 0=p):D.set a p=D:=by
 have:D[a]=p:=by rw [<- hx];simp [List.getD,List.getElem?_eq_getElem hk]
 rw [<- this];exact List.set_getElem_self hk
theorem rH {M:MV} (a:M.cs.length=22) (b:U (M.cs.getD 9 0)) (hb:lD M=true):bL M=M:=by
 have e:bits .and .u64 (M.cs.getD 9 0) 2184=dD M.d:=by unfold lD at hb;simpa using hb
 have s:M.cs.set 9 (bits .or .u64 (bits .andNot .u64 (M.cs.getD 9 0) 2184) (dD M.d))=M.cs:=by rw [<- e];exact K7 _ 9 _ ab (K6 _ _ b).symm
 unfold bL;rw [s]
theorem FK (h:U p):bits .andNot .u64 p 7=p/8*8:=by
 refine bu _ _ (aj _ _ _) ⟨by have:=h.1;omega,by have:=h.2;omega⟩ λi c=>?_;have d:=m0 (p/8) ⟨by have:=h.1;omega,by have:=h.2;omega⟩ 3 i;have f:Uz.wrap (p/8*2^3)=p/8*8:=by have l:=h.1;have m:=h.2;rw [IntKind.wrap_u64];omega
 rw [f] at d;rw [d,aA _ _ _ c];have k:∀ i,i<64->bt 7 i=decide (i<3):=bb
 rw [k i c];by_cases a:i<3
 ·have:¬ 3<=i:=by omega
  simp [a,this]
 ·have g:3<=i:=ab;have j:bt (p/8) (i-3)=bt p i:=(by have b:=jw p h 3 (i-3);rw [show i-3+3=i by omega] at b;have e:(2:Int)^3=8:=a6;rw [e] at b;exact b);simp [a,g,j,c]
theorem NQ (a:U p) (hd:U k.hd):(k.hl&&(Uz.wrap (p.tdiv 8)==Uz.wrap (k.hd.tdiv 8)))=lC k p:=by
 have e:∀ x:Int,U x->Uz.wrap (x.tdiv 8)=x/8:=λx h=>by have b:=h.1;have c:=h.2;rw [Int.tdiv_eq_ediv_of_nonneg b,IntKind.wrap_u64];omega
 unfold lC;rw [e p a,e k.hd hd,FK p a,FK k.hd hd];congr 1;by_cases h:p/8=k.hd/8;·rw [h];simp
 ·rw [beq_eq_false_iff_ne.2 h,beq_eq_false_iff_ne.2 ab]
theorem FL (h:kP n.xs.length n.ys.length n.ir=true) (hk:(jq n a).2.2=true):kP (jq n a).2.1.xs.length (jq n a).2.1.ys.length (jq n a).2.1.ir=true:=by
 have k:=uo h;match a,hk with
 | 0,_=>exact h
 | 1,_=>exact h
 | 2,_=>exact h
 | 3,_ =>show kP (n.xs.drop 1).length n.ys.length n.ir=true;unfold kP at h ⊢;simp only [Bool.and_eq_true,decide_eq_true_eq,List.length_drop] at h ⊢;omega
 | 4,_=>exact h
 | 5,_=>exact h
theorem K8:0<=wrap64 (bits .and .u64 p 1)/\wrap64 (bits .and .u64 p 1)<=1:=by
 have c:∀ i,i<64->bt 1 i=decide (i=0):=bb
 have d:∀ i,i<64->bt 0 i=false:=bb
 have h:bits .and .u64 p 1=if bt p 0=true then 1 else 0:=by
  refine bu _ _ (aj _ _ _) (by split<;>exact ⟨ab,ab⟩) λi b=>?_;rw [az,c i b];by_cases a:i=0
  ·subst a;cases bt p 0;·rw [if_neg a6,d 0 ab];rfl
   ·rw [if_pos rfl,c 0 ab];rfl
  ·rw [decide_eq_false a,Bool.and_false];split;·rw [c i b,decide_eq_false a]
   ·rw [d i b]
 rw [h];split<;>decide +kernel
theorem FQ (h:kP n.xs.length n.ys.length n.ir=true):(fL n p (gC s w)).2=true->kP (fL n p (gC s w)).1.xs.length (fL n p (gC s w)).1.ys.length (fL n p (gC s w)).1.ir=true:=by
 have c:=K8 p;have a:=E6 n p;obtain ⟨q,d⟩:∃ q,q=wrap64 (bits .and .u64 p 1):=⟨_,rfl⟩;rw [<- d] at a c;clear d;refine jM s w (λk=>(fL n p k).2=true->kP (fL n p k).1.xs.length (fL n p k).1.ys.length (fL n p k).1.ir=true) ?_ ?_ ?_ ?_ ?_ ?_ ?_;·intro _ _;rw [EZ];exact λ_=>h
 ·intro _ _;rw [E4];exact λ_=>h
 ·intro _ _;rw [E5];exact λ_=>h
 ·intro _ _;by_cases b:n.ys.length<4096;·rw [yA n p b];intro _;unfold kP at h ⊢;simp only [Bool.and_eq_true,decide_eq_true_eq,List.length_append,List.length_singleton] at h ⊢;omega
  ·rw [yB n p b];exact λ_=>h
 ·intro _ _;rw [a];intro _;unfold kP at h ⊢;simp only [Bool.and_eq_true,decide_eq_true_eq] at h ⊢;exact ⟨h.1,c⟩
 ·intro _ _;rw [E7];exact λ_=>h
 ·intro _ _ _ _ _ _;rw [E8];intro e;cases e
theorem Qj (h:(jq n a).2.2=false):(jq n a).1=0:=by
 match a,h with
 | 0,h=>cases h
 | 1,h=>cases h
 | 2,h=>cases h
 | 3,h=>cases h
 | 4,h=>cases h
 | 5,h=>cases h
 | a+6,_=>rfl
theorem Ef (h:bq l=true):0<l:=by
 rcases Nat.eq_zero_or_pos l with a|a;·subst a;revert h;decide
 ·exact a
def BM (M:MV) (pa size kind x:Int):Int × Bool × MV :=
 if gU M.ram.length pa size=true then
  (if (kind==3)=true then (0,true,nO (bG M (lP M.ram (pa-2147483648).toNat x size.toNat)) pa) else (le M.ram (pa-2147483648).toNat size.toNat,true,M))
 else if (kind==2)=true then
  (if (jq M.d (gC pa size)).2.2=true then ((jq M.d (gC pa size)).1,true,bL (ch M (jq M.d (gC pa size)).2.1)) else (0,false,M))
 else if (kind==3)=true then
  (if (fL M.d x (gC pa size)).2=true then (0,true,nO (bL (ch M (fL M.d x (gC pa size)).1)) pa) else (0,false,M))
 else (0,false,M)
theorem Qk:sA k p s w M=if (BM k p s w M).2.1=true then ((BM k p s w M).1,(BM k p s w M).2.2,0) else (0,(BM k p s w M).2.2,ig w):=by
 unfold sA BM;split;·split<;>rfl
 ·split;·split<;>rfl
  ·split;·split<;>rfl
   ·rfl
theorem K9 (a:be 22 D p=true) (b:jr w=true) (c:decide (1<=M/\M<=3)=true):uA 22 D p s w M=!Hz D p s w M:=by unfold uA Hz;rw [a,b,c,Bool.not_or,Bool.not_not];rfl
end Go.Proofs.YtfagphfjfhpmjaaGreatDoor
