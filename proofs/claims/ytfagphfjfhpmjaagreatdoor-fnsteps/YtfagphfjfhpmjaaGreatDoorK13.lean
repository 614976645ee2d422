/- Own lemmas. -/
import Derived.Test.YtfagphfjfhpmjaaGreatDoorAut
import Derived.Test.YtfagphfjfhpmjaaGreatDoorK12
import Derived.RangeFuncNested
import Derived.RangeFuncBound
import Derived.Shelf.RegionOpen
import Derived.OwnWalkIn
import Derived.LoopNIn
import Derived.LoopIn
set_option maxRecDepth 100000
set_option maxHeartbeats 4000000
namespace Go.Proofs.YtfagphfjfhpmjaaGreatDoor
open Go.RowKit Tryz
open IntKind renaming u64->Uz
set_option linter.unusedVariables false
variable (a k w b x:Int) (l:World) (r y c:Nat) (d:List Int) (p:Nat)
theorem gW {B:Nat} {w w':World} (h:Below B w w') (q:Nat):Below B w (w'.drewN q):=⟨h.os,h.tape,h.output,h.size,h.block⟩
def He (k:Int):Bool:=(k==1)||(k==2)||(k==3)
theorem ru (k:Int):He k=decide (1<=k/\k<=3):=by
 unfold He;by_cases a:k=1;·subst a;rfl
 ·by_cases b:k=2;·subst b;rfl
  ·by_cases c:k=3;·subst c;rfl
   ·have:¬ (1<=k/\k<=3):=by omega
    rw [decide_eq_false this];simp [a,b,c]
theorem lR (k:Int) (w:World):CE 106 #[.i k] w (.bool (He k)):=by refine bC (S:=λx=>x=w) (args:=[.i k]) [] func106 ?_;unfold He;cases a:(k==1)<;>cases b:(k==2)<;>cases c:(k==3)<;>exact i8 (R:=[]) trivial {eq:=[(4,ak a),(7,ak b),(11,ak c)]} 40 (t:=2) ⟨rfl,rfl⟩
def Cz (k:Int):Int:=if (k==1)=true then 4 else if (k==2)=true then 1 else 2
theorem CD (k:Int) (w:World):CE 273 #[.i k] w (.u (Cz k)):=by refine bC (S:=λx=>x=w) (args:=[.i k]) [] func273 ?_;unfold Cz;cases a:(k==1)<;>cases b:(k==2)<;>exact i8 (R:=[]) trivial {eq:=[(5,ak a),(7,ak b)]} 40 (t:=2) ⟨rfl,rfl⟩
def Fl (b a x y:Int):Bool:=decide (b<=x)&&decide (y<=a)
theorem Fp:CB 253 #[.agg #[.u a,.u k,.u w],.u b,.u x] l (.bool (Fl a k b x)):=by refine bC (S:=Bs l [(#[.u a,.u k,.u w],101)]) (args:=[.agg #[.u a,.u k,.u w],.u b,.u x]) [(#[.u a,.u k,.u w],101)] func253 ?_;unfold Fl;cases d:decide (a<=b)<;>cases f:decide (x<=k)<;>exact bm (t:=6) Bs.eng {eq:=[(10,ak d),(15,ak f)]} 60 (Bs.start _ _) (λc h=>⟨rfl,h.2⟩)
def oO (r p k:Int):Bool:=((p==3)&&(bits .and .u64 r 128==0))||(bits .and .u64 r (Cz k) != 0)
theorem Fq:CB 254 #[.agg #[.u a,.u k,.u w],.i b,.i x] l (.bool (oO w b x)):=by refine bC (S:=Bs l [(#[.u a,.u k,.u w],101)]) (args:=[.agg #[.u a,.u k,.u w],.i b,.i x]) [(#[.u a,.u k,.u w],101)] func254 ?_;have d:=CD x;unfold oO;generalize Cz x=m at *;cases f:(b==3)<;>cases g:(bits .and .u64 w 128==0)<;>cases i:(bits .and .u64 w m != 0)<;>exact bm (t:=6) Bs.eng {eq:=[(8,ak f),(13,ak g),(20,ak i)],cv:=[(18,mI λW _=>d W)]} 60 (Bs.start _ _) (λc h=>⟨rfl,h.2⟩)
theorem Am (q:p<4) (w:World) (l:w.cell? ⟨r,y+(16+p),none⟩=some (.u (d.getD (16+p) 0))): CB 191 #[.slice (some ⟨r,y,none⟩) 22 c,.i p] w (.u (tJ d p)):=by
 have F:Hid (tJ d p=if (p==0)=true then 0 else Uz.wrap (4*d.getD (16+p) 0)):=(rfl:tJ d p=_);rcases Nat.eq_zero_or_pos p with h|h;·subst h;go_enter func191,ntmps191;exact a09
 ·have i:((p:Int)==0)=false:=bv;have m:wrap64 (17+(p:Int))=((17+p:Nat):Int):=ka;have j:wrap64 (((17+p:Nat):Int)-1)=((16+p:Nat):Int):=ka;have g:0<=((16+p:Nat):Int)/\((16+p:Nat):Int)<((22:Nat):Int):=ab;have f:Hid (tJ d p=Uz.wrap (4*d.getD (16+p) 0)):=(by have:=F.out;rw [if_neg bv] at this;exact this);clear F;generalize d.getD (16+p) 0=a at *;go_enter func191,ntmps191;go_wp2_with fail;go_ret;exact ⟨by rw [f.out];rfl,Below.refl _ _⟩
theorem SP:bt (bits .xor .u64 a k) r=(bt a r ^^ bt k r):=by show (BitVec.ofInt 64 (Uz.wrap ((BitVec.ofInt 64 a ^^^ BitVec.ofInt 64 k).toNat:Int))).getLsbD r=_;rw [qD];simp [bt]
theorem PJ (h:r<18446744073709551616):bits .xor .u64 IntKind.u64.max (r:Int)=((18446744073709551615-r:Nat):Int):=by
 have e:IntKind.u64.max=18446744073709551615:=rfl;rw [e];refine bF _ _ (ah _ _ _) ⟨ab,ab⟩ λi b=>?_;rw [SP,Ad i b,oy _ ⟨ab,ab⟩,oy _ ⟨ab,ab⟩];have e2:(18446744073709551615-r:Nat)=2^64-(r+1):=ab
 simp only [Int.toNat_natCast];rw [e2,Nat.testBit_two_pow_sub_succ h,decide_eq_true b];simp
theorem wE (q:bits .xor .u64 IntKind.u64.max a=(r:Int)) (hk:min y 53=c) (o:c<=53) (w:World) (l:Hid (CE 243 #[.u r] w (.i y))): CB 192 #[.u a] w (.tuple #[.u (rp a c),.u (tK a c)]):=by
 have j:Hid (min y 53=c):=hk;have p:IntKind.u64.signed=false:=rfl;clear hk;go_enter func192,ntmps192;go_wp2_with fail;refine l.out.mono ?_;rintro e x ⟨rfl,d⟩;have f:=d.symm;subst f;go_wp2_with fail;case inl =>
  rename_i b;have k:Hid (c=53):=(by have:=j.out;show c=53;omega);go_quiet (fail)
  go_wp2_with fail;go_ret2;exact ⟨by rw [k.out];rfl,gW (Below.refl _ _) _⟩
 case inr =>
  rename_i b;have m:Hid (c=y):=(by have:=j.out;show c=y;omega);go_quiet (fail)
  go_wp2_with fail;go_ret2;exact ⟨by rw [m.out];rfl,gW (Below.refl _ _) _⟩
theorem xK (h:U a) (w:World) (c:qH w): CB 192 #[.u a] w (.tuple #[.u (rp a (rm a)),.u (tK a (rm a))]):=by
 obtain ⟨n,rfl⟩:∃ n:Nat,a=n:=⟨a.toNat,by have:=h.1;omega⟩;have d:n<18446744073709551616:=by have:=h.2;omega
 have b:(18446744073709551615-(n:Int)).toNat=18446744073709551615-n:=ab
 refine wE (n:Int) (18446744073709551615-n) (Lib.ctz 64 (18446744073709551615-n)) _ (PJ n d) ?_ ?_ w (Sk _ ab w c);·unfold rm;rw [b]
 ·unfold rm;exact Nat.min_le_right _ _
theorem MJ (c cap:Nat) (l:List Int) (i:Nat) (D:i<4) (w:World) (C:qH w) (hl:∀ j,U (l.getD j 0)) (d:w.cell? ⟨r,c+16,none⟩=some (.u (l.getD 16 0))) (p:w.cell? ⟨r,c+(17+i),none⟩=some (.u (l.getD (17+i) 0))) (n:w.cell? ⟨r,c+(16+i),none⟩=some (.u (l.getD (16+i) 0))): CB 123 #[.slice (some ⟨r,c,none⟩) 22 cap,.i i] w (.tuple #[.u (fd l i).1,.u (fd l i).2]):=by
 have u:r<w.heap.size:=World.block_lt_of_cell? w _ d;have HR:=λW (_:Bw w W)=>(qV (l.getD 16 0) i ab (hl 16).1 (hl 16).2 W).mono λe g (h:_/\g=W.drew)=>(⟨h.1,by rw [h.2];exact (Below.refl _ _).drew⟩:_/\Bw W g);have z:=λW (k:Bw w W)=>Am r c cap l i D W ((k.cell (by exact u)).trans n);have A:=λW (k:Bw w W)=>xK (l.getD (17+i) 0) (hl (17+i)) W (C.below k);have b:IntKind.i64.wrap (17+(i:Int))=((17+i:Nat):Int):=by rw [IntKind.wrap_i64];omega
 have m:0<=((17+i:Nat):Int)/\((17+i:Nat):Int)<((22:Nat):Int):=ab
 obtain ⟨V,f⟩:∃ V,V=fd l i:=⟨_,rfl⟩;rw [<- f];unfold fd at f;generalize tJ l i=F at *;generalize rm (l.getD (17+i) 0)=on at *;generalize rp (l.getD (17+i) 0) on=pl at *;generalize tK (l.getD (17+i) 0) on=G at *;generalize iI (l.getD 16 0) i=q at *;generalize l.getD (17+i) 0=a at *;generalize l.getD 16 0=B at *;refine bC (S:=Bs w []) (args:=[.slice (some ⟨r,c,none⟩) 22 cap,.i i]) [] func123 ?_;cases v:(q==1)<;>cases x:(q==2)<;>cases y:(q==3)<;>rw [v,x,y] at f<;>subst f <;>
  exact eQ (t:=4) (s:=5) Bs.eng {eq:=[(9,dG .i64 b),(18,ak v),(25,ak x),(32,ak y)],ov:=[(10,kF (a:=some ⟨r,c,none⟩) (b:=r) (o:=c) 22 cap .i64 ((17+i:Nat):Int) rfl m underlying23 ba),(11,iL ⟨r,c+((17+i:Nat):Int).toNat,none⟩ (.u a) underlying22 rfl λW h=>(h.2.cell (by exact u)).trans p),(14,iL ⟨r,c+16,none⟩ (.u B) underlying22 rfl λW h=>(h.2.cell (by exact u)).trans d)],cv:=[(16,fQ HR),(21,fQ z),(34,fQ A)]} 60 (Bs.start _ _) λE h=>⟨rfl,h.2⟩
end Go.Proofs.YtfagphfjfhpmjaaGreatDoor
namespace Go.Proofs.YtfagphfjfhpmjaaGreatDoor
open Go.RowKit Tryz Go.Shelf
open IntKind renaming u64->Uz
set_option linter.unusedVariables false
attribute [local go_sem] Oper.semAt_some
variable {g:World} {b:Nat} {W:Obj} {l:Array Value} {n:TypeId} {o:Nat × Nat} (w a c f t B d:Nat) (j:List Int)
theorem sB {w':World} (hb:Bw g w') (row:Option Nat):g.grownBy w' row:=⟨hb.os,hb.tape,hb.output,hb.size,λk a _=>hb.block k a⟩
def MK (x:Nat × Int × Int × Int):Array Value:=#[.i (x.1:Int),.agg #[.u x.2.1,.u x.2.2.1,.u x.2.2.2]]
theorem CF (hl:∀ l,U (j.getD l 0)) (J Y:List (Nat × Int × Int × Int)->World->Prop) (hb:t<f) (L:c<f) (hg:0<f) (W:World) (hn:f<=W.heap.size) (hT:qH W) (hc:W.cell? ⟨c,0,none⟩=some (.slice (some ⟨t,B,none⟩) 22 d)) (hs:∀ l,l<22->W.cell? ⟨t,B+l,none⟩=some (.u (j.getD l 0))) (hJ:AbidesFrom W.heap.size J) (hY:∀ pre x D,J pre D->pre.length<4->YieldAt Fence.wide (w-1) prog a (MK x) D λe s=>(e=.returned (.bool true)/\J (pre++[x]) s/\Below f D s)\/(e=.returned (.bool false)/\Y (pre++[x]) s)) (h0:J [] W): CallsIn Fence.wide w prog 122 #[.func (.yield a) #[] #[],.p c 0] W λe s=>(∃ v,e=.returned v)/\((∃ ys,ys=gi j 4/\J ys s)\/(∃ pre,pre <+: gi j 4/\Y pre s)):=by
 have HC:Hid (W.cell? ⟨c,0,none⟩=some (.slice (some ⟨t,B,none⟩) 22 d)):=hc;have X:Hid (∀ l,l<22->W.cell? ⟨t,B+l,none⟩=some (.u (j.getD l 0))):=hs;have HT:Hid (qH W):=hT;have HY:Hid (∀ pre x D,J pre D->pre.length<4->YieldAt Fence.wide (w-1) prog a (MK x) D λe s=>(e=.returned (.bool true)/\J (pre++[x]) s/\Below f D s)\/(e=.returned (.bool false)/\Y (pre++[x]) s)):=hY;have HJ:Hid (AbidesFrom W.heap.size J):=hJ;have HL:Hid (∀ l,U (j.getD l 0)):=hl;clear hc hs hT hY hJ hl;refine callsIn_of_wp func122 rfl trivial ?_ rfl;simp only [ntmps122,List.size_toArray,List.length_cons,List.length_nil,Nat.reduceAdd,Nat.reduceSub,Array.replicate_succ,Array.replicate_zero,List.push_toArray,List.append_toArray,List.nil_append,List.cons_append];gi_wp2;gi_loopw [7] (λi wr=>∃ k:Nat,k<=4/\i=.i k/\J (gi j k) wr/\Below f W wr) (λi _=>4-(intOf i).toNat);case atStart=>exact ⟨0,ab,rfl,h0,Below.refl _ _⟩
 case round =>
  obtain ⟨k,hk,rfl,N,b⟩:=hrel;have y:Hid (Below f W wr):=b;have C:Hid (J (gi j k) wr):=N;have hcw:wr.cell? ⟨c,0,none⟩=some (.slice (some ⟨t,B,none⟩) 22 d):=(b.cell (p:=⟨c,0,none⟩) L).trans HC.out;have q:f<=wr.heap.size:=Nat.le_trans hn b.size;clear b N;by_cases hlt:k<4
  ·have m:Hid (CB 123 #[.slice (some ⟨t,B,none⟩) 22 d,.i k] wr (.tuple #[.u (fd j k).1,.u (fd j k).2])):=
    MJ t B d j k hlt wr (HT.out.from y.out hg) HL.out ((y.out.cell (p:=⟨t,B+16,none⟩) hb).trans (X.out 16 ab)) ((y.out.cell (p:=⟨t,B+(17+k),none⟩) hb).trans (X.out (17+k) ab)) ((y.out.cell (p:=⟨t,B+(16+k),none⟩) hb).trans (X.out (16+k) ab))
   by_cases o:(fd j k).2<=(fd j k).1
   ·have I:Hid (gi j (k+1)=gi j k):=JK o;have O:decide ((fd j k).1>=(fd j k).2)=true:=(by simpa using o);gi_wp2_with fail;refine ⟨trivial,(λh=>ni),(callsIn_wide.2 m.out).mono ?_⟩;rintro e Bs ⟨rfl,g⟩;clear m;have A:Hid (J (gi j (k+1)) Bs):=(by have:=HJ.out _ wr Bs none C.out (sB g none) (λr e=>v9);rw [I.out];exact this);have z:Hid (Below f W Bs):=y.out.trans (g.mono q);gi_wp2_with fail;go_roundw;case rel=>exact ⟨k+1,ab,cp,A.out,z.out⟩
    case measure=>simp [intOf];omega
   ·have O:decide ((fd j k).1>=(fd j k).2)=false:=(by simpa using o);have I:Hid (gi j (k+1)=gi j k++[(k,(fd j k).1,Uz.wrap ((fd j k).2-1),dc (j.getD 16 0) (8*k) 8)]):=JL o;have HPB:Hid (∀ n,Calls prog 124 #[.u (j.getD 16 0),.i k] n λe w'=>e=.returned (.u (dc (j.getD 16 0) (8*k) 8))/\w'=n.drew):=λn=>oJ _ k ab (HL.out 16).1 (HL.out 16).2 n;have H:Hid (∀ Bs,Bw wr Bs->Bs.cell? ⟨t,B+16,none⟩=some (.u (j.getD 16 0))/\Bs.cell? ⟨c,0,none⟩=some (.slice (some ⟨t,B,none⟩) 22 d)):=λBs h1 =>
     ⟨(h1.cell (p:=⟨t,B+16,none⟩) (Nat.lt_of_lt_of_le hb q)).trans ((y.out.cell (p:=⟨t,B+16,none⟩) hb).trans (X.out 16 ab)),(h1.cell (p:=⟨c,0,none⟩) (Nat.lt_of_lt_of_le L q)).trans hcw⟩
    have HLN:Hid ((gi j k).length<4):=(by have:=Mo j k;show (gi j k).length<4;omega);have HPR:Hid (gi j (k+1) <+: gi j 4):=(by have:=Mq j (4-(k+1)) (k+1);rw [show k+1+(4-(k+1))=4 from ab] at this;exact this);generalize dc (j.getD 16 0) (8*k) 8=E at *;generalize j.getD 16 0=c16 at *;obtain ⟨T,Q⟩:∃ T,(fd j k).1=T:=⟨_,rfl⟩;obtain ⟨s2,R⟩:∃ s2,(fd j k).2=s2:=⟨_,rfl⟩;rw [Q,R] at m I O;clear Q R o;gi_wp2_with fail;refine ⟨trivial,(λh=>ni),(callsIn_wide.2 m.out).mono ?_⟩;rintro e Bs ⟨rfl,g⟩;clear m;obtain ⟨hc1,hc2⟩:=H.out Bs g;have A:Hid (J (gi j k) Bs):=HJ.out _ wr Bs none C.out (sB g none) (λr e=>v9);have z:Hid (Below f W Bs):=y.out.trans (g.mono q);have S:Hid (f<=Bs.heap.size):=Nat.le_trans q g.size;clear g;gi_wp2_with fail;refine ⟨trivial,(λh=>ni),(callsIn_wide.2 (HPB.out _)).mono ?_⟩;rintro e w2 ⟨rfl,hw2⟩;subst hw2;gi_wp2_with fail;obtain ⟨V,F⟩:∃ V,Uz.wrap (s2-1)=V:=⟨_,rfl⟩;have K:Hid (gi j (k+1)=gi j k++[(k,T,V,E)]):=(by have:=I.out;rw [F] at this;exact this);rw [F];clear F I;have G:Hid (Bw Bs ((Bs.alloc (.cells #[.u T,.u V,.u E] 101)).drew)):=(bal _ _).drew;obtain ⟨fn,tmps,assign,body,hy,hR⟩:=HY.out (gi j k) (k,T,V,E) _ (HJ.out _ Bs _ none A.out (sB G.out none) (λr e=>v9)) HLN.out;simp only [MK] at hy;rw [hy];gi_wp2_with fail;refine ⟨(λh=>ni),hR.mono ?_⟩;rintro e W3 (⟨rfl,M,P⟩ | ⟨rfl,u⟩)
    ·have cap:Hid (J (gi j (k+1)) W3):=(by rw [K.out];exact M);have Z:Hid (Below f W W3):=(z.out.trans (G.out.mono S.out)).trans P;clear M P;gi_wp2_with fail;go_roundw;case rel=>exact ⟨k+1,ab,cp,cap.out,Z.out⟩
     case measure=>simp [intOf];omega
    ·have cap:Hid (Y (gi j (k+1)) W3):=(by rw [K.out];exact u);clear u;gi_wp2_with fail;refine bodyPost_ret (results_none rfl _ _ _) rfl ?_;exact ⟨⟨_,rfl⟩,.inr ⟨_,HPR.out,cap.out⟩⟩
  ·obtain rfl:k=4:=ab;gi_wp2_with fail;go_end0;exact ⟨⟨_,rfl⟩,.inl ⟨_,rfl,C.out⟩⟩
theorem Fs (a:Option Addr) (m cap:Nat) (n:World): CallsIn Fence.wide w prog 73 #[.slice a m cap] n λe b=>e=.returned (.func (.func 122) #[] #[.p n.heap.size 0])/\b=n.alloc (.cells #[.slice a m cap] 23):=by refine callsIn_of_wp func73 rfl trivial ?_ rfl;simp only [ntmps73,List.size_toArray,List.length_cons,List.length_nil,Nat.reduceAdd,Nat.reduceSub,Array.replicate_succ,Array.replicate_zero,List.push_toArray,List.append_toArray,List.nil_append,List.cons_append];gi_wp2;go_ret;exact a08
theorem xL (hl:∀ l,U (j.getD l 0)) (hb:f<c) (d:a<c) (Bs:0<c) (n:World) (hn:c<=n.heap.size) (m:qH n) (q:n.cell? ⟨a,0,none⟩=some (.slice (some ⟨f,t,none⟩) 22 B)) (hs:∀ l,l<22->n.cell? ⟨f,t+l,none⟩=some (.u (j.getD l 0))):
 SeqStopsK Fence.wide w prog 122 #[.p a 0] MK (Below c) (λb=>b=gi j 4) (λpre=>pre <+: gi j 4) 4 n:=λs J g W e i k o h =>
 CF w s a c f t B j hl J g hb d Bs W (Nat.le_trans hn e.size) (m.from e (Nat.lt_of_lt_of_le Bs hn)) ((e.cell (p:=⟨a,0,none⟩) (Nat.lt_of_lt_of_le d hn)).trans q)
  (λl r=>(e.cell (p:=⟨f,t+l,none⟩) (Nat.lt_of_lt_of_le hb hn)).trans (hs l r)) i o h
theorem lS {B:World} {row:Option Nat} (h:g.heap[b]?=some (.cells l n o)) (c:g.grownBy B row) (hr:∀ r,row=some r->∃ f:Obj,g.heap[r]?=some f/\f.isCells=false):B.heap[b]?=some (.cells l n o):=by refine (c.block b (Array.getElem?_eq_some_iff.1 h).1 λe=>?_).trans h;obtain ⟨f,a,A⟩:=hr b e.symm;rw [h] at a;cases a;cases A
attribute [local go_sem] Oper.semAt_some
theorem fl {B j:Nat} (h:g.heap[b]?=some W) (a:b≠B) (v:Value):(g.setCell ⟨B,j,none⟩ v).heap[b]?=some W:=by simp only [World.setCell];rw [Array.getElem?_modify,if_neg (by simpa using Ne.symm a)];exact h
theorem uG {D:Nat} {o:Obj} (h:g.heap[b]?=some W) (a:b≠D):(g.putObj D o).heap[b]?=some W :=
 ((grownBy_putObj' g D o).block b (Array.getElem?_eq_some_iff.1 h).1 ri).trans h
theorem pE (h:g.heap[b]?=some (.cells l n o)) (j:Nat):g.cell? ⟨b,j,none⟩=l[j]?:=by simp [World.cell?,h]
theorem sD (h:g.heap[b]?=some W) (a:Obj):(g.alloc a).heap[b]?=some W:=(Below.heap_alloc g a b (Array.getElem?_eq_some_iff.1 h).1).trans h
theorem An (x y:Int) (b:World) (hbw:w<b.heap.size) (hs:∀ l,l<22->b.cell? ⟨w,a+l,none⟩=some (.u (j.getD l 0))) (hl:∀ l,U (j.getD l 0)) (hT:qH b): CB 252 #[.slice (some ⟨w,a,none⟩) 22 c,.u x,.u y] b (.tuple #[.agg #[.u (kX j x y).1,.u (kX j x y).2.1,.u (kX j x y).2.2.1],.bool (kX j x y).2.2.2]):=by
 have HS:Hid (∀ l,l<22->b.cell? ⟨w,a+l,none⟩=some (.u (j.getD l 0))):=hs;have HL:Hid (∀ l,U (j.getD l 0)):=hl;have HT:Hid (qH b):=hT;clear hs hl hT;refine (callsIn_wide (n:=3)).1 ?_;refine callsIn_of_wp_marks func252 rfl trivial ?_ rfl;simp only [ntmps252,List.size_toArray,List.length_cons,List.length_nil,Nat.reduceAdd,Nat.reduceSub,Array.replicate_succ,Array.replicate_zero,List.push_toArray,List.append_toArray,List.nil_append,List.cons_append];gi_wp2_with fail;refine ⟨trivial,(Fs _ _ _ _ _).mono ?_⟩;rintro e N ⟨rfl,rfl⟩;gi_wp2_with fail;have bX:=((((Boxed.new b 22 (.u x)).alloc (.cells #[.u y] 22)).alloc (.cells #[.u 0,.u 0,.u 0] 101)).alloc (.cells #[.bool false] 4)).alloc (.cells #[.slice (some ⟨w,a,none⟩) 22 c] 23);have bY:=(((Boxed.new (b.alloc (.cells #[.u x] 22)) 22 (.u y)).alloc (.cells #[.u 0,.u 0,.u 0] 101)).alloc (.cells #[.bool false] 4)).alloc (.cells #[.slice (some ⟨w,a,none⟩) 22 c] 23);have bR:=sD (sD (World.alloc_heap_new ((b.alloc (.cells #[.u x] 22)).alloc (.cells #[.u y] 22)) (.cells #[.u 0,.u 0,.u 0] 101)) (.cells #[.bool false] 4)) (.cells #[.slice (some ⟨w,a,none⟩) 22 c] 23);have bB:=(Boxed.new (((b.alloc (.cells #[.u x] 22)).alloc (.cells #[.u y] 22)).alloc (.cells #[.u 0,.u 0,.u 0] 101)) 4 (.bool false)).alloc (.cells #[.slice (some ⟨w,a,none⟩) 22 c] 23);have bS:=Boxed.new ((((b.alloc (.cells #[.u x] 22)).alloc (.cells #[.u y] 22)).alloc (.cells #[.u 0,.u 0,.u 0] 101)).alloc (.cells #[.bool false] 4)) 23 (.slice (some ⟨w,a,none⟩) 22 c);simp only [World.size_alloc] at bY bR bB bS;have L:Bw b (((((b.alloc (.cells #[.u x] 22)).alloc (.cells #[.u y] 22)).alloc (.cells #[.u 0,.u 0,.u 0] 101)).alloc (.cells #[.bool false] 4)).alloc (.cells #[.slice (some ⟨w,a,none⟩) 22 c] 23)):=(((((Below.refl _ b).alloc (Nat.le_refl _) _).alloc cp _).alloc bv _).alloc bv _).alloc bv _;have hz6:(((((b.alloc (.cells #[.u x] 22)).alloc (.cells #[.u y] 22)).alloc (.cells #[.u 0,.u 0,.u 0] 101)).alloc (.cells #[.bool false] 4)).alloc (.cells #[.slice (some ⟨w,a,none⟩) 22 c] 23)).heap.size=b.heap.size+5:=cp
 obtain ⟨N,S⟩:∃ N,((((b.alloc (.cells #[.u x] 22)).alloc (.cells #[.u y] 22)).alloc (.cells #[.u 0,.u 0,.u 0] 101)).alloc (.cells #[.bool false] 4)).alloc (.cells #[.slice (some ⟨w,a,none⟩) 22 c] 23)=N:=⟨_,rfl⟩;rw [S] at bX bY bR bB bS L hz6 ⊢;clear S;have hT6:qH N:=HT.out.below L;have hs6:∀ l,l<22->N.cell? ⟨w,a+l,none⟩=some (.u (j.getD l 0)):=λl hj=>(L.cell (p:=⟨w,a+l,none⟩) hbw).trans (HS.out l hj);have hg5:0<b.heap.size:=HT.out.lt;refine wpIn_rangeFunc_ownH rfl ab (gf:=122) (lb:=#[.p (b.heap.size+1+1+1+1) 0]) rfl trivial (enters_of func122 ba rfl)
  (xL 2 (b.heap.size+1+1+1+1) (b.heap.size+5) w a c j HL.out ab ab ab N ab hT6 bS.cell hs6) belowK_t (belowK_b ab) (Below.refl _ _) (λ_=>rfl)
  (λpre W=>((∀ p ∈ pre,jG x y p=false)/\Boxed W b.heap.size 22 (.u x)/\Boxed W (b.heap.size+1) 22 (.u y)/\W.heap[b.heap.size+1+1]?=some (.cells #[.u 0,.u 0,.u 0] 101 (0,0))/\Boxed W (b.heap.size+1+1+1) 4 (.bool false)/\b.heap.size+5<=W.heap.size)/\Bw b W)
  (λcap pre W=>(cap=.ret/\∃ C d,pre=C++[d]/\(∀ p ∈ C,jG x y p=false)/\jG x y d=true/\W.heap[b.heap.size+1+1]?=some (.cells #[.u d.2.1,.u d.2.2.1,.u d.2.2.2] 101 (0,0))/\Boxed W (b.heap.size+1+1+1) 4 (.bool true))/\Bw b W)
  (OwnFrom.and (λs A B row hs H I=>⟨hs.1,lS hs.2.1 H (λr e=>(I r e).2),lS hs.2.2.1 H (λr e=>(I r e).2),lS hs.2.2.2.1 H (λr e=>(I r e).2),lS hs.2.2.2.2.1 H (λr e=>(I r e).2),Nat.le_trans hs.2.2.2.2.2 H.size⟩) (ownFrom_below (Nat.le_refl _) ab))
  (λcap=>OwnFrom.and (λs A B row hs H I=>by obtain ⟨hc,C,d,e1,e2,e3,e4,e5⟩:=hs;exact ⟨hc,C,d,e1,e2,e3,lS e4 H (λr e=>(I r e).2),lS e5 H (λr e=>(I r e).2)⟩) (ownFrom_below (Nat.le_refl _) ab))
  ⟨⟨cp,bX,bY,bR,bB,ab⟩,L⟩
  (λq a' W=>∃ J,b.heap.size+4<=J/\W.heap[J]?=some (.cells #[.u q.2.1,.u q.2.2.1,.u q.2.2.2] 101 (0,0))/\a'={tmps:=#[.slice (some ⟨w,a,none⟩) 22 c,.u x,.u y,undef,.p b.heap.size 0,.p (b.heap.size+1) 0,.p (b.heap.size+1+1) 0,.p (b.heap.size+1+1+1) 0,undef,.p J 0,.slice (some ⟨w,a,none⟩) 22 c,.func (.func 122) #[] #[.p (b.heap.size+1+1+1+1) 0],.i (q.1:Int),.agg #[.u q.2.1,.u q.2.2.1,.u q.2.2.2],undef,undef,undef,undef,undef,undef,undef,undef,undef,undef,undef,undef],defers:=[]})
  (λq a' _ X Y row hs H I=>by obtain ⟨J,Z,h2,h3⟩:=hs;exact ⟨J,Z,lS h2 H (λr e=>(I r e).2),h3⟩)
  ?assign ?body ?done ?stop
 case assign =>rintro lp pre q W K ⟨⟨O,t,u,f,m,z⟩,o⟩ R;simp only [MK];gi_wp2_with fail;exact R _ _ ((KeepsOthers.alloc _ _).from _) ((Below.refl _ W).alloc z _) ⟨⟨O,t.alloc _,u.alloc _,sD f _,m.alloc _,bv⟩,o.alloc o.size _⟩ ⟨W.heap.size,m.lt,World.alloc_heap_new W _,rfl⟩
 case body =>
  rintro lp pre q a' W hlp ⟨r,I⟩ ⟨⟨O,t,u,f,m,z⟩,o⟩ ⟨J,hBx,bQ,rfl⟩ hlt;have q0:W.cell? ⟨J,0,none⟩=some (.u q.2.1):=(by simp [World.cell?,bQ]);have q1:W.cell? ⟨J,1,none⟩=some (.u q.2.2.1):=(by simp [World.cell?,bQ]);have q2:W.cell? ⟨J,2,none⟩=some (.u q.2.2.2):=(by simp [World.cell?,bQ]);have cX:=t.cell;have cY:=u.cell;have M:Hid (jG x y q=(decide (q.2.1<=y)&&decide (x<=q.2.2.1))):=(rfl:jG x y q=_);cases Z:decide (q.2.1<=y) with
  | false =>rw [Z] at M;have V:Hid (jG x y q=false):=M.out;gi_wp2_with fail;exact ⟨KeepsFrom.refl _ _,Below.refl _ _,⟨λp P=>(List.mem_append.1 P).elim (O p) (λe=>by simp at e;subst e;exact V.out),t,u,f,m,z⟩,o⟩
  | true =>
    rw [Z] at M;cases h2:decide (x<=q.2.2.1) with
    | false =>rw [h2] at M;have V:Hid (jG x y q=false):=M.out;gi_wp2_with fail;exact ⟨KeepsFrom.refl _ _,Below.refl _ _,⟨λp P=>(List.mem_append.1 P).elim (O p) (λe=>by simp at e;subst e;exact V.out),t,u,f,m,z⟩,o⟩
    | true =>
      rw [h2] at M;have V:Hid (jG x y q=true):=M.out;have r0:W.cell? ⟨b.heap.size+1+1,0,none⟩=some (.u 0):=sx;have r1:W.cell? ⟨b.heap.size+1+1,1,none⟩=some (.u 0):=sx;have r2:W.cell? ⟨b.heap.size+1+1,2,none⟩=some (.u 0):=sx;have g0:W.frozen? ⟨b.heap.size+1+1,0,none⟩=false:=qh;have g1:W.frozen? ⟨b.heap.size+1+1,1,none⟩=false:=qh;have g2:W.frozen? ⟨b.heap.size+1+1,2,none⟩=false:=qh;have cB:=m.cell;have fB:=m.frozen;have Z1:Hid (KeepsFrom N.heap.size W ((((W.setCell ⟨b.heap.size+1+1,0,none⟩ (.u q.2.1)).setCell ⟨b.heap.size+1+1,1,none⟩ (.u q.2.2.1)).setCell ⟨b.heap.size+1+1,2,none⟩ (.u q.2.2.2)).setCell ⟨b.heap.size+1+1+1,0,none⟩ (.bool true))):=((((KeepsOthers.setCell W _ _).trans (KeepsOthers.setCell _ _ _)).trans (KeepsOthers.setCell _ _ _)).trans (KeepsOthers.setCell _ _ _)).from _
      have Z2:Hid (((((W.setCell ⟨b.heap.size+1+1,0,none⟩ (.u q.2.1)).setCell ⟨b.heap.size+1+1,1,none⟩ (.u q.2.2.1)).setCell ⟨b.heap.size+1+1,2,none⟩ (.u q.2.2.2)).setCell ⟨b.heap.size+1+1+1,0,none⟩ (.bool true)).heap[b.heap.size+1+1]?=some (.cells #[.u q.2.1,.u q.2.2.1,.u q.2.2.2] 101 (0,0))):=fl (jS (jS (jS f _) _) _) ab _;have Z3:Hid (Boxed ((((W.setCell ⟨b.heap.size+1+1,0,none⟩ (.u q.2.1)).setCell ⟨b.heap.size+1+1,1,none⟩ (.u q.2.2.1)).setCell ⟨b.heap.size+1+1,2,none⟩ (.u q.2.2.2)).setCell ⟨b.heap.size+1+1+1,0,none⟩ (.bool true)) (b.heap.size+1+1+1) 4 (.bool true)):=Boxed.set _ (v:=.bool false) (fl (fl (fl m ab _) ab _) ab _);have Z4:Hid (Bw b ((((W.setCell ⟨b.heap.size+1+1,0,none⟩ (.u q.2.1)).setCell ⟨b.heap.size+1+1,1,none⟩ (.u q.2.2.1)).setCell ⟨b.heap.size+1+1,2,none⟩ (.u q.2.2.2)).setCell ⟨b.heap.size+1+1+1,0,none⟩ (.bool true))):=(((o.setCell (p:=⟨b.heap.size+1+1,0,none⟩) bv _).setCell (p:=⟨b.heap.size+1+1,1,none⟩) bv _).setCell (p:=⟨b.heap.size+1+1,2,none⟩) bv _).setCell (p:=⟨b.heap.size+1+1+1,0,none⟩) bv _;gi_wp2_with fail;exact ⟨Z1.out,⟨rfl,pre,q,rfl,O,V.out,Z2.out,Z3.out⟩,Z4.out⟩
 case done =>rintro D ys W hD rfl ⟨⟨O,t,u,f,m,z⟩,o⟩ R;have FN:Hid (kX j x y=(0,0,0,false)):=(by show kX j x y=_;unfold kX;rw [JN O]);have r0:W.cell? ⟨b.heap.size+1+1,0,none⟩=some (.u 0):=sx;have r1:W.cell? ⟨b.heap.size+1+1,1,none⟩=some (.u 0):=sx;have r2:W.cell? ⟨b.heap.size+1+1,2,none⟩=some (.u 0):=sx;have g0:W.frozen? ⟨b.heap.size+1+1,0,none⟩=false:=qh;have g1:W.frozen? ⟨b.heap.size+1+1,1,none⟩=false:=qh;have g2:W.frozen? ⟨b.heap.size+1+1,2,none⟩=false:=qh;have cB:=m.cell;have fB:=m.frozen;have k1:Hid (((((W.setCell ⟨b.heap.size+1+1,0,none⟩ (.u 0)).setCell ⟨b.heap.size+1+1,1,none⟩ (.u 0)).setCell ⟨b.heap.size+1+1,2,none⟩ (.u 0)).setCell ⟨b.heap.size+1+1+1,0,none⟩ (.bool false)).heap[D]?=some (.deferred (some []))):=fl (fl (fl (fl R ab _) ab _) ab _) ab _;have z2:((((W.setCell ⟨b.heap.size+1+1,0,none⟩ (.u 0)).setCell ⟨b.heap.size+1+1,1,none⟩ (.u 0)).setCell ⟨b.heap.size+1+1,2,none⟩ (.u 0)).setCell ⟨b.heap.size+1+1+1,0,none⟩ (.bool false)).heap[b.heap.size+1+1]?=some (.cells #[.u 0,.u 0,.u 0] 101 (0,0)):=fl (jS (jS (jS f _) _) _) ab _;have z3:Boxed ((((W.setCell ⟨b.heap.size+1+1,0,none⟩ (.u 0)).setCell ⟨b.heap.size+1+1,1,none⟩ (.u 0)).setCell ⟨b.heap.size+1+1,2,none⟩ (.u 0)).setCell ⟨b.heap.size+1+1+1,0,none⟩ (.bool false)) (b.heap.size+1+1+1) 4 (.bool false):=Boxed.set _ (v:=.bool false) (fl (fl (fl m ab _) ab _) ab _);have z4:Hid (Bw b ((((W.setCell ⟨b.heap.size+1+1,0,none⟩ (.u 0)).setCell ⟨b.heap.size+1+1,1,none⟩ (.u 0)).setCell ⟨b.heap.size+1+1,2,none⟩ (.u 0)).setCell ⟨b.heap.size+1+1+1,0,none⟩ (.bool false))):=(((o.setCell (p:=⟨b.heap.size+1+1,0,none⟩) bv _).setCell (p:=⟨b.heap.size+1+1,1,none⟩) bv _).setCell (p:=⟨b.heap.size+1+1,2,none⟩) bv _).setCell (p:=⟨b.heap.size+1+1+1,0,none⟩) bv _;have Z2:Hid (((((((W.setCell ⟨b.heap.size+1+1,0,none⟩ (.u 0)).setCell ⟨b.heap.size+1+1,1,none⟩ (.u 0)).setCell ⟨b.heap.size+1+1,2,none⟩ (.u 0)).setCell ⟨b.heap.size+1+1+1,0,none⟩ (.bool false))).putObj D (.deferred none)).heap[b.heap.size+1+1]?=some (.cells #[.u 0,.u 0,.u 0] 101 (0,0))):=uG z2 ab;have Z3:Hid (Boxed (((((W.setCell ⟨b.heap.size+1+1,0,none⟩ (.u 0)).setCell ⟨b.heap.size+1+1,1,none⟩ (.u 0)).setCell ⟨b.heap.size+1+1,2,none⟩ (.u 0)).setCell ⟨b.heap.size+1+1+1,0,none⟩ (.bool false)).putObj D (.deferred none)) (b.heap.size+1+1+1) 4 (.bool false)):=uG z3 ab;clear z2 z3;gi_wp2_with fail;refine ⟨cp,.inl ⟨_,_,rfl,run_takeDeferred k1.out,?_⟩⟩;have Q:=Z2.out;have y3:=Z3.out.cell;refine ⟨.tuple #[.agg #[.u 0,.u 0,.u 0],.bool false],?_,by rw [FN.out],z4.out.trans (belowK_b (w:=b) (Nat.le_refl _) _ D _ _ ab k1.out rfl rfl)⟩;have E:=pE Q 0;have F:=pE Q 1;have G:=pE Q 2;simp at E F G;simp [results,Tryz.f252,go_sem,E,F,G,y3]
 case stop =>rintro D cap pre W hD T ⟨⟨rfl,C,d,e1,e2,e3,f,m⟩,o⟩ R;have FN:Hid (kX j x y=(d.2.1,d.2.2.1,d.2.2.2,true)):=(by show kX j x y=_;unfold kX;rw [JM T e1 e2 e3]);gi_wp2_with fail;refine ⟨cp,.inl ⟨_,_,rfl,run_takeDeferred R,?_⟩⟩;have Q:(W.putObj D (.deferred none)).heap[b.heap.size+1+1]?=_:=uG f ab;have y3:=Boxed.cell (show Boxed (W.putObj D (.deferred none)) (b.heap.size+1+1+1) 4 (.bool true) from uG m ab);have E:=pE Q 0;have F:=pE Q 1;have G:=pE Q 2;simp at E F G;refine ⟨.tuple #[.agg #[.u d.2.1,.u d.2.2.1,.u d.2.2.2],.bool true],?_,by rw [FN.out],o.trans (belowK_b (w:=b) (Nat.le_refl _) W D _ _ ab R rfl rfl)⟩;simp [results,Tryz.f252,go_sem,E,F,G,y3]
end Go.Proofs.YtfagphfjfhpmjaaGreatDoor
namespace Go.Proofs.YtfagphfjfhpmjaaGreatDoor
open Go.RowKit Tryz
open IntKind renaming u64->Uz
set_option linter.unusedVariables false
variable {x M:MV} {l:List Int} {D:Nat} (p:MV) (n:DV) (k:List Int) (a:Nat) (s:List Int) (w e m q z:Int)
theorem ML (hl:∀ j,U (l.getD j 0)) {q:Nat × Int × Int × Int} (h:q ∈ gi l D):∃ z:Nat,z<256/\q.2.2.2=z:=by
 obtain ⟨_,e⟩:=Pu h;unfold mW at e;split at e;·cases e
 ·have:=Option.some.inj e;rw [<- this];obtain ⟨a,b⟩:=kH (l.getD 16 0) (8*q.1) 8;exact ⟨(dc (l.getD 16 0) (8*q.1) 8).toNat,ab,by show dc _ _ _=_;omega⟩
theorem JT (hz:a<256) (p k:Int):xD a p k=oO a p k:=by
 obtain ⟨z,e2,e3,e4,e5,e6⟩:=Uk a hz;unfold xD oO Cz;rw [z];cases h:((p==3)&&((a:Int)/128==0)) with
 | true=>rfl
 | false =>
   cases b:(k==1) with
   | true=>simp only [if_true,Bool.false_eq_true,if_false,Bool.false_or];rw [e3]
   | false =>
     cases c:(k==2) with
     | true=>simp only [if_true,Bool.false_eq_true,if_false,Bool.false_or];rw [e4]
     | false=>simp only [Bool.false_eq_true,if_false,Bool.false_or];rw [e5]
theorem MN (hl:∀ j,U (l.getD j 0)) (a:bE 22 l=true) (p x y k:Int): aB l p x y k 4 0=if (kX l x y).2.2.2=true then (Fl (kX l x y).1 (kX l x y).2.1 x y&&oO (kX l x y).2.2.1 p k) else (p==3):=by
 rw [JO hl a p x y k 4 0 ab];have c:(List.range' 0 4).filterMap (mW l)=gi l 4:=by unfold gi;rw [List.range_eq_range']
 rw [c];unfold kX;cases b:(gi l 4).find? (jG x y) with
 | none=>rfl
 | some q =>
   obtain ⟨z,d,e⟩:=ML hl (List.mem_of_find?_eq_some b);show (!(decide (x<q.2.1)||decide (q.2.2.1<y))&&xD q.2.2.2 p k)=(Fl q.2.1 q.2.2.1 x y&&oO q.2.2.2 p k);rw [e,JT z d p k];congr 1;unfold Fl;rw [Bool.not_or];congr 1;·rw [<- decide_not];congr 1;exact propext ⟨λh=>ab,λh=>ab⟩
   ·rw [<- decide_not];congr 1;exact propext ⟨λh=>ab,λh=>ab⟩
theorem MO {w:World} {a:Option Addr} (hs:Sl .u64 w a l) (hz:l.length=22):∃ b c,a=some ⟨b,c,none⟩/\b<w.heap.size/\∀ j,j<22->w.cell? ⟨b,c+j,none⟩=some (.u (l.getD j 0)):=by obtain ⟨b,c,rfl,f,_⟩:=hs 0 ab;refine ⟨b,c,rfl,f,λj i=>?_⟩;obtain ⟨h,d,e,_,g⟩:=hs j ab;cases e;exact g
theorem kK (a:Option Addr) (n cap:Nat) (l:List Int) (p x s k:Int) (w:World) (hz:l.length=n) (hs:Sl .u64 w a l) (hl:∀ j,U (l.getD j 0)) (hx:U x) (O:qH w):CB 209 #[.slice a n cap,.i p,.u x,.i s,.i k] w (.bool (vG n l p x s k)):=by
 have A:=λW (i:Bw w W)=>fx a n cap l p W hz (hs.below i) hl;have B:=gG s;have o:=lR k;rw [ru] at o;have D:Uz.wrap (Uz.wrap (x+Uz.wrap s)-1)=bo x s:=rfl;have L:bn n l p=true->(∀ W,Bw w W->CB 252 #[.slice a n cap,.u x,.u (bo x s)] W (.tuple #[.agg #[.u (kX l x (bo x s)).1,.u (kX l x (bo x s)).2.1,.u (kX l x (bo x s)).2.2.1],.bool (kX l x (bo x s)).2.2.2])) /\
  aB l p x (bo x s) k 4 0=if (kX l x (bo x s)).2.2.2=true then (Fl (kX l x (bo x s)).1 (kX l x (bo x s)).2.1 x (bo x s)&&oO (kX l x (bo x s)).2.2.1 p k) else (p==3):=by
  intro h
  obtain ⟨rfl,V⟩:=gF h
  have u:bE 22 l=true:=by unfold bn at h;rw [Bool.and_eq_true] at h;exact h.1
  obtain ⟨b,f,rfl,i,P⟩:=MO hs hz
  exact ⟨λW q=>An b f cap l x (bo x s) W (Nat.lt_of_lt_of_le i q.size) (λj Q=>(q.cell (p:=⟨b,f+j,none⟩) i).trans (P j Q)) hl (O.below q),MN hl u p x (bo x s) k⟩
 unfold vG;generalize aB l p x (bo x s) k 4 0=X at *;generalize decide (1<=k/\k<=3)=E at *;generalize jf s=G at *;generalize bo x s=y at *;generalize bn n l p=F at *;generalize kX l x y=m at *;obtain ⟨d,c,r,R⟩:=m;refine bC (S:=Bs w []) (args:=[.slice a n cap,.i p,.u x,.i s,.i k]) [] func209 ?_;cases C:decide (y<x);case' false=>cases F;case' true=>cases G;case' true=>cases E
 case false.true.true.true =>obtain ⟨K,H⟩:=L rfl;refine ae Bs.eng {eq:=[(32,dG .u64 D),(35,ak C)],cv:=[(16,fQ A),(20,mI λW _=>B W),(25,mI λW _=>o W),(40,fQ K)]} 60 (Bs.start _ _) λW h=>?_;refine dF 1 (dD (T:=101) (z:=.agg #[.u 0,.u 0,.u 0]) ba W) ?_;refine bM (az (g:=W.heap.size) (t:=101) (ty:=101) (cells:=#[.u d,.u c,.u r]) (heap_alloc_new _ _) ba rfl ba) ?_;refine aH (R1 w W.heap.size #[.u d,.u c,.u r] 101) ?_;have I:=λW=>Fp d c r x y W;have J:=λW=>Fq d c r p k W;generalize Fl d c x y=N at *;generalize oO r p k=Y at *;subst H;cases R<;>cases N<;>exact bm (t:=10) R1.eng {cv:=[(50,jp R1.below λW _=>I W),(55,jp R1.below λW _=>J W)]} 60 (R1.new h.2) (λM h=>⟨rfl,h.2⟩)
 all_goals (try cases F)<;>(try cases G)<;>(try cases E)<;>exact bm (t:=10) Bs.eng {eq:=[(32,dG .u64 D),(35,ak C)],cv:=[(16,fQ A),(20,mI λW _=>B W),(25,mI λW _=>o W)]} 60 (Bs.start _ _) (λM h=>⟨rfl,h.2⟩)
theorem MP (h:U w):bits .or .u64 (bits .andNot .u64 w e) (bits .and .u64 w e)=w:=by refine bF _ _ (ah _ _ _) h λi a=>?_;rw [cE,ay _ _ _ a,aw];cases bt w i<;>cases bt e i<;>rfl
theorem MQ (hk:a<k.length) (hx:k.getD a 0=w):k.set a w=k:=by
 have:k[a]=w:=by rw [<- hx];simp [List.getD,List.getElem?_eq_getElem hk]
 rw [<- this];exact List.set_getElem_self hk
theorem yP (a:M.cs.length=22) (b:U (M.cs.getD 9 0)) (hb:lK M=true):cK M=M:=by
 have e:bits .and .u64 (M.cs.getD 9 0) 2184=dP M.d:=by unfold lK at hb;simpa using hb
 have s:M.cs.set 9 (bits .or .u64 (bits .andNot .u64 (M.cs.getD 9 0) 2184) (dP M.d))=M.cs:=by rw [<- e];exact MQ _ 9 _ ab (MP _ _ b).symm
 unfold cK;rw [s]
theorem Hf (h:U w):bits .andNot .u64 w 7=w/8*8:=by
 refine bF _ _ (ah _ _ _) ⟨by have:=h.1;omega,by have:=h.2;omega⟩ λi c=>?_;have d:=nu (w/8) ⟨by have:=h.1;omega,by have:=h.2;omega⟩ 3 i;have f:Uz.wrap (w/8*2^3)=w/8*8:=by have l:=h.1;have m:=h.2;rw [IntKind.wrap_u64];omega
 rw [f] at d;rw [d,ay _ _ _ c];have k:∀ i,i<64->bt 7 i=decide (i<3):=cb
 rw [k i c];by_cases a:i<3
 ·have:¬ 3<=i:=by omega
  simp [a,this]
 ·have g:3<=i:=ab;have j:bt (w/8) (i-3)=bt w i:=(by have b:=jA w h 3 (i-3);rw [show i-3+3=i by omega] at b;have e:(2:Int)^3=8:=bc;rw [e] at b;exact b);simp [a,g,j,c]
theorem PL (a:U w) (hd:U p.hd):(p.hl&&(Uz.wrap (w.tdiv 8)==Uz.wrap (p.hd.tdiv 8)))=lJ p w:=by
 have e:∀ x:Int,U x->Uz.wrap (x.tdiv 8)=x/8:=λx h=>by have b:=h.1;have c:=h.2;rw [Int.tdiv_eq_ediv_of_nonneg b,IntKind.wrap_u64];omega
 unfold lJ;rw [e w a,e p.hd hd,Hf w a,Hf p.hd hd];congr 1;by_cases h:w/8=p.hd/8;·rw [h];simp
 ·rw [beq_eq_false_iff_ne.2 h,beq_eq_false_iff_ne.2 ab]
theorem Hg (h:nY n.xs.length n.ys.length n.ir=true) (hk:(jn n a).2.2=true):nY (jn n a).2.1.xs.length (jn n a).2.1.ys.length (jn n a).2.1.ir=true:=by
 have k:=zr h;match a,hk with
 | 0,_=>exact h
 | 1,_=>exact h
 | 2,_=>exact h
 | 3,_ =>show nY (n.xs.drop 1).length n.ys.length n.ir=true;unfold nY at h ⊢;simp only [Bool.and_eq_true,decide_eq_true_eq,List.length_drop] at h ⊢;omega
 | 4,_=>exact h
 | 5,_=>exact h
theorem MR:0<=wrap64 (bits .and .u64 w 1)/\wrap64 (bits .and .u64 w 1)<=1:=by
 have c:∀ i,i<64->bt 1 i=decide (i=0):=cb
 have d:∀ i,i<64->bt 0 i=false:=cb
 have h:bits .and .u64 w 1=if bt w 0=true then 1 else 0:=by
  refine bF _ _ (ah _ _ _) (by split<;>exact ⟨ab,ab⟩) λi b=>?_;rw [aw,c i b];by_cases a:i=0
  ·subst a;cases bt w 0;·rw [if_neg bc,d 0 ab];rfl
   ·rw [if_pos rfl,c 0 ab];rfl
  ·rw [decide_eq_false a,Bool.and_false];split;·rw [c i b,decide_eq_false a]
   ·rw [d i b]
 rw [h];split<;>decide +kernel
theorem Hh (h:nY n.xs.length n.ys.length n.ir=true):(fP n w (gA e m)).2=true->nY (fP n w (gA e m)).1.xs.length (fP n w (gA e m)).1.ys.length (fP n w (gA e m)).1.ir=true:=by
 have b:=MR w;have e4:=Gu n w;obtain ⟨q,c⟩:∃ q,q=wrap64 (bits .and .u64 w 1):=⟨_,rfl⟩;rw [<- c] at e4 b;clear c;refine jQ e m (λk=>(fP n w k).2=true->nY (fP n w k).1.xs.length (fP n w k).1.ys.length (fP n w k).1.ir=true) ?_ ?_ ?_ ?_ ?_ ?_ ?_;·intro _ _;rw [Gr];exact λ_=>h
 ·intro _ _;rw [Gs];exact λ_=>h
 ·intro _ _;rw [Gt];exact λ_=>h
 ·intro _ _;by_cases a:n.ys.length<4096;·rw [zE n w a];intro _;unfold nY at h ⊢;simp only [Bool.and_eq_true,decide_eq_true_eq,List.length_append,List.length_singleton] at h ⊢;omega
  ·rw [zF n w a];exact λ_=>h
 ·intro _ _;rw [e4];intro _;unfold nY at h ⊢;simp only [Bool.and_eq_true,decide_eq_true_eq] at h ⊢;exact ⟨h.1,b⟩
 ·intro _ _;rw [Gv];exact λ_=>h
 ·intro _ _ _ _ _ _;rw [Gx];intro d;cases d
theorem SQ (h:(jn n a).2.2=false):(jn n a).1=0:=by
 match a,h with
 | 0,h=>cases h
 | 1,h=>cases h
 | 2,h=>cases h
 | 3,h=>cases h
 | 4,h=>cases h
 | 5,h=>cases h
 | a+6,_=>rfl
theorem Ft (h:bf D=true):0<D:=by
 rcases Nat.eq_zero_or_pos D with a|a;·subst a;revert h;decide
 ·exact a
def CG (M:MV) (pa size kind x:Int):Int × Bool × MV :=
 if gB M.ram.length pa size=true then
  (if (kind==3)=true then (0,true,nW (bU M (km M.ram (pa-2147483648).toNat x size.toNat)) pa) else (le M.ram (pa-2147483648).toNat size.toNat,true,M))
 else if (kind==2)=true then
  (if (jn M.d (gA pa size)).2.2=true then ((jn M.d (gA pa size)).1,true,cK (db M (jn M.d (gA pa size)).2.1)) else (0,false,M))
 else if (kind==3)=true then
  (if (fP M.d x (gA pa size)).2=true then (0,true,nW (cK (db M (fP M.d x (gA pa size)).1)) pa) else (0,false,M))
 else (0,false,M)
theorem SS:tE p w e m q=if (CG p w e m q).2.1=true then ((CG p w e m q).1,(CG p w e m q).2.2,0) else (0,(CG p w e m q).2.2,g8 m):=by
 unfold tE CG;split;·split<;>rfl
 ·split;·split<;>rfl
  ·split;·split<;>rfl
   ·rfl
theorem MS (a:bn 22 k w=true) (b:jf m=true) (c:decide (1<=q/\q<=3)=true):vG 22 k w e m q=!Jm k w e m q:=by unfold vG Jm;rw [a,b,c,Bool.not_or,Bool.not_not];rfl
structure Gd (M:MV):Prop where
 ok:dI M=true
 mw:MW M
 ux:∀ j,U (M.x.getD j 0)
 pc:U M.pc
 hd:U M.hd
theorem fg (h:dI x=true):(bits .and .u64 x.pc 3==0)=true/\gv x.x.length x.x=true/\bn x.cs.length x.cs x.pr=true/\bf x.ram.length=true/\nY x.d.xs.length x.d.ys.length x.d.ir=true/\(x.hl||(x.hd==0))=true/\lK x=true:=by unfold dI at h;simp only [Bool.and_eq_true] at h;obtain ⟨⟨⟨⟨⟨⟨a,b⟩,c⟩,d⟩,e⟩,f⟩,g⟩:=h;exact ⟨a,b,c,d,e,f,g⟩
theorem kY (a:(bits .and .u64 M.pc 3==0)=true) (b:gv M.x.length M.x=true) (c:bn M.cs.length M.cs M.pr=true) (h4:bf M.ram.length=true) (d:nY M.d.xs.length M.d.ys.length M.d.ir=true) (e:(M.hl||(M.hd==0))=true) (f:lK M=true):dI M=true:=by unfold dI;rw [a,b,c,h4,d,e,f];rfl
theorem Gd.len (h:Gd x):jR x:=by obtain ⟨_,a,c,d,e,_,_⟩:=fg h.ok;unfold gv at a;rw [Bool.and_eq_true,decide_eq_true_eq] at a;have b:=qR c;have g:=gq d;have f:=zr e;exact ⟨ab,ab,ab,ab,ab⟩
theorem Gd.mem (h:Gd x) (hl:l.length=x.ram.length) (i:∀ y ∈ l,(Lit.int .u8 y).wf=true):Gd (bU x l):=by obtain ⟨a,b,c,d,e,f,g⟩:=fg h.ok;exact ⟨kY (M:=bU x l) a b c (by show bf l.length=true;rw [hl];exact d) e f g,⟨h.mw.cs,i,h.mw.xs,h.mw.ys⟩,h.ux,h.pc,h.hd⟩
theorem Gd.free (h:Gd x):Gd (lI x):=by obtain ⟨a,b,c,d,e,g,f⟩:=fg h.ok;exact ⟨kY (M:=lI x) a b c d e rfl f,⟨h.mw.cs,h.mw.ram,h.mw.xs,h.mw.ys⟩,h.ux,h.pc,(show U 0 from ⟨bc,bc⟩)⟩
theorem Gd.let_ (h:Gd x) (pa:Int):Gd (nW x pa):=by
 unfold nW;split;·exact h.free
 ·exact h
theorem JU (p:Int->Prop) (h:∀ a b c:Bool,p (Uz.wrap (Uz.wrap (Uz.wrap (8*gt a)+Uz.wrap (128*gt b))+Uz.wrap (2048*gt c)))):p (dP n):=h _ _ _
theorem MT:bits .and .u64 (dP n) 2184=dP n:=by refine JU n (λx=>bits .and .u64 x 2184=x) ?_;decide +kernel
theorem PN:U (dP n):=aU _
theorem CH (a:D<64):bt (dP n) D=(bt (dP n) D&&bt 2184 D):=by have:=aw (dP n) 2184 D;rw [MT] at this;exact this
theorem Gd.dev (h:Gd x) {D:DV} (t:nY D.xs.length D.ys.length D.ir=true) (hb:dU D):Gd (cK (db x D)):=by
 obtain ⟨o,p,w,q,M,r,y⟩:=fg h.ok;obtain ⟨d,f,l,_,_,_⟩:=aI h.ok;have s:=eM f 9 ab;have n:bits .and .u64 (x.cs.getD 9 0) 2730=x.cs.getD 9 0:=beq_iff_eq.1 s;have u:fI 9 (bits .or .u64 (bits .andNot .u64 (x.cs.getD 9 0) 2184) (dP D))=true:=by show (bits .and .u64 (bits .or .u64 (bits .andNot .u64 (x.cs.getD 9 0) 2184) (dP D)) 2730==bits .or .u64 (bits .andNot .u64 (x.cs.getD 9 0) 2184) (dP D))=true;refine beq_iff_eq.2 (bF _ _ (ah _ _ _) (ah _ _ _) λi c=>?_);have v:bt (x.cs.getD 9 0) i=(bt (x.cs.getD 9 0) i&&bt 2730 i):=(by have:=aw (x.cs.getD 9 0) 2730 i;rw [n] at this;exact this);have m:=CH D c;rw [aw,cE,ay _ _ _ c];have k:∀ j,j<64->∀ a b:Bool,(a=(a&&bt 2730 j))->(b=(b&&bt 2184 j))->(((a&&!bt 2184 j)||b)&&bt 2730 j)=((a&&!bt 2184 j)||b):=cb;exact k i c _ _ v m
 have g:bE 22 (x.cs.set 9 (bits .or .u64 (bits .andNot .u64 (x.cs.getD 9 0) 2184) (dP D)))=true:=cR x.cs d f 9 ab _ u;refine ⟨kY (M:=cK (db x D)) o p ?_ q t r ?_,⟨?_,h.mw.ram,hb.1,hb.2⟩,h.ux,h.pc,h.hd⟩;·show bn (x.cs.set 9 _).length (x.cs.set 9 _) x.pr=true;unfold bn;rw [List.length_set,d,l,Bool.and_true];exact g
 ·show (bits .and .u64 ((x.cs.set 9 (bits .or .u64 (bits .andNot .u64 (x.cs.getD 9 0) 2184) (dP D))).getD 9 0) 2184==dP D)=true;have e:(x.cs.set 9 (bits .or .u64 (bits .andNot .u64 (x.cs.getD 9 0) 2184) (dP D))).getD 9 0=bits .or .u64 (bits .andNot .u64 (x.cs.getD 9 0) 2184) (dP D):=(by rw [List.getD_eq_getElem?_getD,List.getElem?_set_self ab];rfl);rw [e];refine beq_iff_eq.2 (bF _ _ (ah _ _ _) (PN D) λi c=>?_);have m:=CH D c;rw [aw,cE,ay _ _ _ c];have k:∀ j,j<64->∀ a b:Bool,(b=(b&&bt 2184 j))->(((a&&!bt 2184 j)||b)&&bt 2184 j)=b:=cb;exact k i c _ _ m
 ·intro j;show U ((x.cs.set 9 (bits .or .u64 (bits .andNot .u64 (x.cs.getD 9 0) 2184) (dP D))).getD j 0);rw [List.getD_eq_getElem?_getD,List.getElem?_set];split
  ·split;·exact ah .or (bits .andNot .u64 (x.cs.getD 9 0) 2184) (dP D)
   ·exact ⟨bc,bc⟩
  ·have:=h.mw.cs j;rw [List.getD_eq_getElem?_getD] at this;exact this
theorem MU (h:dU n) (k:Nat):dU (jn n k).2.1:=by
 have b:dU zeroD:=⟨λy a=>(nomatch a),λy a=>(nomatch a)⟩;unfold jn;split;·exact h
 ·exact h
 ·exact h
 ·exact ⟨λy a=>h.1 y (List.mem_of_mem_drop a),h.2⟩
 ·exact h
 ·exact h
 ·exact b
theorem MX (h:dU n) (x addr size:Int):dU (fP n x (gA addr size)).1:=by
 have D:dU zeroD:=⟨λy a=>(nomatch a),λy a=>(nomatch a)⟩;have c:=Gr n x;have g:=Gs n x;have i:=Gt n x;have b:(fP n x 3).1.xs=n.xs/\((fP n x 3).1.ys=n.ys\/(fP n x 3).1.ys=n.ys++[IntKind.u8.wrap x]):=by
  by_cases d:n.ys.length<4096;·rw [zE _ _ d];exact ⟨rfl,Or.inr rfl⟩
  ·rw [zF _ _ d];exact ⟨rfl,Or.inl rfl⟩
 obtain ⟨q,j⟩:∃ q,fP n x 4=(⟨n.t,n.cm,n.so,n.xs,n.ys,q⟩,true):=⟨_,Gu n x⟩;have l:=Gv n x;have m:=Gx n x;generalize (bits .and .u64 x 1==1)=r at c;have f:(Lit.int .u8 (IntKind.u8.wrap x)).wf=true:=Mj (y:=IntKind.u8.wrap x) ro;generalize IntKind.u8.wrap x=z at b f;refine jQ addr size (λk=>dU (fP n x k).1) (λ_ _=>?_) (λ_ _=>?_) (λ_ _=>?_) (λ_ _=>?_) (λ_ _=>?_) (λ_ _=>?_) (λ_ _ _ _ _ _=>?_);·show dU (fP n x 0).1;rw [c];exact ⟨h.1,h.2⟩
 ·show dU (fP n x 1).1;rw [g];exact ⟨h.1,h.2⟩
 ·show dU (fP n x 2).1;rw [i];exact ⟨h.1,h.2⟩
 ·show dU (fP n x 3).1;refine ⟨by rw [b.1];exact h.1,λy a=>?_⟩;rcases b.2 with e | e<;>rw [e] at a;·exact h.2 y a
  ·rcases List.mem_append.1 a with a|a;·exact h.2 y a
   ·rw [List.mem_singleton.1 a];exact f
 ·have e:(fP n x 4).1=⟨n.t,n.cm,n.so,n.xs,n.ys,q⟩:=congrArg Prod.fst j;exact e ▸ (⟨h.1,h.2⟩:dU ⟨n.t,n.cm,n.so,n.xs,n.ys,q⟩)
 ·show dU (fP n x 5).1;rw [l];exact h
 ·show dU (fP n x 6).1;rw [m];exact D
theorem Gd.at_ (h:Gd x) (pa size kind M:Int):Gd (tE x pa size kind M).2.1:=by
 obtain ⟨_,_,_,_,c,_,_⟩:=fg h.ok;have a:dU x.d:=⟨h.mw.xs,h.mw.ys⟩;unfold tE;split
 ·split;·exact (h.mem (jq _ _ _ _) (Ml _ h.mw.ram _ _ _)).let_ pa
  ·exact h
 ·split
  ·split;·rename_i b;exact h.dev (Hg _ _ c b) (MU _ a _)
   ·exact h
  ·split
   ·split;·rename_i b;exact (h.dev (Hh _ _ _ _ c b) (MX _ a _ _ _)).let_ pa
    ·exact h
   ·exact h
theorem Gd.marked (h:Gd x) (F:Fd):Gd (bU x (bx x.ram F)):=h.mem (kv _ _) (Ai _ h.mw.ram F)
theorem Gd.acc (h:Gd x) (addr size kind M:Int):Gd (aC x addr size kind M).2.1:=by
 unfold aC;split;·exact h
 ·unfold zU;split;·exact h.marked _
  ·split;·exact h.marked _
   ·exact (h.marked _).at_ _ _ _ _
theorem CI:(nW p w).pc=p.pc/\(nW p w).x=p.x/\(nW p w).pr=p.pr/\(nW p w).wt=p.wt:=by unfold nW;split<;>exact ⟨rfl,rfl,rfl,rfl⟩
theorem PO:(tE p w e m q).2.1.pc=p.pc/\(tE p w e m q).2.1.x=p.x/\(tE p w e m q).2.1.pr=p.pr/\(tE p w e m q).2.1.wt=p.wt:=by
 unfold tE;split
 ·split;·exact CI (bU p _) w
  ·exact ⟨rfl,rfl,rfl,rfl⟩
 ·split;·split<;>exact ⟨rfl,rfl,rfl,rfl⟩
  ·split
   ·split;·exact CI (cK (db p _)) w
    ·exact ⟨rfl,rfl,rfl,rfl⟩
   ·exact ⟨rfl,rfl,rfl,rfl⟩
theorem iS:(aC p w e m q).2.1.pc=p.pc/\(aC p w e m q).2.1.x=p.x/\(aC p w e m q).2.1.pr=p.pr/\(aC p w e m q).2.1.wt=p.wt:=by
 unfold aC;split;·exact ⟨rfl,rfl,rfl,rfl⟩
 ·unfold zU;split;·exact ⟨rfl,rfl,rfl,rfl⟩
  ·split;·exact ⟨rfl,rfl,rfl,rfl⟩
   ·exact PO (bU p _) _ _ _ _
theorem wG (lv:Nat):(dp k w e m q z lv).code=0\/(dp k w e m q z lv).code=eu m\/(dp k w e m q z lv).code=dL m:=by
 unfold dp;split;·exact Or.inr (Or.inl rfl)
 ·split;·exact Or.inr (Or.inl rfl)
  ·split;·exact Or.inr (Or.inl rfl)
   ·split
    ·split;·exact Or.inl rfl
     ·exact Or.inr (Or.inr rfl)
    ·exact Or.inl rfl
theorem Fu:∀ n T,(bO k a s w e m n T).code=0\/(bO k a s w e m n T).code=eu m\/(bO k a s w e m n T).code=dL m:=by
 intro n;induction n with
 | zero =>
   intro T;rw [gL];split
   ·split
    ·split;·exact Or.inr (Or.inl rfl)
     ·split;·rw [if_pos (show jk _ 0=true from by unfold jk;simp)];exact Or.inr (Or.inl rfl)
      ·exact wG _ _ _ _ _ _ _
    ·exact Or.inr (Or.inr rfl)
   ·exact Or.inr (Or.inr rfl)
 | succ n b =>
   intro T;rw [gL];split
   ·split
    ·split;·exact Or.inr (Or.inl rfl)
     ·split
      ·split;·exact Or.inr (Or.inl rfl)
       ·exact b _
      ·exact wG _ _ _ _ _ _ _
    ·exact Or.inr (Or.inr rfl)
   ·exact Or.inr (Or.inr rfl)
theorem yQ:(ct k a s w e m).code=0\/(ct k a s w e m).code=eu m\/(ct k a s w e m).code=dL m:=by
 unfold ct;split;·exact Or.inl rfl
 ·split;·exact Or.inr (Or.inl rfl)
  ·exact Fu _ _ _ _ _ _ _ _
theorem MY:eu w=12\/eu w=13\/eu w=15:=by
 unfold eu;repeat' split
 all_goals simp
theorem JV:dL w=1\/dL w=5\/dL w=7:=by
 unfold dL;repeat' split
 all_goals simp
theorem lT:∃ c:Nat,c<16/\(ct k a s w e m).code=c:=by
 have n:=MY m;have b:=JV m;rcases yQ k a s w e m with h|h|h;·exact ⟨0,ab,h⟩
 ·rcases n with va|va|va;·exact ⟨12,ab,by rw [h,va];rfl⟩
  ·exact ⟨13,ab,by rw [h,va];rfl⟩
  ·exact ⟨15,ab,by rw [h,va];rfl⟩
 ·rcases b with va|va|va;·exact ⟨1,ab,by rw [h,va];rfl⟩
  ·exact ⟨5,ab,by rw [h,va];rfl⟩
  ·exact ⟨7,ab,by rw [h,va];rfl⟩
theorem uH:∃ c:Nat,c<16/\g8 w=c+16:=by
 unfold g8;split;·exact ⟨1,ab,rfl⟩
 ·split;·exact ⟨5,ab,rfl⟩
  ·exact ⟨7,ab,rfl⟩
theorem PP:∃ c:Nat,c<16/\oH w=c+16:=by
 unfold oH;split;·exact ⟨0,ab,rfl⟩
 ·split;·exact ⟨4,ab,rfl⟩
  ·exact ⟨6,ab,rfl⟩
theorem PQ:(tE p w e m q).2.2=0\/∃ c:Nat,c<16/\(tE p w e m q).2.2=c+16:=by
 unfold tE;split;·split<;>exact Or.inl rfl
 ·split
  ·split;·exact Or.inl rfl
   ·exact Or.inr (uH m)
  ·split
   ·split;·exact Or.inl rfl
    ·exact Or.inr (uH m)
   ·exact Or.inr (uH m)
theorem MZ:(aC p w e m q).2.2=0\/∃ c:Nat,c<16/\(aC p w e m q).2.2=c+16:=by
 unfold aC;split;·exact Or.inr (PP m)
 ·unfold zU;split;·obtain ⟨c,a,size⟩:=lT p.ram p.ram.length p.cs (gc p.cs p.pr m) w m;refine Or.inr ⟨c,a,?_⟩;show wrap64 ((ct p.ram p.ram.length p.cs (gc p.cs p.pr m) w m).code+16)=_;rw [size];unfold wrap64;omega
  ·split;·exact Or.inr (uH m)
   ·exact PQ _ _ _ _ _
end Go.Proofs.YtfagphfjfhpmjaaGreatDoor
