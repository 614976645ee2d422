/- Own lemmas. -/
import Derived.Test.YtfekjlcnnjhofaaGreatDoorAut
import Derived.Test.YtfekjlcnnjhofaaGreatDoorK12
import Derived.RangeFuncNested
import Derived.RangeFuncBound
import Derived.Shelf.RegionOpen
import Derived.OwnWalkIn
import Derived.LoopNIn
import Derived.LoopIn
set_option maxRecDepth 100000
set_option maxHeartbeats 4000000
namespace Go.Proofs.YtfekjlcnnjhofaaGreatDoor
open Go.RowKit Tryz
open IntKind renaming u64->Uz
open Below renaming refl->I1
open Bool renaming and_eq_true->I2,false_eq_true->I3,false_or->I4,not_or->I5
open Boxed renaming new->T6,set->V4
open Fence renaming wide->T3
open Go renaming bits->D3,World->D4,Boxed->D8,run_takeDeferred->F0,belowK_b->F3,ownFrom_below->G1,callsIn_of_wp->H8
open Go.RowKit renaming Below->V8,wrap64->X0
open KeepsOthers renaming setCell->K0,alloc->K1
open List renaming getD_eq_getElem?_getD->O1,append_toArray->P2,size_toArray->R4,push_toArray->R5,length_cons->R6,cons_append->R7,nil_append->R8,mem_append->S2,length_nil->S5
open Nat renaming lt_of_lt_of_le->A8,le_refl->A9,le_trans->C5,reduceSub->C6,reduceAdd->D1,eq_zero_or_pos->D2
open Or renaming inr->A5,inl->A6
open World renaming cell?->T4,alloc_heap_new->T5
open _root_.Array renaming getElem?_eq_some_iff->L0,replicate_zero->L6,replicate_succ->N1
set_option linter.unusedVariables false
variable (a k w b x:Int) (l:D4) (r y c:Nat) (d:List Int) (p:Nat)
theorem lD {B:Nat} {w w':D4} (h:V8 B w w') (q:Nat):V8 B w (w'.drewN q):=⟨h.os,h.tape,h.output,h.size,h.block⟩
def H6 (k:Int):Bool:=(k==1)||(k==2)||(k==3)
theorem rt (k:Int):H6 k=decide (1<=k/\k<=3):=by
 unfold H6;by_cases a:k=1;·subst a;rfl
 ·by_cases b:k=2;·subst b;rfl
  ·by_cases c:k=3;·subst c;rfl
   ·have:¬ (1<=k/\k<=3):=by omega
    rw [decide_eq_false this];simp [a,b,c]
theorem lZ (k:Int) (w:D4):CE 128 #[.i k] w (.bool (H6 k)):=by refine br (S:=λx=>x=w) (args:=[.i k]) [] func128 ?_;unfold H6;cases a:(k==1)<;>cases b:(k==2)<;>cases c:(k==3)<;>exact jm (R:=[]) trivial {eq:=[(4,an a),(7,an b),(11,an c)]} 40 (t:=2) ⟨rfl,rfl⟩
def CO (k:Int):Int:=if (k==1)=true then 4 else if (k==2)=true then 1 else 2
theorem CP (k:Int) (w:D4):CE 225 #[.i k] w (.u (CO k)):=by refine br (S:=λx=>x=w) (args:=[.i k]) [] func225 ?_;unfold CO;cases a:(k==1)<;>cases b:(k==2)<;>exact jm (R:=[]) trivial {eq:=[(5,an a),(7,an b)]} 40 (t:=2) ⟨rfl,rfl⟩
def FA (b a x y:Int):Bool:=decide (b<=x)&&decide (y<=a)
theorem FC:CB 205 #[.agg #[.u a,.u k,.u w],.u b,.u x] l (.bool (FA a k b x)):=by refine br (S:=Bs l [(#[.u a,.u k,.u w],253)]) (args:=[.agg #[.u a,.u k,.u w],.u b,.u x]) [(#[.u a,.u k,.u w],253)] func205 ?_;unfold FA;cases d:decide (a<=b)<;>cases f:decide (x<=k)<;>exact bn (t:=6) Bs.eng {eq:=[(10,an d),(15,an f)]} 60 (Bs.start _ _) (λc h=>⟨rfl,h.2⟩)
def oU (r p k:Int):Bool:=((p==3)&&(D3 .and .u64 r 128==0))||(D3 .and .u64 r (CO k) != 0)
theorem FD:CB 206 #[.agg #[.u a,.u k,.u w],.i b,.i x] l (.bool (oU w b x)):=by refine br (S:=Bs l [(#[.u a,.u k,.u w],253)]) (args:=[.agg #[.u a,.u k,.u w],.i b,.i x]) [(#[.u a,.u k,.u w],253)] func206 ?_;have d:=CP x;unfold oU;generalize CO x=m at *;cases f:(b==3)<;>cases g:(D3 .and .u64 w 128==0)<;>cases i:(D3 .and .u64 w m != 0)<;>exact bn (t:=6) Bs.eng {eq:=[(8,an f),(13,an g),(20,an i)],cv:=[(18,nt λW _=>d W)]} 60 (Bs.start _ _) (λc h=>⟨rfl,h.2⟩)
theorem Ar (q:p<4) (w:D4) (l:w.cell? ⟨r,y+(16+p),none⟩=some (.u (d.getD (16+p) 0))): CB 266 #[.slice (some ⟨r,y,none⟩) 22 c,.i p] w (.u (tL d p)):=by
 have F:Hid (tL d p=if (p==0)=true then 0 else Uz.wrap (4*d.getD (16+p) 0)):=(rfl:tL d p=_);rcases D2 p with h|h;·subst h;go_enter func266,ntmps266;exact a0f
 ·have i:((p:Int)==0)=false:=bv;have m:X0 (17+(p:Int))=((17+p:Nat):Int):=ob;have j:X0 (((17+p:Nat):Int)-1)=((16+p:Nat):Int):=ob;have g:0<=((16+p:Nat):Int)/\((16+p:Nat):Int)<((22:Nat):Int):=ab;have f:Hid (tL d p=Uz.wrap (4*d.getD (16+p) 0)):=(by have:=F.out;rw [JZ9 bv] at this;exact this);clear F;generalize d.getD (16+p) 0=a at *;go_enter func266,ntmps266;go_wp2_with fail;go_ret;exact ⟨by rw [f.out];rfl,I1 _ _⟩
theorem Tg:bt (D3 .xor .u64 a k) r=(bt a r ^^ bt k r):=by show (BitVec.ofInt 64 (Uz.wrap ((BitVec.ofInt 64 a ^^^ BitVec.ofInt 64 k).toNat:Int))).getLsbD r=_;rw [qH];simp [bt]
theorem P4 (h:r<18446744073709551616):D3 .xor .u64 IntKind.u64.max (r:Int)=((18446744073709551615-r:Nat):Int):=by
 have e:IntKind.u64.max=18446744073709551615:=rfl;rw [e];refine bF _ _ (ah _ _ _) ⟨ab,ab⟩ λi b=>?_;rw [Tg,Ah i b,oE _ ⟨ab,ab⟩,oE _ ⟨ab,ab⟩];have e2:(18446744073709551615-r:Nat)=2^64-(r+1):=ab
 simp only [Int.toNat_natCast];rw [e2,Nat.testBit_two_pow_sub_succ h,decide_eq_true b];simp
theorem wu (q:D3 .xor .u64 IntKind.u64.max a=(r:Int)) (hk:min y 53=c) (o:c<=53) (w:D4) (l:Hid (CE 272 #[.u r] w (.i y))): CB 267 #[.u a] w (.tuple #[.u (rm a c),.u (tM a c)]):=by
 have j:Hid (min y 53=c):=hk;have p:IntKind.u64.signed=false:=rfl;clear hk;go_enter func267,ntmps267;go_wp2_with fail;refine l.out.mono ?_;rintro e x ⟨rfl,d⟩;have f:=d.symm;subst f;go_wp2_with fail;case inl =>
  rename_i b;have k:Hid (c=53):=(by have:=j.out;show c=53;omega);go_quiet (fail)
  go_wp2_with fail;go_ret2;exact ⟨by rw [k.out];rfl,lD (I1 _ _) _⟩
 case inr =>
  rename_i b;have m:Hid (c=y):=(by have:=j.out;show c=y;omega);go_quiet (fail)
  go_wp2_with fail;go_ret2;exact ⟨by rw [m.out];rfl,lD (I1 _ _) _⟩
theorem xL (h:U a) (w:D4) (c:pu w): CB 267 #[.u a] w (.tuple #[.u (rm a (rl a)),.u (tM a (rl a))]):=by
 obtain ⟨n,rfl⟩:∃ n:Nat,a=n:=⟨a.toNat,by have:=h.1;omega⟩;have d:n<18446744073709551616:=by have:=h.2;omega
 have b:(18446744073709551615-(n:Int)).toNat=18446744073709551615-n:=ab
 refine wu (n:Int) (18446744073709551615-n) (Lib.ctz 64 (18446744073709551615-n)) _ (P4 n d) ?_ ?_ w (SI _ ab w c);·unfold rl;rw [b]
 ·unfold rl;exact Nat.min_le_right _ _
theorem Ng (c cap:Nat) (l:List Int) (i:Nat) (D:i<4) (w:D4) (C:pu w) (hl:∀ j,U (l.getD j 0)) (d:w.cell? ⟨r,c+16,none⟩=some (.u (l.getD 16 0))) (p:w.cell? ⟨r,c+(17+i),none⟩=some (.u (l.getD (17+i) 0))) (n:w.cell? ⟨r,c+(16+i),none⟩=some (.u (l.getD (16+i) 0))): CB 258 #[.slice (some ⟨r,c,none⟩) 22 cap,.i i] w (.tuple #[.u (eZ l i).1,.u (eZ l i).2]):=by
 have u:r<w.heap.size:=World.block_lt_of_cell? w _ d;have HR:=λW (_:Bw w W)=>(qV (l.getD 16 0) i ab (hl 16).1 (hl 16).2 W).mono λe g (h:_/\g=W.drew)=>(⟨h.1,by rw [h.2];exact (I1 _ _).drew⟩:_/\Bw W g);have z:=λW (k:Bw w W)=>Ar r c cap l i D W ((k.cell (by exact u)).trans n);have A:=λW (k:Bw w W)=>xL (l.getD (17+i) 0) (hl (17+i)) W (C.below k);have b:IntKind.i64.wrap (17+(i:Int))=((17+i:Nat):Int):=by rw [IntKind.wrap_i64];omega
 have m:0<=((17+i:Nat):Int)/\((17+i:Nat):Int)<((22:Nat):Int):=ab
 obtain ⟨V,f⟩:∃ V,V=eZ l i:=⟨_,rfl⟩;rw [<- f];unfold eZ at f;generalize tL l i=F at *;generalize rl (l.getD (17+i) 0)=on at *;generalize rm (l.getD (17+i) 0) on=pl at *;generalize tM (l.getD (17+i) 0) on=G at *;generalize iT (l.getD 16 0) i=q at *;generalize l.getD (17+i) 0=a at *;generalize l.getD 16 0=B at *;refine br (S:=Bs w []) (args:=[.slice (some ⟨r,c,none⟩) 22 cap,.i i]) [] func258 ?_;cases v:(q==1)<;>cases x:(q==2)<;>cases y:(q==3)<;>rw [v,x,y] at f<;>subst f <;>
  exact eO (t:=4) (s:=5) Bs.eng {eq:=[(9,cR .i64 b),(18,an v),(25,an x),(32,an y)],ov:=[(10,kW (a:=some ⟨r,c,none⟩) (b:=r) (o:=c) 22 cap .i64 ((17+i:Nat):Int) rfl m underlying25 ba),(11,iP ⟨r,c+((17+i:Nat):Int).toNat,none⟩ (.u a) underlying24 rfl λW h=>(h.2.cell (by exact u)).trans p),(14,iP ⟨r,c+16,none⟩ (.u B) underlying24 rfl λW h=>(h.2.cell (by exact u)).trans d)],cv:=[(16,fM HR),(21,fM z),(34,fM A)]} 60 (Bs.start _ _) λE h=>⟨rfl,h.2⟩
open Go.RowKit Tryz Go.Shelf
attribute [local go_sem] Oper.semAt_some
variable {g:D4} {b:Nat} {W:Obj} {l:Array Value} {n:TypeId} {o:Nat × Nat} (w a c f t B d:Nat) (j:List Int)
theorem sG {w':D4} (hb:Bw g w') (row:Option Nat):g.grownBy w' row:=⟨hb.os,hb.tape,hb.output,hb.size,λk a _=>hb.block k a⟩
def Nh (x:Nat × Int × Int × Int):Array Value:=#[.i (x.1:Int),.agg #[.u x.2.1,.u x.2.2.1,.u x.2.2.2]]
theorem CQ (hl:∀ l,U (j.getD l 0)) (J Y:List (Nat × Int × Int × Int)->D4->Prop) (hb:t<f) (L:c<f) (hg:0<f) (W:D4) (hn:f<=W.heap.size) (hT:pu W) (hc:W.cell? ⟨c,0,none⟩=some (.slice (some ⟨t,B,none⟩) 22 d)) (hs:∀ l,l<22->W.cell? ⟨t,B+l,none⟩=some (.u (j.getD l 0))) (hJ:AbidesFrom W.heap.size J) (hY:∀ pre x D,J pre D->pre.length<4->YieldAt T3 (w-1) prog a (Nh x) D λe s=>(e=.returned (.bool true)/\J (pre++[x]) s/\V8 f D s)\/(e=.returned (.bool false)/\Y (pre++[x]) s)) (h0:J [] W): CallsIn T3 w prog 257 #[.func (.yield a) #[] #[],.p c 0] W λe s=>(∃ v,e=.returned v)/\((∃ ys,ys=gm j 4/\J ys s)\/(∃ pre,pre <+: gm j 4/\Y pre s)):=by
 have HC:Hid (W.cell? ⟨c,0,none⟩=some (.slice (some ⟨t,B,none⟩) 22 d)):=hc;have X:Hid (∀ l,l<22->W.cell? ⟨t,B+l,none⟩=some (.u (j.getD l 0))):=hs;have HT:Hid (pu W):=hT;have HY:Hid (∀ pre x D,J pre D->pre.length<4->YieldAt T3 (w-1) prog a (Nh x) D λe s=>(e=.returned (.bool true)/\J (pre++[x]) s/\V8 f D s)\/(e=.returned (.bool false)/\Y (pre++[x]) s)):=hY;have HJ:Hid (AbidesFrom W.heap.size J):=hJ;have HL:Hid (∀ l,U (j.getD l 0)):=hl;clear hc hs hT hY hJ hl;refine H8 func257 rfl trivial ?_ rfl;simp only [ntmps257,R4,R6,S5,D1,C6,N1,L6,R5,P2,R8,R7];gi_wp2;gi_loopw [7] (λi wr=>∃ k:Nat,k<=4/\i=.i k/\J (gm j k) wr/\V8 f W wr) (λi _=>4-(intOf i).toNat);case atStart=>exact ⟨0,ab,rfl,h0,I1 _ _⟩
 case round =>
  obtain ⟨k,hk,rfl,N,b⟩:=hrel;have y:Hid (V8 f W wr):=b;have C:Hid (J (gm j k) wr):=N;have hcw:wr.cell? ⟨c,0,none⟩=some (.slice (some ⟨t,B,none⟩) 22 d):=(b.cell (p:=⟨c,0,none⟩) L).trans HC.out;have q:f<=wr.heap.size:=C5 hn b.size;clear b N;by_cases hlt:k<4
  ·have m:Hid (CB 258 #[.slice (some ⟨t,B,none⟩) 22 d,.i k] wr (.tuple #[.u (eZ j k).1,.u (eZ j k).2])):=
    Ng t B d j k hlt wr (HT.out.from y.out hg) HL.out ((y.out.cell (p:=⟨t,B+16,none⟩) hb).trans (X.out 16 ab)) ((y.out.cell (p:=⟨t,B+(17+k),none⟩) hb).trans (X.out (17+k) ab)) ((y.out.cell (p:=⟨t,B+(16+k),none⟩) hb).trans (X.out (16+k) ab))
   by_cases o:(eZ j k).2<=(eZ j k).1
   ·have I:Hid (gm j (k+1)=gm j k):=J3 o;have O:decide ((eZ j k).1>=(eZ j k).2):=(by simpa using o);gi_wp2_with fail;refine ⟨trivial,(λh=>ni),(callsIn_wide.2 m.out).mono ?_⟩;rintro e Bs ⟨rfl,g⟩;clear m;have A:Hid (J (gm j (k+1)) Bs):=(by have:=HJ.out _ wr Bs none C.out (sG g none) (λr e=>yn);rw [I.out];exact this);have z:Hid (V8 f W Bs):=y.out.trans (g.mono q);gi_wp2_with fail;go_roundw;case rel=>exact ⟨k+1,ab,di,A.out,z.out⟩
    case measure=>simp [intOf];omega
   ·have O:decide ((eZ j k).1>=(eZ j k).2)=false:=(by simpa using o);have I:Hid (gm j (k+1)=gm j k++[(k,(eZ j k).1,Uz.wrap ((eZ j k).2-1),de (j.getD 16 0) (8*k) 8)]):=J4 o;have HPB:Hid (∀ n,Calls prog 259 #[.u (j.getD 16 0),.i k] n λe w'=>e=.returned (.u (de (j.getD 16 0) (8*k) 8))/\w'=n.drew):=λn=>oO _ k ab (HL.out 16).1 (HL.out 16).2 n;have H:Hid (∀ Bs,Bw wr Bs->Bs.cell? ⟨t,B+16,none⟩=some (.u (j.getD 16 0))/\Bs.cell? ⟨c,0,none⟩=some (.slice (some ⟨t,B,none⟩) 22 d)):=λBs h1 =>
     ⟨(h1.cell (p:=⟨t,B+16,none⟩) (A8 hb q)).trans ((y.out.cell (p:=⟨t,B+16,none⟩) hb).trans (X.out 16 ab)),(h1.cell (p:=⟨c,0,none⟩) (A8 L q)).trans hcw⟩
    have HLN:Hid ((gm j k).length<4):=(by have:=MP j k;show (gm j k).length<4;omega);have HPR:Hid (gm j (k+1) <+: gm j 4):=(by have:=MQ j (4-(k+1)) (k+1);rw [show k+1+(4-(k+1))=4 from ab] at this;exact this);generalize de (j.getD 16 0) (8*k) 8=E at *;generalize j.getD 16 0=c16 at *;obtain ⟨T,Q⟩:∃ T,(eZ j k).1=T:=⟨_,rfl⟩;obtain ⟨s2,R⟩:∃ s2,(eZ j k).2=s2:=⟨_,rfl⟩;rw [Q,R] at m I O;clear Q R o;gi_wp2_with fail;refine ⟨trivial,(λh=>ni),(callsIn_wide.2 m.out).mono ?_⟩;rintro e Bs ⟨rfl,g⟩;clear m;obtain ⟨hc1,hc2⟩:=H.out Bs g;have A:Hid (J (gm j k) Bs):=HJ.out _ wr Bs none C.out (sG g none) (λr e=>yn);have z:Hid (V8 f W Bs):=y.out.trans (g.mono q);have S:Hid (f<=Bs.heap.size):=C5 q g.size;clear g;gi_wp2_with fail;refine ⟨trivial,(λh=>ni),(callsIn_wide.2 (HPB.out _)).mono ?_⟩;rintro e w2 ⟨rfl,hw2⟩;subst hw2;gi_wp2_with fail;obtain ⟨V,F⟩:∃ V,Uz.wrap (s2-1)=V:=⟨_,rfl⟩;have K:Hid (gm j (k+1)=gm j k++[(k,T,V,E)]):=(by have:=I.out;rw [F] at this;exact this);rw [F];clear F I;have G:Hid (Bw Bs ((Bs.alloc (.cells #[.u T,.u V,.u E] 253)).drew)):=(bal _ _).drew;obtain ⟨fn,tmps,assign,body,hy,hR⟩:=HY.out (gm j k) (k,T,V,E) _ (HJ.out _ Bs _ none A.out (sG G.out none) (λr e=>yn)) HLN.out;simp only [Nh] at hy;rw [hy];gi_wp2_with fail;refine ⟨(λh=>ni),hR.mono ?_⟩;rintro e W3 (⟨rfl,M,P⟩ | ⟨rfl,u⟩)
    ·have cap:Hid (J (gm j (k+1)) W3):=(by rw [K.out];exact M);have Z:Hid (V8 f W W3):=(z.out.trans (G.out.mono S.out)).trans P;clear M P;gi_wp2_with fail;go_roundw;case rel=>exact ⟨k+1,ab,di,cap.out,Z.out⟩
     case measure=>simp [intOf];omega
    ·have cap:Hid (Y (gm j (k+1)) W3):=(by rw [K.out];exact u);clear u;gi_wp2_with fail;refine bodyPost_ret (results_none rfl _ _ _) rfl ?_;exact ⟨⟨_,rfl⟩,.inr ⟨_,HPR.out,cap.out⟩⟩
  ·obtain rfl:k=4:=ab;gi_wp2_with fail;go_end0;exact ⟨⟨_,rfl⟩,.inl ⟨_,rfl,C.out⟩⟩
theorem FF (a:Option Addr) (m cap:Nat) (n:D4): CallsIn T3 w prog 224 #[.slice a m cap] n λe b=>e=.returned (.func (.func 257) #[] #[.p n.heap.size 0])/\b=n.alloc (.cells #[.slice a m cap] 25):=by refine H8 func224 rfl trivial ?_ rfl;simp only [ntmps224,R4,R6,S5,D1,C6,N1,L6,R5,P2,R8,R7];gi_wp2;go_ret;exact a0e
theorem xN (hl:∀ l,U (j.getD l 0)) (hb:f<c) (d:a<c) (Bs:0<c) (n:D4) (hn:c<=n.heap.size) (m:pu n) (q:n.cell? ⟨a,0,none⟩=some (.slice (some ⟨f,t,none⟩) 22 B)) (hs:∀ l,l<22->n.cell? ⟨f,t+l,none⟩=some (.u (j.getD l 0))):
 SeqStopsK T3 w prog 257 #[.p a 0] Nh (V8 c) (λb=>b=gm j 4) (λpre=>pre <+: gm j 4) 4 n:=λs J g W e i k o h =>
 CQ w s a c f t B j hl J g hb d Bs W (C5 hn e.size) (m.from e (A8 Bs hn)) ((e.cell (p:=⟨a,0,none⟩) (A8 d hn)).trans q)
  (λl r=>(e.cell (p:=⟨f,t+l,none⟩) (A8 hb hn)).trans (hs l r)) i o h
theorem l4 {B:D4} {row:Option Nat} (h:g.heap[b]?=some (.cells l n o)) (c:g.grownBy B row) (hr:∀ r,row=some r->∃ f:Obj,g.heap[r]?=some f/\f.isCells=false):B.heap[b]?=some (.cells l n o):=by refine (c.block b (L0.1 h).1 λe=>?_).trans h;obtain ⟨f,a,A⟩:=hr b e.symm;rw [h] at a;cases a;cases A
attribute [local go_sem] Oper.semAt_some
theorem fi {B j:Nat} (h:g.heap[b]?=some W) (a:b≠B) (v:Value):(g.setCell ⟨B,j,none⟩ v).heap[b]?=some W:=by simp only [World.setCell];rw [Array.getElem?_modify,JZ9 (by simpa using Ne.symm a)];exact h
theorem uF {D:Nat} {o:Obj} (h:g.heap[b]?=some W) (a:b≠D):(g.putObj D o).heap[b]?=some W :=
 ((grownBy_putObj' g D o).block b (L0.1 h).1 ta).trans h
theorem pG (h:g.heap[b]?=some (.cells l n o)) (j:Nat):g.cell? ⟨b,j,none⟩=l[j]?:=by simp [T4,h]
theorem sH (h:g.heap[b]?=some W) (a:Obj):(g.alloc a).heap[b]?=some W:=(Below.heap_alloc g a b (L0.1 h).1).trans h
theorem As (x y:Int) (b:D4) (hbw:w<b.heap.size) (hs:∀ l,l<22->b.cell? ⟨w,a+l,none⟩=some (.u (j.getD l 0))) (hl:∀ l,U (j.getD l 0)) (hT:pu b): CB 204 #[.slice (some ⟨w,a,none⟩) 22 c,.u x,.u y] b (.tuple #[.agg #[.u (lq j x y).1,.u (lq j x y).2.1,.u (lq j x y).2.2.1],.bool (lq j x y).2.2.2]):=by
 have HS:Hid (∀ l,l<22->b.cell? ⟨w,a+l,none⟩=some (.u (j.getD l 0))):=hs;have HL:Hid (∀ l,U (j.getD l 0)):=hl;have HT:Hid (pu b):=hT;clear hs hl hT;refine (callsIn_wide (n:=3)).1 ?_;refine callsIn_of_wp_marks func204 rfl trivial ?_ rfl;simp only [ntmps204,R4,R6,S5,D1,C6,N1,L6,R5,P2,R8,R7];gi_wp2_with fail;refine ⟨trivial,(FF _ _ _ _ _).mono ?_⟩;rintro e N ⟨rfl,rfl⟩;gi_wp2_with fail;have bX:=((((T6 b 24 (.u x)).alloc (.cells #[.u y] 24)).alloc (.cells #[.u 0,.u 0,.u 0] 253)).alloc (.cells #[.bool false] 4)).alloc (.cells #[.slice (some ⟨w,a,none⟩) 22 c] 25);have bY:=(((T6 (b.alloc (.cells #[.u x] 24)) 24 (.u y)).alloc (.cells #[.u 0,.u 0,.u 0] 253)).alloc (.cells #[.bool false] 4)).alloc (.cells #[.slice (some ⟨w,a,none⟩) 22 c] 25);have bR:=sH (sH (T5 ((b.alloc (.cells #[.u x] 24)).alloc (.cells #[.u y] 24)) (.cells #[.u 0,.u 0,.u 0] 253)) (.cells #[.bool false] 4)) (.cells #[.slice (some ⟨w,a,none⟩) 22 c] 25);have bB:=(T6 (((b.alloc (.cells #[.u x] 24)).alloc (.cells #[.u y] 24)).alloc (.cells #[.u 0,.u 0,.u 0] 253)) 4 (.bool false)).alloc (.cells #[.slice (some ⟨w,a,none⟩) 22 c] 25);have bS:=T6 ((((b.alloc (.cells #[.u x] 24)).alloc (.cells #[.u y] 24)).alloc (.cells #[.u 0,.u 0,.u 0] 253)).alloc (.cells #[.bool false] 4)) 25 (.slice (some ⟨w,a,none⟩) 22 c);simp only [World.size_alloc] at bY bR bB bS;have L:Bw b (((((b.alloc (.cells #[.u x] 24)).alloc (.cells #[.u y] 24)).alloc (.cells #[.u 0,.u 0,.u 0] 253)).alloc (.cells #[.bool false] 4)).alloc (.cells #[.slice (some ⟨w,a,none⟩) 22 c] 25)):=(((((I1 _ b).alloc (A9 _) _).alloc di _).alloc bv _).alloc bv _).alloc bv _;have hz6:(((((b.alloc (.cells #[.u x] 24)).alloc (.cells #[.u y] 24)).alloc (.cells #[.u 0,.u 0,.u 0] 253)).alloc (.cells #[.bool false] 4)).alloc (.cells #[.slice (some ⟨w,a,none⟩) 22 c] 25)).heap.size=b.heap.size+5:=di
 obtain ⟨N,S⟩:∃ N,((((b.alloc (.cells #[.u x] 24)).alloc (.cells #[.u y] 24)).alloc (.cells #[.u 0,.u 0,.u 0] 253)).alloc (.cells #[.bool false] 4)).alloc (.cells #[.slice (some ⟨w,a,none⟩) 22 c] 25)=N:=⟨_,rfl⟩;rw [S] at bX bY bR bB bS L hz6 ⊢;clear S;have hT6:pu N:=HT.out.below L;have hs6:∀ l,l<22->N.cell? ⟨w,a+l,none⟩=some (.u (j.getD l 0)):=λl hj=>(L.cell (p:=⟨w,a+l,none⟩) hbw).trans (HS.out l hj);have hg5:0<b.heap.size:=HT.out.lt;refine wpIn_rangeFunc_ownH rfl ab (gf:=257) (lb:=#[.p (b.heap.size+1+1+1+1) 0]) rfl trivial (enters_of func257 ba rfl)
  (xN 2 (b.heap.size+1+1+1+1) (b.heap.size+5) w a c j HL.out ab ab ab N ab hT6 bS.cell hs6) belowK_t (F3 ab) (I1 _ _) (λ_=>rfl)
  (λpre W=>((∀ p ∈ pre,jL x y p=false)/\D8 W b.heap.size 24 (.u x)/\D8 W (b.heap.size+1) 24 (.u y)/\W.heap[b.heap.size+1+1]?=some (.cells #[.u 0,.u 0,.u 0] 253 (0,0))/\D8 W (b.heap.size+1+1+1) 4 (.bool false)/\b.heap.size+5<=W.heap.size)/\Bw b W)
  (λcap pre W=>(cap=.ret/\∃ C d,pre=C++[d]/\(∀ p ∈ C,jL x y p=false)/\jL x y d/\W.heap[b.heap.size+1+1]?=some (.cells #[.u d.2.1,.u d.2.2.1,.u d.2.2.2] 253 (0,0))/\D8 W (b.heap.size+1+1+1) 4 (.bool true))/\Bw b W)
  (OwnFrom.and (λs A B row hs H I=>⟨hs.1,l4 hs.2.1 H (λr e=>(I r e).2),l4 hs.2.2.1 H (λr e=>(I r e).2),l4 hs.2.2.2.1 H (λr e=>(I r e).2),l4 hs.2.2.2.2.1 H (λr e=>(I r e).2),C5 hs.2.2.2.2.2 H.size⟩) (G1 (A9 _) ab))
  (λcap=>OwnFrom.and (λs A B row hs H I=>by obtain ⟨hc,C,d,e1,e2,e3,e4,e5⟩:=hs;exact ⟨hc,C,d,e1,e2,e3,l4 e4 H (λr e=>(I r e).2),l4 e5 H (λr e=>(I r e).2)⟩) (G1 (A9 _) ab))
  ⟨⟨di,bX,bY,bR,bB,ab⟩,L⟩
  (λq a' W=>∃ J,b.heap.size+4<=J/\W.heap[J]?=some (.cells #[.u q.2.1,.u q.2.2.1,.u q.2.2.2] 253 (0,0))/\a'={tmps:=#[.slice (some ⟨w,a,none⟩) 22 c,.u x,.u y,undef,.p b.heap.size 0,.p (b.heap.size+1) 0,.p (b.heap.size+1+1) 0,.p (b.heap.size+1+1+1) 0,undef,.p J 0,.slice (some ⟨w,a,none⟩) 22 c,.func (.func 257) #[] #[.p (b.heap.size+1+1+1+1) 0],.i (q.1:Int),.agg #[.u q.2.1,.u q.2.2.1,.u q.2.2.2],undef,undef,undef,undef,undef,undef,undef,undef,undef,undef,undef,undef],defers:=[]})
  (λq a' _ X Y row hs H I=>by obtain ⟨J,Z,h2,h3⟩:=hs;exact ⟨J,Z,l4 h2 H (λr e=>(I r e).2),h3⟩)
  ?assign ?body ?done ?stop
 case assign =>rintro lp pre q W K ⟨⟨O,t,u,f,m,z⟩,o⟩ R;simp only [Nh];gi_wp2_with fail;exact R _ _ ((K1 _ _).from _) ((I1 _ W).alloc z _) ⟨⟨O,t.alloc _,u.alloc _,sH f _,m.alloc _,bv⟩,o.alloc o.size _⟩ ⟨W.heap.size,m.lt,T5 W _,rfl⟩
 case body =>
  rintro lp pre q a' W hlp ⟨r,I⟩ ⟨⟨O,t,u,f,m,z⟩,o⟩ ⟨J,hBx,bQ,rfl⟩ hlt;have q0:W.cell? ⟨J,0,none⟩=some (.u q.2.1):=(by simp [T4,bQ]);have q1:W.cell? ⟨J,1,none⟩=some (.u q.2.2.1):=(by simp [T4,bQ]);have q2:W.cell? ⟨J,2,none⟩=some (.u q.2.2.2):=(by simp [T4,bQ]);have cX:=t.cell;have cY:=u.cell;have M:Hid (jL x y q=(decide (q.2.1<=y)&&decide (x<=q.2.2.1))):=(rfl:jL x y q=_);cases Z:decide (q.2.1<=y) with
  | false =>rw [Z] at M;have V:Hid (jL x y q=false):=M.out;gi_wp2_with fail;exact ⟨KeepsFrom.refl _ _,I1 _ _,⟨λp P=>(S2.1 P).elim (O p) (λe=>by simp at e;subst e;exact V.out),t,u,f,m,z⟩,o⟩
  | true =>
    rw [Z] at M;cases h2:decide (x<=q.2.2.1) with
    | false =>rw [h2] at M;have V:Hid (jL x y q=false):=M.out;gi_wp2_with fail;exact ⟨KeepsFrom.refl _ _,I1 _ _,⟨λp P=>(S2.1 P).elim (O p) (λe=>by simp at e;subst e;exact V.out),t,u,f,m,z⟩,o⟩
    | true =>
      rw [h2] at M;have V:Hid (jL x y q):=M.out;have r0:W.cell? ⟨b.heap.size+1+1,0,none⟩=some (.u 0):=t5;have r1:W.cell? ⟨b.heap.size+1+1,1,none⟩=some (.u 0):=t5;have r2:W.cell? ⟨b.heap.size+1+1,2,none⟩=some (.u 0):=t5;have g0:W.frozen? ⟨b.heap.size+1+1,0,none⟩=false:=sy;have g1:W.frozen? ⟨b.heap.size+1+1,1,none⟩=false:=sy;have g2:W.frozen? ⟨b.heap.size+1+1,2,none⟩=false:=sy;have cB:=m.cell;have fB:=m.frozen;have Z1:Hid (KeepsFrom N.heap.size W ((((W.setCell ⟨b.heap.size+1+1,0,none⟩ (.u q.2.1)).setCell ⟨b.heap.size+1+1,1,none⟩ (.u q.2.2.1)).setCell ⟨b.heap.size+1+1,2,none⟩ (.u q.2.2.2)).setCell ⟨b.heap.size+1+1+1,0,none⟩ (.bool true))):=((((K0 W _ _).trans (K0 _ _ _)).trans (K0 _ _ _)).trans (K0 _ _ _)).from _
      have Z2:Hid (((((W.setCell ⟨b.heap.size+1+1,0,none⟩ (.u q.2.1)).setCell ⟨b.heap.size+1+1,1,none⟩ (.u q.2.2.1)).setCell ⟨b.heap.size+1+1,2,none⟩ (.u q.2.2.2)).setCell ⟨b.heap.size+1+1+1,0,none⟩ (.bool true)).heap[b.heap.size+1+1]?=some (.cells #[.u q.2.1,.u q.2.2.1,.u q.2.2.2] 253 (0,0))):=fi (jv (jv (jv f _) _) _) ab _;have Z3:Hid (D8 ((((W.setCell ⟨b.heap.size+1+1,0,none⟩ (.u q.2.1)).setCell ⟨b.heap.size+1+1,1,none⟩ (.u q.2.2.1)).setCell ⟨b.heap.size+1+1,2,none⟩ (.u q.2.2.2)).setCell ⟨b.heap.size+1+1+1,0,none⟩ (.bool true)) (b.heap.size+1+1+1) 4 (.bool true)):=V4 _ (v:=.bool false) (fi (fi (fi m ab _) ab _) ab _);have Z4:Hid (Bw b ((((W.setCell ⟨b.heap.size+1+1,0,none⟩ (.u q.2.1)).setCell ⟨b.heap.size+1+1,1,none⟩ (.u q.2.2.1)).setCell ⟨b.heap.size+1+1,2,none⟩ (.u q.2.2.2)).setCell ⟨b.heap.size+1+1+1,0,none⟩ (.bool true))):=(((o.setCell (p:=⟨b.heap.size+1+1,0,none⟩) bv _).setCell (p:=⟨b.heap.size+1+1,1,none⟩) bv _).setCell (p:=⟨b.heap.size+1+1,2,none⟩) bv _).setCell (p:=⟨b.heap.size+1+1+1,0,none⟩) bv _;gi_wp2_with fail;exact ⟨Z1.out,⟨rfl,pre,q,rfl,O,V.out,Z2.out,Z3.out⟩,Z4.out⟩
 case done =>rintro D ys W hD rfl ⟨⟨O,t,u,f,m,z⟩,o⟩ R;have FN:Hid (lq j x y=(0,0,0,false)):=(by show lq j x y=_;unfold lq;rw [J6 O]);have r0:W.cell? ⟨b.heap.size+1+1,0,none⟩=some (.u 0):=t5;have r1:W.cell? ⟨b.heap.size+1+1,1,none⟩=some (.u 0):=t5;have r2:W.cell? ⟨b.heap.size+1+1,2,none⟩=some (.u 0):=t5;have g0:W.frozen? ⟨b.heap.size+1+1,0,none⟩=false:=sy;have g1:W.frozen? ⟨b.heap.size+1+1,1,none⟩=false:=sy;have g2:W.frozen? ⟨b.heap.size+1+1,2,none⟩=false:=sy;have cB:=m.cell;have fB:=m.frozen;have k1:Hid (((((W.setCell ⟨b.heap.size+1+1,0,none⟩ (.u 0)).setCell ⟨b.heap.size+1+1,1,none⟩ (.u 0)).setCell ⟨b.heap.size+1+1,2,none⟩ (.u 0)).setCell ⟨b.heap.size+1+1+1,0,none⟩ (.bool false)).heap[D]?=some (.deferred (some []))):=fi (fi (fi (fi R ab _) ab _) ab _) ab _;have z2:((((W.setCell ⟨b.heap.size+1+1,0,none⟩ (.u 0)).setCell ⟨b.heap.size+1+1,1,none⟩ (.u 0)).setCell ⟨b.heap.size+1+1,2,none⟩ (.u 0)).setCell ⟨b.heap.size+1+1+1,0,none⟩ (.bool false)).heap[b.heap.size+1+1]?=some (.cells #[.u 0,.u 0,.u 0] 253 (0,0)):=fi (jv (jv (jv f _) _) _) ab _;have z3:D8 ((((W.setCell ⟨b.heap.size+1+1,0,none⟩ (.u 0)).setCell ⟨b.heap.size+1+1,1,none⟩ (.u 0)).setCell ⟨b.heap.size+1+1,2,none⟩ (.u 0)).setCell ⟨b.heap.size+1+1+1,0,none⟩ (.bool false)) (b.heap.size+1+1+1) 4 (.bool false):=V4 _ (v:=.bool false) (fi (fi (fi m ab _) ab _) ab _);have z4:Hid (Bw b ((((W.setCell ⟨b.heap.size+1+1,0,none⟩ (.u 0)).setCell ⟨b.heap.size+1+1,1,none⟩ (.u 0)).setCell ⟨b.heap.size+1+1,2,none⟩ (.u 0)).setCell ⟨b.heap.size+1+1+1,0,none⟩ (.bool false))):=(((o.setCell (p:=⟨b.heap.size+1+1,0,none⟩) bv _).setCell (p:=⟨b.heap.size+1+1,1,none⟩) bv _).setCell (p:=⟨b.heap.size+1+1,2,none⟩) bv _).setCell (p:=⟨b.heap.size+1+1+1,0,none⟩) bv _;have Z2:Hid (((((((W.setCell ⟨b.heap.size+1+1,0,none⟩ (.u 0)).setCell ⟨b.heap.size+1+1,1,none⟩ (.u 0)).setCell ⟨b.heap.size+1+1,2,none⟩ (.u 0)).setCell ⟨b.heap.size+1+1+1,0,none⟩ (.bool false))).putObj D (.deferred none)).heap[b.heap.size+1+1]?=some (.cells #[.u 0,.u 0,.u 0] 253 (0,0))):=uF z2 ab;have Z3:Hid (D8 (((((W.setCell ⟨b.heap.size+1+1,0,none⟩ (.u 0)).setCell ⟨b.heap.size+1+1,1,none⟩ (.u 0)).setCell ⟨b.heap.size+1+1,2,none⟩ (.u 0)).setCell ⟨b.heap.size+1+1+1,0,none⟩ (.bool false)).putObj D (.deferred none)) (b.heap.size+1+1+1) 4 (.bool false)):=uF z3 ab;clear z2 z3;gi_wp2_with fail;refine ⟨di,.inl ⟨_,_,rfl,F0 k1.out,?_⟩⟩;have Q:=Z2.out;have y3:=Z3.out.cell;refine ⟨.tuple #[.agg #[.u 0,.u 0,.u 0],.bool false],?_,by rw [FN.out],z4.out.trans (F3 (w:=b) (A9 _) _ D _ _ ab k1.out rfl rfl)⟩;have E:=pG Q 0;have F:=pG Q 1;have G:=pG Q 2;simp at E F G;simp [results,Tryz.f204,go_sem,E,F,G,y3]
 case stop =>rintro D cap pre W hD T ⟨⟨rfl,C,d,e1,e2,e3,f,m⟩,o⟩ R;have FN:Hid (lq j x y=(d.2.1,d.2.2.1,d.2.2.2,true)):=(by show lq j x y=_;unfold lq;rw [J5 T e1 e2 e3]);gi_wp2_with fail;refine ⟨di,.inl ⟨_,_,rfl,F0 R,?_⟩⟩;have Q:(W.putObj D (.deferred none)).heap[b.heap.size+1+1]?=_:=uF f ab;have y3:=Boxed.cell (show D8 (W.putObj D (.deferred none)) (b.heap.size+1+1+1) 4 (.bool true) from uF m ab);have E:=pG Q 0;have F:=pG Q 1;have G:=pG Q 2;simp at E F G;refine ⟨.tuple #[.agg #[.u d.2.1,.u d.2.2.1,.u d.2.2.2],.bool true],?_,by rw [FN.out],o.trans (F3 (w:=b) (A9 _) W D _ _ ab R rfl rfl)⟩;simp [results,Tryz.f204,go_sem,E,F,G,y3]
variable {x M:MV} {l:List Int} {D:Nat} (p:MV) (n:DV) (k:List Int) (a:Nat) (s:List Int) (w e m z b:Int)
theorem Ni (hl:∀ j,U (l.getD j 0)) {q:Nat × Int × Int × Int} (h:q ∈ gm l D):∃ z:Nat,z<256/\q.2.2.2=z:=by
 obtain ⟨_,e⟩:=PQ h;unfold mZ at e;split at e;·cases e
 ·have:=Option.some.inj e;rw [<- this];obtain ⟨a,b⟩:=kL (l.getD 16 0) (8*q.1) 8;exact ⟨(de (l.getD 16 0) (8*q.1) 8).toNat,ab,by show de _ _ _=_;omega⟩
theorem Kc (hz:a<256) (p k:Int):xE a p k=oU a p k:=by
 obtain ⟨z,e2,e3,e4,e5,e6⟩:=UN a hz;unfold xE oU CO;rw [z];cases h:((p==3)&&((a:Int)/128==0)) with
 | true=>rfl
 | false =>
   cases b:(k==1) with
   | true=>simp only [if_true,I3,if_false,I4];rw [e3]
   | false =>
     cases c:(k==2) with
     | true=>simp only [if_true,I3,if_false,I4];rw [e4]
     | false=>simp only [I3,if_false,I4];rw [e5]
theorem Nj (hl:∀ j,U (l.getD j 0)) (a:bD 22 l) (p x y k:Int): aJ l p x y k 4 0=if (lq l x y).2.2.2=true then (FA (lq l x y).1 (lq l x y).2.1 x y&&oU (lq l x y).2.2.1 p k) else (p==3):=by
 rw [J7 hl a p x y k 4 0 ab];have c:(List.range' 0 4).filterMap (mZ l)=gm l 4:=by unfold gm;rw [List.range_eq_range']
 rw [c];unfold lq;cases b:(gm l 4).find? (jL x y) with
 | none=>rfl
 | some q =>
   obtain ⟨z,d,e⟩:=Ni hl (List.mem_of_find?_eq_some b);show (!(decide (x<q.2.1)||decide (q.2.2.1<y))&&xE q.2.2.2 p k)=(FA q.2.1 q.2.2.1 x y&&oU q.2.2.2 p k);rw [e,Kc z d p k];congr 1;unfold FA;rw [I5];congr 1;·rw [<- decide_not];congr 1;exact propext ⟨λh=>ab,λh=>ab⟩
   ·rw [<- decide_not];congr 1;exact propext ⟨λh=>ab,λh=>ab⟩
theorem Nk {w:D4} {a:Option Addr} (hs:Sl .u64 w a l) (hz:l.length=22):∃ b c,a=some ⟨b,c,none⟩/\b<w.heap.size/\∀ j,j<22->w.cell? ⟨b,c+j,none⟩=some (.u (l.getD j 0)):=by obtain ⟨b,c,rfl,f,_⟩:=hs 0 ab;refine ⟨b,c,rfl,f,λj i=>?_⟩;obtain ⟨h,d,e,_,g⟩:=hs j ab;cases e;exact g
theorem kP (a:Option Addr) (n cap:Nat) (l:List Int) (p x s k:Int) (w:D4) (hz:l.length=n) (hs:Sl .u64 w a l) (hl:∀ j,U (l.getD j 0)) (hx:U x) (O:pu w):CB 170 #[.slice a n cap,.i p,.u x,.i s,.i k] w (.bool (vC n l p x s k)):=by
 have A:=λW (i:Bw w W)=>fF a n cap l p W hz (hs.below i) hl;have B:=gI s;have o:=lZ k;rw [rt] at o;have D:Uz.wrap (Uz.wrap (x+Uz.wrap s)-1)=bu x s:=rfl;have L:bm n l p->(∀ W,Bw w W->CB 204 #[.slice a n cap,.u x,.u (bu x s)] W (.tuple #[.agg #[.u (lq l x (bu x s)).1,.u (lq l x (bu x s)).2.1,.u (lq l x (bu x s)).2.2.1],.bool (lq l x (bu x s)).2.2.2])) /\
  aJ l p x (bu x s) k 4 0=if (lq l x (bu x s)).2.2.2=true then (FA (lq l x (bu x s)).1 (lq l x (bu x s)).2.1 x (bu x s)&&oU (lq l x (bu x s)).2.2.1 p k) else (p==3):=by
  intro h
  obtain ⟨rfl,V⟩:=gH h
  have u:bD 22 l:=by unfold bm at h;rw [I2] at h;exact h.1
  obtain ⟨b,f,rfl,i,P⟩:=Nk hs hz
  exact ⟨λW q=>As b f cap l x (bu x s) W (A8 i q.size) (λj Q=>(q.cell (p:=⟨b,f+j,none⟩) i).trans (P j Q)) hl (O.below q),Nj hl u p x (bu x s) k⟩
 unfold vC;generalize aJ l p x (bu x s) k 4 0=X at *;generalize decide (1<=k/\k<=3)=E at *;generalize jt s=G at *;generalize bu x s=y at *;generalize bm n l p=F at *;generalize lq l x y=m at *;obtain ⟨d,c,r,R⟩:=m;refine br (S:=Bs w []) (args:=[.slice a n cap,.i p,.u x,.i s,.i k]) [] func170 ?_;cases C:decide (y<x);case' false=>cases F;case' true=>cases G;case' true=>cases E
 case false.true.true.true =>obtain ⟨K,H⟩:=L rfl;refine ae Bs.eng {eq:=[(32,cR .u64 D),(35,an C)],cv:=[(16,fM A),(20,nt λW _=>B W),(25,nt λW _=>o W),(40,fM K)]} 60 (Bs.start _ _) λW h=>?_;refine dt 1 (ct (T:=253) (z:=.agg #[.u 0,.u 0,.u 0]) ba W) ?_;refine bE (av (g:=W.heap.size) (t:=253) (ty:=253) (cells:=#[.u d,.u c,.u r]) (heap_alloc_new _ _) ba rfl ba) ?_;refine aL (R1 w W.heap.size #[.u d,.u c,.u r] 253) ?_;have I:=λW=>FC d c r x y W;have J:=λW=>FD d c r p k W;generalize FA d c x y=N at *;generalize oU r p k=Y at *;subst H;cases R<;>cases N<;>exact bn (t:=10) R1.eng {cv:=[(50,iQ R1.below λW _=>I W),(55,iQ R1.below λW _=>J W)]} 60 (R1.new h.2) (λM h=>⟨rfl,h.2⟩)
 all_goals (try cases F)<;>(try cases G)<;>(try cases E)<;>exact bn (t:=10) Bs.eng {eq:=[(32,cR .u64 D),(35,an C)],cv:=[(16,fM A),(20,nt λW _=>B W),(25,nt λW _=>o W)]} 60 (Bs.start _ _) (λM h=>⟨rfl,h.2⟩)
theorem Nl (h:U w):D3 .or .u64 (D3 .andNot .u64 w e) (D3 .and .u64 w e)=w:=by refine bF _ _ (ah _ _ _) h λi a=>?_;rw [cC,aB _ _ _ a,aA];cases bt w i<;>cases bt e i<;>rfl
theorem Nm (hk:a<k.length) (hx:k.getD a 0=w):k.set a w=k:=by
 have:k[a]=w:=by rw [<- hx];simp [List.getD,List.getElem?_eq_getElem hk]
 rw [<- this];exact List.set_getElem_self hk
theorem sI (a:M.cs.length=22) (b:U (M.cs.getD 9 0)) (hb:lR M):bK M=M:=by
 have e:D3 .and .u64 (M.cs.getD 9 0) 2184=dM M.d:=by unfold lR at hb;simpa using hb
 have s:M.cs.set 9 (D3 .or .u64 (D3 .andNot .u64 (M.cs.getD 9 0) 2184) (dM M.d))=M.cs:=by rw [<- e];exact Nm _ 9 _ ab (Nl _ _ b).symm
 unfold bK;rw [s]
theorem H7 (h:U w):D3 .andNot .u64 w 7=w/8*8:=by
 refine bF _ _ (ah _ _ _) ⟨by have:=h.1;omega,by have:=h.2;omega⟩ λi c=>?_;have d:=nC (w/8) ⟨by have:=h.1;omega,by have:=h.2;omega⟩ 3 i;have f:Uz.wrap (w/8*2^3)=w/8*8:=by have l:=h.1;have m:=h.2;rw [IntKind.wrap_u64];omega
 rw [f] at d;rw [d,aB _ _ _ c];have k:∀ i,i<64->bt 7 i=decide (i<3):=cp
 rw [k i c];by_cases a:i<3
 ·have:¬ 3<=i:=by omega
  simp [a,this]
 ·have g:3<=i:=ab;have j:bt (w/8) (i-3)=bt w i:=(by have b:=jF w h 3 (i-3);rw [show i-3+3=i by omega] at b;have e:(2:Int)^3=8:=bc;rw [e] at b;exact b);simp [a,g,j,c]
theorem P5 (a:U w) (hd:U p.hd):(p.hl&&(Uz.wrap (w.tdiv 8)==Uz.wrap (p.hd.tdiv 8)))=lQ p w:=by
 have e:∀ x:Int,U x->Uz.wrap (x.tdiv 8)=x/8:=λx h=>by have b:=h.1;have c:=h.2;rw [Int.tdiv_eq_ediv_of_nonneg b,IntKind.wrap_u64];omega
 unfold lQ;rw [e w a,e p.hd hd,H7 w a,H7 p.hd hd];congr 1;by_cases h:w/8=p.hd/8;·rw [h];simp
 ·rw [beq_eq_false_iff_ne.2 h,beq_eq_false_iff_ne.2 ab]
theorem H9 (h:lA n.xs.length n.ys.length n.ir) (hk:(jz n a).2.2):lA (jz n a).2.1.xs.length (jz n a).2.1.ys.length (jz n a).2.1.ir:=by
 have k:=vf h;match a,hk with
 | 0,_=>exact h
 | 1,_=>exact h
 | 2,_=>exact h
 | 3,_ =>show lA (n.xs.drop 1).length n.ys.length n.ir;unfold lA at h ⊢;simp only [I2,JZ6,List.length_drop] at h ⊢;omega
 | 4,_=>exact h
 | 5,_=>exact h
theorem Nn:0<=X0 (D3 .and .u64 w 1)/\X0 (D3 .and .u64 w 1)<=1:=by
 have c:∀ i,i<64->bt 1 i=decide (i=0):=cp
 have d:∀ i,i<64->bt 0 i=false:=cp
 have h:D3 .and .u64 w 1=if bt w 0=true then 1 else 0:=by
  refine bF _ _ (ah _ _ _) (by split<;>exact ⟨ab,ab⟩) λi b=>?_;rw [aA,c i b];by_cases a:i=0
  ·subst a;cases bt w 0;·rw [JZ9 bc,d 0 ab];rfl
   ·rw [JZ8 rfl,c 0 ab];rfl
  ·rw [decide_eq_false a,Bool.and_false];split;·rw [c i b,decide_eq_false a]
   ·rw [d i b]
 rw [h];split<;>decide +kernel
theorem Ia (h:lA n.xs.length n.ys.length n.ir):(fU n w (gF e m)).2->lA (fU n w (gF e m)).1.xs.length (fU n w (gF e m)).1.ys.length (fU n w (gF e m)).1.ir:=by
 have b:=Nn w;have e4:=GK n w;obtain ⟨q,c⟩:∃ q,q=X0 (D3 .and .u64 w 1):=⟨_,rfl⟩;rw [<- c] at e4 b;clear c;refine jW e m (λk=>(fU n w k).2->lA (fU n w k).1.xs.length (fU n w k).1.ys.length (fU n w k).1.ir) ?_ ?_ ?_ ?_ ?_ ?_ ?_;·intro _ _;rw [GH];exact λ_=>h
 ·intro _ _;rw [GI];exact λ_=>h
 ·intro _ _;rw [GJ];exact λ_=>h
 ·intro _ _;by_cases a:n.ys.length<4096;·rw [zF n w a];intro _;unfold lA at h ⊢;simp only [I2,JZ6,List.length_append,List.length_singleton] at h ⊢;omega
  ·rw [zG n w a];exact λ_=>h
 ·intro _ _;rw [e4];intro _;unfold lA at h ⊢;simp only [I2,JZ6] at h ⊢;exact ⟨h.1,b⟩
 ·intro _ _;rw [GL];exact λ_=>h
 ·intro _ _ _ _ _ _;rw [GM];intro d;cases d
theorem Th (h:(jz n a).2.2=false):(jz n a).1=0:=by
 match a,h with
 | 0,h=>cases h
 | 1,h=>cases h
 | 2,h=>cases h
 | 3,h=>cases h
 | 4,h=>cases h
 | 5,h=>cases h
 | a+6,_=>rfl
theorem FG (h:bf D):0<D:=by
 rcases D2 D with a|a;·subst a;revert h;decide
 ·exact a
def CR (M:MV) (pa size kind x:Int):Int × Bool × MV :=
 if gQ M.ram.length pa size=true then
  (if (kind==3)=true then (0,true,oa (bN M (kU M.ram (pa-2147483648).toNat x size.toNat)) pa) else (le M.ram (pa-2147483648).toNat size.toNat,true,M))
 else if (kind==2)=true then
  (if (jz M.d (gF pa size)).2.2=true then ((jz M.d (gF pa size)).1,true,bK (bW M (jz M.d (gF pa size)).2.1)) else (0,false,M))
 else if (kind==3)=true then
  (if (fU M.d x (gF pa size)).2=true then (0,true,oa (bK (bW M (fU M.d x (gF pa size)).1)) pa) else (0,false,M))
 else (0,false,M)
theorem Ti:tG p w e m z=if (CR p w e m z).2.1=true then ((CR p w e m z).1,(CR p w e m z).2.2,0) else (0,(CR p w e m z).2.2,ig m):=by
 unfold tG CR;split;·split<;>rfl
 ·split;·split<;>rfl
  ·split;·split<;>rfl
   ·rfl
theorem Np (a:bm 22 k w) (b:jt m) (c:decide (1<=z/\z<=3)):vC 22 k w e m z=!JG k w e m z:=by unfold vC JG;rw [a,b,c,I5,Bool.not_not];rfl
structure Gd (M:MV):Prop where
 ok:dJ M
 mw:MW M
 ux:∀ j,U (M.x.getD j 0)
 pc:U M.pc
 hd:U M.hd
theorem db (h:dJ x):(D3 .and .u64 x.pc 3==0)/\gA x.x.length x.x/\bm x.cs.length x.cs x.pr/\bf x.ram.length/\lA x.d.xs.length x.d.ys.length x.d.ir/\(x.hl||(x.hd==0))/\lR x:=by unfold dJ at h;simp only [I2] at h;obtain ⟨⟨⟨⟨⟨⟨a,b⟩,c⟩,d⟩,e⟩,f⟩,g⟩:=h;exact ⟨a,b,c,d,e,f,g⟩
theorem ls (a:(D3 .and .u64 M.pc 3==0)) (b:gA M.x.length M.x) (c:bm M.cs.length M.cs M.pr) (h4:bf M.ram.length) (d:lA M.d.xs.length M.d.ys.length M.d.ir) (e:(M.hl||(M.hd==0))) (f:lR M):dJ M:=by unfold dJ;rw [a,b,c,h4,d,e,f];rfl
theorem Gd.len (h:Gd x):iR x:=by obtain ⟨_,a,c,d,e,_,_⟩:=db h.ok;unfold gA at a;rw [I2,JZ6] at a;have b:=kC c;have g:=gu d;have f:=vf e;exact ⟨ab,ab,ab,ab,ab⟩
theorem Gd.mem (h:Gd x) {R:List Int} (hl:R.length=x.ram.length) (i:∀ y ∈ R,(Lit.int .u8 y).wf):Gd (bN x R):=by obtain ⟨a,b,c,d,e,f,g⟩:=db h.ok;exact ⟨ls (M:=bN x R) a b c (by show bf R.length;rw [hl];exact d) e f g,⟨h.mw.cs,i,h.mw.xs,h.mw.ys⟩,h.ux,h.pc,h.hd⟩
theorem Gd.free (h:Gd x):Gd (lP x):=by obtain ⟨a,b,c,d,e,g,f⟩:=db h.ok;exact ⟨ls (M:=lP x) a b c d e rfl f,⟨h.mw.cs,h.mw.ram,h.mw.xs,h.mw.ys⟩,h.ux,h.pc,(show U 0 from ⟨bc,bc⟩)⟩
theorem Gd.let_ (h:Gd x) (pa:Int):Gd (oa x pa):=by
 unfold oa;split;·exact h.free
 ·exact h
theorem Kd (p:Int->Prop) (h:∀ a b c:Bool,p (Uz.wrap (Uz.wrap (Uz.wrap (8*gv a)+Uz.wrap (128*gv b))+Uz.wrap (2048*gv c)))):p (dM n):=h _ _ _
theorem Nq:D3 .and .u64 (dM n) 2184=dM n:=by refine Kd n (λx=>D3 .and .u64 x 2184=x) ?_;decide +kernel
theorem P6:U (dM n):=aW _
theorem CS {i:Nat} (a:i<64):bt (dM n) i=(bt (dM n) i&&bt 2184 i):=by have:=aA (dM n) 2184 i;rw [Nq] at this;exact this
theorem Gd.dev (h:Gd x) {D:DV} (t:lA D.xs.length D.ys.length D.ir) (hb:cS D):Gd (bK (bW x D)):=by
 obtain ⟨o,p,w,q,M,r,y⟩:=db h.ok;obtain ⟨d,f,l,_,_,_⟩:=aN h.ok;have s:=eI f 9 ab;have n:D3 .and .u64 (x.cs.getD 9 0) 2730=x.cs.getD 9 0:=beq_iff_eq.1 s;have u:fL 9 (D3 .or .u64 (D3 .andNot .u64 (x.cs.getD 9 0) 2184) (dM D)):=by show (D3 .and .u64 (D3 .or .u64 (D3 .andNot .u64 (x.cs.getD 9 0) 2184) (dM D)) 2730==D3 .or .u64 (D3 .andNot .u64 (x.cs.getD 9 0) 2184) (dM D));refine beq_iff_eq.2 (bF _ _ (ah _ _ _) (ah _ _ _) λi c=>?_);have v:bt (x.cs.getD 9 0) i=(bt (x.cs.getD 9 0) i&&bt 2730 i):=(by have:=aA (x.cs.getD 9 0) 2730 i;rw [n] at this;exact this);have m:=CS D c;rw [aA,cC,aB _ _ _ c];have k:∀ j,j<64->∀ a b:Bool,(a=(a&&bt 2730 j))->(b=(b&&bt 2184 j))->(((a&&!bt 2184 j)||b)&&bt 2730 j)=((a&&!bt 2184 j)||b):=cp;exact k i c _ _ v m
 have g:bD 22 (x.cs.set 9 (D3 .or .u64 (D3 .andNot .u64 (x.cs.getD 9 0) 2184) (dM D))):=cJ x.cs d f 9 ab _ u;refine ⟨ls (M:=bK (bW x D)) o p ?_ q t r ?_,⟨?_,h.mw.ram,hb.1,hb.2⟩,h.ux,h.pc,h.hd⟩;·show bm (x.cs.set 9 _).length (x.cs.set 9 _) x.pr;unfold bm;rw [List.length_set,d,l,Bool.and_true];exact g
 ·show (D3 .and .u64 ((x.cs.set 9 (D3 .or .u64 (D3 .andNot .u64 (x.cs.getD 9 0) 2184) (dM D))).getD 9 0) 2184==dM D);have e:(x.cs.set 9 (D3 .or .u64 (D3 .andNot .u64 (x.cs.getD 9 0) 2184) (dM D))).getD 9 0=D3 .or .u64 (D3 .andNot .u64 (x.cs.getD 9 0) 2184) (dM D):=(by rw [O1,List.getElem?_set_self ab];rfl);rw [e];refine beq_iff_eq.2 (bF _ _ (ah _ _ _) (P6 D) λi c=>?_);have m:=CS D c;rw [aA,cC,aB _ _ _ c];have k:∀ j,j<64->∀ a b:Bool,(b=(b&&bt 2184 j))->(((a&&!bt 2184 j)||b)&&bt 2184 j)=b:=cp;exact k i c _ _ m
 ·intro j;show U ((x.cs.set 9 (D3 .or .u64 (D3 .andNot .u64 (x.cs.getD 9 0) 2184) (dM D))).getD j 0);rw [O1,List.getElem?_set];split
  ·split;·exact ah .or (D3 .andNot .u64 (x.cs.getD 9 0) 2184) (dM D)
   ·exact ⟨bc,bc⟩
  ·have:=h.mw.cs j;rw [O1] at this;exact this
theorem Nr (h:cS n) (k:Nat):cS (jz n k).2.1:=by
 have b:cS zeroD:=⟨λy a=>(nomatch a),λy a=>(nomatch a)⟩;unfold jz;split;·exact h
 ·exact h
 ·exact h
 ·exact ⟨λy a=>h.1 y (List.mem_of_mem_drop a),h.2⟩
 ·exact h
 ·exact h
 ·exact b
theorem Ns (h:cS n) (x addr size:Int):cS (fU n x (gF addr size)).1:=by
 have D:cS zeroD:=⟨λy a=>(nomatch a),λy a=>(nomatch a)⟩;have c:=GH n x;have g:=GI n x;have i:=GJ n x;have b:(fU n x 3).1.xs=n.xs/\((fU n x 3).1.ys=n.ys\/(fU n x 3).1.ys=n.ys++[IntKind.u8.wrap x]):=by
  by_cases d:n.ys.length<4096;·rw [zF _ _ d];exact ⟨rfl,A5 rfl⟩
  ·rw [zG _ _ d];exact ⟨rfl,A6 rfl⟩
 obtain ⟨q,j⟩:∃ q,fU n x 4=(⟨n.t,n.cm,n.so,n.xs,n.ys,q⟩,true):=⟨_,GK n x⟩;have l:=GL n x;have m:=GM n x;generalize (D3 .and .u64 x 1==1)=r at c;have f:(Lit.int .u8 (IntKind.u8.wrap x)).wf:=Al (y:=IntKind.u8.wrap x) lx;generalize IntKind.u8.wrap x=z at b f;refine jW addr size (λk=>cS (fU n x k).1) (λ_ _=>?_) (λ_ _=>?_) (λ_ _=>?_) (λ_ _=>?_) (λ_ _=>?_) (λ_ _=>?_) (λ_ _ _ _ _ _=>?_);·show cS (fU n x 0).1;rw [c];exact ⟨h.1,h.2⟩
 ·show cS (fU n x 1).1;rw [g];exact ⟨h.1,h.2⟩
 ·show cS (fU n x 2).1;rw [i];exact ⟨h.1,h.2⟩
 ·show cS (fU n x 3).1;refine ⟨by rw [b.1];exact h.1,λy a=>?_⟩;rcases b.2 with e | e<;>rw [e] at a;·exact h.2 y a
  ·rcases S2.1 a with a|a;·exact h.2 y a
   ·rw [List.mem_singleton.1 a];exact f
 ·have e:(fU n x 4).1=⟨n.t,n.cm,n.so,n.xs,n.ys,q⟩:=congrArg Prod.fst j;exact e ▸ (⟨h.1,h.2⟩:cS ⟨n.t,n.cm,n.so,n.xs,n.ys,q⟩)
 ·show cS (fU n x 5).1;rw [l];exact h
 ·show cS (fU n x 6).1;rw [m];exact D
theorem Gd.at_ {M:MV} (h:Gd M) (pa size kind x:Int):Gd (tG M pa size kind x).2.1:=by
 obtain ⟨_,_,_,_,c,_,_⟩:=db h.ok;have a:cS M.d:=⟨h.mw.xs,h.mw.ys⟩;unfold tG;split
 ·split;·exact (h.mem (jA _ _ _ _) (ML _ h.mw.ram _ _ _)).let_ pa
  ·exact h
 ·split
  ·split;·rename_i b;exact h.dev (H9 _ _ c b) (Nr _ a _)
   ·exact h
  ·split
   ·split;·rename_i b;exact (h.dev (Ia _ _ _ _ c b) (Ns _ a _ _ _)).let_ pa
    ·exact h
   ·exact h
theorem Gd.marked (h:Gd x) (F:Fd):Gd (bN x (bz x.ram F)):=h.mem (kB _ _) (Am _ h.mw.ram F)
theorem Gd.acc (h:Gd x) (addr size kind M:Int):Gd (aH x addr size kind M).2.1:=by
 unfold aH;split;·exact h
 ·unfold zX;split;·exact h.marked _
  ·split;·exact h.marked _
   ·exact (h.marked _).at_ _ _ _ _
theorem CT:(oa p w).pc=p.pc/\(oa p w).x=p.x/\(oa p w).pr=p.pr/\(oa p w).wt=p.wt:=by unfold oa;split<;>exact ⟨rfl,rfl,rfl,rfl⟩
theorem P7:(tG p w e m z).2.1.pc=p.pc/\(tG p w e m z).2.1.x=p.x/\(tG p w e m z).2.1.pr=p.pr/\(tG p w e m z).2.1.wt=p.wt:=by
 unfold tG;split
 ·split;·exact CT (bN p _) w
  ·exact ⟨rfl,rfl,rfl,rfl⟩
 ·split;·split<;>exact ⟨rfl,rfl,rfl,rfl⟩
  ·split
   ·split;·exact CT (bK (bW p _)) w
    ·exact ⟨rfl,rfl,rfl,rfl⟩
   ·exact ⟨rfl,rfl,rfl,rfl⟩
theorem jc:(aH p w e m z).2.1.pc=p.pc/\(aH p w e m z).2.1.x=p.x/\(aH p w e m z).2.1.pr=p.pr/\(aH p w e m z).2.1.wt=p.wt:=by
 unfold aH;split;·exact ⟨rfl,rfl,rfl,rfl⟩
 ·unfold zX;split;·exact ⟨rfl,rfl,rfl,rfl⟩
  ·split;·exact ⟨rfl,rfl,rfl,rfl⟩
   ·exact P7 (bN p _) _ _ _ _
theorem wv (lv:Nat):(du k w e m z b lv).code=0\/(du k w e m z b lv).code=eY m\/(du k w e m z b lv).code=dI m:=by
 unfold du;split;·exact A5 (A6 rfl)
 ·split;·exact A5 (A6 rfl)
  ·split;·exact A5 (A6 rfl)
   ·split
    ·split;·exact A6 rfl
     ·exact A5 (A5 rfl)
    ·exact A6 rfl
theorem FH (l:List Int) (p va kind:Int):∀ n T,(bT k a l p va kind n T).code=0\/(bT k a l p va kind n T).code=eY kind\/(bT k a l p va kind n T).code=dI kind:=by
 intro n;induction n with
 | zero =>
   intro T;rw [gM];split
   ·split
    ·split;·exact A5 (A6 rfl)
     ·split;·rw [JZ8 (show kY _ 0=true from by unfold kY;simp)];exact A5 (A6 rfl)
      ·exact wv _ _ _ _ _ _ _
    ·exact A5 (A5 rfl)
   ·exact A5 (A5 rfl)
 | succ n b =>
   intro T;rw [gM];split
   ·split
    ·split;·exact A5 (A6 rfl)
     ·split
      ·split;·exact A5 (A6 rfl)
       ·exact b _
      ·exact wv _ _ _ _ _ _ _
    ·exact A5 (A5 rfl)
   ·exact A5 (A5 rfl)
theorem yQ:(cj k a s w e m).code=0\/(cj k a s w e m).code=eY m\/(cj k a s w e m).code=dI m:=by
 unfold cj;split;·exact A6 rfl
 ·split;·exact A5 (A6 rfl)
  ·exact FH _ _ _ _ _ _ _ _
theorem Nt:eY w=12\/eY w=13\/eY w=15:=by
 unfold eY;repeat' split
 all_goals simp
theorem Ke:dI w=1\/dI w=5\/dI w=7:=by
 unfold dI;repeat' split
 all_goals simp
theorem l5:∃ c:Nat,c<16/\(cj k a s w e m).code=c:=by
 have n:=Nt m;have b:=Ke m;rcases yQ k a s w e m with h|h|h;·exact ⟨0,ab,h⟩
 ·rcases n with va|va|va;·exact ⟨12,ab,by rw [h,va];rfl⟩
  ·exact ⟨13,ab,by rw [h,va];rfl⟩
  ·exact ⟨15,ab,by rw [h,va];rfl⟩
 ·rcases b with va|va|va;·exact ⟨1,ab,by rw [h,va];rfl⟩
  ·exact ⟨5,ab,by rw [h,va];rfl⟩
  ·exact ⟨7,ab,by rw [h,va];rfl⟩
theorem uG:∃ c:Nat,c<16/\ig w=c+16:=by
 unfold ig;split;·exact ⟨1,ab,rfl⟩
 ·split;·exact ⟨5,ab,rfl⟩
  ·exact ⟨7,ab,rfl⟩
theorem P8:∃ c:Nat,c<16/\oM w=c+16:=by
 unfold oM;split;·exact ⟨0,ab,rfl⟩
 ·split;·exact ⟨4,ab,rfl⟩
  ·exact ⟨6,ab,rfl⟩
theorem Qa:(tG p w e m z).2.2=0\/∃ c:Nat,c<16/\(tG p w e m z).2.2=c+16:=by
 unfold tG;split;·split<;>exact A6 rfl
 ·split
  ·split;·exact A6 rfl
   ·exact A5 (uG m)
  ·split
   ·split;·exact A6 rfl
    ·exact A5 (uG m)
   ·exact A5 (uG m)
theorem Nu:(aH p w e m z).2.2=0\/∃ c:Nat,c<16/\(aH p w e m z).2.2=c+16:=by
 unfold aH;split;·exact A5 (P8 m)
 ·unfold zX;split;·obtain ⟨c,a,size⟩:=l5 p.ram p.ram.length p.cs (gg p.cs p.pr m) w m;refine A5 ⟨c,a,?_⟩;show X0 ((cj p.ram p.ram.length p.cs (gg p.cs p.pr m) w m).code+16)=_;rw [size];unfold X0;omega
  ·split;·exact A5 (uG m)
   ·exact Qa _ _ _ _ _
