/- Own lemmas. -/
import Derived.Test.YtlidafnochnddaaGreatDoorAut
import Derived.Test.YtlidafnochnddaaGreatDoorK15
import Derived.RangeFuncNested
import Derived.RangeFuncBound
import Derived.Shelf.RegionOpen
import Derived.OwnWalkIn
import Derived.LoopNIn
import Derived.LoopIn
set_option maxRecDepth 100000
set_option maxHeartbeats 4000000
namespace Go.Proofs.YtlidafnochnddaaGreatDoor
open Go.RowKit Tryz
open IntKind renaming u64->Uz
open Below renaming refl->A6
open Bool renaming and_eq_true->L4,false_eq_true->L5,false_or->L6,not_or->L7
open Boxed renaming new->T9,set->U0
open Fence renaming wide->T6
open Go renaming bits->H5,World->H8,Boxed->I4,run_takeDeferred->I5,belowK_b->K0,ownFrom_below->K1,callsIn_of_wp->K4
open Go.RowKit renaming Below->U1,wrap64->U2
open KeepsOthers renaming setCell->M5,alloc->M7
open List renaming getD_eq_getElem?_getD->R5,append_toArray->S1,size_toArray->S2,push_toArray->S5,length_cons->T0,cons_append->T2,nil_append->T3,mem_append->T4,length_nil->T5
open Nat renaming lt_of_lt_of_le->F0,le_refl->F3,le_trans->G3,reduceSub->H1,reduceAdd->H2,eq_zero_or_pos->H3
open Or renaming inr->A0,inl->A5
open World renaming cell?->T7,alloc_heap_new->T8
open _root_.Array renaming getElem?_eq_some_iff->N1,replicate_zero->P2,replicate_succ->R4
set_option linter.unusedVariables false
variable (a k w b x:Int) (l:H8) (r y c:Nat) (d:List Int) (p:Nat)
theorem kr {B:Nat} {w w':H8} (h:U1 B w w') (q:Nat):U1 B w (w'.drewN q):=⟨h.os,h.tape,h.output,h.size,h.block⟩
def ER (k:Int):Bool:=(k==1)||(k==2)||(k==3)
theorem qx (k:Int):ER k=decide (1<=k/\k<=3):=by
 unfold ER;by_cases a:k=1;·subst a;rfl
 ·by_cases b:k=2;·subst b;rfl
  ·by_cases c:k=3;·subst c;rfl
   ·have:¬ (1<=k/\k<=3):=by omega
    rw [decide_eq_false this];simp [a,b,c]
theorem kL (k:Int) (w:H8):CE 146 #[.i k] w (.bool (ER k)):=by refine cF (S:=λx=>x=w) (args:=[.i k]) [] func146 ?_;unfold ER;cases a:(k==1)<;>cases b:(k==2)<;>cases c:(k==3)<;>exact dD (R:=[]) trivial {eq:=[(4,aD a),(7,aD b),(11,aD c)]} 40 (t:=2) ⟨rfl,rfl⟩
def AX (k:Int):Int:=if (k==1)=true then 4 else if (k==2)=true then 1 else 2
theorem AY (k:Int) (w:H8):CE 230 #[.i k] w (.u (AX k)):=by refine cF (S:=λx=>x=w) (args:=[.i k]) [] func230 ?_;unfold AX;cases a:(k==1)<;>cases b:(k==2)<;>exact dD (R:=[]) trivial {eq:=[(5,aD a),(7,aD b)]} 40 (t:=2) ⟨rfl,rfl⟩
def Dq (b a x y:Int):Bool:=decide (b<=x)&&decide (y<=a)
theorem Dr:CB 216 #[.agg #[.u a,.u k,.u w],.u b,.u x] l (.bool (Dq a k b x)):=by refine cF (S:=Bs l [(#[.u a,.u k,.u w],305)]) (args:=[.agg #[.u a,.u k,.u w],.u b,.u x]) [(#[.u a,.u k,.u w],305)] func216 ?_;unfold Dq;cases d:decide (a<=b)<;>cases f:decide (x<=k)<;>exact bg (t:=6) Bs.eng {eq:=[(10,aD d),(15,aD f)]} 60 (Bs.start _ _) (λc h=>⟨rfl,h.2⟩)
def nW (r p k:Int):Bool:=((p==3)&&(H5 .and .u64 r 128==0))||(H5 .and .u64 r (AX k) != 0)
theorem Ds:CB 217 #[.agg #[.u a,.u k,.u w],.i b,.i x] l (.bool (nW w b x)):=by refine cF (S:=Bs l [(#[.u a,.u k,.u w],305)]) (args:=[.agg #[.u a,.u k,.u w],.i b,.i x]) [(#[.u a,.u k,.u w],305)] func217 ?_;have d:=AY x;unfold nW;generalize AX x=m at *;cases f:(b==3)<;>cases g:(H5 .and .u64 w 128==0)<;>cases i:(H5 .and .u64 w m != 0)<;>exact bg (t:=6) Bs.eng {eq:=[(8,aD f),(13,aD g),(20,aD i)],cv:=[(18,wU λW _=>d W)]} 60 (Bs.start _ _) (λc h=>⟨rfl,h.2⟩)
theorem yW (q:p<4) (w:H8) (l:w.cell? ⟨r,y+(16+p),none⟩=some (.u (d.getD (16+p) 0))): CB 271 #[.slice (some ⟨r,y,none⟩) 22 c,.i p] w (.u (sd d p)):=by
 have F:Hid (sd d p=if (p==0)=true then 0 else Uz.wrap (4*d.getD (16+p) 0)):=(rfl:sd d p=_);rcases H3 p with h|h;·subst h;go_enter func271,ntmps271;go_wp2_with fail;go_ret;exact ⟨rfl,A6 _ _⟩
 ·have i:((p:Int)==0)=false:=bb;have m:U2 (17+(p:Int))=((17+p:Nat):Int):=bw;have j:U2 (((17+p:Nat):Int)-1)=((16+p:Nat):Int):=bw;have g:0<=((16+p:Nat):Int)/\((16+p:Nat):Int)<((22:Nat):Int):=aa;have f:Hid (sd d p=Uz.wrap (4*d.getD (16+p) 0)):=(by have:=F.out;rw [JZ9 bb] at this;exact this);clear F;generalize d.getD (16+p) 0=a at *;go_enter func271,ntmps271;go_wp2_with fail;go_ret;exact ⟨by rw [f.out];rfl,A6 _ _⟩
theorem Qg:bt (H5 .xor .u64 a k) r=(bt a r ^^ bt k r):=by show (BitVec.ofInt 64 (Uz.wrap ((BitVec.ofInt 64 a ^^^ BitVec.ofInt 64 k).toNat:Int))).getLsbD r=_;rw [pK];simp [bt]
theorem Ng (h:r<18446744073709551616):H5 .xor .u64 IntKind.u64.max (r:Int)=((18446744073709551615-r:Nat):Int):=by
 have e:IntKind.u64.max=18446744073709551615:=rfl;rw [e];refine aS _ _ (af _ _ _) ⟨aa,aa⟩ λi b=>?_;rw [Qg,yK i b,nl _ ⟨aa,aa⟩,nl _ ⟨aa,aa⟩];have c:(18446744073709551615-r:Nat)=2^64-(r+1):=aa
 simp only [Int.toNat_natCast];rw [c,Nat.testBit_two_pow_sub_succ h,decide_eq_true b];simp
theorem uU (q:H5 .xor .u64 IntKind.u64.max a=(r:Int)) (hk:min y 53=c) (o:c<=53) (w:H8) (l:Hid (CE 127 #[.u r] w (.i y))): CB 272 #[.u a] w (.tuple #[.u (qs a c),.u (se a c)]):=by
 have j:Hid (min y 53=c):=hk;have p:IntKind.u64.signed=false:=rfl;clear hk;go_enter func272,ntmps272;go_wp2_with fail;refine l.out.mono ?_;rintro e x ⟨rfl,d⟩;have f:=d.symm;subst f;go_wp2_with fail;have v:min (y:Int) 53=(c:Int):=(by have:=j.out;omega);rw [v];go_quiet (fail)
 go_wp2_with fail;go_ret2;exact ⟨rfl,kr (A6 _ _) _⟩
theorem wi (h:U a) (w:H8) (c:lY w): CB 272 #[.u a] w (.tuple #[.u (qs a (qr a)),.u (se a (qr a))]):=by
 obtain ⟨n,rfl⟩:∃ n:Nat,a=n:=⟨a.toNat,by have:=h.1;omega⟩;have d:n<18446744073709551616:=by have:=h.2;omega
 have b:(18446744073709551615-(n:Int)).toNat=18446744073709551615-n:=aa
 refine uU (n:Int) (18446744073709551615-n) (Lib.ctz 64 (18446744073709551615-n)) _ (Ng n d) ?_ ?_ w (Qd _ aa w c);·unfold qr;rw [b]
 ·unfold qr;exact Nat.min_le_right _ _
theorem Kc (c cap:Nat) (l:List Int) (i:Nat) (E:i<4) (w:H8) (D:lY w) (hl:∀ j,U (l.getD j 0)) (d:w.cell? ⟨r,c+16,none⟩=some (.u (l.getD 16 0))) (p:w.cell? ⟨r,c+(17+i),none⟩=some (.u (l.getD (17+i) 0))) (n:w.cell? ⟨r,c+(16+i),none⟩=some (.u (l.getD (16+i) 0))): CB 263 #[.slice (some ⟨r,c,none⟩) 22 cap,.i i] w (.tuple #[.u (dL l i).1,.u (dL l i).2]):=by
 have u:r<w.heap.size:=World.block_lt_of_cell? w _ d;have B:=λW (_:Bw w W)=>(qf (l.getD 16 0) i aa (hl 16).1 (hl 16).2 W).mono λe g (h:_/\g=W.drew)=>(⟨h.1,by rw [h.2];exact (A6 _ _).drew⟩:_/\Bw W g);have z:=λW (k:Bw w W)=>yW r c cap l i E W ((k.cell (by exact u)).trans n);have A:=λW (k:Bw w W)=>wi (l.getD (17+i) 0) (hl (17+i)) W (D.below k);have b:IntKind.i64.wrap (17+(i:Int))=((17+i:Nat):Int):=by rw [IntKind.wrap_i64];omega
 have m:0<=((17+i:Nat):Int)/\((17+i:Nat):Int)<((22:Nat):Int):=aa
 obtain ⟨V,f⟩:∃ V,V=dL l i:=⟨_,rfl⟩;rw [<- f];unfold dL at f;generalize sd l i=G at *;generalize qr (l.getD (17+i) 0)=on at *;generalize qs (l.getD (17+i) 0) on=pl at *;generalize se (l.getD (17+i) 0) on=H at *;generalize gC (l.getD 16 0) i=q at *;generalize l.getD (17+i) 0=a at *;generalize l.getD 16 0=C at *;refine cF (S:=Bs w []) (args:=[.slice (some ⟨r,c,none⟩) 22 cap,.i i]) [] func263 ?_;cases v:(q==1)<;>cases x:(q==2)<;>cases y:(q==3)<;>rw [v,x,y] at f<;>subst f <;>
  exact kZ (t:=4) (s:=5) Bs.eng {eq:=[(9,ed .i64 b),(18,aD v),(25,aD x),(32,aD y)],ov:=[(10,pA (a:=some ⟨r,c,none⟩) (b:=r) (o:=c) 22 cap .i64 ((17+i:Nat):Int) rfl m underlying31 ab),(11,lw ⟨r,c+((17+i:Nat):Int).toNat,none⟩ (.u a) underlying32 rfl λW h=>(h.2.cell (by exact u)).trans p),(14,lw ⟨r,c+16,none⟩ (.u C) underlying32 rfl λW h=>(h.2.cell (by exact u)).trans d)],cv:=[(16,fu B),(21,fu z),(34,fu A)]} 60 (Bs.start _ _) λF h=>⟨rfl,h.2⟩
open Go.RowKit Tryz Go.Shelf
attribute [local go_sem] Oper.semAt_some
variable {g:H8} {b:Nat} {W:Obj} {l:Array Value} {n:TypeId} {o:Nat × Nat} (w a c f t B d:Nat) (j:List Int)
theorem rp {w':H8} (hb:Bw g w') (row:Option Nat):g.grownBy w' row:=⟨hb.os,hb.tape,hb.output,hb.size,λk a _=>hb.block k a⟩
def Kd (x:Nat × Int × Int × Int):Array Value:=#[.i (x.1:Int),.agg #[.u x.2.1,.u x.2.2.1,.u x.2.2.2]]
theorem AZ (hl:∀ l,U (j.getD l 0)) (J Y:List (Nat × Int × Int × Int)->H8->Prop) (hb:t<f) (L:c<f) (hg:7<f) (W:H8) (hn:f<=W.heap.size) (hT:lY W) (hc:W.cell? ⟨c,0,none⟩=some (.slice (some ⟨t,B,none⟩) 22 d)) (hs:∀ l,l<22->W.cell? ⟨t,B+l,none⟩=some (.u (j.getD l 0))) (hJ:AbidesFrom W.heap.size J) (hY:∀ pre x D,J pre D->pre.length<4->YieldAt T6 (w-1) prog a (Kd x) D λe s=>(e=.returned (.bool true)/\J (pre++[x]) s/\U1 f D s)\/(e=.returned (.bool false)/\Y (pre++[x]) s)) (h0:J [] W): CallsIn T6 w prog 262 #[.func (.yield a) #[] #[],.p c 0] W λe s=>(∃ v,e=.returned v)/\((∃ ys,ys=eY j 4/\J ys s)\/(∃ pre,pre <+: eY j 4/\Y pre s)):=by
 have HC:Hid (W.cell? ⟨c,0,none⟩=some (.slice (some ⟨t,B,none⟩) 22 d)):=hc;have X:Hid (∀ l,l<22->W.cell? ⟨t,B+l,none⟩=some (.u (j.getD l 0))):=hs;have HT:Hid (lY W):=hT;have HY:Hid (∀ pre x D,J pre D->pre.length<4->YieldAt T6 (w-1) prog a (Kd x) D λe s=>(e=.returned (.bool true)/\J (pre++[x]) s/\U1 f D s)\/(e=.returned (.bool false)/\Y (pre++[x]) s)):=hY;have HJ:Hid (AbidesFrom W.heap.size J):=hJ;have HL:Hid (∀ l,U (j.getD l 0)):=hl;clear hc hs hT hY hJ hl;refine K4 func262 rfl trivial ?_ rfl;simp only [ntmps262,S2,T0,T5,H2,H1,R4,P2,S5,S1,T3,T2];gi_wp2;gi_loopw [7] (λi wr=>∃ k:Nat,k<=4/\i=.i k/\J (eY j k) wr/\U1 f W wr) (λi _=>4-(intOf i).toNat);case atStart=>exact ⟨0,aa,rfl,h0,A6 _ _⟩
 case round =>
  obtain ⟨k,hk,rfl,N,b⟩:=hrel;have y:Hid (U1 f W wr):=b;have C:Hid (J (eY j k) wr):=N;have hcw:wr.cell? ⟨c,0,none⟩=some (.slice (some ⟨t,B,none⟩) 22 d):=(b.cell (p:=⟨c,0,none⟩) L).trans HC.out;have q:f<=wr.heap.size:=G3 hn b.size;clear b N;by_cases bZ:k<4
  ·have m:Hid (CB 263 #[.slice (some ⟨t,B,none⟩) 22 d,.i k] wr (.tuple #[.u (dL j k).1,.u (dL j k).2])):=
    Kc t B d j k bZ wr (HT.out.from y.out hg) HL.out ((y.out.cell (p:=⟨t,B+16,none⟩) hb).trans (X.out 16 aa)) ((y.out.cell (p:=⟨t,B+(17+k),none⟩) hb).trans (X.out (17+k) aa)) ((y.out.cell (p:=⟨t,B+(16+k),none⟩) hb).trans (X.out (16+k) aa))
   by_cases o:(dL j k).2<=(dL j k).1
   ·have I:Hid (eY j (k+1)=eY j k):=GP o;have O:decide ((dL j k).1>=(dL j k).2):=(by simpa using o);gi_wp2_with fail;refine ⟨trivial,(λh=>hh),(callsIn_wide.2 m.out).mono ?_⟩;rintro e Bs ⟨rfl,g⟩;clear m;have A:Hid (J (eY j (k+1)) Bs):=(by have:=HJ.out _ wr Bs none C.out (rp g none) (λr e=>ki);rw [I.out];exact this);have z:Hid (U1 f W Bs):=y.out.trans (g.mono q);gi_wp2_with fail;go_roundw;case rel=>exact ⟨k+1,aa,bh,A.out,z.out⟩
    case measure=>simp [intOf];omega
   ·have O:decide ((dL j k).1>=(dL j k).2)=false:=(by simpa using o);have I:Hid (eY j (k+1)=eY j k++[(k,(dL j k).1,Uz.wrap ((dL j k).2-1),aG (j.getD 16 0) (8*k) 8)]):=GQ o;have HPB:Hid (∀ n,Calls prog 264 #[.u (j.getD 16 0),.i k] n λe w'=>e=.returned (.u (aG (j.getD 16 0) (8*k) 8))/\w'=n.drew):=λn=>nP _ k aa (HL.out 16).1 (HL.out 16).2 n;have H:Hid (∀ Bs,Bw wr Bs->Bs.cell? ⟨t,B+16,none⟩=some (.u (j.getD 16 0))/\Bs.cell? ⟨c,0,none⟩=some (.slice (some ⟨t,B,none⟩) 22 d)):=λBs h1 =>
     ⟨(h1.cell (p:=⟨t,B+16,none⟩) (F0 hb q)).trans ((y.out.cell (p:=⟨t,B+16,none⟩) hb).trans (X.out 16 aa)),(h1.cell (p:=⟨c,0,none⟩) (F0 L q)).trans hcw⟩
    have HLN:Hid ((eY j k).length<4):=(by have:=JY j k;show (eY j k).length<4;omega);have HPR:Hid (eY j (k+1) <+: eY j 4):=(by have:=JZ j (4-(k+1)) (k+1);rw [show k+1+(4-(k+1))=4 from aa] at this;exact this);generalize aG (j.getD 16 0) (8*k) 8=E at *;generalize j.getD 16 0=c16 at *;obtain ⟨T,Q⟩:∃ T,(dL j k).1=T:=⟨_,rfl⟩;obtain ⟨s2,R⟩:∃ s2,(dL j k).2=s2:=⟨_,rfl⟩;rw [Q,R] at m I O;clear Q R o;gi_wp2_with fail;refine ⟨trivial,(λh=>hh),(callsIn_wide.2 m.out).mono ?_⟩;rintro e Bs ⟨rfl,g⟩;clear m;obtain ⟨hc1,hc2⟩:=H.out Bs g;have A:Hid (J (eY j k) Bs):=HJ.out _ wr Bs none C.out (rp g none) (λr e=>ki);have z:Hid (U1 f W Bs):=y.out.trans (g.mono q);have S:Hid (f<=Bs.heap.size):=G3 q g.size;clear g;gi_wp2_with fail;refine ⟨trivial,(λh=>hh),(callsIn_wide.2 (HPB.out _)).mono ?_⟩;rintro e w2 ⟨rfl,hw2⟩;subst hw2;gi_wp2_with fail;obtain ⟨V,F⟩:∃ V,Uz.wrap (s2-1)=V:=⟨_,rfl⟩;have K:Hid (eY j (k+1)=eY j k++[(k,T,V,E)]):=(by have:=I.out;rw [F] at this;exact this);rw [F];clear F I;have G:Hid (Bw Bs ((Bs.alloc (.cells #[.u T,.u V,.u E] 305)).drew)):=(bal _ _).drew;obtain ⟨fn,tmps,assign,body,hy,hR⟩:=HY.out (eY j k) (k,T,V,E) _ (HJ.out _ Bs _ none A.out (rp G.out none) (λr e=>ki)) HLN.out;simp only [Kd] at hy;rw [hy];gi_wp2_with fail;refine ⟨(λh=>hh),hR.mono ?_⟩;rintro e W3 (⟨rfl,M,P⟩ | ⟨rfl,u⟩)
    ·have cap:Hid (J (eY j (k+1)) W3):=(by rw [K.out];exact M);have Z:Hid (U1 f W W3):=(z.out.trans (G.out.mono S.out)).trans P;clear M P;gi_wp2_with fail;go_roundw;case rel=>exact ⟨k+1,aa,bh,cap.out,Z.out⟩
     case measure=>simp [intOf];omega
    ·have cap:Hid (Y (eY j (k+1)) W3):=(by rw [K.out];exact u);clear u;gi_wp2_with fail;refine bodyPost_ret (results_none rfl _ _ _) rfl ?_;exact ⟨⟨_,rfl⟩,.inr ⟨_,HPR.out,cap.out⟩⟩
  ·obtain rfl:k=4:=aa;gi_wp2_with fail;go_end0;exact ⟨⟨_,rfl⟩,.inl ⟨_,rfl,C.out⟩⟩
theorem Dt (a:Option Addr) (m cap:Nat) (n:H8): CallsIn T6 w prog 229 #[.slice a m cap] n λe b=>e=.returned (.func (.func 262) #[] #[.p n.heap.size 0])/\b=n.alloc (.cells #[.slice a m cap] 31):=by refine K4 func229 rfl trivial ?_ rfl;simp only [ntmps229,S2,T0,T5,H2,H1,R4,P2,S5,S1,T3,T2];gi_wp2;go_ret;exact ⟨rfl,rfl⟩
theorem wj (hl:∀ l,U (j.getD l 0)) (hb:f<c) (d:a<c) (Bs:7<c) (n:H8) (hn:c<=n.heap.size) (m:lY n) (q:n.cell? ⟨a,0,none⟩=some (.slice (some ⟨f,t,none⟩) 22 B)) (s:∀ l,l<22->n.cell? ⟨f,t+l,none⟩=some (.u (j.getD l 0))):
 SeqStopsK T6 w prog 262 #[.p a 0] Kd (U1 c) (λu=>u=eY j 4) (λpre=>pre <+: eY j 4) 4 n:=λb J g W e i k o h =>
 AZ w b a c f t B j hl J g hb d Bs W (G3 hn e.size) (m.from e (F0 Bs hn)) ((e.cell (p:=⟨a,0,none⟩) (F0 d hn)).trans q)
  (λl r=>(e.cell (p:=⟨f,t+l,none⟩) (F0 hb hn)).trans (s l r)) i o h
theorem kM {B:H8} {row:Option Nat} (h:g.heap[b]?=some (.cells l n o)) (c:g.grownBy B row) (d:∀ r,row=some r->∃ f:Obj,g.heap[r]?=some f/\f.isCells=false):B.heap[b]?=some (.cells l n o):=by refine (c.block b (N1.1 h).1 λe=>?_).trans h;obtain ⟨f,a,A⟩:=d b e.symm;rw [h] at a;cases a;cases A
attribute [local go_sem] Oper.semAt_some
theorem dQ {B j:Nat} (h:g.heap[b]?=some W) (a:b≠B) (v:Value):(g.setCell ⟨B,j,none⟩ v).heap[b]?=some W:=by simp only [World.setCell];rw [Array.getElem?_modify,JZ9 (by simpa using Ne.symm a)];exact h
theorem tj {D:Nat} {o:Obj} (h:g.heap[b]?=some W) (a:b≠D):(g.putObj D o).heap[b]?=some W :=
 ((grownBy_putObj' g D o).block b (N1.1 h).1 eo).trans h
theorem oC (h:g.heap[b]?=some (.cells l n o)) (j:Nat):g.cell? ⟨b,j,none⟩=l[j]?:=by simp [T7,h]
theorem rq (h:g.heap[b]?=some W) (a:Obj):(g.alloc a).heap[b]?=some W:=(Below.heap_alloc g a b (N1.1 h).1).trans h
theorem yX (x y:Int) (b:H8) (hbw:w<b.heap.size) (z:∀ l,l<22->b.cell? ⟨w,a+l,none⟩=some (.u (j.getD l 0))) (hl:∀ l,U (j.getD l 0)) (hT:lY b): CB 215 #[.slice (some ⟨w,a,none⟩) 22 c,.u x,.u y] b (.tuple #[.agg #[.u (kh j x y).1,.u (kh j x y).2.1,.u (kh j x y).2.2.1],.bool (kh j x y).2.2.2]):=by
 have HS:Hid (∀ l,l<22->b.cell? ⟨w,a+l,none⟩=some (.u (j.getD l 0))):=z;have HL:Hid (∀ l,U (j.getD l 0)):=hl;have HT:Hid (lY b):=hT;clear z hl hT;refine (callsIn_wide (n:=3)).1 ?_;refine callsIn_of_wp_marks func215 rfl trivial ?_ rfl;simp only [ntmps215,S2,T0,T5,H2,H1,R4,P2,S5,S1,T3,T2];gi_wp2_with fail;refine ⟨trivial,(Dt _ _ _ _ _).mono ?_⟩;rintro e O ⟨rfl,rfl⟩;gi_wp2_with fail;have bX:=((((T9 b 32 (.u x)).alloc (.cells #[.u y] 32)).alloc (.cells #[.u 0,.u 0,.u 0] 305)).alloc (.cells #[.bool false] 4)).alloc (.cells #[.slice (some ⟨w,a,none⟩) 22 c] 31);have bY:=(((T9 (b.alloc (.cells #[.u x] 32)) 32 (.u y)).alloc (.cells #[.u 0,.u 0,.u 0] 305)).alloc (.cells #[.bool false] 4)).alloc (.cells #[.slice (some ⟨w,a,none⟩) 22 c] 31);have bR:=rq (rq (T8 ((b.alloc (.cells #[.u x] 32)).alloc (.cells #[.u y] 32)) (.cells #[.u 0,.u 0,.u 0] 305)) (.cells #[.bool false] 4)) (.cells #[.slice (some ⟨w,a,none⟩) 22 c] 31);have bB:=(T9 (((b.alloc (.cells #[.u x] 32)).alloc (.cells #[.u y] 32)).alloc (.cells #[.u 0,.u 0,.u 0] 305)) 4 (.bool false)).alloc (.cells #[.slice (some ⟨w,a,none⟩) 22 c] 31);have bS:=T9 ((((b.alloc (.cells #[.u x] 32)).alloc (.cells #[.u y] 32)).alloc (.cells #[.u 0,.u 0,.u 0] 305)).alloc (.cells #[.bool false] 4)) 31 (.slice (some ⟨w,a,none⟩) 22 c);simp only [World.size_alloc] at bY bR bB bS;have M:Bw b (((((b.alloc (.cells #[.u x] 32)).alloc (.cells #[.u y] 32)).alloc (.cells #[.u 0,.u 0,.u 0] 305)).alloc (.cells #[.bool false] 4)).alloc (.cells #[.slice (some ⟨w,a,none⟩) 22 c] 31)):=(((((A6 _ b).alloc (F3 _) _).alloc bh _).alloc bb _).alloc bb _).alloc bb _;have hz6:(((((b.alloc (.cells #[.u x] 32)).alloc (.cells #[.u y] 32)).alloc (.cells #[.u 0,.u 0,.u 0] 305)).alloc (.cells #[.bool false] 4)).alloc (.cells #[.slice (some ⟨w,a,none⟩) 22 c] 31)).heap.size=b.heap.size+5:=bh
 obtain ⟨O,T⟩:∃ O,((((b.alloc (.cells #[.u x] 32)).alloc (.cells #[.u y] 32)).alloc (.cells #[.u 0,.u 0,.u 0] 305)).alloc (.cells #[.bool false] 4)).alloc (.cells #[.slice (some ⟨w,a,none⟩) 22 c] 31)=O:=⟨_,rfl⟩;rw [T] at bX bY bR bB bS M hz6 ⊢;clear T;have hT6:lY O:=HT.out.below M;have hs6:∀ l,l<22->O.cell? ⟨w,a+l,none⟩=some (.u (j.getD l 0)):=λl hj=>(M.cell (p:=⟨w,a+l,none⟩) hbw).trans (HS.out l hj);have hg5:7<b.heap.size:=HT.out.lt;refine wpIn_rangeFunc_ownH rfl aa (gf:=262) (lb:=#[.p (b.heap.size+1+1+1+1) 0]) rfl trivial (enters_of func262 ab rfl)
  (wj 2 (b.heap.size+1+1+1+1) (b.heap.size+5) w a c j HL.out aa aa aa O aa hT6 bS.cell hs6) belowK_t (K0 aa) (A6 _ _) (λ_=>rfl)
  (λpre W=>((∀ p ∈ pre,iD x y p=false)/\I4 W b.heap.size 32 (.u x)/\I4 W (b.heap.size+1) 32 (.u y)/\W.heap[b.heap.size+1+1]?=some (.cells #[.u 0,.u 0,.u 0] 305 (0,0))/\I4 W (b.heap.size+1+1+1) 4 (.bool false)/\b.heap.size+5<=W.heap.size)/\Bw b W)
  (λcap pre W=>(cap=.ret/\∃ E d,pre=E++[d]/\(∀ p ∈ E,iD x y p=false)/\iD x y d/\W.heap[b.heap.size+1+1]?=some (.cells #[.u d.2.1,.u d.2.2.1,.u d.2.2.2] 305 (0,0))/\I4 W (b.heap.size+1+1+1) 4 (.bool true))/\Bw b W)
  (OwnFrom.and (λs A B row z I J=>⟨z.1,kM z.2.1 I (λr e=>(J r e).2),kM z.2.2.1 I (λr e=>(J r e).2),kM z.2.2.2.1 I (λr e=>(J r e).2),kM z.2.2.2.2.1 I (λr e=>(J r e).2),G3 z.2.2.2.2.2 I.size⟩) (K1 (F3 _) aa))
  (λcap=>OwnFrom.and (λs A B row z I J=>by obtain ⟨hc,E,d,e1,e2,e3,e4,e5⟩:=z;exact ⟨hc,E,d,e1,e2,e3,kM e4 I (λr e=>(J r e).2),kM e5 I (λr e=>(J r e).2)⟩) (K1 (F3 _) aa))
  ⟨⟨bh,bX,bY,bR,bB,aa⟩,M⟩
  (λq a' W=>∃ L,b.heap.size+4<=L/\W.heap[L]?=some (.cells #[.u q.2.1,.u q.2.2.1,.u q.2.2.2] 305 (0,0))/\a'={tmps:=#[.slice (some ⟨w,a,none⟩) 22 c,.u x,.u y,undef,.p b.heap.size 0,.p (b.heap.size+1) 0,.p (b.heap.size+1+1) 0,.p (b.heap.size+1+1+1) 0,undef,.p L 0,.slice (some ⟨w,a,none⟩) 22 c,.func (.func 262) #[] #[.p (b.heap.size+1+1+1+1) 0],.i (q.1:Int),.agg #[.u q.2.1,.u q.2.2.1,.u q.2.2.2],undef,undef,undef,undef,undef,undef,undef,undef,undef,undef,undef,undef],defers:=[]})
  (λq a' _ X Y row z I J=>by obtain ⟨L,h1,h2,h3⟩:=z;exact ⟨L,h1,kM h2 I (λr e=>(J r e).2),h3⟩)
  ?assign ?body ?done ?stop
 case assign =>rintro lp pre q W K ⟨⟨P,t,u,f,m,C⟩,o⟩ S;simp only [Kd];gi_wp2_with fail;exact S _ _ ((M7 _ _).from _) ((A6 _ W).alloc C _) ⟨⟨P,t.alloc _,u.alloc _,rq f _,m.alloc _,bb⟩,o.alloc o.size _⟩ ⟨W.heap.size,m.lt,T8 W _,rfl⟩
 case body =>
  rintro lp pre q a' W hlp ⟨r,J⟩ ⟨⟨P,t,u,f,m,C⟩,o⟩ ⟨L,hBx,bQ,rfl⟩ bZ;have q0:W.cell? ⟨L,0,none⟩=some (.u q.2.1):=(by simp [T7,bQ]);have q1:W.cell? ⟨L,1,none⟩=some (.u q.2.2.1):=(by simp [T7,bQ]);have q2:W.cell? ⟨L,2,none⟩=some (.u q.2.2.2):=(by simp [T7,bQ]);have cX:=t.cell;have cY:=u.cell;have N:Hid (iD x y q=(decide (q.2.1<=y)&&decide (x<=q.2.2.1))):=(rfl:iD x y q=_);cases h1:decide (q.2.1<=y) with
  | false =>rw [h1] at N;have Z:Hid (iD x y q=false):=N.out;gi_wp2_with fail;exact ⟨KeepsFrom.refl _ _,A6 _ _,⟨λp Q=>(T4.1 Q).elim (P p) (λe=>by simp at e;subst e;exact Z.out),t,u,f,m,C⟩,o⟩
  | true =>
    rw [h1] at N;cases h2:decide (x<=q.2.2.1) with
    | false =>rw [h2] at N;have Z:Hid (iD x y q=false):=N.out;gi_wp2_with fail;exact ⟨KeepsFrom.refl _ _,A6 _ _,⟨λp Q=>(T4.1 Q).elim (P p) (λe=>by simp at e;subst e;exact Z.out),t,u,f,m,C⟩,o⟩
    | true =>
      rw [h2] at N;have Z:Hid (iD x y q):=N.out;have r0:W.cell? ⟨b.heap.size+1+1,0,none⟩=some (.u 0):=k5;have r1:W.cell? ⟨b.heap.size+1+1,1,none⟩=some (.u 0):=k5;have r2:W.cell? ⟨b.heap.size+1+1,2,none⟩=some (.u 0):=k5;have g0:W.frozen? ⟨b.heap.size+1+1,0,none⟩=false:=kd;have g1:W.frozen? ⟨b.heap.size+1+1,1,none⟩=false:=kd;have g2:W.frozen? ⟨b.heap.size+1+1,2,none⟩=false:=kd;have cB:=m.cell;have fB:=m.frozen;have Z1:Hid (KeepsFrom O.heap.size W ((((W.setCell ⟨b.heap.size+1+1,0,none⟩ (.u q.2.1)).setCell ⟨b.heap.size+1+1,1,none⟩ (.u q.2.2.1)).setCell ⟨b.heap.size+1+1,2,none⟩ (.u q.2.2.2)).setCell ⟨b.heap.size+1+1+1,0,none⟩ (.bool true))):=((((M5 W _ _).trans (M5 _ _ _)).trans (M5 _ _ _)).trans (M5 _ _ _)).from _
      have Z2:Hid (((((W.setCell ⟨b.heap.size+1+1,0,none⟩ (.u q.2.1)).setCell ⟨b.heap.size+1+1,1,none⟩ (.u q.2.2.1)).setCell ⟨b.heap.size+1+1,2,none⟩ (.u q.2.2.2)).setCell ⟨b.heap.size+1+1+1,0,none⟩ (.bool true)).heap[b.heap.size+1+1]?=some (.cells #[.u q.2.1,.u q.2.2.1,.u q.2.2.2] 305 (0,0))):=dQ (gn (gn (gn f _) _) _) aa _;have Z3:Hid (I4 ((((W.setCell ⟨b.heap.size+1+1,0,none⟩ (.u q.2.1)).setCell ⟨b.heap.size+1+1,1,none⟩ (.u q.2.2.1)).setCell ⟨b.heap.size+1+1,2,none⟩ (.u q.2.2.2)).setCell ⟨b.heap.size+1+1+1,0,none⟩ (.bool true)) (b.heap.size+1+1+1) 4 (.bool true)):=U0 _ (v:=.bool false) (dQ (dQ (dQ m aa _) aa _) aa _);have Z4:Hid (Bw b ((((W.setCell ⟨b.heap.size+1+1,0,none⟩ (.u q.2.1)).setCell ⟨b.heap.size+1+1,1,none⟩ (.u q.2.2.1)).setCell ⟨b.heap.size+1+1,2,none⟩ (.u q.2.2.2)).setCell ⟨b.heap.size+1+1+1,0,none⟩ (.bool true))):=(((o.setCell (p:=⟨b.heap.size+1+1,0,none⟩) bb _).setCell (p:=⟨b.heap.size+1+1,1,none⟩) bb _).setCell (p:=⟨b.heap.size+1+1,2,none⟩) bb _).setCell (p:=⟨b.heap.size+1+1+1,0,none⟩) bb _;gi_wp2_with fail;exact ⟨Z1.out,⟨rfl,pre,q,rfl,P,Z.out,Z2.out,Z3.out⟩,Z4.out⟩
 case done =>rintro D ys W hD rfl ⟨⟨P,t,u,f,m,C⟩,o⟩ S;have FN:Hid (kh j x y=(0,0,0,false)):=(by show kh j x y=_;unfold kh;rw [GT P]);have r0:W.cell? ⟨b.heap.size+1+1,0,none⟩=some (.u 0):=k5;have r1:W.cell? ⟨b.heap.size+1+1,1,none⟩=some (.u 0):=k5;have r2:W.cell? ⟨b.heap.size+1+1,2,none⟩=some (.u 0):=k5;have g0:W.frozen? ⟨b.heap.size+1+1,0,none⟩=false:=kd;have g1:W.frozen? ⟨b.heap.size+1+1,1,none⟩=false:=kd;have g2:W.frozen? ⟨b.heap.size+1+1,2,none⟩=false:=kd;have cB:=m.cell;have fB:=m.frozen;have k1:Hid (((((W.setCell ⟨b.heap.size+1+1,0,none⟩ (.u 0)).setCell ⟨b.heap.size+1+1,1,none⟩ (.u 0)).setCell ⟨b.heap.size+1+1,2,none⟩ (.u 0)).setCell ⟨b.heap.size+1+1+1,0,none⟩ (.bool false)).heap[D]?=some (.deferred (some []))):=dQ (dQ (dQ (dQ S aa _) aa _) aa _) aa _;have z2:((((W.setCell ⟨b.heap.size+1+1,0,none⟩ (.u 0)).setCell ⟨b.heap.size+1+1,1,none⟩ (.u 0)).setCell ⟨b.heap.size+1+1,2,none⟩ (.u 0)).setCell ⟨b.heap.size+1+1+1,0,none⟩ (.bool false)).heap[b.heap.size+1+1]?=some (.cells #[.u 0,.u 0,.u 0] 305 (0,0)):=dQ (gn (gn (gn f _) _) _) aa _;have z3:I4 ((((W.setCell ⟨b.heap.size+1+1,0,none⟩ (.u 0)).setCell ⟨b.heap.size+1+1,1,none⟩ (.u 0)).setCell ⟨b.heap.size+1+1,2,none⟩ (.u 0)).setCell ⟨b.heap.size+1+1+1,0,none⟩ (.bool false)) (b.heap.size+1+1+1) 4 (.bool false):=U0 _ (v:=.bool false) (dQ (dQ (dQ m aa _) aa _) aa _);have z4:Hid (Bw b ((((W.setCell ⟨b.heap.size+1+1,0,none⟩ (.u 0)).setCell ⟨b.heap.size+1+1,1,none⟩ (.u 0)).setCell ⟨b.heap.size+1+1,2,none⟩ (.u 0)).setCell ⟨b.heap.size+1+1+1,0,none⟩ (.bool false))):=(((o.setCell (p:=⟨b.heap.size+1+1,0,none⟩) bb _).setCell (p:=⟨b.heap.size+1+1,1,none⟩) bb _).setCell (p:=⟨b.heap.size+1+1,2,none⟩) bb _).setCell (p:=⟨b.heap.size+1+1+1,0,none⟩) bb _;have Z2:Hid (((((((W.setCell ⟨b.heap.size+1+1,0,none⟩ (.u 0)).setCell ⟨b.heap.size+1+1,1,none⟩ (.u 0)).setCell ⟨b.heap.size+1+1,2,none⟩ (.u 0)).setCell ⟨b.heap.size+1+1+1,0,none⟩ (.bool false))).putObj D (.deferred none)).heap[b.heap.size+1+1]?=some (.cells #[.u 0,.u 0,.u 0] 305 (0,0))):=tj z2 aa;have Z3:Hid (I4 (((((W.setCell ⟨b.heap.size+1+1,0,none⟩ (.u 0)).setCell ⟨b.heap.size+1+1,1,none⟩ (.u 0)).setCell ⟨b.heap.size+1+1,2,none⟩ (.u 0)).setCell ⟨b.heap.size+1+1+1,0,none⟩ (.bool false)).putObj D (.deferred none)) (b.heap.size+1+1+1) 4 (.bool false)):=tj z3 aa;clear z2 z3;gi_wp2_with fail;refine ⟨bh,.inl ⟨_,_,rfl,I5 k1.out,?_⟩⟩;have R:=Z2.out;have y3:=Z3.out.cell;refine ⟨.tuple #[.agg #[.u 0,.u 0,.u 0],.bool false],?_,by rw [FN.out],z4.out.trans (K0 (w:=b) (F3 _) _ D _ _ aa k1.out rfl rfl)⟩;have F:=oC R 0;have G:=oC R 1;have H:=oC R 2;simp at F G H;simp [results,Tryz.f215,go_sem,F,G,H,y3]
 case stop =>rintro D cap pre W hD V ⟨⟨rfl,E,d,e1,e2,e3,f,m⟩,o⟩ S;have FN:Hid (kh j x y=(d.2.1,d.2.2.1,d.2.2.2,true)):=(by show kh j x y=_;unfold kh;rw [GS V e1 e2 e3]);gi_wp2_with fail;refine ⟨bh,.inl ⟨_,_,rfl,I5 S,?_⟩⟩;have R:(W.putObj D (.deferred none)).heap[b.heap.size+1+1]?=_:=tj f aa;have y3:=Boxed.cell (show I4 (W.putObj D (.deferred none)) (b.heap.size+1+1+1) 4 (.bool true) from tj m aa);have F:=oC R 0;have G:=oC R 1;have H:=oC R 2;simp at F G H;refine ⟨.tuple #[.agg #[.u d.2.1,.u d.2.2.1,.u d.2.2.2],.bool true],?_,by rw [FN.out],o.trans (K0 (w:=b) (F3 _) W D _ _ aa S rfl rfl)⟩;simp [results,Tryz.f215,go_sem,F,G,H,y3]
variable {x M:MV} {l:List Int} {D:Nat} (p:MV) (n:DV) (k:List Int) (a:Nat) (s:List Int) (w e m z b:Int)
theorem Ke (hl:∀ j,U (l.getD j 0)) {q:Nat × Int × Int × Int} (h:q ∈ eY l D):∃ z:Nat,z<256/\q.2.2.2=z:=by
 obtain ⟨_,e⟩:=MZ h;unfold l4 at e;split at e;·cases e
 ·have:=Option.some.inj e;rw [<- this];obtain ⟨a,b⟩:=jI (l.getD 16 0) (8*q.1) 8;exact ⟨(aG (l.getD 16 0) (8*q.1) 8).toNat,aa,by show aG _ _ _=_;omega⟩
theorem GZ (hz:a<256) (p k:Int):letB a p k=nW a p k:=by
 obtain ⟨z,e,b,c,d,f⟩:=Rv a hz;unfold letB nW AX;rw [z];cases h:((p==3)&&((a:Int)/128==0)) with
 | true=>rfl
 | false =>
   cases g:(k==1) with
   | true=>simp only [if_true,L5,if_false,L6];rw [b]
   | false =>
     cases i:(k==2) with
     | true=>simp only [if_true,L5,if_false,L6];rw [c]
     | false=>simp only [L5,if_false,L6];rw [d]
theorem Kf (hl:∀ j,U (l.getD j 0)) (a:bp 22 l) (p x y k:Int): permRest l p x y k 4 0=if (kh l x y).2.2.2=true then (Dq (kh l x y).1 (kh l x y).2.1 x y&&nW (kh l x y).2.2.1 p k) else (p==3):=by
 rw [GU hl a p x y k 4 0 aa];have c:(List.range' 0 4).filterMap (l4 l)=eY l 4:=by unfold eY;rw [List.range_eq_range']
 rw [c];unfold kh;cases b:(eY l 4).find? (iD x y) with
 | none=>rfl
 | some q =>
   obtain ⟨z,d,e⟩:=Ke hl (List.mem_of_find?_eq_some b);show (!(decide (x<q.2.1)||decide (q.2.2.1<y))&&letB q.2.2.2 p k)=(Dq q.2.1 q.2.2.1 x y&&nW q.2.2.2 p k);rw [e,GZ z d p k];congr 1;unfold Dq;rw [L7];congr 1;·rw [<- decide_not];congr 1;exact propext ⟨λh=>aa,λh=>aa⟩
   ·rw [<- decide_not];congr 1;exact propext ⟨λh=>aa,λh=>aa⟩
theorem Kg {w:H8} {a:Option Addr} (d:Sl .u64 w a l) (hz:l.length=22):∃ b c,a=some ⟨b,c,none⟩/\b<w.heap.size/\∀ j,j<22->w.cell? ⟨b,c+j,none⟩=some (.u (l.getD j 0)):=by obtain ⟨b,c,rfl,g,_⟩:=d 0 aa;refine ⟨b,c,rfl,g,λj k=>?_⟩;obtain ⟨i,f,e,_,h⟩:=d j aa;cases e;exact h
theorem jP (a:Option Addr) (n cap:Nat) (l:List Int) (p x s k:Int) (w:H8) (hz:l.length=n) (D:Sl .u64 w a l) (hl:∀ j,U (l.getD j 0)) (hx:U x) (P:lY w):CB 186 #[.slice a n cap,.i p,.u x,.i s,.i k] w (.bool (permV n l p x s k)):=by
 have A:=λW (i:Bw w W)=>d9 a n cap l p W hz (D.below i) hl;have B:=fo s;have o:=kL k;rw [qx] at o;have E:Uz.wrap (Uz.wrap (x+Uz.wrap s)-1)=lastOf x s:=rfl;have M:aQ n l p->(∀ W,Bw w W->CB 215 #[.slice a n cap,.u x,.u (lastOf x s)] W (.tuple #[.agg #[.u (kh l x (lastOf x s)).1,.u (kh l x (lastOf x s)).2.1,.u (kh l x (lastOf x s)).2.2.1],.bool (kh l x (lastOf x s)).2.2.2])) /\
  permRest l p x (lastOf x s) k 4 0=if (kh l x (lastOf x s)).2.2.2=true then (Dq (kh l x (lastOf x s)).1 (kh l x (lastOf x s)).2.1 x (lastOf x s)&&nW (kh l x (lastOf x s)).2.2.1 p k) else (p==3):=by
  intro h
  obtain ⟨rfl,X⟩:=fj h
  have u:bp 22 l:=by unfold aQ at h;rw [L4] at h;exact h.1
  obtain ⟨b,f,rfl,i,Q⟩:=Kg D hz
  exact ⟨λW q=>yX b f cap l x (lastOf x s) W (F0 i q.size) (λj R=>(q.cell (p:=⟨b,f+j,none⟩) i).trans (Q j R)) hl (P.below q),Kf hl u p x (lastOf x s) k⟩
 unfold permV;generalize permRest l p x (lastOf x s) k 4 0=Y at *;generalize decide (1<=k/\k<=3)=F at *;generalize jq s=H at *;generalize lastOf x s=y at *;generalize aQ n l p=G at *;generalize kh l x y=m at *;obtain ⟨d,c,r,V⟩:=m;refine cF (S:=Bs w []) (args:=[.slice a n cap,.i p,.u x,.i s,.i k]) [] func186 ?_;cases C:decide (y<x);case' false=>cases G;case' true=>cases H;case' true=>cases F
 case false.true.true.true =>obtain ⟨L,I⟩:=M rfl;refine ak Bs.eng {eq:=[(32,ed .u64 E),(35,aD C)],cv:=[(16,fu A),(20,wU λW _=>B W),(25,wU λW _=>o W),(40,fu L)]} 60 (Bs.start _ _) λW h=>?_;refine eH 1 (dV (T:=305) (z:=.agg #[.u 0,.u 0,.u 0]) ab W) ?_;refine cP (aF (g:=W.heap.size) (t:=305) (ty:=305) (cells:=#[.u d,.u c,.u r]) (heap_alloc_new _ _) ab rfl ab) ?_;refine bO (R1 w W.heap.size #[.u d,.u c,.u r] 305) ?_;have J:=λW=>Dr d c r x y W;have K:=λW=>Ds d c r p k W;generalize Dq d c x y=O at *;generalize nW r p k=Z at *;subst I;cases V<;>cases O<;>exact bg (t:=10) R1.eng {cv:=[(50,jF R1.below λW _=>J W),(55,jF R1.below λW _=>K W)]} 60 (R1.new h.2) (λN h=>⟨rfl,h.2⟩)
 all_goals (try cases G)<;>(try cases H)<;>(try cases F)<;>exact bg (t:=10) Bs.eng {eq:=[(32,ed .u64 E),(35,aD C)],cv:=[(16,fu A),(20,wU λW _=>B W),(25,wU λW _=>o W)]} 60 (Bs.start _ _) (λN h=>⟨rfl,h.2⟩)
theorem Kh (h:U w):H5 .or .u64 (H5 .andNot .u64 w e) (H5 .and .u64 w e)=w:=by refine aS _ _ (af _ _ _) h λi a=>?_;rw [bC,aw _ _ _ a,aq];cases bt w i<;>cases bt e i<;>rfl
theorem Ki (hk:a<k.length) (hx:k.getD a 0=w):k.set a w=k:=by
 have:k[a]=w:=by rw [<- hx];simp [List.getD,List.getElem?_eq_getElem hk]
 rw [<- this];exact List.set_getElem_self hk
theorem rt (a:M.cs.length=22) (b:U (M.cs.getD 9 0)) (hb:ly M):dU M=M:=by
 have e:H5 .and .u64 (M.cs.getD 9 0) 2184=dK M.d:=by unfold ly at hb;simpa using hb
 have s:M.cs.set 9 (H5 .or .u64 (H5 .andNot .u64 (M.cs.getD 9 0) 2184) (dK M.d))=M.cs:=by rw [<- e];exact Ki _ 9 _ aa (Kh _ _ b).symm
 unfold dU;rw [s]
theorem ES (h:U w):H5 .andNot .u64 w 7=w/8*8:=by
 refine aS _ _ (af _ _ _) ⟨by have:=h.1;omega,by have:=h.2;omega⟩ λi c=>?_;have d:=my (w/8) ⟨by have:=h.1;omega,by have:=h.2;omega⟩ 3 i;have f:Uz.wrap (w/8*2^3)=w/8*8:=by have l:=h.1;have m:=h.2;rw [IntKind.wrap_u64];omega
 rw [f] at d;rw [d,aw _ _ _ c];have k:∀ i,i<64->bt 7 i=decide (i<3):=bv
 rw [k i c];by_cases a:i<3
 ·have:¬ 3<=i:=by omega
  simp [a,this]
 ·have g:3<=i:=aa;have j:bt (w/8) (i-3)=bt w i:=(by have b:=it w h 3 (i-3);rw [show i-3+3=i by omega] at b;have e:(2:Int)^3=8:=ba;rw [e] at b;exact b);simp [a,g,j,c]
theorem Nh (a:U w) (hd:U p.hd):(p.hl&&(Uz.wrap (w.tdiv 8)==Uz.wrap (p.hd.tdiv 8)))=yA p w:=by
 have e:∀ x:Int,U x->Uz.wrap (x.tdiv 8)=x/8:=λx h=>by have b:=h.1;have c:=h.2;rw [Int.tdiv_eq_ediv_of_nonneg b,IntKind.wrap_u64];omega
 unfold yA;rw [e w a,e p.hd hd,ES w a,ES p.hd hd];congr 1;by_cases h:w/8=p.hd/8;·rw [h];simp
 ·rw [beq_eq_false_iff_ne.2 h,beq_eq_false_iff_ne.2 aa]
theorem ET (h:lm n.xs.length n.ys.length n.ir) (hk:(ml n a).2.2):lm (ml n a).2.1.xs.length (ml n a).2.1.ys.length (ml n a).2.1.ir:=by
 have k:=xU h;match a,hk with
 | 0,_=>exact h
 | 1,_=>exact h
 | 2,_=>exact h
 | 3,_ =>show lm (n.xs.drop 1).length n.ys.length n.ir;unfold lm at h ⊢;simp only [L4,JZ6,List.length_drop] at h ⊢;omega
 | 4,_=>exact h
 | 5,_=>exact h
theorem Kj:0<=U2 (H5 .and .u64 w 1)/\U2 (H5 .and .u64 w 1)<=1:=by
 have c:∀ i,i<64->bt 1 i=decide (i=0):=bv
 have d:∀ i,i<64->bt 0 i=false:=bv
 have h:H5 .and .u64 w 1=if bt w 0=true then 1 else 0:=by
  refine aS _ _ (af _ _ _) (by split<;>exact ⟨aa,aa⟩) λi b=>?_;rw [aq,c i b];by_cases a:i=0
  ·subst a;cases bt w 0;·rw [JZ9 ba,d 0 aa];rfl
   ·rw [JZ8 rfl,c 0 aa];rfl
  ·rw [decide_eq_false a,Bool.and_false];split;·rw [c i b,decide_eq_false a]
   ·rw [d i b]
 rw [h];split<;>decide +kernel
theorem EU (h:lm n.xs.length n.ys.length n.ir):(fy n w (ic e m)).2->lm (fy n w (ic e m)).1.xs.length (fy n w (ic e m)).1.ys.length (fy n w (ic e m)).1.ir:=by
 have c:=Kj w;have a:=stV_4 n w;obtain ⟨q,d⟩:∃ q,q=U2 (H5 .and .u64 w 1):=⟨_,rfl⟩;rw [<- d] at a c;clear d;refine lQ e m (λk=>(fy n w k).2->lm (fy n w k).1.xs.length (fy n w k).1.ys.length (fy n w k).1.ir) ?_ ?_ ?_ ?_ ?_ ?_ ?_;·intro _ _;rw [stV_0];exact λ_=>h
 ·intro _ _;rw [stV_1];exact λ_=>h
 ·intro _ _;rw [stV_2];exact λ_=>h
 ·intro _ _;by_cases b:n.ys.length<4096;·rw [stV_3r n w b];intro _;unfold lm at h ⊢;simp only [L4,JZ6,List.length_append,List.length_singleton] at h ⊢;omega
  ·rw [stV_3f n w b];exact λ_=>h
 ·intro _ _;rw [a];intro _;unfold lm at h ⊢;simp only [L4,JZ6] at h ⊢;exact ⟨h.1,c⟩
 ·intro _ _;rw [stV_5];exact λ_=>h
 ·intro _ _ _ _ _ _;rw [stV_6];intro addr;cases addr
theorem Qh (h:(ml n a).2.2=false):(ml n a).1=0:=by
 match a,h with
 | 0,h=>cases h
 | 1,h=>cases h
 | 2,h=>cases h
 | 3,h=>cases h
 | 4,h=>cases h
 | 5,h=>cases h
 | a+6,_=>rfl
theorem Du (h:bA D):0<D:=by
 rcases H3 D with a|a;·subst a;revert h;decide
 ·exact a
def A7 (M:MV) (pa size kind x:Int):Int × Bool × MV :=
 if iP M.ram.length pa size=true then
  (if (kind==3)=true then (0,true,nf (dc M (iM M.ram (pa-2147483648).toNat x size.toNat)) pa) else (le M.ram (pa-2147483648).toNat size.toNat,true,M))
 else if (kind==2)=true then
  (if (ml M.d (ic pa size)).2.2=true then ((ml M.d (ic pa size)).1,true,dU (dg M (ml M.d (ic pa size)).2.1)) else (0,false,M))
 else if (kind==3)=true then
  (if (fy M.d x (ic pa size)).2=true then (0,true,nf (dU (dg M (fy M.d x (ic pa size)).1)) pa) else (0,false,M))
 else (0,false,M)
theorem Qi:rS p w e m z=if (A7 p w e m z).2.1=true then ((A7 p w e m z).1,(A7 p w e m z).2.2,0) else (0,(A7 p w e m z).2.2,iX m):=by
 unfold rS A7;split;·split<;>rfl
 ·split;·split<;>rfl
  ·split;·split<;>rfl
   ·rfl
theorem Kk (a:aQ 22 k w) (b:jq m) (c:decide (1<=z/\z<=3)):permV 22 k w e m z=!Gk k w e m z:=by unfold permV Gk;rw [a,b,c,L7,Bool.not_not];rfl
structure Gd (M:MV):Prop where
 ok:eW M
 mw:MW M
 ux:∀ j,U (M.x.getD j 0)
 pc:U M.pc
 hd:U M.hd
theorem cI (h:eW x):(H5 .and .u64 x.pc 3==0)/\jz x.x.length x.x/\aQ x.cs.length x.cs x.pr/\bA x.ram.length/\lm x.d.xs.length x.d.ys.length x.d.ir/\(x.hl||(x.hd==0))/\ly x:=by unfold eW at h;simp only [L4] at h;obtain ⟨⟨⟨⟨⟨⟨a,b⟩,c⟩,d⟩,e⟩,f⟩,g⟩:=h;exact ⟨a,b,c,d,e,f,g⟩
theorem kj (a:(H5 .and .u64 M.pc 3==0)) (b:jz M.x.length M.x) (c:aQ M.cs.length M.cs M.pr) (d:bA M.ram.length) (e:lm M.d.xs.length M.d.ys.length M.d.ir) (f:(M.hl||(M.hd==0))) (g:ly M):eW M:=by unfold eW;rw [a,b,c,d,e,f,g];rfl
theorem Gd.len (h:Gd x):iW x:=by obtain ⟨_,a,c,d,e,_,_⟩:=cI h.ok;unfold jz at a;rw [L4,JZ6] at a;have b:=nN c;have g:=gg d;have f:=xU e;exact ⟨aa,aa,aa,aa,aa⟩
theorem Gd.mem (h:Gd x) {R:List Int} (hl:R.length=x.ram.length) (i:∀ y ∈ R,(Lit.int .u8 y).wf):Gd (dc x R):=by obtain ⟨a,b,c,d,e,f,g⟩:=cI h.ok;exact ⟨kj (M:=dc x R) a b c (by show bA R.length;rw [hl];exact d) e f g,⟨h.mw.cs,i,h.mw.xs,h.mw.ys⟩,h.ux,h.pc,h.hd⟩
theorem Gd.free (h:Gd x):Gd (ut x):=by obtain ⟨a,b,c,d,e,g,f⟩:=cI h.ok;exact ⟨kj (M:=ut x) a b c d e rfl f,⟨h.mw.cs,h.mw.ram,h.mw.xs,h.mw.ys⟩,h.ux,h.pc,(show U 0 from ⟨ba,ba⟩)⟩
theorem Gd.let_ (h:Gd x) (pa:Int):Gd (nf x pa):=by
 unfold nf;split;·exact h.free
 ·exact h
theorem G1 (p:Int->Prop) (h:∀ a b c:Bool,p (Uz.wrap (Uz.wrap (Uz.wrap (8*jW a)+Uz.wrap (128*jW b))+Uz.wrap (2048*jW c)))):p (dK n):=h _ _ _
theorem Kl:H5 .and .u64 (dK n) 2184=dK n:=by refine G1 n (λx=>H5 .and .u64 x 2184=x) ?_;decide +kernel
theorem Ni:U (dK n):=bq _
theorem A8 {i:Nat} (a:i<64):bt (dK n) i=(bt (dK n) i&&bt 2184 i):=by have:=aq (dK n) 2184 i;rw [Kl] at this;exact this
theorem Gd.dev (h:Gd x) {D:DV} (t:lm D.xs.length D.ys.length D.ir) (hb:cT D):Gd (dU (dg x D)):=by
 obtain ⟨o,p,w,q,M,r,y⟩:=cI h.ok;obtain ⟨d,f,l,_,_,_⟩:=dE h.ok;have s:=dx f 9 aa;have n:H5 .and .u64 (x.cs.getD 9 0) 2730=x.cs.getD 9 0:=beq_iff_eq.1 s;have u:fS 9 (H5 .or .u64 (H5 .andNot .u64 (x.cs.getD 9 0) 2184) (dK D)):=by show (H5 .and .u64 (H5 .or .u64 (H5 .andNot .u64 (x.cs.getD 9 0) 2184) (dK D)) 2730==H5 .or .u64 (H5 .andNot .u64 (x.cs.getD 9 0) 2184) (dK D));refine beq_iff_eq.2 (aS _ _ (af _ _ _) (af _ _ _) λi c=>?_);have v:bt (x.cs.getD 9 0) i=(bt (x.cs.getD 9 0) i&&bt 2730 i):=(by have:=aq (x.cs.getD 9 0) 2730 i;rw [n] at this;exact this);have m:=A8 D c;rw [aq,bC,aw _ _ _ c];have k:∀ j,j<64->∀ a b:Bool,(a=(a&&bt 2730 j))->(b=(b&&bt 2184 j))->(((a&&!bt 2184 j)||b)&&bt 2730 j)=((a&&!bt 2184 j)||b):=bv;exact k i c _ _ v m
 have g:bp 22 (x.cs.set 9 (H5 .or .u64 (H5 .andNot .u64 (x.cs.getD 9 0) 2184) (dK D))):=bM x.cs d f 9 aa _ u;refine ⟨kj (M:=dU (dg x D)) o p ?_ q t r ?_,⟨?_,h.mw.ram,hb.1,hb.2⟩,h.ux,h.pc,h.hd⟩;·show aQ (x.cs.set 9 _).length (x.cs.set 9 _) x.pr;unfold aQ;rw [List.length_set,d,l,Bool.and_true];exact g
 ·show (H5 .and .u64 ((x.cs.set 9 (H5 .or .u64 (H5 .andNot .u64 (x.cs.getD 9 0) 2184) (dK D))).getD 9 0) 2184==dK D);have e:(x.cs.set 9 (H5 .or .u64 (H5 .andNot .u64 (x.cs.getD 9 0) 2184) (dK D))).getD 9 0=H5 .or .u64 (H5 .andNot .u64 (x.cs.getD 9 0) 2184) (dK D):=(by rw [R5,List.getElem?_set_self aa];rfl);rw [e];refine beq_iff_eq.2 (aS _ _ (af _ _ _) (Ni D) λi c=>?_);have m:=A8 D c;rw [aq,bC,aw _ _ _ c];have k:∀ j,j<64->∀ a b:Bool,(b=(b&&bt 2184 j))->(((a&&!bt 2184 j)||b)&&bt 2184 j)=b:=bv;exact k i c _ _ m
 ·intro j;show U ((x.cs.set 9 (H5 .or .u64 (H5 .andNot .u64 (x.cs.getD 9 0) 2184) (dK D))).getD j 0);rw [R5,List.getElem?_set];split
  ·split;·exact af .or (H5 .andNot .u64 (x.cs.getD 9 0) 2184) (dK D)
   ·exact ⟨ba,ba⟩
  ·have:=h.mw.cs j;rw [R5] at this;exact this
theorem Km (h:cT n) (k:Nat):cT (ml n k).2.1:=by
 have b:cT zeroD:=⟨λy a=>(nomatch a),λy a=>(nomatch a)⟩;unfold ml;split;·exact h
 ·exact h
 ·exact h
 ·exact ⟨λy a=>h.1 y (List.mem_of_mem_drop a),h.2⟩
 ·exact h
 ·exact h
 ·exact b
theorem Kn (h:cT n) (x addr size:Int):cT (fy n x (ic addr size)).1:=by
 have D:cT zeroD:=⟨λy a=>(nomatch a),λy a=>(nomatch a)⟩;have c:=stV_0 n x;have g:=stV_1 n x;have i:=stV_2 n x;have b:(fy n x 3).1.xs=n.xs/\((fy n x 3).1.ys=n.ys\/(fy n x 3).1.ys=n.ys++[IntKind.u8.wrap x]):=by
  by_cases d:n.ys.length<4096;·rw [stV_3r _ _ d];exact ⟨rfl,A0 rfl⟩
  ·rw [stV_3f _ _ d];exact ⟨rfl,A5 rfl⟩
 obtain ⟨q,j⟩:∃ q,fy n x 4=(⟨n.t,n.cm,n.so,n.xs,n.ys,q⟩,true):=⟨_,stV_4 n x⟩;have l:=stV_5 n x;have m:=stV_6 n x;generalize (H5 .and .u64 x 1==1)=r at c;have f:(Lit.int .u8 (IntKind.u8.wrap x)).wf:=uL (y:=IntKind.u8.wrap x) (by rw [IntKind.wrap_u8];omega);generalize IntKind.u8.wrap x=z at b f;refine lQ addr size (λk=>cT (fy n x k).1) (λ_ _=>?_) (λ_ _=>?_) (λ_ _=>?_) (λ_ _=>?_) (λ_ _=>?_) (λ_ _=>?_) (λ_ _ _ _ _ _=>?_);·show cT (fy n x 0).1;rw [c];exact ⟨h.1,h.2⟩
 ·show cT (fy n x 1).1;rw [g];exact ⟨h.1,h.2⟩
 ·show cT (fy n x 2).1;rw [i];exact ⟨h.1,h.2⟩
 ·show cT (fy n x 3).1;refine ⟨by rw [b.1];exact h.1,λy a=>?_⟩;rcases b.2 with e | e<;>rw [e] at a;·exact h.2 y a
  ·rcases T4.1 a with a|a;·exact h.2 y a
   ·rw [List.mem_singleton.1 a];exact f
 ·have e:(fy n x 4).1=⟨n.t,n.cm,n.so,n.xs,n.ys,q⟩:=congrArg Prod.fst j;exact e ▸ (⟨h.1,h.2⟩:cT ⟨n.t,n.cm,n.so,n.xs,n.ys,q⟩)
 ·show cT (fy n x 5).1;rw [l];exact h
 ·show cT (fy n x 6).1;rw [m];exact D
theorem Gd.at_ (h:Gd x) (pa size kind M:Int):Gd (rS x pa size kind M).2.1:=by
 obtain ⟨_,_,_,_,c,_,_⟩:=cI h.ok;have a:cT x.d:=⟨h.mw.xs,h.mw.ys⟩;unfold rS;split
 ·split;·exact (h.mem (gQ _ _ _ _) (JG _ h.mw.ram _ _ _)).let_ pa
  ·exact h
 ·split
  ·split;·rename_i b;exact h.dev (ET _ _ c b) (Km _ a _)
   ·exact h
  ·split
   ·split;·rename_i b;exact (h.dev (EU _ _ _ _ c b) (Kn _ a _ _ _)).let_ pa
    ·exact h
   ·exact h
theorem Gd.marked (h:Gd x) (F:Fd):Gd (dc x (bG x.ram F)):=h.mem (nL _ _) (EH _ h.mw.ram F)
theorem Gd.acc (h:Gd x) (addr size kind M:Int):Gd (aT x addr size kind M).2.1:=by
 unfold aT;split;·exact h
 ·unfold yB;split;·exact h.marked _
  ·split;·exact h.marked _
   ·exact (h.marked _).at_ _ _ _ _
theorem A9:(nf p w).pc=p.pc/\(nf p w).x=p.x/\(nf p w).pr=p.pr/\(nf p w).wt=p.wt:=by unfold nf;split<;>exact ⟨rfl,rfl,rfl,rfl⟩
theorem Nj:(rS p w e m z).2.1.pc=p.pc/\(rS p w e m z).2.1.x=p.x/\(rS p w e m z).2.1.pr=p.pr/\(rS p w e m z).2.1.wt=p.wt:=by
 unfold rS;split
 ·split;·exact A9 (dc p _) w
  ·exact ⟨rfl,rfl,rfl,rfl⟩
 ·split;·split<;>exact ⟨rfl,rfl,rfl,rfl⟩
  ·split
   ·split;·exact A9 (dU (dg p _)) w
    ·exact ⟨rfl,rfl,rfl,rfl⟩
   ·exact ⟨rfl,rfl,rfl,rfl⟩
theorem gO:(aT p w e m z).2.1.pc=p.pc/\(aT p w e m z).2.1.x=p.x/\(aT p w e m z).2.1.pr=p.pr/\(aT p w e m z).2.1.wt=p.wt:=by
 unfold aT;split;·exact ⟨rfl,rfl,rfl,rfl⟩
 ·unfold yB;split;·exact ⟨rfl,rfl,rfl,rfl⟩
  ·split;·exact ⟨rfl,rfl,rfl,rfl⟩
   ·exact Nj (dc p _) _ _ _ _
theorem uV (lv:Nat):(leafV k w e m z b lv).code=0\/(leafV k w e m z b lv).code=pageC m\/(leafV k w e m z b lv).code=faultC m:=by
 unfold leafV;split;·exact A0 (A5 rfl)
 ·split;·exact A0 (A5 rfl)
  ·split;·exact A0 (A5 rfl)
   ·split
    ·split;·exact A5 rfl
     ·exact A0 (A0 rfl)
    ·exact A5 rfl
theorem Dx (l:List Int) (p va kind:Int):∀ n T,(walkL k a l p va kind n T).code=0\/(walkL k a l p va kind n T).code=pageC kind\/(walkL k a l p va kind n T).code=faultC kind:=by
 intro n;induction n with
 | zero =>
   intro T;rw [walkL_step];split
   ·split
    ·split;·exact A0 (A5 rfl)
     ·split;·rw [JZ8 (show stopB _ 0=true from by unfold stopB;simp)];exact A0 (A5 rfl)
      ·exact uV _ _ _ _ _ _ _
    ·exact A0 (A0 rfl)
   ·exact A0 (A0 rfl)
 | succ n b =>
   intro T;rw [walkL_step];split
   ·split
    ·split;·exact A0 (A5 rfl)
     ·split
      ·split;·exact A0 (A5 rfl)
       ·exact b _
      ·exact uV _ _ _ _ _ _ _
    ·exact A0 (A0 rfl)
   ·exact A0 (A0 rfl)
theorem xn:(walkV k a s w e m).code=0\/(walkV k a s w e m).code=pageC m\/(walkV k a s w e m).code=faultC m:=by
 unfold walkV;split;·exact A5 rfl
 ·split;·exact A0 (A5 rfl)
  ·exact Dx _ _ _ _ _ _ _ _
theorem Ko:pageC w=12\/pageC w=13\/pageC w=15:=by
 unfold pageC;repeat' split
 all_goals simp
theorem G4:faultC w=1\/faultC w=5\/faultC w=7:=by
 unfold faultC;repeat' split
 all_goals simp
theorem nX:∃ c:Nat,c<16/\(walkV k a s w e m).code=c:=by
 have n:=Ko m;have b:=G4 m;rcases xn k a s w e m with h|h|h;·exact ⟨0,aa,h⟩
 ·rcases n with va|va|va;·exact ⟨12,aa,by rw [h,va];rfl⟩
  ·exact ⟨13,aa,by rw [h,va];rfl⟩
  ·exact ⟨15,aa,by rw [h,va];rfl⟩
 ·rcases b with va|va|va;·exact ⟨1,aa,by rw [h,va];rfl⟩
  ·exact ⟨5,aa,by rw [h,va];rfl⟩
  ·exact ⟨7,aa,by rw [h,va];rfl⟩
theorem tl:∃ c:Nat,c<16/\iX w=c+16:=by
 unfold iX;split;·exact ⟨1,aa,rfl⟩
 ·split;·exact ⟨5,aa,rfl⟩
  ·exact ⟨7,aa,rfl⟩
theorem Nk:∃ c:Nat,c<16/\qV w=c+16:=by
 unfold qV;split;·exact ⟨0,aa,rfl⟩
 ·split;·exact ⟨4,aa,rfl⟩
  ·exact ⟨6,aa,rfl⟩
theorem Nl:(rS p w e m z).2.2=0\/∃ c:Nat,c<16/\(rS p w e m z).2.2=c+16:=by
 unfold rS;split;·split<;>exact A5 rfl
 ·split
  ·split;·exact A5 rfl
   ·exact A0 (tl m)
  ·split
   ·split;·exact A5 rfl
    ·exact A0 (tl m)
   ·exact A0 (tl m)
theorem Kp:(aT p w e m z).2.2=0\/∃ c:Nat,c<16/\(aT p w e m z).2.2=c+16:=by
 unfold aT;split;·exact A0 (Nk m)
 ·unfold yB;split;·obtain ⟨c,a,size⟩:=nX p.ram p.ram.length p.cs (il p.cs p.pr m) w m;refine A0 ⟨c,a,?_⟩;show U2 ((walkV p.ram p.ram.length p.cs (il p.cs p.pr m) w m).code+16)=_;rw [size];unfold U2;omega
  ·split;·exact A0 (tl m)
   ·exact Nl _ _ _ _ _
