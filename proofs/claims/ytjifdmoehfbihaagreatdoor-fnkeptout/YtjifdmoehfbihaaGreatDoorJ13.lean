/- Own lemmas. -/
import Derived.Test.YtjifdmoehfbihaaGreatDoorAuj
import Derived.Test.YtjifdmoehfbihaaGreatDoorJ12
import Derived.RangeFuncNested
import Derived.RangeFuncBound
import Derived.Shelf.RegionOpen
import Derived.OwnWalkIn
import Derived.LoopNIn
import Derived.LoopIn
set_option maxRecDepth 100000
set_option maxHeartbeats 4000000
namespace Go.Proofs.YtjifdmoehfbihaaGreatDoor
open Go.RowKit Tryz
open IntKind renaming u64->Uz
set_option linter.unusedVariables false
variable (a k w b x:Int) (l:World) (r y c:Nat) (d:List Int) (p:Nat)
theorem gZ {B:Nat} {w w':World} (h:Below B w w') (q:Nat):Below B w (w'.drewN q):=⟨h.os,h.tape,h.output,h.size,h.block⟩
def Hy (k:Int):Bool:=(k==1)||(k==2)||(k==3)
theorem rr (k:Int):Hy k=decide (1<=k/\k<=3):=by
 unfold Hy;by_cases a:k=1;·subst a;rfl
 ·by_cases b:k=2;·subst b;rfl
  ·by_cases c:k=3;·subst c;rfl
   ·have:¬ (1<=k/\k<=3):=by omega
    rw [decide_eq_false this];simp [a,b,c]
theorem lT (k:Int) (w:World):CE 90 #[.i k] w (.bool (Hy k)):=by refine bD (S:=λx=>x=w) (args:=[.i k]) [] func90 ?_;unfold Hy;cases a:(k==1)<;>cases b:(k==2)<;>cases c:(k==3)<;>exact jk (R:=[]) trivial {eq:=[(4,ak a),(7,ak b),(11,ak c)]} 40 (t:=2) ⟨rfl,rfl⟩
def CO (k:Int):Int:=if (k==1)=true then 4 else if (k==2)=true then 1 else 2
theorem CP (k:Int) (w:World):CE 250 #[.i k] w (.u (CO k)):=by refine bD (S:=λx=>x=w) (args:=[.i k]) [] func250 ?_;unfold CO;cases a:(k==1)<;>cases b:(k==2)<;>exact jk (R:=[]) trivial {eq:=[(5,ak a),(7,ak b)]} 40 (t:=2) ⟨rfl,rfl⟩
def FD (b a x y:Int):Bool:=decide (b<=x)&&decide (y<=a)
theorem FF:CB 231 #[.agg #[.u a,.u k,.u w],.u b,.u x] l (.bool (FD a k b x)):=by refine bD (S:=Bs l [(#[.u a,.u k,.u w],90)]) (args:=[.agg #[.u a,.u k,.u w],.u b,.u x]) [(#[.u a,.u k,.u w],90)] func231 ?_;unfold FD;cases d:decide (a<=b)<;>cases f:decide (x<=k)<;>exact bm (t:=6) Bs.eng {eq:=[(10,ak d),(15,ak f)]} 60 (Bs.start _ _) (λc h=>⟨rfl,h.2⟩)
def oU (r p k:Int):Bool:=((p==3)&&(bits .and .u64 r 128==0))||(bits .and .u64 r (CO k) != 0)
theorem FG:CB 232 #[.agg #[.u a,.u k,.u w],.i b,.i x] l (.bool (oU w b x)):=by refine bD (S:=Bs l [(#[.u a,.u k,.u w],90)]) (args:=[.agg #[.u a,.u k,.u w],.i b,.i x]) [(#[.u a,.u k,.u w],90)] func232 ?_;have d:=CP x;unfold oU;generalize CO x=m at *;cases f:(b==3)<;>cases g:(bits .and .u64 w 128==0)<;>cases i:(bits .and .u64 w m != 0)<;>exact bm (t:=6) Bs.eng {eq:=[(8,ak f),(13,ak g),(20,ak i)],cv:=[(18,mL λW _=>d W)]} 60 (Bs.start _ _) (λc h=>⟨rfl,h.2⟩)
theorem At (q:p<4) (w:World) (l:w.cell? ⟨r,y+(16+p),none⟩=some (.u (d.getD (16+p) 0))): CB 174 #[.slice (some ⟨r,y,none⟩) 22 c,.i p] w (.u (tO d p)):=by
 have F:Hid (tO d p=if (p==0)=true then 0 else Uz.wrap (4*d.getD (16+p) 0)):=(rfl:tO d p=_);rcases Nat.eq_zero_or_pos p with h|h;·subst h;go_enter func174,ntmps174;exact a08
 ·have i:((p:Int)==0)=false:=bv;have m:wrap64 (17+(p:Int))=((17+p:Nat):Int):=l0;have j:wrap64 (((17+p:Nat):Int)-1)=((16+p:Nat):Int):=l0;have g:0<=((16+p:Nat):Int)/\((16+p:Nat):Int)<((22:Nat):Int):=ab;have f:Hid (tO d p=Uz.wrap (4*d.getD (16+p) 0)):=(by have:=F.out;rw [if_neg bv] at this;exact this);clear F;generalize d.getD (16+p) 0=a at *;go_enter func174,ntmps174;go_wp2_with fail;go_ret;exact ⟨by rw [f.out];rfl,Below.refl _ _⟩
theorem TD:bt (bits .xor .u64 a k) r=(bt a r ^^ bt k r):=by show (BitVec.ofInt 64 (Uz.wrap ((BitVec.ofInt 64 a ^^^ BitVec.ofInt 64 k).toNat:Int))).getLsbD r=_;rw [qD];simp [bt]
theorem Qp (h:r<18446744073709551616):bits .xor .u64 IntKind.u64.max (r:Int)=((18446744073709551615-r:Nat):Int):=by
 have e:IntKind.u64.max=18446744073709551615:=rfl;rw [e];refine bA _ _ (ah _ _ _) ⟨ab,ab⟩ λi b=>?_;rw [TD,Am i b,oB _ ⟨ab,ab⟩,oB _ ⟨ab,ab⟩];have e2:(18446744073709551615-r:Nat)=2^64-(r+1):=ab
 simp only [Int.toNat_natCast];rw [e2,Nat.testBit_two_pow_sub_succ h,decide_eq_true b];simp
theorem wQ (q:bits .xor .u64 IntKind.u64.max a=(r:Int)) (hk:min y 53=c) (o:c<=53) (w:World) (l:Hid (CE 223 #[.u r] w (.i y))): CB 175 #[.u a] w (.tuple #[.u (rl a c),.u (tP a c)]):=by
 have j:Hid (min y 53=c):=hk;have p:IntKind.u64.signed=false:=rfl;clear hk;go_enter func175,ntmps175;go_wp2_with fail;refine l.out.mono ?_;rintro e x ⟨rfl,d⟩;have f:=d.symm;subst f;go_wp2_with fail;case inl =>
  rename_i b;have k:Hid (c=53):=(by have:=j.out;show c=53;omega);go_quiet (fail)
  go_wp2_with fail;go_ret2;exact ⟨by rw [k.out];rfl,gZ (Below.refl _ _) _⟩
 case inr =>
  rename_i b;have m:Hid (c=y):=(by have:=j.out;show c=y;omega);go_quiet (fail)
  go_wp2_with fail;go_ret2;exact ⟨by rw [m.out];rfl,gZ (Below.refl _ _) _⟩
theorem xV (h:U a) (w:World) (c:pS w): CB 175 #[.u a] w (.tuple #[.u (rl a (rk a)),.u (tP a (rk a))]):=by
 obtain ⟨n,rfl⟩:∃ n:Nat,a=n:=⟨a.toNat,by have:=h.1;omega⟩;have d:n<18446744073709551616:=by have:=h.2;omega
 have b:(18446744073709551615-(n:Int)).toNat=18446744073709551615-n:=ab
 refine wQ (n:Int) (18446744073709551615-n) (Lib.ctz 64 (18446744073709551615-n)) _ (Qp n d) ?_ ?_ w (Te _ ab w c);·unfold rk;rw [b]
 ·unfold rk;exact Nat.min_le_right _ _
theorem Ni (c cap:Nat) (l:List Int) (i:Nat) (D:i<4) (w:World) (C:pS w) (hl:∀ j,U (l.getD j 0)) (d:w.cell? ⟨r,c+16,none⟩=some (.u (l.getD 16 0))) (p:w.cell? ⟨r,c+(17+i),none⟩=some (.u (l.getD (17+i) 0))) (n:w.cell? ⟨r,c+(16+i),none⟩=some (.u (l.getD (16+i) 0))): CB 107 #[.slice (some ⟨r,c,none⟩) 22 cap,.i i] w (.tuple #[.u (fh l i).1,.u (fh l i).2]):=by
 have u:r<w.heap.size:=World.block_lt_of_cell? w _ d;have HR:=λW (_:Bw w W)=>(qR (l.getD 16 0) i ab (hl 16).1 (hl 16).2 W).mono λe g (h:_/\g=W.drew)=>(⟨h.1,by rw [h.2];exact (Below.refl _ _).drew⟩:_/\Bw W g);have z:=λW (k:Bw w W)=>At r c cap l i D W ((k.cell (by exact u)).trans n);have A:=λW (k:Bw w W)=>xV (l.getD (17+i) 0) (hl (17+i)) W (C.below k);have b:IntKind.i64.wrap (17+(i:Int))=((17+i:Nat):Int):=by rw [IntKind.wrap_i64];omega
 have m:0<=((17+i:Nat):Int)/\((17+i:Nat):Int)<((22:Nat):Int):=ab
 obtain ⟨V,f⟩:∃ V,V=fh l i:=⟨_,rfl⟩;rw [<- f];unfold fh at f;generalize tO l i=F at *;generalize rk (l.getD (17+i) 0)=on at *;generalize rl (l.getD (17+i) 0) on=pl at *;generalize tP (l.getD (17+i) 0) on=G at *;generalize iP (l.getD 16 0) i=q at *;generalize l.getD (17+i) 0=a at *;generalize l.getD 16 0=B at *;refine bD (S:=Bs w []) (args:=[.slice (some ⟨r,c,none⟩) 22 cap,.i i]) [] func107 ?_;cases v:(q==1)<;>cases x:(q==2)<;>cases y:(q==3)<;>rw [v,x,y] at f<;>subst f <;>
  exact eY (t:=4) (s:=5) Bs.eng {eq:=[(9,dP .i64 b),(18,ak v),(25,ak x),(32,ak y)],ov:=[(10,kJ (a:=some ⟨r,c,none⟩) (b:=r) (o:=c) 22 cap .i64 ((17+i:Nat):Int) rfl m underlying23 ba),(11,je ⟨r,c+((17+i:Nat):Int).toNat,none⟩ (.u a) underlying22 rfl λW h=>(h.2.cell (by exact u)).trans p),(14,je ⟨r,c+16,none⟩ (.u B) underlying22 rfl λW h=>(h.2.cell (by exact u)).trans d)],cv:=[(16,fY HR),(21,fY z),(34,fY A)]} 60 (Bs.start _ _) λE h=>⟨rfl,h.2⟩
end Go.Proofs.YtjifdmoehfbihaaGreatDoor
namespace Go.Proofs.YtjifdmoehfbihaaGreatDoor
open Go.RowKit Tryz Go.Shelf
open IntKind renaming u64->Uz
set_option linter.unusedVariables false
attribute [local go_sem] Oper.semAt_some
variable {g n:World} {W b:Nat} {l:TypeId} {w:Obj} {a:Array Value} {o:Nat × Nat} (t:Nat) (B:Option Addr) (c f d j m x:Nat) (y:List Int) (A D:Int) (e:World)
theorem sH (hb:Bw g n) (row:Option Nat):g.grownBy n row:=⟨hb.os,hb.tape,hb.output,hb.size,λk a _=>hb.block k a⟩
def J7 (x:Nat × Int × Int × Int):Array Value:=#[.i (x.1:Int),.agg #[.u x.2.1,.u x.2.2.1,.u x.2.2.2]]
theorem CQ (hl:∀ Bs,U (y.getD Bs 0)) (J Y:List (Nat × Int × Int × Int)->World->Prop) (hb:j<d) (L:f<d) (hg:0<d) (W:World) (hn:d<=W.heap.size) (hT:pS W) (hc:W.cell? ⟨f,0,none⟩=some (.slice (some ⟨j,m,none⟩) 22 x)) (hs:∀ Bs,Bs<22->W.cell? ⟨j,m+Bs,none⟩=some (.u (y.getD Bs 0))) (hJ:AbidesFrom W.heap.size J) (hY:∀ pre cap D,J pre D->pre.length<4->YieldAt Fence.wide (t-1) prog c (J7 cap) D λe s=>(e=.returned (.bool true)/\J (pre++[cap]) s/\Below d D s)\/(e=.returned (.bool false)/\Y (pre++[cap]) s)) (h0:J [] W): CallsIn Fence.wide t prog 106 #[.func (.yield c) #[] #[],.p f 0] W λe s=>(∃ v,e=.returned v)/\((∃ ys,ys=fZ y 4/\J ys s)\/(∃ pre,pre <+: fZ y 4/\Y pre s)):=by
 have HC:Hid (W.cell? ⟨f,0,none⟩=some (.slice (some ⟨j,m,none⟩) 22 x)):=hc;have X:Hid (∀ Bs,Bs<22->W.cell? ⟨j,m+Bs,none⟩=some (.u (y.getD Bs 0))):=hs;have HT:Hid (pS W):=hT;have HY:Hid (∀ pre cap D,J pre D->pre.length<4->YieldAt Fence.wide (t-1) prog c (J7 cap) D λe s=>(e=.returned (.bool true)/\J (pre++[cap]) s/\Below d D s)\/(e=.returned (.bool false)/\Y (pre++[cap]) s)):=hY;have HJ:Hid (AbidesFrom W.heap.size J):=hJ;have HL:Hid (∀ Bs,U (y.getD Bs 0)):=hl;clear hc hs hT hY hJ hl;refine callsIn_of_wp func106 rfl trivial ?_ rfl;simp only [ntmps106,List.size_toArray,List.length_cons,List.length_nil,Nat.reduceAdd,Nat.reduceSub,Array.replicate_succ,Array.replicate_zero,List.push_toArray,List.append_toArray,List.nil_append,List.cons_append];gi_wp2;gi_loopw [7] (λi wr=>∃ k:Nat,k<=4/\i=.i k/\J (fZ y k) wr/\Below d W wr) (λi _=>4-(intOf i).toNat);case atStart=>exact ⟨0,ab,rfl,h0,Below.refl _ _⟩
 case round =>
  obtain ⟨k,hk,rfl,N,n⟩:=hrel;have l:Hid (Below d W wr):=n;have C:Hid (J (fZ y k) wr):=N;have hcw:wr.cell? ⟨f,0,none⟩=some (.slice (some ⟨j,m,none⟩) 22 x):=(n.cell (p:=⟨f,0,none⟩) L).trans HC.out;have q:d<=wr.heap.size:=Nat.le_trans hn n.size;clear n N;by_cases hlt:k<4
  ·have b:Hid (CB 107 #[.slice (some ⟨j,m,none⟩) 22 x,.i k] wr (.tuple #[.u (fh y k).1,.u (fh y k).2])):=
    Ni j m x y k hlt wr (HT.out.from l.out hg) HL.out ((l.out.cell (p:=⟨j,m+16,none⟩) hb).trans (X.out 16 ab)) ((l.out.cell (p:=⟨j,m+(17+k),none⟩) hb).trans (X.out (17+k) ab)) ((l.out.cell (p:=⟨j,m+(16+k),none⟩) hb).trans (X.out (16+k) ab))
   by_cases o:(fh y k).2<=(fh y k).1
   ·have I:Hid (fZ y (k+1)=fZ y k):=J0 o;have O:decide ((fh y k).1>=(fh y k).2)=true:=(by simpa using o);gi_wp2_with fail;refine ⟨trivial,(λh=>l7),(callsIn_wide.2 b.out).mono ?_⟩;rintro e lp ⟨rfl,g⟩;clear b;have A:Hid (J (fZ y (k+1)) lp):=(by have:=HJ.out _ wr lp none C.out (sH g none) (λr e=>by cases e);rw [I.out];exact this);have z:Hid (Below d W lp):=l.out.trans (g.mono q);gi_wp2_with fail;go_roundw;case rel=>exact ⟨k+1,ab,cp,A.out,z.out⟩
    case measure=>simp [intOf];omega
   ·have O:decide ((fh y k).1>=(fh y k).2)=false:=(by simpa using o);have I:Hid (fZ y (k+1)=fZ y k++[(k,(fh y k).1,Uz.wrap ((fh y k).2-1),dg (y.getD 16 0) (8*k) 8)]):=J1 o;have HPB:Hid (∀ w,Calls prog 108 #[.u (y.getD 16 0),.i k] w λe w'=>e=.returned (.u (dg (y.getD 16 0) (8*k) 8))/\w'=w.drew):=λw=>oN _ k ab (HL.out 16).1 (HL.out 16).2 w;have H:Hid (∀ lp,Bw wr lp->lp.cell? ⟨j,m+16,none⟩=some (.u (y.getD 16 0))/\lp.cell? ⟨f,0,none⟩=some (.slice (some ⟨j,m,none⟩) 22 x)):=λlp h1 =>
     ⟨(h1.cell (p:=⟨j,m+16,none⟩) (Nat.lt_of_lt_of_le hb q)).trans ((l.out.cell (p:=⟨j,m+16,none⟩) hb).trans (X.out 16 ab)),(h1.cell (p:=⟨f,0,none⟩) (Nat.lt_of_lt_of_le L q)).trans hcw⟩
    have HLN:Hid ((fZ y k).length<4):=(by have:=MR y k;show (fZ y k).length<4;omega);have HPR:Hid (fZ y (k+1) <+: fZ y 4):=(by have:=MS y (4-(k+1)) (k+1);rw [show k+1+(4-(k+1))=4 from ab] at this;exact this);generalize dg (y.getD 16 0) (8*k) 8=E at *;generalize y.getD 16 0=c16 at *;obtain ⟨T,Q⟩:∃ T,(fh y k).1=T:=⟨_,rfl⟩;obtain ⟨s2,R⟩:∃ s2,(fh y k).2=s2:=⟨_,rfl⟩;rw [Q,R] at b I O;clear Q R o;gi_wp2_with fail;refine ⟨trivial,(λh=>l7),(callsIn_wide.2 b.out).mono ?_⟩;rintro e lp ⟨rfl,g⟩;clear b;obtain ⟨hc1,hc2⟩:=H.out lp g;have A:Hid (J (fZ y k) lp):=HJ.out _ wr lp none C.out (sH g none) (λr e=>by cases e);have z:Hid (Below d W lp):=l.out.trans (g.mono q);have S:Hid (d<=lp.heap.size):=Nat.le_trans q g.size;clear g;gi_wp2_with fail;refine ⟨trivial,(λh=>l7),(callsIn_wide.2 (HPB.out _)).mono ?_⟩;rintro e w2 ⟨rfl,hw2⟩;subst hw2;gi_wp2_with fail;obtain ⟨V,F⟩:∃ V,Uz.wrap (s2-1)=V:=⟨_,rfl⟩;have K:Hid (fZ y (k+1)=fZ y k++[(k,T,V,E)]):=(by have:=I.out;rw [F] at this;exact this);rw [F];clear F I;have G:Hid (Bw lp ((lp.alloc (.cells #[.u T,.u V,.u E] 90)).drew)):=(bal _ _).drew;obtain ⟨fn,tmps,assign,body,hy,hR⟩:=HY.out (fZ y k) (k,T,V,E) _ (HJ.out _ lp _ none A.out (sH G.out none) (λr e=>by cases e)) HLN.out;simp only [J7] at hy;rw [hy];gi_wp2_with fail;refine ⟨(λh=>l7),hR.mono ?_⟩;rintro e W3 (⟨rfl,M,P⟩ | ⟨rfl,u⟩)
    ·have B:Hid (J (fZ y (k+1)) W3):=(by rw [K.out];exact M);have Z:Hid (Below d W W3):=(z.out.trans (G.out.mono S.out)).trans P;clear M P;gi_wp2_with fail;go_roundw;case rel=>exact ⟨k+1,ab,cp,B.out,Z.out⟩
     case measure=>simp [intOf];omega
    ·have B:Hid (Y (fZ y (k+1)) W3):=(by rw [K.out];exact u);clear u;gi_wp2_with fail;refine bodyPost_ret (results_none rfl _ _ _) rfl ?_;exact ⟨⟨_,rfl⟩,.inr ⟨_,HPR.out,B.out⟩⟩
  ·obtain rfl:k=4:=ab;gi_wp2_with fail;go_end0;exact ⟨⟨_,rfl⟩,.inl ⟨_,rfl,C.out⟩⟩
theorem wU: CallsIn Fence.wide t prog 63 #[.slice B c f] e λw b=>w=.returned (.func (.func 106) #[] #[.p e.heap.size 0])/\b=e.alloc (.cells #[.slice B c f] 23):=by refine callsIn_of_wp func63 rfl trivial ?_ rfl;simp only [ntmps63,List.size_toArray,List.length_cons,List.length_nil,Nat.reduceAdd,Nat.reduceSub,Array.replicate_succ,Array.replicate_zero,List.push_toArray,List.append_toArray,List.nil_append,List.cons_append];gi_wp2;go_ret;exact a07
theorem pV (hl:∀ b,U (y.getD b 0)) (hb:d<f) (a:c<f) (Bs:0<f) (w:World) (hn:f<=w.heap.size) (cap:pS w) (q:w.cell? ⟨c,0,none⟩=some (.slice (some ⟨d,j,none⟩) 22 m)) (hs:∀ b,b<22->w.cell? ⟨d,j+b,none⟩=some (.u (y.getD b 0))):
 SeqStopsK Fence.wide t prog 106 #[.p c 0] J7 (Below f) (λn=>n=fZ y 4) (λpre=>pre <+: fZ y 4) 4 w:=λs J g W e i k o h =>
 CQ t s c f d j m y hl J g hb a Bs W (Nat.le_trans hn e.size) (cap.from e (Nat.lt_of_lt_of_le Bs hn)) ((e.cell (p:=⟨c,0,none⟩) (Nat.lt_of_lt_of_le a hn)).trans q)
  (λb r=>(e.cell (p:=⟨d,j+b,none⟩) (Nat.lt_of_lt_of_le hb hn)).trans (hs b r)) i o h
theorem fK {row:Option Nat} (h:g.heap[W]?=some (.cells a l o)) (c:g.grownBy n row) (hr:∀ r,row=some r->∃ f:Obj,g.heap[r]?=some f/\f.isCells=false):n.heap[W]?=some (.cells a l o):=by refine (c.block W (Array.getElem?_eq_some_iff.1 h).1 λe=>?_).trans h;obtain ⟨f,cs,b⟩:=hr W e.symm;rw [h] at cs;cases cs;cases b
theorem mq {v:Value} (h:Boxed g b l v) (hb:Below W g n) (hn:b<W):Boxed n b l v:=(hb.block b hn).trans h
attribute [local go_sem] Oper.semAt_some
theorem wV (hz:y.length=c) (hs:Sl .u64 e B y) (hl:∀ j,U (y.getD j 0)) (hT:pS e): CB 23 #[.slice B c f,.i A] e (.tuple #[.u (rZ c y A).1,.u (rZ c y A).2.1,.bool (rZ c y A).2.2]):=by
 have HO:Hid (∀ W,Bw e W->CB 62 #[.slice B c f] W (.bool (bo c y))):=λW hW=>by
  have:=jG B c f y W hz (hs.below hW) hl
  rw [sp c y hl] at this
  exact this
 have HS:Hid (Sl .u64 e B y):=hs
 have HL:Hid (∀ j,U (y.getD j 0)):=hl
 have HT:Hid (pS e):=hT
 have HZ:Hid (y.length=c):=hz
 clear hs hl hT hz
 refine (callsIn_wide (n:=3)).1 ?_
 refine callsIn_of_wp_marks func23 rfl trivial ?_ rfl
 simp only [ntmps23,List.size_toArray,List.length_cons,List.length_nil,Nat.reduceAdd,Nat.reduceSub,Array.replicate_succ,Array.replicate_zero,List.push_toArray,List.append_toArray,List.nil_append,List.cons_append]
 gi_wp2_with fail
 have O:=(((Boxed.new e 2 (.i A)).alloc (.cells #[.u 0] 22)).alloc (.cells #[.u 0] 22)).alloc (.cells #[.bool false] 4)
 have z:=((Boxed.new (e.alloc (.cells #[.i A] 2)) 22 (.u 0)).alloc (.cells #[.u 0] 22)).alloc (.cells #[.bool false] 4)
 have C:=(Boxed.new ((e.alloc (.cells #[.i A] 2)).alloc (.cells #[.u 0] 22)) 22 (.u 0)).alloc (.cells #[.bool false] 4)
 have E:=Boxed.new (((e.alloc (.cells #[.i A] 2)).alloc (.cells #[.u 0] 22)).alloc (.cells #[.u 0] 22)) 4 (.bool false)
 simp only [World.size_alloc] at z C E
 have J:Bw e ((((e.alloc (.cells #[.i A] 2)).alloc (.cells #[.u 0] 22)).alloc (.cells #[.u 0] 22)).alloc (.cells #[.bool false] 4)):=((((Below.refl _ e).alloc (Nat.le_refl _) _).alloc cp _).alloc bv _).alloc bv _
 have hsz:((((e.alloc (.cells #[.i A] 2)).alloc (.cells #[.u 0] 22)).alloc (.cells #[.u 0] 22)).alloc (.cells #[.bool false] 4)).heap.size=e.heap.size+4:=cp
 obtain ⟨W4,V⟩:∃ W4,(((e.alloc (.cells #[.i A] 2)).alloc (.cells #[.u 0] 22)).alloc (.cells #[.u 0] 22)).alloc (.cells #[.bool false] 4)=W4:=⟨_,rfl⟩
 rw [V] at O z C E J hsz ⊢
 clear V
 refine ⟨trivial,(callsIn_wide.2 (HO.out _ J)).mono ?_⟩
 rintro w t ⟨rfl,l⟩
 have hsz5:e.heap.size+4<=t.heap.size:=by have:=l.size;omega
 have O:=mq O l ab
 have z:=mq z l ab
 have C:=mq C l ab
 have E:=mq E l ab
 have L:Bw e t:=J.trans (l.mono ab)
 clear J hsz l
 cases H:bo c y with
 | false =>
   have FV:Hid (rZ c y A=(0,0,false)):=by show rZ c y A=_;unfold rZ LE;rw [H];rfl
   have c1:=z.cell
   have c2:=C.cell
   have c3:=E.cell
   have f1:=z.frozen
   have f2:=C.frozen
   have f3:=E.frozen
   gi_wp2_with fail
   have d1:=(z.set (.u 0)).other (B':=e.heap.size+1+1) ab (.u 0) |>.other (B':=e.heap.size+1+1+1) ab (.bool false) |>.cell
   have d2:=((C.other (B':=e.heap.size+1) ab (.u 0)).set (.u 0)).other (B':=e.heap.size+1+1+1) ab (.bool false) |>.cell
   have d3:=(((E.other (B':=e.heap.size+1) ab (.u 0)).other (B':=e.heap.size+1+1) ab (.u 0)).set (.bool false)).cell
   refine ⟨.tuple #[.u 0,.u 0,.bool false],?_,by rw [FV.out],((L.setCell (p:=⟨e.heap.size+1,0,none⟩) cp _).setCell (p:=⟨e.heap.size+1+1,0,none⟩) bv _).setCell (p:=⟨e.heap.size+1+1+1,0,none⟩) bv _⟩
   simp [results,Tryz.f23,go_sem,d1,d2,d3]
 | true =>
   obtain rfl:c=22:=by unfold bo at H;simp only [Bool.and_eq_true,decide_eq_true_eq] at H;exact H.1
   obtain ⟨b,cap,rfl,hbw,_⟩:=HS.out 0 (by have:=HZ.out;omega)
   have hs5:∀ j,j<22->t.cell? ⟨b,cap+j,none⟩=some (.u (y.getD j 0)):=by
    intro j hj
    obtain ⟨b',off',w,_,hc⟩:=HS.out j (by have:=HZ.out;omega)
    cases w
    exact (L.cell (p:=⟨b,cap+j,none⟩) hbw).trans hc
   have FV:Hid (MT y A=rZ 22 y A):=Qf HL.out H A
   gi_wp2_with fail
   refine ⟨trivial,(wU _ _ _ _ _).mono ?_⟩
   rintro w S ⟨rfl,rfl⟩
   gi_wp2_with fail
   have bS:=Boxed.new t 23 (.slice (some ⟨b,cap,none⟩) 22 f)
   have P:Bw e (t.alloc (.cells #[.slice (some ⟨b,cap,none⟩) 22 f] 23)):=L.alloc L.size _
   have T:pS (t.alloc (.cells #[.slice (some ⟨b,cap,none⟩) 22 f] 23)):=HT.out.below P
   have hs6:∀ j,j<22->(t.alloc (.cells #[.slice (some ⟨b,cap,none⟩) 22 f] 23)).cell? ⟨b,cap+j,none⟩=some (.u (y.getD j 0)):=λj hj=>(((Below.refl _ t).alloc (Nat.le_refl _) _).cell (p:=⟨b,cap+j,none⟩) (by show b<t.heap.size;omega)).trans (hs5 j hj)
   have O:=O.alloc (.cells #[.slice (some ⟨b,cap,none⟩) 22 f] 23)
   have z:=z.alloc (.cells #[.slice (some ⟨b,cap,none⟩) 22 f] 23)
   have C:=C.alloc (.cells #[.slice (some ⟨b,cap,none⟩) 22 f] 23)
   have E:=E.alloc (.cells #[.slice (some ⟨b,cap,none⟩) 22 f] 23)
   have hz6:(t.alloc (.cells #[.slice (some ⟨b,cap,none⟩) 22 f] 23)).heap.size=t.heap.size+1:=cp
   have hg5:0<e.heap.size:=HT.out.lt
   obtain ⟨S,hW6⟩:∃ S,t.alloc (.cells #[.slice (some ⟨b,cap,none⟩) 22 f] 23)=S:=⟨_,rfl⟩
   rw [hW6] at bS P T hs6 O z C E hz6 ⊢
   clear hW6 HO
   refine wpIn_rangeFunc_ownH rfl ab (gf:=106) (lb:=#[.p t.heap.size 0]) rfl trivial (enters_of func106 ba rfl)
    (pV 2 t.heap.size (t.heap.size+1) b cap f y HL.out ab ab ab S ab T bS.cell hs6) belowK_t (belowK_b ab) (Below.refl _ _) (λ_=>rfl)
    (λpre W=>((∀ p ∈ pre,((p.1:Int)==A)=false)/\Boxed W e.heap.size 2 (.i A)/\Boxed W (e.heap.size+1) 22 (.u 0)/\Boxed W (e.heap.size+1+1) 22 (.u 0)/\Boxed W (e.heap.size+1+1+1) 4 (.bool false)/\t.heap.size+1<=W.heap.size)/\Bw e W)
    (λn pre W=>(n=.ret/\∃ u d,pre=u++[d]/\(∀ p ∈ u,((p.1:Int)==A)=false)/\((d.1:Int)==A)=true/\Boxed W (e.heap.size+1) 22 (.u d.2.1)/\Boxed W (e.heap.size+1+1) 22 (.u d.2.2.1)/\Boxed W (e.heap.size+1+1+1) 4 (.bool true))/\Bw e W)
    (OwnFrom.and (λs i a row hs G I=>⟨hs.1,fK hs.2.1 G (λr w=>(I r w).2),fK hs.2.2.1 G (λr w=>(I r w).2),fK hs.2.2.2.1 G (λr w=>(I r w).2),fK hs.2.2.2.2.1 G (λr w=>(I r w).2),Nat.le_trans hs.2.2.2.2.2 G.size⟩) (ownFrom_below (Nat.le_refl _) ab))
    (λn=>OwnFrom.and (λs i a row hs G I=>by obtain ⟨hc,u,d,e1,e2,e3,e4,e5,e6⟩:=hs;exact ⟨hc,u,d,e1,e2,e3,fK e4 G (λr w=>(I r w).2),fK e5 G (λr w=>(I r w).2),fK e6 G (λr w=>(I r w).2)⟩) (ownFrom_below (Nat.le_refl _) ab))
    ⟨⟨cp,O,z,C,E,ab⟩,P⟩
    (λx a' W=>∃ N,e.heap.size+4<=N/\W.heap[N]?=some (.cells #[.u x.2.1,.u x.2.2.1,.u x.2.2.2] 90 (0,0))/\a'={tmps:=#[.slice (some ⟨b,cap,none⟩) 22 f,.i A,undef,.p e.heap.size 0,.p (e.heap.size+1) 0,.p (e.heap.size+1+1) 0,.p (e.heap.size+1+1+1) 0,.i (x.1:Int),.p N 0,.slice (some ⟨b,cap,none⟩) 22 f,.bool true,.bool false,.slice (some ⟨b,cap,none⟩) 22 f,.func (.func 106) #[] #[.p t.heap.size 0],.i (x.1:Int),.agg #[.u x.2.1,.u x.2.2.1,.u x.2.2.2],undef,undef,undef,undef,undef,undef,undef],defers:=[]})
    (λx a' _ X Y row hs G I=>by obtain ⟨N,h1,h2,h3⟩:=hs;exact ⟨N,h1,fK h2 G (λr w=>(I r w).2),h3⟩)
    ?assign ?body ?done ?stop
   case assign =>
    rintro lp pre x W K ⟨⟨R,F,m,o,g,M⟩,q⟩ Q
    simp only [J7]
    gi_wp2_with fail
    exact Q _ _ ((KeepsOthers.alloc _ _).from _) ((Below.refl _ W).alloc M _) ⟨⟨R,F.alloc _,m.alloc _,o.alloc _,g.alloc _,bv⟩,q.alloc q.size _⟩ ⟨W.heap.size,g.lt,World.alloc_heap_new W _,rfl⟩
   case body =>
    rintro lp pre x a' W hlp ⟨r,I⟩ ⟨⟨R,F,m,o,g,M⟩,q⟩ ⟨N,hBx,bX,rfl⟩ hlt
    have HX0:Hid (W.cell? ⟨N,0,none⟩=some (.u x.2.1)):=by show W.cell? _=_;simp [World.cell?,bX]
    have HX1:Hid (W.cell? ⟨N,1,none⟩=some (.u x.2.2.1)):=by show W.cell? _=_;simp [World.cell?,bX]
    have cI:=F.cell
    cases hq:((x.1:Int)==A) with
    | false =>
      gi_wp2_with fail
      exact ⟨KeepsFrom.refl _ _,Below.refl _ _,⟨λp hp'=>(List.mem_append.1 hp').elim (R p) (λw=>by simp at w;subst w;exact hq),F,m,o,g,M⟩,q⟩
    | true =>
      have c0:=HX0.out
      have c1:=HX1.out
      have d1:=m.cell
      have d2:=o.cell
      have d3:=g.cell
      have f1:=m.frozen
      have f2:=o.frozen
      have f3:=g.frozen
      have Z:Hid (KeepsFrom S.heap.size W (((W.setCell ⟨e.heap.size+1,0,none⟩ (.u x.2.1)).setCell ⟨e.heap.size+1+1,0,none⟩ (.u x.2.2.1)).setCell ⟨e.heap.size+1+1+1,0,none⟩ (.bool true)).drew /\
       ((∃ u d,pre++[x]=u++[d]/\(∀ p ∈ u,((p.1:Int)==A)=false)/\((d.1:Int)==A)=true/\Boxed (((W.setCell ⟨e.heap.size+1,0,none⟩ (.u x.2.1)).setCell ⟨e.heap.size+1+1,0,none⟩ (.u x.2.2.1)).setCell ⟨e.heap.size+1+1+1,0,none⟩ (.bool true)).drew (e.heap.size+1) 22 (.u d.2.1) /\
         Boxed (((W.setCell ⟨e.heap.size+1,0,none⟩ (.u x.2.1)).setCell ⟨e.heap.size+1+1,0,none⟩ (.u x.2.2.1)).setCell ⟨e.heap.size+1+1+1,0,none⟩ (.bool true)).drew (e.heap.size+1+1) 22 (.u d.2.2.1) /\
         Boxed (((W.setCell ⟨e.heap.size+1,0,none⟩ (.u x.2.1)).setCell ⟨e.heap.size+1+1,0,none⟩ (.u x.2.2.1)).setCell ⟨e.heap.size+1+1+1,0,none⟩ (.bool true)).drew (e.heap.size+1+1+1) 4 (.bool true)) /\
         Bw e (((W.setCell ⟨e.heap.size+1,0,none⟩ (.u x.2.1)).setCell ⟨e.heap.size+1+1,0,none⟩ (.u x.2.2.1)).setCell ⟨e.heap.size+1+1+1,0,none⟩ (.bool true)).drew)):=
       ⟨((((KeepsOthers.setCell W _ _).trans (KeepsOthers.setCell _ _ _)).trans (KeepsOthers.setCell _ _ _)).trans (KeepsOthers.drew _)).from _,
         ⟨pre,x,rfl,R,hq,((m.set _).other (B':=e.heap.size+1+1) ab _).other (B':=e.heap.size+1+1+1) ab _,((o.other (B':=e.heap.size+1) ab _).set _).other (B':=e.heap.size+1+1+1) ab _,((g.other (B':=e.heap.size+1) ab _).other (B':=e.heap.size+1+1) ab _).set _⟩,
         (((q.setCell (p:=⟨e.heap.size+1,0,none⟩) cp _).setCell (p:=⟨e.heap.size+1+1,0,none⟩) bv _).setCell (p:=⟨e.heap.size+1+1+1,0,none⟩) bv _).drew⟩
      gi_wp2_with fail
      gi_region
      all_goals gi_wp2_with fail
      all_goals exact ⟨Z.out.1,⟨rfl,Z.out.2.1⟩,Z.out.2.2⟩
   case done =>
    rintro D ys W hD rfl ⟨⟨R,F,m,o,g,M⟩,q⟩ Q
    have d1:=m.cell
    have d2:=o.cell
    have d3:=g.cell
    have f1:=m.frozen
    have f2:=o.frozen
    have f3:=g.frozen
    have FN:Hid (rZ 22 y A=(0,0,false)):=by
     have:=FV.out
     unfold MT at this
     rw [yX R] at this
     exact this.symm
    gi_wp2_with fail
    have k1:=(KeepsOthers.setCell W ⟨e.heap.size+1,0,none⟩ (.u 0)).same D _ Q rfl
    have k2:=(KeepsOthers.setCell _ ⟨e.heap.size+1+1,0,none⟩ (.u 0)).same D _ k1 rfl
    have k3:=(KeepsOthers.setCell _ ⟨e.heap.size+1+1+1,0,none⟩ (.bool false)).same D _ k2 rfl
    refine ⟨cp,.inl ⟨_,_,rfl,run_takeDeferred k3,?_⟩⟩
    have z1:=(m.set (.u 0)).other (B':=e.heap.size+1+1) ab (.u 0) |>.other (B':=e.heap.size+1+1+1) ab (.bool false)
    have z2:=((o.other (B':=e.heap.size+1) ab (.u 0)).set (.u 0)).other (B':=e.heap.size+1+1+1) ab (.bool false)
    have z3:=((g.other (B':=e.heap.size+1) ab (.u 0)).other (B':=e.heap.size+1+1) ab (.u 0)).set (.bool false)
    have y1:=(z1.kept (grownBy_putObj' _ D (.deferred none)) bv).cell
    have y2:=(z2.kept (grownBy_putObj' _ D (.deferred none)) bv).cell
    have y3:=(z3.kept (grownBy_putObj' _ D (.deferred none)) bv).cell
    refine ⟨.tuple #[.u 0,.u 0,.bool false],?_,by rw [FN.out],(((q.setCell (p:=⟨e.heap.size+1,0,none⟩) cp _).setCell (p:=⟨e.heap.size+1+1,0,none⟩) bv _).setCell (p:=⟨e.heap.size+1+1+1,0,none⟩) bv _).trans (belowK_b (w:=e) (Nat.le_refl _) _ D _ _ ab k3 rfl rfl)⟩
    simp [results,Tryz.f23,go_sem,y1,y2,y3]
   case stop =>
    rintro D n pre W hD hpre ⟨⟨rfl,u,d,e1,e2,e3,m,o,g⟩,q⟩ Q
    have FN:Hid (rZ 22 y A=(d.2.1,d.2.2.1,true)):=by
     have:=FV.out
     unfold MT at this
     rw [yW hpre e1 e2 e3] at this
     exact this.symm
    gi_wp2_with fail
    refine ⟨cp,.inl ⟨_,_,rfl,run_takeDeferred Q,?_⟩⟩
    have y1:=(m.kept (grownBy_putObj' _ D (.deferred none)) bv).cell
    have y2:=(o.kept (grownBy_putObj' _ D (.deferred none)) bv).cell
    have y3:=(g.kept (grownBy_putObj' _ D (.deferred none)) bv).cell
    refine ⟨.tuple #[.u d.2.1,.u d.2.2.1,.bool true],?_,by rw [FN.out],q.trans (belowK_b (w:=e) (Nat.le_refl _) W D _ _ ab Q rfl rfl)⟩
    simp [results,Tryz.f23,go_sem,y1,y2,y3]
theorem fp {j:Nat} (h:g.heap[W]?=some w) (a:W≠b) (v:Value):(g.setCell ⟨b,j,none⟩ v).heap[W]?=some w:=by simp only [World.setCell];rw [Array.getElem?_modify,if_neg (by simpa using Ne.symm a)];exact h
theorem uL {D:Obj} (h:g.heap[W]?=some w) (a:W≠b):(g.putObj b D).heap[W]?=some w :=
 ((grownBy_putObj' g b D).block W (Array.getElem?_eq_some_iff.1 h).1 oi).trans h
theorem pG (h:g.heap[W]?=some (.cells a l o)) (j:Nat):g.cell? ⟨W,j,none⟩=a[j]?:=by simp [World.cell?,h]
theorem sI (h:g.heap[W]?=some w) (a:Obj):(g.alloc a).heap[W]?=some w:=(Below.heap_alloc g a W (Array.getElem?_eq_some_iff.1 h).1).trans h
theorem Au (hbw:t<e.heap.size) (hs:∀ j,j<22->e.cell? ⟨t,c+j,none⟩=some (.u (y.getD j 0))) (hl:∀ j,U (y.getD j 0)) (hT:pS e): CB 230 #[.slice (some ⟨t,c,none⟩) 22 f,.u A,.u D] e (.tuple #[.agg #[.u (kZ y A D).1,.u (kZ y A D).2.1,.u (kZ y A D).2.2.1],.bool (kZ y A D).2.2.2]):=by
 have HS:Hid (∀ j,j<22->e.cell? ⟨t,c+j,none⟩=some (.u (y.getD j 0))):=hs;have HL:Hid (∀ j,U (y.getD j 0)):=hl;have HT:Hid (pS e):=hT;clear hs hl hT;refine (callsIn_wide (n:=3)).1 ?_;refine callsIn_of_wp_marks func230 rfl trivial ?_ rfl;simp only [ntmps230,List.size_toArray,List.length_cons,List.length_nil,Nat.reduceAdd,Nat.reduceSub,Array.replicate_succ,Array.replicate_zero,List.push_toArray,List.append_toArray,List.nil_append,List.cons_append];gi_wp2_with fail;refine ⟨trivial,(wU _ _ _ _ _).mono ?_⟩;rintro w N ⟨rfl,rfl⟩;gi_wp2_with fail;have bX:=((((Boxed.new e 22 (.u A)).alloc (.cells #[.u D] 22)).alloc (.cells #[.u 0,.u 0,.u 0] 90)).alloc (.cells #[.bool false] 4)).alloc (.cells #[.slice (some ⟨t,c,none⟩) 22 f] 23);have bY:=(((Boxed.new (e.alloc (.cells #[.u A] 22)) 22 (.u D)).alloc (.cells #[.u 0,.u 0,.u 0] 90)).alloc (.cells #[.bool false] 4)).alloc (.cells #[.slice (some ⟨t,c,none⟩) 22 f] 23);have bR:=sI (sI (World.alloc_heap_new ((e.alloc (.cells #[.u A] 22)).alloc (.cells #[.u D] 22)) (.cells #[.u 0,.u 0,.u 0] 90)) (.cells #[.bool false] 4)) (.cells #[.slice (some ⟨t,c,none⟩) 22 f] 23);have bB:=(Boxed.new (((e.alloc (.cells #[.u A] 22)).alloc (.cells #[.u D] 22)).alloc (.cells #[.u 0,.u 0,.u 0] 90)) 4 (.bool false)).alloc (.cells #[.slice (some ⟨t,c,none⟩) 22 f] 23);have bS:=Boxed.new ((((e.alloc (.cells #[.u A] 22)).alloc (.cells #[.u D] 22)).alloc (.cells #[.u 0,.u 0,.u 0] 90)).alloc (.cells #[.bool false] 4)) 23 (.slice (some ⟨t,c,none⟩) 22 f);simp only [World.size_alloc] at bY bR bB bS;have L:Bw e (((((e.alloc (.cells #[.u A] 22)).alloc (.cells #[.u D] 22)).alloc (.cells #[.u 0,.u 0,.u 0] 90)).alloc (.cells #[.bool false] 4)).alloc (.cells #[.slice (some ⟨t,c,none⟩) 22 f] 23)):=(((((Below.refl _ e).alloc (Nat.le_refl _) _).alloc cp _).alloc bv _).alloc bv _).alloc bv _;have hz6:(((((e.alloc (.cells #[.u A] 22)).alloc (.cells #[.u D] 22)).alloc (.cells #[.u 0,.u 0,.u 0] 90)).alloc (.cells #[.bool false] 4)).alloc (.cells #[.slice (some ⟨t,c,none⟩) 22 f] 23)).heap.size=e.heap.size+5:=cp
 obtain ⟨N,S⟩:∃ N,((((e.alloc (.cells #[.u A] 22)).alloc (.cells #[.u D] 22)).alloc (.cells #[.u 0,.u 0,.u 0] 90)).alloc (.cells #[.bool false] 4)).alloc (.cells #[.slice (some ⟨t,c,none⟩) 22 f] 23)=N:=⟨_,rfl⟩;rw [S] at bX bY bR bB bS L hz6 ⊢;clear S;have hT6:pS N:=HT.out.below L;have hs6:∀ j,j<22->N.cell? ⟨t,c+j,none⟩=some (.u (y.getD j 0)):=λj hj=>(L.cell (p:=⟨t,c+j,none⟩) hbw).trans (HS.out j hj);have hg5:0<e.heap.size:=HT.out.lt;refine wpIn_rangeFunc_ownH rfl ab (gf:=106) (lb:=#[.p (e.heap.size+1+1+1+1) 0]) rfl trivial (enters_of func106 ba rfl)
  (pV 2 (e.heap.size+1+1+1+1) (e.heap.size+5) t c f y HL.out ab ab ab N ab hT6 bS.cell hs6) belowK_t (belowK_b ab) (Below.refl _ _) (λ_=>rfl)
  (λpre W=>((∀ p ∈ pre,jJ A D p=false)/\Boxed W e.heap.size 22 (.u A)/\Boxed W (e.heap.size+1) 22 (.u D)/\W.heap[e.heap.size+1+1]?=some (.cells #[.u 0,.u 0,.u 0] 90 (0,0))/\Boxed W (e.heap.size+1+1+1) 4 (.bool false)/\e.heap.size+5<=W.heap.size)/\Bw e W)
  (λg pre W=>(g=.ret/\∃ C d,pre=C++[d]/\(∀ p ∈ C,jJ A D p=false)/\jJ A D d=true/\W.heap[e.heap.size+1+1]?=some (.cells #[.u d.2.1,.u d.2.2.1,.u d.2.2.2] 90 (0,0))/\Boxed W (e.heap.size+1+1+1) 4 (.bool true))/\Bw e W)
  (OwnFrom.and (λs l B row hs H I=>⟨hs.1,fK hs.2.1 H (λr w=>(I r w).2),fK hs.2.2.1 H (λr w=>(I r w).2),fK hs.2.2.2.1 H (λr w=>(I r w).2),fK hs.2.2.2.2.1 H (λr w=>(I r w).2),Nat.le_trans hs.2.2.2.2.2 H.size⟩) (ownFrom_below (Nat.le_refl _) ab))
  (λg=>OwnFrom.and (λs l B row hs H I=>by obtain ⟨hc,C,d,e1,e2,e3,e4,e5⟩:=hs;exact ⟨hc,C,d,e1,e2,e3,fK e4 H (λr w=>(I r w).2),fK e5 H (λr w=>(I r w).2)⟩) (ownFrom_below (Nat.le_refl _) ab))
  ⟨⟨cp,bX,bY,bR,bB,ab⟩,L⟩
  (λq a' W=>∃ J,e.heap.size+4<=J/\W.heap[J]?=some (.cells #[.u q.2.1,.u q.2.2.1,.u q.2.2.2] 90 (0,0))/\a'={tmps:=#[.slice (some ⟨t,c,none⟩) 22 f,.u A,.u D,undef,.p e.heap.size 0,.p (e.heap.size+1) 0,.p (e.heap.size+1+1) 0,.p (e.heap.size+1+1+1) 0,undef,.p J 0,.slice (some ⟨t,c,none⟩) 22 f,.func (.func 106) #[] #[.p (e.heap.size+1+1+1+1) 0],.i (q.1:Int),.agg #[.u q.2.1,.u q.2.2.1,.u q.2.2.2],undef,undef,undef,undef,undef,undef,undef,undef,undef,undef,undef,undef],defers:=[]})
  (λq a' _ X Y row hs H I=>by obtain ⟨J,Z,h2,h3⟩:=hs;exact ⟨J,Z,fK h2 H (λr w=>(I r w).2),h3⟩)
  ?assign ?body ?done ?stop
 case assign =>rintro lp pre q W K ⟨⟨O,b,u,cap,m,z⟩,o⟩ R;simp only [J7];gi_wp2_with fail;exact R _ _ ((KeepsOthers.alloc _ _).from _) ((Below.refl _ W).alloc z _) ⟨⟨O,b.alloc _,u.alloc _,sI cap _,m.alloc _,bv⟩,o.alloc o.size _⟩ ⟨W.heap.size,m.lt,World.alloc_heap_new W _,rfl⟩
 case body =>
  rintro lp pre q a' W hlp ⟨r,I⟩ ⟨⟨O,b,u,cap,m,z⟩,o⟩ ⟨J,hBx,bQ,rfl⟩ hlt;have q0:W.cell? ⟨J,0,none⟩=some (.u q.2.1):=(by simp [World.cell?,bQ]);have q1:W.cell? ⟨J,1,none⟩=some (.u q.2.2.1):=(by simp [World.cell?,bQ]);have q2:W.cell? ⟨J,2,none⟩=some (.u q.2.2.2):=(by simp [World.cell?,bQ]);have cX:=b.cell;have cY:=u.cell;have M:Hid (jJ A D q=(decide (q.2.1<=D)&&decide (A<=q.2.2.1))):=(rfl:jJ A D q=_);cases Z:decide (q.2.1<=D) with
  | false =>rw [Z] at M;have V:Hid (jJ A D q=false):=M.out;gi_wp2_with fail;exact ⟨KeepsFrom.refl _ _,Below.refl _ _,⟨λp P=>(List.mem_append.1 P).elim (O p) (λw=>by simp at w;subst w;exact V.out),b,u,cap,m,z⟩,o⟩
  | true =>
    rw [Z] at M;cases h2:decide (A<=q.2.2.1) with
    | false =>rw [h2] at M;have V:Hid (jJ A D q=false):=M.out;gi_wp2_with fail;exact ⟨KeepsFrom.refl _ _,Below.refl _ _,⟨λp P=>(List.mem_append.1 P).elim (O p) (λw=>by simp at w;subst w;exact V.out),b,u,cap,m,z⟩,o⟩
    | true =>
      rw [h2] at M;have V:Hid (jJ A D q=true):=M.out;have r0:W.cell? ⟨e.heap.size+1+1,0,none⟩=some (.u 0):=ro;have r1:W.cell? ⟨e.heap.size+1+1,1,none⟩=some (.u 0):=ro;have r2:W.cell? ⟨e.heap.size+1+1,2,none⟩=some (.u 0):=ro;have g0:W.frozen? ⟨e.heap.size+1+1,0,none⟩=false:=ob;have g1:W.frozen? ⟨e.heap.size+1+1,1,none⟩=false:=ob;have g2:W.frozen? ⟨e.heap.size+1+1,2,none⟩=false:=ob;have cB:=m.cell;have fB:=m.frozen;have Z1:Hid (KeepsFrom N.heap.size W ((((W.setCell ⟨e.heap.size+1+1,0,none⟩ (.u q.2.1)).setCell ⟨e.heap.size+1+1,1,none⟩ (.u q.2.2.1)).setCell ⟨e.heap.size+1+1,2,none⟩ (.u q.2.2.2)).setCell ⟨e.heap.size+1+1+1,0,none⟩ (.bool true))):=((((KeepsOthers.setCell W _ _).trans (KeepsOthers.setCell _ _ _)).trans (KeepsOthers.setCell _ _ _)).trans (KeepsOthers.setCell _ _ _)).from _
      have Z2:Hid (((((W.setCell ⟨e.heap.size+1+1,0,none⟩ (.u q.2.1)).setCell ⟨e.heap.size+1+1,1,none⟩ (.u q.2.2.1)).setCell ⟨e.heap.size+1+1,2,none⟩ (.u q.2.2.2)).setCell ⟨e.heap.size+1+1+1,0,none⟩ (.bool true)).heap[e.heap.size+1+1]?=some (.cells #[.u q.2.1,.u q.2.2.1,.u q.2.2.2] 90 (0,0))):=fp (jX (jX (jX cap _) _) _) ab _;have Z3:Hid (Boxed ((((W.setCell ⟨e.heap.size+1+1,0,none⟩ (.u q.2.1)).setCell ⟨e.heap.size+1+1,1,none⟩ (.u q.2.2.1)).setCell ⟨e.heap.size+1+1,2,none⟩ (.u q.2.2.2)).setCell ⟨e.heap.size+1+1+1,0,none⟩ (.bool true)) (e.heap.size+1+1+1) 4 (.bool true)):=Boxed.set _ (v:=.bool false) (fp (fp (fp m ab _) ab _) ab _);have Z4:Hid (Bw e ((((W.setCell ⟨e.heap.size+1+1,0,none⟩ (.u q.2.1)).setCell ⟨e.heap.size+1+1,1,none⟩ (.u q.2.2.1)).setCell ⟨e.heap.size+1+1,2,none⟩ (.u q.2.2.2)).setCell ⟨e.heap.size+1+1+1,0,none⟩ (.bool true))):=(((o.setCell (p:=⟨e.heap.size+1+1,0,none⟩) bv _).setCell (p:=⟨e.heap.size+1+1,1,none⟩) bv _).setCell (p:=⟨e.heap.size+1+1,2,none⟩) bv _).setCell (p:=⟨e.heap.size+1+1+1,0,none⟩) bv _;gi_wp2_with fail;exact ⟨Z1.out,⟨rfl,pre,q,rfl,O,V.out,Z2.out,Z3.out⟩,Z4.out⟩
 case done =>rintro x ys W hD rfl ⟨⟨O,b,u,cap,m,z⟩,o⟩ R;have FN:Hid (kZ y A D=(0,0,0,false)):=(by show kZ y A D=_;unfold kZ;rw [yX O]);have r0:W.cell? ⟨e.heap.size+1+1,0,none⟩=some (.u 0):=ro;have r1:W.cell? ⟨e.heap.size+1+1,1,none⟩=some (.u 0):=ro;have r2:W.cell? ⟨e.heap.size+1+1,2,none⟩=some (.u 0):=ro;have g0:W.frozen? ⟨e.heap.size+1+1,0,none⟩=false:=ob;have g1:W.frozen? ⟨e.heap.size+1+1,1,none⟩=false:=ob;have g2:W.frozen? ⟨e.heap.size+1+1,2,none⟩=false:=ob;have cB:=m.cell;have fB:=m.frozen;have k1:Hid (((((W.setCell ⟨e.heap.size+1+1,0,none⟩ (.u 0)).setCell ⟨e.heap.size+1+1,1,none⟩ (.u 0)).setCell ⟨e.heap.size+1+1,2,none⟩ (.u 0)).setCell ⟨e.heap.size+1+1+1,0,none⟩ (.bool false)).heap[x]?=some (.deferred (some []))):=fp (fp (fp (fp R ab _) ab _) ab _) ab _;have z2:((((W.setCell ⟨e.heap.size+1+1,0,none⟩ (.u 0)).setCell ⟨e.heap.size+1+1,1,none⟩ (.u 0)).setCell ⟨e.heap.size+1+1,2,none⟩ (.u 0)).setCell ⟨e.heap.size+1+1+1,0,none⟩ (.bool false)).heap[e.heap.size+1+1]?=some (.cells #[.u 0,.u 0,.u 0] 90 (0,0)):=fp (jX (jX (jX cap _) _) _) ab _;have z3:Boxed ((((W.setCell ⟨e.heap.size+1+1,0,none⟩ (.u 0)).setCell ⟨e.heap.size+1+1,1,none⟩ (.u 0)).setCell ⟨e.heap.size+1+1,2,none⟩ (.u 0)).setCell ⟨e.heap.size+1+1+1,0,none⟩ (.bool false)) (e.heap.size+1+1+1) 4 (.bool false):=Boxed.set _ (v:=.bool false) (fp (fp (fp m ab _) ab _) ab _);have z4:Hid (Bw e ((((W.setCell ⟨e.heap.size+1+1,0,none⟩ (.u 0)).setCell ⟨e.heap.size+1+1,1,none⟩ (.u 0)).setCell ⟨e.heap.size+1+1,2,none⟩ (.u 0)).setCell ⟨e.heap.size+1+1+1,0,none⟩ (.bool false))):=(((o.setCell (p:=⟨e.heap.size+1+1,0,none⟩) bv _).setCell (p:=⟨e.heap.size+1+1,1,none⟩) bv _).setCell (p:=⟨e.heap.size+1+1,2,none⟩) bv _).setCell (p:=⟨e.heap.size+1+1+1,0,none⟩) bv _;have Z2:Hid (((((((W.setCell ⟨e.heap.size+1+1,0,none⟩ (.u 0)).setCell ⟨e.heap.size+1+1,1,none⟩ (.u 0)).setCell ⟨e.heap.size+1+1,2,none⟩ (.u 0)).setCell ⟨e.heap.size+1+1+1,0,none⟩ (.bool false))).putObj x (.deferred none)).heap[e.heap.size+1+1]?=some (.cells #[.u 0,.u 0,.u 0] 90 (0,0))):=uL z2 ab;have Z3:Hid (Boxed (((((W.setCell ⟨e.heap.size+1+1,0,none⟩ (.u 0)).setCell ⟨e.heap.size+1+1,1,none⟩ (.u 0)).setCell ⟨e.heap.size+1+1,2,none⟩ (.u 0)).setCell ⟨e.heap.size+1+1+1,0,none⟩ (.bool false)).putObj x (.deferred none)) (e.heap.size+1+1+1) 4 (.bool false)):=uL z3 ab;clear z2 z3;gi_wp2_with fail;refine ⟨cp,.inl ⟨_,_,rfl,run_takeDeferred k1.out,?_⟩⟩;have Q:=Z2.out;have y3:=Z3.out.cell;refine ⟨.tuple #[.agg #[.u 0,.u 0,.u 0],.bool false],?_,by rw [FN.out],z4.out.trans (belowK_b (w:=e) (Nat.le_refl _) _ x _ _ ab k1.out rfl rfl)⟩;have E:=pG Q 0;have F:=pG Q 1;have G:=pG Q 2;simp at E F G;simp [results,Tryz.f230,go_sem,E,F,G,y3]
 case stop =>rintro x g pre W hD T ⟨⟨rfl,C,d,e1,e2,e3,cap,m⟩,o⟩ R;have FN:Hid (kZ y A D=(d.2.1,d.2.2.1,d.2.2.2,true)):=(by show kZ y A D=_;unfold kZ;rw [yW T e1 e2 e3]);gi_wp2_with fail;refine ⟨cp,.inl ⟨_,_,rfl,run_takeDeferred R,?_⟩⟩;have Q:(W.putObj x (.deferred none)).heap[e.heap.size+1+1]?=_:=uL cap ab;have y3:=Boxed.cell (show Boxed (W.putObj x (.deferred none)) (e.heap.size+1+1+1) 4 (.bool true) from uL m ab);have E:=pG Q 0;have F:=pG Q 1;have G:=pG Q 2;simp at E F G;refine ⟨.tuple #[.agg #[.u d.2.1,.u d.2.2.1,.u d.2.2.2],.bool true],?_,by rw [FN.out],o.trans (belowK_b (w:=e) (Nat.le_refl _) W x _ _ ab R rfl rfl)⟩;simp [results,Tryz.f230,go_sem,E,F,G,y3]
end Go.Proofs.YtjifdmoehfbihaaGreatDoor
namespace Go.Proofs.YtjifdmoehfbihaaGreatDoor
open Go.RowKit Tryz
open IntKind renaming u64->Uz
set_option linter.unusedVariables false
variable {x M:MV} {l:List Int} {D:Nat} (p:MV) (n:DV) (k:List Int) (a:Nat) (s:List Int) (w e m q z:Int)
theorem Nj (hl:∀ j,U (l.getD j 0)) {q:Nat × Int × Int × Int} (h:q ∈ fZ l D):∃ z:Nat,z<256/\q.2.2.2=z:=by
 obtain ⟨_,e⟩:=Hk h;unfold m0 at e;split at e;·cases e
 ·have:=Option.some.inj e;rw [<- this];obtain ⟨a,b⟩:=kL (l.getD 16 0) (8*q.1) 8;exact ⟨(dg (l.getD 16 0) (8*q.1) 8).toNat,ab,by show dg _ _ _=_;omega⟩
theorem J8 (hz:a<256) (p k:Int):vL a p k=oU a p k:=by
 obtain ⟨z,e2,e3,e4,e5,e6⟩:=U8 a hz;unfold vL oU CO;rw [z];cases h:((p==3)&&((a:Int)/128==0)) with
 | true=>rfl
 | false =>
   cases b:(k==1) with
   | true=>simp only [if_true,Bool.false_eq_true,if_false,Bool.false_or];rw [e3]
   | false =>
     cases c:(k==2) with
     | true=>simp only [if_true,Bool.false_eq_true,if_false,Bool.false_or];rw [e4]
     | false=>simp only [Bool.false_eq_true,if_false,Bool.false_or];rw [e5]
theorem Nk (hl:∀ j,U (l.getD j 0)) (a:bo 22 l=true) (p x y k:Int): ay l p x y k 4 0=if (kZ l x y).2.2.2=true then (FD (kZ l x y).1 (kZ l x y).2.1 x y&&oU (kZ l x y).2.2.1 p k) else (p==3):=by
 rw [J2 hl a p x y k 4 0 ab];have c:(List.range' 0 4).filterMap (m0 l)=fZ l 4:=by unfold fZ;rw [List.range_eq_range']
 rw [c];unfold kZ;cases b:(fZ l 4).find? (jJ x y) with
 | none=>rfl
 | some q =>
   obtain ⟨z,d,e⟩:=Nj hl (List.mem_of_find?_eq_some b);show (!(decide (x<q.2.1)||decide (q.2.2.1<y))&&vL q.2.2.2 p k)=(FD q.2.1 q.2.2.1 x y&&oU q.2.2.2 p k);rw [e,J8 z d p k];congr 1;unfold FD;rw [Bool.not_or];congr 1;·rw [<- decide_not];congr 1;exact propext ⟨λh=>ab,λh=>ab⟩
   ·rw [<- decide_not];congr 1;exact propext ⟨λh=>ab,λh=>ab⟩
theorem Nl {w:World} {a:Option Addr} (hs:Sl .u64 w a l) (hz:l.length=22):∃ b c,a=some ⟨b,c,none⟩/\b<w.heap.size/\∀ j,j<22->w.cell? ⟨b,c+j,none⟩=some (.u (l.getD j 0)):=by obtain ⟨b,c,rfl,f,_⟩:=hs 0 ab;refine ⟨b,c,rfl,f,λj i=>?_⟩;obtain ⟨h,d,e,_,g⟩:=hs j ab;cases e;exact g
theorem kO (a:Option Addr) (n cap:Nat) (l:List Int) (p x s k:Int) (w:World) (hz:l.length=n) (hs:Sl .u64 w a l) (hl:∀ j,U (l.getD j 0)) (hx:U x) (O:pS w):CB 189 #[.slice a n cap,.i p,.u x,.i s,.i k] w (.bool (vM n l p x s k)):=by
 have A:=λW (i:Bw w W)=>fA a n cap l p W hz (hs.below i) hl;have B:=gK s;have o:=lT k;rw [rr] at o;have D:Uz.wrap (Uz.wrap (x+Uz.wrap s)-1)=aU x s:=rfl;have L:bj n l p=true->(∀ W,Bw w W->CB 230 #[.slice a n cap,.u x,.u (aU x s)] W (.tuple #[.agg #[.u (kZ l x (aU x s)).1,.u (kZ l x (aU x s)).2.1,.u (kZ l x (aU x s)).2.2.1],.bool (kZ l x (aU x s)).2.2.2])) /\
  ay l p x (aU x s) k 4 0=if (kZ l x (aU x s)).2.2.2=true then (FD (kZ l x (aU x s)).1 (kZ l x (aU x s)).2.1 x (aU x s)&&oU (kZ l x (aU x s)).2.2.1 p k) else (p==3):=by
  intro h
  obtain ⟨rfl,V⟩:=gJ h
  have u:bo 22 l=true:=by unfold bj at h;rw [Bool.and_eq_true] at h;exact h.1
  obtain ⟨b,f,rfl,i,P⟩:=Nl hs hz
  exact ⟨λW q=>Au b f cap l x (aU x s) W (Nat.lt_of_lt_of_le i q.size) (λj Q=>(q.cell (p:=⟨b,f+j,none⟩) i).trans (P j Q)) hl (O.below q),Nk hl u p x (aU x s) k⟩
 unfold vM;generalize ay l p x (aU x s) k 4 0=X at *;generalize decide (1<=k/\k<=3)=E at *;generalize jp s=G at *;generalize aU x s=y at *;generalize bj n l p=F at *;generalize kZ l x y=m at *;obtain ⟨d,c,r,R⟩:=m;refine bD (S:=Bs w []) (args:=[.slice a n cap,.i p,.u x,.i s,.i k]) [] func189 ?_;cases C:decide (y<x);case' false=>cases F;case' true=>cases G;case' true=>cases E
 case false.true.true.true =>obtain ⟨K,H⟩:=L rfl;refine ae Bs.eng {eq:=[(32,dP .u64 D),(35,ak C)],cv:=[(16,fY A),(20,mL λW _=>B W),(25,mL λW _=>o W),(40,fY K)]} 60 (Bs.start _ _) λW h=>?_;refine dM 1 (dQ (T:=90) (z:=.agg #[.u 0,.u 0,.u 0]) ba W) ?_;refine bM (aD (g:=W.heap.size) (t:=90) (ty:=90) (cells:=#[.u d,.u c,.u r]) (heap_alloc_new _ _) ba rfl ba) ?_;refine aJ (R1 w W.heap.size #[.u d,.u c,.u r] 90) ?_;have I:=λW=>FF d c r x y W;have J:=λW=>FG d c r p k W;generalize FD d c x y=N at *;generalize oU r p k=Y at *;subst H;cases R<;>cases N<;>exact bm (t:=10) R1.eng {cv:=[(50,jQ R1.below λW _=>I W),(55,jQ R1.below λW _=>J W)]} 60 (R1.new h.2) (λM h=>⟨rfl,h.2⟩)
 all_goals (try cases F)<;>(try cases G)<;>(try cases E)<;>exact bm (t:=10) Bs.eng {eq:=[(32,dP .u64 D),(35,ak C)],cv:=[(16,fY A),(20,mL λW _=>B W),(25,mL λW _=>o W)]} 60 (Bs.start _ _) (λM h=>⟨rfl,h.2⟩)
theorem Nm (h:U w):bits .or .u64 (bits .andNot .u64 w e) (bits .and .u64 w e)=w:=by refine bA _ _ (ah _ _ _) h λi a=>?_;rw [cC,aA _ _ _ a,az];cases bt w i<;>cases bt e i<;>rfl
theorem Nn (hk:a<k.length) (hx:k.getD a 0=w):k.set a w=k:=by
 have:k[a]=w:=by rw [<- hx];simp [List.getD,List.getElem?_eq_getElem hk]
 rw [<- this];exact List.set_getElem_self hk
theorem yZ (a:M.cs.length=22) (b:U (M.cs.getD 9 0)) (hb:lN M=true):cL M=M:=by
 have e:bits .and .u64 (M.cs.getD 9 0) 2184=dO M.d:=by unfold lN at hb;simpa using hb
 have s:M.cs.set 9 (bits .or .u64 (bits .andNot .u64 (M.cs.getD 9 0) 2184) (dO M.d))=M.cs:=by rw [<- e];exact Nn _ 9 _ ab (Nm _ _ b).symm
 unfold cL;rw [s]
theorem Hz (h:U w):bits .andNot .u64 w 7=w/8*8:=by
 refine bA _ _ (ah _ _ _) ⟨by have:=h.1;omega,by have:=h.2;omega⟩ λi c=>?_;have d:=nB (w/8) ⟨by have:=h.1;omega,by have:=h.2;omega⟩ 3 i;have f:Uz.wrap (w/8*2^3)=w/8*8:=by have l:=h.1;have m:=h.2;rw [IntKind.wrap_u64];omega
 rw [f] at d;rw [d,aA _ _ _ c];have k:∀ i,i<64->bt 7 i=decide (i<3):=cb
 rw [k i c];by_cases a:i<3
 ·have:¬ 3<=i:=by omega
  simp [a,this]
 ·have g:3<=i:=ab;have j:bt (w/8) (i-3)=bt w i:=(by have b:=jD w h 3 (i-3);rw [show i-3+3=i by omega] at b;have e:(2:Int)^3=8:=bc;rw [e] at b;exact b);simp [a,g,j,c]
theorem Qq (a:U w) (hd:U p.hd):(p.hl&&(Uz.wrap (w.tdiv 8)==Uz.wrap (p.hd.tdiv 8)))=lM p w:=by
 have e:∀ x:Int,U x->Uz.wrap (x.tdiv 8)=x/8:=λx h=>by have b:=h.1;have c:=h.2;rw [Int.tdiv_eq_ediv_of_nonneg b,IntKind.wrap_u64];omega
 unfold lM;rw [e w a,e p.hd hd,Hz w a,Hz p.hd hd];congr 1;by_cases h:w/8=p.hd/8;·rw [h];simp
 ·rw [beq_eq_false_iff_ne.2 h,beq_eq_false_iff_ne.2 ab]
theorem H5 (h:nZ n.xs.length n.ys.length n.ir=true) (hk:(jw n a).2.2=true):nZ (jw n a).2.1.xs.length (jw n a).2.1.ys.length (jw n a).2.1.ir=true:=by
 have k:=zD h;match a,hk with
 | 0,_=>exact h
 | 1,_=>exact h
 | 2,_=>exact h
 | 3,_ =>show nZ (n.xs.drop 1).length n.ys.length n.ir=true;unfold nZ at h ⊢;simp only [Bool.and_eq_true,decide_eq_true_eq,List.length_drop] at h ⊢;omega
 | 4,_=>exact h
 | 5,_=>exact h
theorem Np:0<=wrap64 (bits .and .u64 w 1)/\wrap64 (bits .and .u64 w 1)<=1:=by
 have c:∀ i,i<64->bt 1 i=decide (i=0):=cb
 have d:∀ i,i<64->bt 0 i=false:=cb
 have h:bits .and .u64 w 1=if bt w 0=true then 1 else 0:=by
  refine bA _ _ (ah _ _ _) (by split<;>exact ⟨ab,ab⟩) λi b=>?_;rw [az,c i b];by_cases a:i=0
  ·subst a;cases bt w 0;·rw [if_neg bc,d 0 ab];rfl
   ·rw [if_pos rfl,c 0 ab];rfl
  ·rw [decide_eq_false a,Bool.and_false];split;·rw [c i b,decide_eq_false a]
   ·rw [d i b]
 rw [h];split<;>decide +kernel
theorem H6 (h:nZ n.xs.length n.ys.length n.ir=true):(fX n w (gD e m)).2=true->nZ (fX n w (gD e m)).1.xs.length (fX n w (gD e m)).1.ys.length (fX n w (gD e m)).1.ir=true:=by
 have b:=Np w;have e4:=GH n w;obtain ⟨q,c⟩:∃ q,q=wrap64 (bits .and .u64 w 1):=⟨_,rfl⟩;rw [<- c] at e4 b;clear c;refine jW e m (λk=>(fX n w k).2=true->nZ (fX n w k).1.xs.length (fX n w k).1.ys.length (fX n w k).1.ir=true) ?_ ?_ ?_ ?_ ?_ ?_ ?_;·intro _ _;rw [GE];exact λ_=>h
 ·intro _ _;rw [GF];exact λ_=>h
 ·intro _ _;rw [GG];exact λ_=>h
 ·intro _ _;by_cases a:n.ys.length<4096;·rw [zN n w a];intro _;unfold nZ at h ⊢;simp only [Bool.and_eq_true,decide_eq_true_eq,List.length_append,List.length_singleton] at h ⊢;omega
  ·rw [zO n w a];exact λ_=>h
 ·intro _ _;rw [e4];intro _;unfold nZ at h ⊢;simp only [Bool.and_eq_true,decide_eq_true_eq] at h ⊢;exact ⟨h.1,b⟩
 ·intro _ _;rw [GI];exact λ_=>h
 ·intro _ _ _ _ _ _;rw [GJ];intro d;cases d
theorem TF (h:(jw n a).2.2=false):(jw n a).1=0:=by
 match a,h with
 | 0,h=>cases h
 | 1,h=>cases h
 | 2,h=>cases h
 | 3,h=>cases h
 | 4,h=>cases h
 | 5,h=>cases h
 | a+6,_=>rfl
theorem FH (h:bf D=true):0<D:=by
 rcases Nat.eq_zero_or_pos D with a|a;·subst a;revert h;decide
 ·exact a
def CR (M:MV) (pa size kind x:Int):Int × Bool × MV :=
 if gi M.ram.length pa size=true then
  (if (kind==3)=true then (0,true,mW (bP M (jT M.ram (pa-2147483648).toNat x size.toNat)) pa) else (le M.ram (pa-2147483648).toNat size.toNat,true,M))
 else if (kind==2)=true then
  (if (jw M.d (gD pa size)).2.2=true then ((jw M.d (gD pa size)).1,true,cL (dc M (jw M.d (gD pa size)).2.1)) else (0,false,M))
 else if (kind==3)=true then
  (if (fX M.d x (gD pa size)).2=true then (0,true,mW (cL (dc M (fX M.d x (gD pa size)).1)) pa) else (0,false,M))
 else (0,false,M)
theorem TG:rN p w e m q=if (CR p w e m q).2.1=true then ((CR p w e m q).1,(CR p w e m q).2.2,0) else (0,(CR p w e m q).2.2,hH m):=by
 unfold rN CR;split;·split<;>rfl
 ·split;·split<;>rfl
  ·split;·split<;>rfl
   ·rfl
theorem Nq (a:bj 22 k w=true) (b:jp m=true) (c:decide (1<=q/\q<=3)=true):vM 22 k w e m q=!Ac k w e m q:=by unfold vM Ac;rw [a,b,c,Bool.not_or,Bool.not_not];rfl
structure Gd (M:MV):Prop where
 ok:dU M=true
 mw:MW M
 ux:∀ j,U (M.x.getD j 0)
 pc:U M.pc
 hd:U M.hd
theorem eU (h:dU x=true):(bits .and .u64 x.pc 3==0)=true/\gA x.x.length x.x=true/\bj x.cs.length x.cs x.pr=true/\bf x.ram.length=true/\nZ x.d.xs.length x.d.ys.length x.d.ir=true/\(x.hl||(x.hd==0))=true/\lN x=true:=by unfold dU at h;simp only [Bool.and_eq_true] at h;obtain ⟨⟨⟨⟨⟨⟨a,b⟩,c⟩,d⟩,e⟩,f⟩,g⟩:=h;exact ⟨a,b,c,d,e,f,g⟩
theorem lf (a:(bits .and .u64 M.pc 3==0)=true) (b:gA M.x.length M.x=true) (c:bj M.cs.length M.cs M.pr=true) (h4:bf M.ram.length=true) (d:nZ M.d.xs.length M.d.ys.length M.d.ir=true) (e:(M.hl||(M.hd==0))=true) (f:lN M=true):dU M=true:=by unfold dU;rw [a,b,c,h4,d,e,f];rfl
theorem Gd.len (h:Gd x):kV x:=by obtain ⟨_,a,c,d,e,_,_⟩:=eU h.ok;unfold gA at a;rw [Bool.and_eq_true,decide_eq_true_eq] at a;have b:=qO c;have g:=fT d;have f:=zD e;exact ⟨ab,ab,ab,ab,ab⟩
theorem Gd.mem (h:Gd x) (hl:l.length=x.ram.length) (i:∀ y ∈ l,(Lit.int .u8 y).wf=true):Gd (bP x l):=by obtain ⟨a,b,c,d,e,f,g⟩:=eU h.ok;exact ⟨lf (M:=bP x l) a b c (by show bf l.length=true;rw [hl];exact d) e f g,⟨h.mw.cs,i,h.mw.xs,h.mw.ys⟩,h.ux,h.pc,h.hd⟩
theorem Gd.free (h:Gd x):Gd (lL x):=by obtain ⟨a,b,c,d,e,g,f⟩:=eU h.ok;exact ⟨lf (M:=lL x) a b c d e rfl f,⟨h.mw.cs,h.mw.ram,h.mw.xs,h.mw.ys⟩,h.ux,h.pc,(show U 0 from ⟨bc,bc⟩)⟩
theorem Gd.let_ (h:Gd x) (pa:Int):Gd (mW x pa):=by
 unfold mW;split;·exact h.free
 ·exact h
theorem J9 (p:Int->Prop) (h:∀ a b c:Bool,p (Uz.wrap (Uz.wrap (Uz.wrap (8*gy a)+Uz.wrap (128*gy b))+Uz.wrap (2048*gy c)))):p (dO n):=h _ _ _
theorem Nr:bits .and .u64 (dO n) 2184=dO n:=by refine J9 n (λx=>bits .and .u64 x 2184=x) ?_;decide +kernel
theorem Qr:U (dO n):=aT _
theorem CS (a:D<64):bt (dO n) D=(bt (dO n) D&&bt 2184 D):=by have:=az (dO n) 2184 D;rw [Nr] at this;exact this
theorem Gd.dev (h:Gd x) {D:DV} (t:nZ D.xs.length D.ys.length D.ir=true) (hb:dW D):Gd (cL (dc x D)):=by
 obtain ⟨o,p,w,q,M,r,y⟩:=eU h.ok;obtain ⟨d,f,l,_,_,_⟩:=aC h.ok;have s:=eC f 9 ab;have n:bits .and .u64 (x.cs.getD 9 0) 2730=x.cs.getD 9 0:=beq_iff_eq.1 s;have u:fq 9 (bits .or .u64 (bits .andNot .u64 (x.cs.getD 9 0) 2184) (dO D))=true:=by show (bits .and .u64 (bits .or .u64 (bits .andNot .u64 (x.cs.getD 9 0) 2184) (dO D)) 2730==bits .or .u64 (bits .andNot .u64 (x.cs.getD 9 0) 2184) (dO D))=true;refine beq_iff_eq.2 (bA _ _ (ah _ _ _) (ah _ _ _) λi c=>?_);have v:bt (x.cs.getD 9 0) i=(bt (x.cs.getD 9 0) i&&bt 2730 i):=(by have:=az (x.cs.getD 9 0) 2730 i;rw [n] at this;exact this);have m:=CS D c;rw [az,cC,aA _ _ _ c];have k:∀ j,j<64->∀ a b:Bool,(a=(a&&bt 2730 j))->(b=(b&&bt 2184 j))->(((a&&!bt 2184 j)||b)&&bt 2730 j)=((a&&!bt 2184 j)||b):=cb;exact k i c _ _ v m
 have g:bo 22 (x.cs.set 9 (bits .or .u64 (bits .andNot .u64 (x.cs.getD 9 0) 2184) (dO D)))=true:=cE x.cs d f 9 ab _ u;refine ⟨lf (M:=cL (dc x D)) o p ?_ q t r ?_,⟨?_,h.mw.ram,hb.1,hb.2⟩,h.ux,h.pc,h.hd⟩;·show bj (x.cs.set 9 _).length (x.cs.set 9 _) x.pr=true;unfold bj;rw [List.length_set,d,l,Bool.and_true];exact g
 ·show (bits .and .u64 ((x.cs.set 9 (bits .or .u64 (bits .andNot .u64 (x.cs.getD 9 0) 2184) (dO D))).getD 9 0) 2184==dO D)=true;have e:(x.cs.set 9 (bits .or .u64 (bits .andNot .u64 (x.cs.getD 9 0) 2184) (dO D))).getD 9 0=bits .or .u64 (bits .andNot .u64 (x.cs.getD 9 0) 2184) (dO D):=(by rw [List.getD_eq_getElem?_getD,List.getElem?_set_self ab];rfl);rw [e];refine beq_iff_eq.2 (bA _ _ (ah _ _ _) (Qr D) λi c=>?_);have m:=CS D c;rw [az,cC,aA _ _ _ c];have k:∀ j,j<64->∀ a b:Bool,(b=(b&&bt 2184 j))->(((a&&!bt 2184 j)||b)&&bt 2184 j)=b:=cb;exact k i c _ _ m
 ·intro j;show U ((x.cs.set 9 (bits .or .u64 (bits .andNot .u64 (x.cs.getD 9 0) 2184) (dO D))).getD j 0);rw [List.getD_eq_getElem?_getD,List.getElem?_set];split
  ·split;·exact ah .or (bits .andNot .u64 (x.cs.getD 9 0) 2184) (dO D)
   ·exact ⟨bc,bc⟩
  ·have:=h.mw.cs j;rw [List.getD_eq_getElem?_getD] at this;exact this
theorem Ns (h:dW n) (k:Nat):dW (jw n k).2.1:=by
 have b:dW zeroD:=⟨λy a=>(nomatch a),λy a=>(nomatch a)⟩;unfold jw;split;·exact h
 ·exact h
 ·exact h
 ·exact ⟨λy a=>h.1 y (List.mem_of_mem_drop a),h.2⟩
 ·exact h
 ·exact h
 ·exact b
theorem Nt (h:dW n) (x addr size:Int):dW (fX n x (gD addr size)).1:=by
 have D:dW zeroD:=⟨λy a=>(nomatch a),λy a=>(nomatch a)⟩;have c:=GE n x;have g:=GF n x;have i:=GG n x;have b:(fX n x 3).1.xs=n.xs/\((fX n x 3).1.ys=n.ys\/(fX n x 3).1.ys=n.ys++[IntKind.u8.wrap x]):=by
  by_cases d:n.ys.length<4096;·rw [zN _ _ d];exact ⟨rfl,Or.inr rfl⟩
  ·rw [zO _ _ d];exact ⟨rfl,Or.inl rfl⟩
 obtain ⟨q,j⟩:∃ q,fX n x 4=(⟨n.t,n.cm,n.so,n.xs,n.ys,q⟩,true):=⟨_,GH n x⟩;have l:=GI n x;have m:=GJ n x;generalize (bits .and .u64 x 1==1)=r at c;have f:(Lit.int .u8 (IntKind.u8.wrap x)).wf=true:=MN (y:=IntKind.u8.wrap x) rz;generalize IntKind.u8.wrap x=z at b f;refine jW addr size (λk=>dW (fX n x k).1) (λ_ _=>?_) (λ_ _=>?_) (λ_ _=>?_) (λ_ _=>?_) (λ_ _=>?_) (λ_ _=>?_) (λ_ _ _ _ _ _=>?_);·show dW (fX n x 0).1;rw [c];exact ⟨h.1,h.2⟩
 ·show dW (fX n x 1).1;rw [g];exact ⟨h.1,h.2⟩
 ·show dW (fX n x 2).1;rw [i];exact ⟨h.1,h.2⟩
 ·show dW (fX n x 3).1;refine ⟨by rw [b.1];exact h.1,λy a=>?_⟩;rcases b.2 with e | e<;>rw [e] at a;·exact h.2 y a
  ·rcases List.mem_append.1 a with a|a;·exact h.2 y a
   ·rw [List.mem_singleton.1 a];exact f
 ·have e:(fX n x 4).1=⟨n.t,n.cm,n.so,n.xs,n.ys,q⟩:=congrArg Prod.fst j;exact e ▸ (⟨h.1,h.2⟩:dW ⟨n.t,n.cm,n.so,n.xs,n.ys,q⟩)
 ·show dW (fX n x 5).1;rw [l];exact h
 ·show dW (fX n x 6).1;rw [m];exact D
theorem Gd.at_ (h:Gd x) (pa size kind M:Int):Gd (rN x pa size kind M).2.1:=by
 obtain ⟨_,_,_,_,c,_,_⟩:=eU h.ok;have a:dW x.d:=⟨h.mw.xs,h.mw.ys⟩;unfold rN;split
 ·split;·exact (h.mem (jc _ _ _ _) (MO _ h.mw.ram _ _ _)).let_ pa
  ·exact h
 ·split
  ·split;·rename_i b;exact h.dev (H5 _ _ c b) (Ns _ a _)
   ·exact h
  ·split
   ·split;·rename_i b;exact (h.dev (H6 _ _ _ _ c b) (Nt _ a _ _ _)).let_ pa
    ·exact h
   ·exact h
theorem Gd.marked (h:Gd x) (F:Fd):Gd (bP x (bp x.ram F)):=h.mem (kB _ _) (Ap _ h.mw.ram F)
theorem Gd.acc (h:Gd x) (addr size kind M:Int):Gd (aE x addr size kind M).2.1:=by
 unfold aE;split;·exact h
 ·unfold xQ;split;·exact h.marked _
  ·split;·exact h.marked _
   ·exact (h.marked _).at_ _ _ _ _
theorem CT:(mW p w).pc=p.pc/\(mW p w).x=p.x/\(mW p w).pr=p.pr/\(mW p w).wt=p.wt:=by unfold mW;split<;>exact ⟨rfl,rfl,rfl,rfl⟩
theorem Qs:(rN p w e m q).2.1.pc=p.pc/\(rN p w e m q).2.1.x=p.x/\(rN p w e m q).2.1.pr=p.pr/\(rN p w e m q).2.1.wt=p.wt:=by
 unfold rN;split
 ·split;·exact CT (bP p _) w
  ·exact ⟨rfl,rfl,rfl,rfl⟩
 ·split;·split<;>exact ⟨rfl,rfl,rfl,rfl⟩
  ·split
   ·split;·exact CT (cL (dc p _)) w
    ·exact ⟨rfl,rfl,rfl,rfl⟩
   ·exact ⟨rfl,rfl,rfl,rfl⟩
theorem i7:(aE p w e m q).2.1.pc=p.pc/\(aE p w e m q).2.1.x=p.x/\(aE p w e m q).2.1.pr=p.pr/\(aE p w e m q).2.1.wt=p.wt:=by
 unfold aE;split;·exact ⟨rfl,rfl,rfl,rfl⟩
 ·unfold xQ;split;·exact ⟨rfl,rfl,rfl,rfl⟩
  ·split;·exact ⟨rfl,rfl,rfl,rfl⟩
   ·exact Qs (bP p _) _ _ _ _
theorem wX (lv:Nat):(cH k w e m q z lv).code=0\/(cH k w e m q z lv).code=ey m\/(cH k w e m q z lv).code=dJ m:=by
 unfold cH;split;·exact Or.inr (Or.inl rfl)
 ·split;·exact Or.inr (Or.inl rfl)
  ·split;·exact Or.inr (Or.inl rfl)
   ·split
    ·split;·exact Or.inl rfl
     ·exact Or.inr (Or.inr rfl)
    ·exact Or.inl rfl
theorem FI:∀ n T,(bC k a s w e m n T).code=0\/(bC k a s w e m n T).code=ey m\/(bC k a s w e m n T).code=dJ m:=by
 intro n;induction n with
 | zero =>
   intro T;rw [gR];split
   ·split
    ·split;·exact Or.inr (Or.inl rfl)
     ·split;·rw [if_pos (show jt _ 0=true from by unfold jt;simp)];exact Or.inr (Or.inl rfl)
      ·exact wX _ _ _ _ _ _ _
    ·exact Or.inr (Or.inr rfl)
   ·exact Or.inr (Or.inr rfl)
 | succ n b =>
   intro T;rw [gR];split
   ·split
    ·split;·exact Or.inr (Or.inl rfl)
     ·split
      ·split;·exact Or.inr (Or.inl rfl)
       ·exact b _
      ·exact wX _ _ _ _ _ _ _
    ·exact Or.inr (Or.inr rfl)
   ·exact Or.inr (Or.inr rfl)
theorem za:(bN k a s w e m).code=0\/(bN k a s w e m).code=ey m\/(bN k a s w e m).code=dJ m:=by
 unfold bN;split;·exact Or.inl rfl
 ·split;·exact Or.inr (Or.inl rfl)
  ·exact FI _ _ _ _ _ _ _ _
theorem Nu:ey w=12\/ey w=13\/ey w=15:=by
 unfold ey;repeat' split
 all_goals simp
theorem Ka:dJ w=1\/dJ w=5\/dJ w=7:=by
 unfold dJ;repeat' split
 all_goals simp
theorem lV:∃ c:Nat,c<16/\(bN k a s w e m).code=c:=by
 have n:=Nu m;have b:=Ka m;rcases za k a s w e m with h|h|h;·exact ⟨0,ab,h⟩
 ·rcases n with va|va|va;·exact ⟨12,ab,by rw [h,va];rfl⟩
  ·exact ⟨13,ab,by rw [h,va];rfl⟩
  ·exact ⟨15,ab,by rw [h,va];rfl⟩
 ·rcases b with va|va|va;·exact ⟨1,ab,by rw [h,va];rfl⟩
  ·exact ⟨5,ab,by rw [h,va];rfl⟩
  ·exact ⟨7,ab,by rw [h,va];rfl⟩
theorem uM:∃ c:Nat,c<16/\hH w=c+16:=by
 unfold hH;split;·exact ⟨1,ab,rfl⟩
 ·split;·exact ⟨5,ab,rfl⟩
  ·exact ⟨7,ab,rfl⟩
theorem Qt:∃ c:Nat,c<16/\oL w=c+16:=by
 unfold oL;split;·exact ⟨0,ab,rfl⟩
 ·split;·exact ⟨4,ab,rfl⟩
  ·exact ⟨6,ab,rfl⟩
theorem Qu:(rN p w e m q).2.2=0\/∃ c:Nat,c<16/\(rN p w e m q).2.2=c+16:=by
 unfold rN;split;·split<;>exact Or.inl rfl
 ·split
  ·split;·exact Or.inl rfl
   ·exact Or.inr (uM m)
  ·split
   ·split;·exact Or.inl rfl
    ·exact Or.inr (uM m)
   ·exact Or.inr (uM m)
theorem Nv:(aE p w e m q).2.2=0\/∃ c:Nat,c<16/\(aE p w e m q).2.2=c+16:=by
 unfold aE;split;·exact Or.inr (Qt m)
 ·unfold xQ;split;·obtain ⟨c,a,size⟩:=lV p.ram p.ram.length p.cs (fO p.cs p.pr m) w m;refine Or.inr ⟨c,a,?_⟩;show wrap64 ((bN p.ram p.ram.length p.cs (fO p.cs p.pr m) w m).code+16)=_;rw [size];unfold wrap64;omega
  ·split;·exact Or.inr (uM m)
   ·exact Qu _ _ _ _ _
end Go.Proofs.YtjifdmoehfbihaaGreatDoor
