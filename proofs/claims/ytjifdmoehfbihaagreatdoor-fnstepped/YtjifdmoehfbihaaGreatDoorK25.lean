/- Own lemmas. -/
import Derived.Test.YtjifdmoehfbihaaGreatDoorAut
import Derived.Test.YtjifdmoehfbihaaGreatDoorK24
import Derived.RangeFuncNested
import Derived.RangeFuncBound
import Derived.Shelf.RegionOpen
import Derived.OwnWalkIn
import Derived.LoopNIn
import Derived.LoopIn
set_option maxRecDepth 100000
set_option maxHeartbeats 4000000
namespace Go.Proofs.YtjifdmoehfbihaaGreatDoor
open Go.RowKit Tryz
open IntKind renaming u64->Uz
set_option linter.unusedVariables false
theorem gL {B:Nat} {w w':World} (h:Below B w w') (q:Nat):Below B w (w'.drewN q):=⟨h.os,h.tape,h.output,h.size,h.block⟩
def Gn (k:Int):Bool:=(k==1)||(k==2)||(k==3)
theorem qG (k:Int):Gn k=decide (1<=k/\k<=3):=by
 unfold Gn;by_cases a:k=1;·subst a;rfl
 ·by_cases b:k=2;·subst b;rfl
  ·by_cases c:k=3;·subst c;rfl
   ·have:¬ (1<=k/\k<=3):=by omega
    rw [decide_eq_false this];simp [a,b,c]
theorem lz (k:Int) (w:World):CE 90 #[.i k] w (.bool (Gn k)):=by refine bz (S:=λx=>x=w) (args:=[.i k]) [] func90 ?_;unfold Gn;cases a:(k==1)<;>cases b:(k==2)<;>cases c:(k==3)<;>exact jE (R:=[]) trivial {eq:=[(4,aj a),(7,aj b),(11,aj c)]} 40 (t:=2) ⟨rfl,rfl⟩
def BJ (k:Int):Int:=if (k==1)=true then 4 else if (k==2)=true then 1 else 2
theorem BK (k:Int) (w:World):CE 250 #[.i k] w (.u (BJ k)):=by refine bz (S:=λx=>x=w) (args:=[.i k]) [] func250 ?_;unfold BJ;cases a:(k==1)<;>cases b:(k==2)<;>exact jE (R:=[]) trivial {eq:=[(5,aj a),(7,aj b)]} 40 (t:=2) ⟨rfl,rfl⟩
def Es (b a x y:Int):Bool:=decide (b<=x)&&decide (y<=a)
theorem Et (b a r x y:Int) (w:World):CB 231 #[.agg #[.u b,.u a,.u r],.u x,.u y] w (.bool (Es b a x y)):=by refine bz (S:=Bs w [(#[.u b,.u a,.u r],90)]) (args:=[.agg #[.u b,.u a,.u r],.u x,.u y]) [(#[.u b,.u a,.u r],90)] func231 ?_;unfold Es;cases d:decide (b<=x)<;>cases f:decide (y<=a)<;>exact aY (t:=6) Bs.eng {eq:=[(10,aj d),(15,aj f)]} 60 (Bs.start _ _) (λc h=>⟨rfl,h.2⟩)
def ox (r p k:Int):Bool:=((p==3)&&(bits .and .u64 r 128==0))||(bits .and .u64 r (BJ k) != 0)
theorem Eu (b a r p k:Int) (w:World):CB 232 #[.agg #[.u b,.u a,.u r],.i p,.i k] w (.bool (ox r p k)):=by refine bz (S:=Bs w [(#[.u b,.u a,.u r],90)]) (args:=[.agg #[.u b,.u a,.u r],.i p,.i k]) [(#[.u b,.u a,.u r],90)] func232 ?_;have d:=BK k;unfold ox;generalize BJ k=m at *;cases f:(p==3)<;>cases g:(bits .and .u64 r 128==0)<;>cases i:(bits .and .u64 r m != 0)<;>exact aY (t:=6) Bs.eng {eq:=[(8,aj f),(13,aj g),(20,aj i)],cv:=[(18,mM λW _=>d W)]} 60 (Bs.start _ _) (λc h=>⟨rfl,h.2⟩)
theorem zw (b d cap:Nat) (l:List Int) (i:Nat) (q:i<4) (w:World) (c:w.cell? ⟨b,d+(16+i),none⟩=some (.u (l.getD (16+i) 0))):CB 174 #[.slice (some ⟨b,d,none⟩) 22 cap,.i i] w (.u (sL l i)):=by
 have F:Hid (sL l i=if (i==0)=true then 0 else Uz.wrap (4*l.getD (16+i) 0)):=(rfl:sL l i=_);rcases Nat.eq_zero_or_pos i with h|h;·subst h;go_enter func174,ntmps174;exact a0a
 ·have p:((i:Int)==0)=false:=bh;have m:wrap64 (17+(i:Int))=((17+i:Nat):Int):=lr;have j:wrap64 (((17+i:Nat):Int)-1)=((16+i:Nat):Int):=lr;have g:0<=((16+i:Nat):Int)/\((16+i:Nat):Int)<((22:Nat):Int):=ab;have f:Hid (sL l i=Uz.wrap (4*l.getD (16+i) 0)):=(by have:=F.out;rw [if_neg bh] at this;exact this);clear F;generalize l.getD (16+i) 0=a at *;go_enter func174,ntmps174;go_wp2_with fail;go_ret;exact ⟨by rw [f.out];rfl,Below.refl _ _⟩
theorem RK (x y:Int) (i:Nat):bt (bits .xor .u64 x y) i=(bt x i ^^ bt y i):=by show (BitVec.ofInt 64 (Uz.wrap ((BitVec.ofInt 64 x ^^^ BitVec.ofInt 64 y).toNat:Int))).getLsbD i=_;rw [pU];simp [bt]
theorem OS (a:Nat) (h:a<18446744073709551616):bits .xor .u64 IntKind.u64.max (a:Int)=((18446744073709551615-a:Nat):Int):=by
 have e:IntKind.u64.max=18446744073709551615:=rfl;rw [e];refine br _ _ (af _ _ _) ⟨ab,ab⟩ λi b=>?_;rw [RK,zp i b,nW _ ⟨ab,ab⟩,nW _ ⟨ab,ab⟩];have e2:(18446744073709551615-a:Nat)=2^64-(a+1):=ab
 simp only [Int.toNat_natCast];rw [e2,Nat.testBit_two_pow_sub_succ h,decide_eq_true b];simp
theorem vD (a:Int) (x z k:Nat) (q:bits .xor .u64 IntKind.u64.max a=(x:Int)) (hk:min z 53=k) (o:k<=53) (w:World) (l:Hid (CE 223 #[.u x] w (.i z))):CB 175 #[.u a] w (.tuple #[.u (qF a k),.u (sM a k)]):=by
 have j:Hid (min z 53=k):=hk;have p:IntKind.u64.signed=false:=rfl;clear hk;go_enter func175,ntmps175;go_wp2_with fail;refine l.out.mono ?_;rintro e r ⟨rfl,d⟩;have f:=d.symm;subst f;go_wp2_with fail;case inl =>
  rename_i b;have c:Hid (k=53):=(by have:=j.out;show k=53;omega);go_quiet (fail)
  go_wp2_with fail;go_ret2;exact ⟨by rw [c.out];rfl,gL (Below.refl _ _) _⟩
 case inr =>
  rename_i b;have m:Hid (k=z):=(by have:=j.out;show k=z;omega);go_quiet (fail)
  go_wp2_with fail;go_ret2;exact ⟨by rw [m.out];rfl,gL (Below.refl _ _) _⟩
theorem xa (a:Int) (h:U a) (w:World) (c:qV w):CB 175 #[.u a] w (.tuple #[.u (qF a (qE a)),.u (sM a (qE a))]):=by
 obtain ⟨n,rfl⟩:∃ n:Nat,a=n:=⟨a.toNat,by have:=h.1;omega⟩;have d:n<18446744073709551616:=by have:=h.2;omega
 have b:(18446744073709551615-(n:Int)).toNat=18446744073709551615-n:=ab
 refine vD (n:Int) (18446744073709551615-n) (Lib.ctz 64 (18446744073709551615-n)) _ (OS n d) ?_ ?_ w (Ry _ ab w c);·unfold qE;rw [b]
 ·unfold qE;exact Nat.min_le_right _ _
theorem LH (b c cap:Nat) (l:List Int) (i:Nat) (D:i<4) (w:World) (C:qV w) (hl:∀ j,U (l.getD j 0)) (d:w.cell? ⟨b,c+16,none⟩=some (.u (l.getD 16 0))) (p:w.cell? ⟨b,c+(17+i),none⟩=some (.u (l.getD (17+i) 0))) (n:w.cell? ⟨b,c+(16+i),none⟩=some (.u (l.getD (16+i) 0))):CB 107 #[.slice (some ⟨b,c,none⟩) 22 cap,.i i] w (.tuple #[.u (eH l i).1,.u (eH l i).2]):=by
 have u:b<w.heap.size:=World.block_lt_of_cell? w _ d;have HR:=λW (_:Bw w W)=>(qs (l.getD 16 0) i ab (hl 16).1 (hl 16).2 W).mono λe g (h:_/\g=W.drew)=>(⟨h.1,by rw [h.2];exact (Below.refl _ _).drew⟩:_/\Bw W g);have z:=λW (k:Bw w W)=>zw b c cap l i D W ((k.cell (by exact u)).trans n);have A:=λW (k:Bw w W)=>xa (l.getD (17+i) 0) (hl (17+i)) W (C.below k);have r:IntKind.i64.wrap (17+(i:Int))=((17+i:Nat):Int):=by rw [IntKind.wrap_i64];omega
 have m:0<=((17+i:Nat):Int)/\((17+i:Nat):Int)<((22:Nat):Int):=ab
 obtain ⟨V,f⟩:∃ V,V=eH l i:=⟨_,rfl⟩;rw [<- f];unfold eH at f;generalize sL l i=F at *;generalize qE (l.getD (17+i) 0)=on at *;generalize qF (l.getD (17+i) 0) on=pl at *;generalize sM (l.getD (17+i) 0) on=G at *;generalize ix (l.getD 16 0) i=q at *;generalize l.getD (17+i) 0=a at *;generalize l.getD 16 0=B at *;refine bz (S:=Bs w []) (args:=[.slice (some ⟨b,c,none⟩) 22 cap,.i i]) [] func107 ?_;cases v:(q==1)<;>cases x:(q==2)<;>cases y:(q==3)<;>rw [v,x,y] at f<;>subst f <;>
  exact eC (t:=4) (s:=5) Bs.eng {eq:=[(9,dI .i64 r),(18,aj v),(25,aj x),(32,aj y)],ov:=[(10,kN (a:=some ⟨b,c,none⟩) (b:=b) (o:=c) 22 cap .i64 ((17+i:Nat):Int) rfl m underlying23 al),(11,iR ⟨b,c+((17+i:Nat):Int).toNat,none⟩ (.u a) underlying22 rfl λW h=>(h.2.cell (by exact u)).trans p),(14,iR ⟨b,c+16,none⟩ (.u B) underlying22 rfl λW h=>(h.2.cell (by exact u)).trans d)],cv:=[(16,fW HR),(21,fW z),(34,fW A)]} 60 (Bs.start _ _) λE h=>⟨rfl,h.2⟩
end Go.Proofs.YtjifdmoehfbihaaGreatDoor
namespace Go.Proofs.YtjifdmoehfbihaaGreatDoor
open Go.RowKit Tryz Go.Shelf
open IntKind renaming u64->Uz
set_option linter.unusedVariables false
attribute [local go_sem] Oper.semAt_some
theorem rH {w w':World} (hb:Bw w w') (row:Option Nat):w.grownBy w' row:=⟨hb.os,hb.tape,hb.output,hb.size,λk a _=>hb.block k a⟩
def LK (x:Nat × Int × Int × Int):Array Value:=#[.i (x.1:Int),.agg #[.u x.2.1,.u x.2.2.1,.u x.2.2.2]]
theorem BL (n:Nat) (lp Bs c b d cap:Nat) (l:List Int) (hl:∀ j,U (l.getD j 0)) (J Y:List (Nat × Int × Int × Int)->World->Prop) (hb:b<c) (L:Bs<c) (hg:0<c) (W:World) (hn:c<=W.heap.size) (hT:qV W) (hc:W.cell? ⟨Bs,0,none⟩=some (.slice (some ⟨b,d,none⟩) 22 cap)) (hs:∀ j,j<22->W.cell? ⟨b,d+j,none⟩=some (.u (l.getD j 0))) (hJ:AbidesFrom W.heap.size J) (hY:∀ pre x D,J pre D->pre.length<4->YieldAt Fence.wide (n-1) prog lp (LK x) D λe s=>(e=.returned (.bool true)/\J (pre++[x]) s/\Below c D s)\/(e=.returned (.bool false)/\Y (pre++[x]) s)) (h0:J [] W):CallsIn Fence.wide n prog 106 #[.func (.yield lp) #[] #[],.p Bs 0] W λe s=>(∃ v,e=.returned v)/\((∃ ys,ys=fU l 4/\J ys s)\/(∃ pre,pre <+: fU l 4/\Y pre s)):=by
 have HC:Hid (W.cell? ⟨Bs,0,none⟩=some (.slice (some ⟨b,d,none⟩) 22 cap)):=hc;have X:Hid (∀ j,j<22->W.cell? ⟨b,d+j,none⟩=some (.u (l.getD j 0))):=hs;have HT:Hid (qV W):=hT;have HY:Hid (∀ pre x D,J pre D->pre.length<4->YieldAt Fence.wide (n-1) prog lp (LK x) D λe s=>(e=.returned (.bool true)/\J (pre++[x]) s/\Below c D s)\/(e=.returned (.bool false)/\Y (pre++[x]) s)):=hY;have HJ:Hid (AbidesFrom W.heap.size J):=hJ;have HL:Hid (∀ j,U (l.getD j 0)):=hl;clear hc hs hT hY hJ hl;refine callsIn_of_wp func106 rfl trivial ?_ rfl;simp only [ntmps106,List.size_toArray,List.length_cons,List.length_nil,Nat.reduceAdd,Nat.reduceSub,Array.replicate_succ,Array.replicate_zero,List.push_toArray,List.append_toArray,List.nil_append,List.cons_append];gi_wp2;gi_loopw [7] (λi wr=>∃ k:Nat,k<=4/\i=.i k/\J (fU l k) wr/\Below c W wr) (λi _=>4-(intOf i).toNat);case atStart=>exact ⟨0,ab,rfl,h0,Below.refl _ _⟩
 case round =>
  obtain ⟨k,hk,rfl,N,t⟩:=hrel;have y:Hid (Below c W wr):=t;have C:Hid (J (fU l k) wr):=N;have hcw:wr.cell? ⟨Bs,0,none⟩=some (.slice (some ⟨b,d,none⟩) 22 cap):=(t.cell (p:=⟨Bs,0,none⟩) L).trans HC.out;have q:c<=wr.heap.size:=Nat.le_trans hn t.size;clear t N;by_cases hlt:k<4
  ·have m:Hid (CB 107 #[.slice (some ⟨b,d,none⟩) 22 cap,.i k] wr (.tuple #[.u (eH l k).1,.u (eH l k).2])):=
    LH b d cap l k hlt wr (HT.out.from y.out hg) HL.out ((y.out.cell (p:=⟨b,d+16,none⟩) hb).trans (X.out 16 ab)) ((y.out.cell (p:=⟨b,d+(17+k),none⟩) hb).trans (X.out (17+k) ab)) ((y.out.cell (p:=⟨b,d+(16+k),none⟩) hb).trans (X.out (16+k) ab))
   by_cases o:(eH l k).2<=(eH l k).1
   ·have I:Hid (fU l (k+1)=fU l k):=IW o;have O:decide ((eH l k).1>=(eH l k).2)=true:=(by simpa using o);gi_wp2_with fail;refine ⟨trivial,(λh=>l0),(callsIn_wide.2 m.out).mono ?_⟩;rintro e f ⟨rfl,g⟩;clear m;have A:Hid (J (fU l (k+1)) f):=(by have:=HJ.out _ wr f none C.out (rH g none) (λr e=>un);rw [I.out];exact this);have z:Hid (Below c W f):=y.out.trans (g.mono q);gi_wp2_with fail;go_roundw;case rel=>exact ⟨k+1,ab,cp,A.out,z.out⟩
    case measure=>simp [intOf];omega
   ·have O:decide ((eH l k).1>=(eH l k).2)=false:=(by simpa using o);have I:Hid (fU l (k+1)=fU l k++[(k,(eH l k).1,Uz.wrap ((eH l k).2-1),cQ (l.getD 16 0) (8*k) 8)]):=IY o;have HPB:Hid (∀ w,Calls prog 108 #[.u (l.getD 16 0),.i k] w λe w'=>e=.returned (.u (cQ (l.getD 16 0) (8*k) 8))/\w'=w.drew):=λw=>om _ k ab (HL.out 16).1 (HL.out 16).2 w;have H:Hid (∀ f,Bw wr f->f.cell? ⟨b,d+16,none⟩=some (.u (l.getD 16 0))/\f.cell? ⟨Bs,0,none⟩=some (.slice (some ⟨b,d,none⟩) 22 cap)):=λf h1 =>
     ⟨(h1.cell (p:=⟨b,d+16,none⟩) (Nat.lt_of_lt_of_le hb q)).trans ((y.out.cell (p:=⟨b,d+16,none⟩) hb).trans (X.out 16 ab)),(h1.cell (p:=⟨Bs,0,none⟩) (Nat.lt_of_lt_of_le L q)).trans hcw⟩
    have HLN:Hid ((fU l k).length<4):=(by have:=LA l k;show (fU l k).length<4;omega);have HPR:Hid (fU l (k+1) <+: fU l 4):=(by have:=LC l (4-(k+1)) (k+1);rw [show k+1+(4-(k+1))=4 from ab] at this;exact this);generalize cQ (l.getD 16 0) (8*k) 8=E at *;generalize l.getD 16 0=c16 at *;obtain ⟨T,Q⟩:∃ T,(eH l k).1=T:=⟨_,rfl⟩;obtain ⟨s2,R⟩:∃ s2,(eH l k).2=s2:=⟨_,rfl⟩;rw [Q,R] at m I O;clear Q R o;gi_wp2_with fail;refine ⟨trivial,(λh=>l0),(callsIn_wide.2 m.out).mono ?_⟩;rintro e f ⟨rfl,g⟩;clear m;obtain ⟨hc1,hc2⟩:=H.out f g;have A:Hid (J (fU l k) f):=HJ.out _ wr f none C.out (rH g none) (λr e=>un);have z:Hid (Below c W f):=y.out.trans (g.mono q);have S:Hid (c<=f.heap.size):=Nat.le_trans q g.size;clear g;gi_wp2_with fail;refine ⟨trivial,(λh=>l0),(callsIn_wide.2 (HPB.out _)).mono ?_⟩;rintro e w2 ⟨rfl,hw2⟩;subst hw2;gi_wp2_with fail;obtain ⟨V,F⟩:∃ V,Uz.wrap (s2-1)=V:=⟨_,rfl⟩;have K:Hid (fU l (k+1)=fU l k++[(k,T,V,E)]):=(by have:=I.out;rw [F] at this;exact this);rw [F];clear F I;have G:Hid (Bw f ((f.alloc (.cells #[.u T,.u V,.u E] 90)).drew)):=(bal _ _).drew;obtain ⟨fn,tmps,assign,body,hy,hR⟩:=HY.out (fU l k) (k,T,V,E) _ (HJ.out _ f _ none A.out (rH G.out none) (λr e=>un)) HLN.out;simp only [LK] at hy;rw [hy];gi_wp2_with fail;refine ⟨(λh=>l0),hR.mono ?_⟩;rintro e W3 (⟨rfl,M,P⟩ | ⟨rfl,u⟩)
    ·have B:Hid (J (fU l (k+1)) W3):=(by rw [K.out];exact M);have Z:Hid (Below c W W3):=(z.out.trans (G.out.mono S.out)).trans P;clear M P;gi_wp2_with fail;go_roundw;case rel=>exact ⟨k+1,ab,cp,B.out,Z.out⟩
     case measure=>simp [intOf];omega
    ·have B:Hid (Y (fU l (k+1)) W3):=(by rw [K.out];exact u);clear u;gi_wp2_with fail;refine bodyPost_ret (results_none rfl _ _ _) rfl ?_;exact ⟨⟨_,rfl⟩,.inr ⟨_,HPR.out,B.out⟩⟩
  ·obtain rfl:k=4:=ab;gi_wp2_with fail;go_end0;exact ⟨⟨_,rfl⟩,.inl ⟨_,rfl,C.out⟩⟩
theorem Ev (n:Nat) (a:Option Addr) (m cap:Nat) (w:World):CallsIn Fence.wide n prog 63 #[.slice a m cap] w λe b=>e=.returned (.func (.func 106) #[] #[.p w.heap.size 0])/\b=w.alloc (.cells #[.slice a m cap] 23):=by refine callsIn_of_wp func63 rfl trivial ?_ rfl;simp only [ntmps63,List.size_toArray,List.length_cons,List.length_nil,Nat.reduceAdd,Nat.reduceSub,Array.replicate_succ,Array.replicate_zero,List.push_toArray,List.append_toArray,List.nil_append,List.cons_append];gi_wp2;go_ret;exact a06
theorem xb (n:Nat) (Bs a b c cap:Nat) (l:List Int) (hl:∀ j,U (l.getD j 0)) (hb:b<a) (d:Bs<a) (f:0<a) (w:World) (hn:a<=w.heap.size) (m:qV w)
 (q:w.cell? ⟨Bs,0,none⟩=some (.slice (some ⟨b,c,none⟩) 22 cap)) (hs:∀ j,j<22->w.cell? ⟨b,c+j,none⟩=some (.u (l.getD j 0))) :
 SeqStopsK Fence.wide n prog 106 #[.p Bs 0] LK (Below a) (λt=>t=fU l 4) (λpre=>pre <+: fU l 4) 4 w:=λs J g W e i k o h =>
 BL n s Bs a b c cap l hl J g hb d f W (Nat.le_trans hn e.size) (m.from e (Nat.lt_of_lt_of_le f hn)) ((e.cell (p:=⟨Bs,0,none⟩) (Nat.lt_of_lt_of_le d hn)).trans q)
  (λj r=>(e.cell (p:=⟨b,c+j,none⟩) (Nat.lt_of_lt_of_le hb hn)).trans (hs j r)) i o h
theorem lA {A B:World} {row:Option Nat} {g:Nat} {cs:Array Value} {t:TypeId} {f:Nat × Nat} (h:A.heap[g]?=some (.cells cs t f)) (c:A.grownBy B row) (hr:∀ r,row=some r->∃ o:Obj,A.heap[r]?=some o/\o.isCells=false):B.heap[g]?=some (.cells cs t f):=by refine (c.block g (Array.getElem?_eq_some_iff.1 h).1 λe=>?_).trans h;obtain ⟨o,a,b⟩:=hr g e.symm;rw [h] at a;cases a;cases b
end Go.Proofs.YtjifdmoehfbihaaGreatDoor
namespace Go.Proofs.YtjifdmoehfbihaaGreatDoor
open Go.RowKit Tryz Go.Shelf
open IntKind renaming u64->Uz
set_option linter.unusedVariables false
attribute [local go_sem] Oper.semAt_some
theorem eR {W:World} {g B j:Nat} {o:Obj} (h:W.heap[g]?=some o) (a:g≠B) (v:Value):(W.setCell ⟨B,j,none⟩ v).heap[g]?=some o:=by simp only [World.setCell];rw [Array.getElem?_modify,if_neg (by simpa using Ne.symm a)];exact h
theorem tO {W:World} {g D:Nat} {o b:Obj} (h:W.heap[g]?=some o) (a:g≠D):(W.putObj D b).heap[g]?=some o :=
 ((grownBy_putObj' W D b).block g (Array.getElem?_eq_some_iff.1 h).1 pp).trans h
theorem oV {W:World} {g:Nat} {cs:Array Value} {t:TypeId} {f:Nat × Nat} (h:W.heap[g]?=some (.cells cs t f)) (j:Nat):W.cell? ⟨g,j,none⟩=cs[j]?:=by simp [World.cell?,h]
theorem rI {W:World} {g:Nat} {o:Obj} (h:W.heap[g]?=some o) (a:Obj):(W.alloc a).heap[g]?=some o:=(Below.heap_alloc W a g (Array.getElem?_eq_some_iff.1 h).1).trans h
theorem zx (b g cap:Nat) (l:List Int) (x y:Int) (w:World) (hbw:b<w.heap.size) (hs:∀ j,j<22->w.cell? ⟨b,g+j,none⟩=some (.u (l.getD j 0))) (hl:∀ j,U (l.getD j 0)) (hT:qV w):CB 230 #[.slice (some ⟨b,g,none⟩) 22 cap,.u x,.u y] w (.tuple #[.agg #[.u (kI l x y).1,.u (kI l x y).2.1,.u (kI l x y).2.2.1],.bool (kI l x y).2.2.2]):=by
 have HS:Hid (∀ j,j<22->w.cell? ⟨b,g+j,none⟩=some (.u (l.getD j 0))):=hs;have HL:Hid (∀ j,U (l.getD j 0)):=hl;have HT:Hid (qV w):=hT;clear hs hl hT;refine (callsIn_wide (n:=3)).1 ?_;refine callsIn_of_wp_marks func230 rfl trivial ?_ rfl;simp only [ntmps230,List.size_toArray,List.length_cons,List.length_nil,Nat.reduceAdd,Nat.reduceSub,Array.replicate_succ,Array.replicate_zero,List.push_toArray,List.append_toArray,List.nil_append,List.cons_append];gi_wp2_with fail;refine ⟨trivial,(Ev _ _ _ _ _).mono ?_⟩;rintro e N ⟨rfl,rfl⟩;gi_wp2_with fail;have bX:=((((Boxed.new w 22 (.u x)).alloc (.cells #[.u y] 22)).alloc (.cells #[.u 0,.u 0,.u 0] 90)).alloc (.cells #[.bool false] 4)).alloc (.cells #[.slice (some ⟨b,g,none⟩) 22 cap] 23);have bY:=(((Boxed.new (w.alloc (.cells #[.u x] 22)) 22 (.u y)).alloc (.cells #[.u 0,.u 0,.u 0] 90)).alloc (.cells #[.bool false] 4)).alloc (.cells #[.slice (some ⟨b,g,none⟩) 22 cap] 23);have bR:=rI (rI (World.alloc_heap_new ((w.alloc (.cells #[.u x] 22)).alloc (.cells #[.u y] 22)) (.cells #[.u 0,.u 0,.u 0] 90)) (.cells #[.bool false] 4)) (.cells #[.slice (some ⟨b,g,none⟩) 22 cap] 23);have bB:=(Boxed.new (((w.alloc (.cells #[.u x] 22)).alloc (.cells #[.u y] 22)).alloc (.cells #[.u 0,.u 0,.u 0] 90)) 4 (.bool false)).alloc (.cells #[.slice (some ⟨b,g,none⟩) 22 cap] 23);have bS:=Boxed.new ((((w.alloc (.cells #[.u x] 22)).alloc (.cells #[.u y] 22)).alloc (.cells #[.u 0,.u 0,.u 0] 90)).alloc (.cells #[.bool false] 4)) 23 (.slice (some ⟨b,g,none⟩) 22 cap);simp only [World.size_alloc] at bY bR bB bS;have L:Bw w (((((w.alloc (.cells #[.u x] 22)).alloc (.cells #[.u y] 22)).alloc (.cells #[.u 0,.u 0,.u 0] 90)).alloc (.cells #[.bool false] 4)).alloc (.cells #[.slice (some ⟨b,g,none⟩) 22 cap] 23)):=(((((Below.refl _ w).alloc (Nat.le_refl _) _).alloc cp _).alloc bh _).alloc bh _).alloc bh _;have hz6:(((((w.alloc (.cells #[.u x] 22)).alloc (.cells #[.u y] 22)).alloc (.cells #[.u 0,.u 0,.u 0] 90)).alloc (.cells #[.bool false] 4)).alloc (.cells #[.slice (some ⟨b,g,none⟩) 22 cap] 23)).heap.size=w.heap.size+5:=cp
 obtain ⟨N,S⟩:∃ N,((((w.alloc (.cells #[.u x] 22)).alloc (.cells #[.u y] 22)).alloc (.cells #[.u 0,.u 0,.u 0] 90)).alloc (.cells #[.bool false] 4)).alloc (.cells #[.slice (some ⟨b,g,none⟩) 22 cap] 23)=N:=⟨_,rfl⟩;rw [S] at bX bY bR bB bS L hz6 ⊢;clear S;have hT6:qV N:=HT.out.below L;have hs6:∀ j,j<22->N.cell? ⟨b,g+j,none⟩=some (.u (l.getD j 0)):=λj hj=>(L.cell (p:=⟨b,g+j,none⟩) hbw).trans (HS.out j hj);have hg5:0<w.heap.size:=HT.out.lt;refine wpIn_rangeFunc_ownH rfl ab (gf:=106) (lb:=#[.p (w.heap.size+1+1+1+1) 0]) rfl trivial (enters_of func106 al rfl)
  (xb 2 (w.heap.size+1+1+1+1) (w.heap.size+5) b g cap l HL.out ab ab ab N ab hT6 bS.cell hs6) belowK_t (belowK_b ab) (Below.refl _ _) (λ_=>rfl)
  (λpre W=>((∀ p ∈ pre,js x y p=false)/\Boxed W w.heap.size 22 (.u x)/\Boxed W (w.heap.size+1) 22 (.u y)/\W.heap[w.heap.size+1+1]?=some (.cells #[.u 0,.u 0,.u 0] 90 (0,0))/\Boxed W (w.heap.size+1+1+1) 4 (.bool false)/\w.heap.size+5<=W.heap.size)/\Bw w W)
  (λc pre W=>(c=.ret/\∃ C d,pre=C++[d]/\(∀ p ∈ C,js x y p=false)/\js x y d=true/\W.heap[w.heap.size+1+1]?=some (.cells #[.u d.2.1,.u d.2.2.1,.u d.2.2.2] 90 (0,0))/\Boxed W (w.heap.size+1+1+1) 4 (.bool true))/\Bw w W)
  (OwnFrom.and (λs A B row hs H I=>⟨hs.1,lA hs.2.1 H (λr e=>(I r e).2),lA hs.2.2.1 H (λr e=>(I r e).2),lA hs.2.2.2.1 H (λr e=>(I r e).2),lA hs.2.2.2.2.1 H (λr e=>(I r e).2),Nat.le_trans hs.2.2.2.2.2 H.size⟩) (ownFrom_below (Nat.le_refl _) ab))
  (λc=>OwnFrom.and (λs A B row hs H I=>by obtain ⟨hc,C,d,e1,e2,e3,e4,e5⟩:=hs;exact ⟨hc,C,d,e1,e2,e3,lA e4 H (λr e=>(I r e).2),lA e5 H (λr e=>(I r e).2)⟩) (ownFrom_below (Nat.le_refl _) ab))
  ⟨⟨cp,bX,bY,bR,bB,ab⟩,L⟩
  (λq a' W=>∃ J,w.heap.size+4<=J/\W.heap[J]?=some (.cells #[.u q.2.1,.u q.2.2.1,.u q.2.2.2] 90 (0,0))/\a'={tmps:=#[.slice (some ⟨b,g,none⟩) 22 cap,.u x,.u y,undef,.p w.heap.size 0,.p (w.heap.size+1) 0,.p (w.heap.size+1+1) 0,.p (w.heap.size+1+1+1) 0,undef,.p J 0,.slice (some ⟨b,g,none⟩) 22 cap,.func (.func 106) #[] #[.p (w.heap.size+1+1+1+1) 0],.i (q.1:Int),.agg #[.u q.2.1,.u q.2.2.1,.u q.2.2.2],undef,undef,undef,undef,undef,undef,undef,undef,undef,undef,undef,undef],defers:=[]})
  (λq a' _ X Y row hs H I=>by obtain ⟨J,Z,h2,h3⟩:=hs;exact ⟨J,Z,lA h2 H (λr e=>(I r e).2),h3⟩)
  ?assign ?body ?done ?stop
 case assign =>rintro lp pre q W K ⟨⟨O,t,u,f,m,z⟩,o⟩ R;simp only [LK];gi_wp2_with fail;exact R _ _ ((KeepsOthers.alloc _ _).from _) ((Below.refl _ W).alloc z _) ⟨⟨O,t.alloc _,u.alloc _,rI f _,m.alloc _,bh⟩,o.alloc o.size _⟩ ⟨W.heap.size,m.lt,World.alloc_heap_new W _,rfl⟩
 case body =>
  rintro lp pre q a' W hlp ⟨r,I⟩ ⟨⟨O,t,u,f,m,z⟩,o⟩ ⟨J,hBx,bQ,rfl⟩ hlt;have q0:W.cell? ⟨J,0,none⟩=some (.u q.2.1):=(by simp [World.cell?,bQ]);have q1:W.cell? ⟨J,1,none⟩=some (.u q.2.2.1):=(by simp [World.cell?,bQ]);have q2:W.cell? ⟨J,2,none⟩=some (.u q.2.2.2):=(by simp [World.cell?,bQ]);have cX:=t.cell;have cY:=u.cell;have M:Hid (js x y q=(decide (q.2.1<=y)&&decide (x<=q.2.2.1))):=(rfl:js x y q=_);cases Z:decide (q.2.1<=y) with
  | false =>rw [Z] at M;have V:Hid (js x y q=false):=M.out;gi_wp2_with fail;exact ⟨KeepsFrom.refl _ _,Below.refl _ _,⟨λp P=>(List.mem_append.1 P).elim (O p) (λe=>by simp at e;subst e;exact V.out),t,u,f,m,z⟩,o⟩
  | true =>
    rw [Z] at M;cases h2:decide (x<=q.2.2.1) with
    | false =>rw [h2] at M;have V:Hid (js x y q=false):=M.out;gi_wp2_with fail;exact ⟨KeepsFrom.refl _ _,Below.refl _ _,⟨λp P=>(List.mem_append.1 P).elim (O p) (λe=>by simp at e;subst e;exact V.out),t,u,f,m,z⟩,o⟩
    | true =>
      rw [h2] at M;have V:Hid (js x y q=true):=M.out;have r0:W.cell? ⟨w.heap.size+1+1,0,none⟩=some (.u 0):=ro;have r1:W.cell? ⟨w.heap.size+1+1,1,none⟩=some (.u 0):=ro;have r2:W.cell? ⟨w.heap.size+1+1,2,none⟩=some (.u 0):=ro;have g0:W.frozen? ⟨w.heap.size+1+1,0,none⟩=false:=pm;have g1:W.frozen? ⟨w.heap.size+1+1,1,none⟩=false:=pm;have g2:W.frozen? ⟨w.heap.size+1+1,2,none⟩=false:=pm;have cB:=m.cell;have fB:=m.frozen;have Z1:Hid (KeepsFrom N.heap.size W ((((W.setCell ⟨w.heap.size+1+1,0,none⟩ (.u q.2.1)).setCell ⟨w.heap.size+1+1,1,none⟩ (.u q.2.2.1)).setCell ⟨w.heap.size+1+1,2,none⟩ (.u q.2.2.2)).setCell ⟨w.heap.size+1+1+1,0,none⟩ (.bool true))):=((((KeepsOthers.setCell W _ _).trans (KeepsOthers.setCell _ _ _)).trans (KeepsOthers.setCell _ _ _)).trans (KeepsOthers.setCell _ _ _)).from _
      have Z2:Hid (((((W.setCell ⟨w.heap.size+1+1,0,none⟩ (.u q.2.1)).setCell ⟨w.heap.size+1+1,1,none⟩ (.u q.2.2.1)).setCell ⟨w.heap.size+1+1,2,none⟩ (.u q.2.2.2)).setCell ⟨w.heap.size+1+1+1,0,none⟩ (.bool true)).heap[w.heap.size+1+1]?=some (.cells #[.u q.2.1,.u q.2.2.1,.u q.2.2.2] 90 (0,0))):=eR (jF (jF (jF f _) _) _) ab _;have Z3:Hid (Boxed ((((W.setCell ⟨w.heap.size+1+1,0,none⟩ (.u q.2.1)).setCell ⟨w.heap.size+1+1,1,none⟩ (.u q.2.2.1)).setCell ⟨w.heap.size+1+1,2,none⟩ (.u q.2.2.2)).setCell ⟨w.heap.size+1+1+1,0,none⟩ (.bool true)) (w.heap.size+1+1+1) 4 (.bool true)):=Boxed.set _ (v:=.bool false) (eR (eR (eR m ab _) ab _) ab _);have Z4:Hid (Bw w ((((W.setCell ⟨w.heap.size+1+1,0,none⟩ (.u q.2.1)).setCell ⟨w.heap.size+1+1,1,none⟩ (.u q.2.2.1)).setCell ⟨w.heap.size+1+1,2,none⟩ (.u q.2.2.2)).setCell ⟨w.heap.size+1+1+1,0,none⟩ (.bool true))):=(((o.setCell (p:=⟨w.heap.size+1+1,0,none⟩) bh _).setCell (p:=⟨w.heap.size+1+1,1,none⟩) bh _).setCell (p:=⟨w.heap.size+1+1,2,none⟩) bh _).setCell (p:=⟨w.heap.size+1+1+1,0,none⟩) bh _;gi_wp2_with fail;exact ⟨Z1.out,⟨rfl,pre,q,rfl,O,V.out,Z2.out,Z3.out⟩,Z4.out⟩
 case done =>rintro D ys W hD rfl ⟨⟨O,t,u,f,m,z⟩,o⟩ R;have FN:Hid (kI l x y=(0,0,0,false)):=(by show kI l x y=_;unfold kI;rw [I0 O]);have r0:W.cell? ⟨w.heap.size+1+1,0,none⟩=some (.u 0):=ro;have r1:W.cell? ⟨w.heap.size+1+1,1,none⟩=some (.u 0):=ro;have r2:W.cell? ⟨w.heap.size+1+1,2,none⟩=some (.u 0):=ro;have g0:W.frozen? ⟨w.heap.size+1+1,0,none⟩=false:=pm;have g1:W.frozen? ⟨w.heap.size+1+1,1,none⟩=false:=pm;have g2:W.frozen? ⟨w.heap.size+1+1,2,none⟩=false:=pm;have cB:=m.cell;have fB:=m.frozen;have k1:Hid (((((W.setCell ⟨w.heap.size+1+1,0,none⟩ (.u 0)).setCell ⟨w.heap.size+1+1,1,none⟩ (.u 0)).setCell ⟨w.heap.size+1+1,2,none⟩ (.u 0)).setCell ⟨w.heap.size+1+1+1,0,none⟩ (.bool false)).heap[D]?=some (.deferred (some []))):=eR (eR (eR (eR R ab _) ab _) ab _) ab _;have z2:((((W.setCell ⟨w.heap.size+1+1,0,none⟩ (.u 0)).setCell ⟨w.heap.size+1+1,1,none⟩ (.u 0)).setCell ⟨w.heap.size+1+1,2,none⟩ (.u 0)).setCell ⟨w.heap.size+1+1+1,0,none⟩ (.bool false)).heap[w.heap.size+1+1]?=some (.cells #[.u 0,.u 0,.u 0] 90 (0,0)):=eR (jF (jF (jF f _) _) _) ab _;have z3:Boxed ((((W.setCell ⟨w.heap.size+1+1,0,none⟩ (.u 0)).setCell ⟨w.heap.size+1+1,1,none⟩ (.u 0)).setCell ⟨w.heap.size+1+1,2,none⟩ (.u 0)).setCell ⟨w.heap.size+1+1+1,0,none⟩ (.bool false)) (w.heap.size+1+1+1) 4 (.bool false):=Boxed.set _ (v:=.bool false) (eR (eR (eR m ab _) ab _) ab _);have z4:Hid (Bw w ((((W.setCell ⟨w.heap.size+1+1,0,none⟩ (.u 0)).setCell ⟨w.heap.size+1+1,1,none⟩ (.u 0)).setCell ⟨w.heap.size+1+1,2,none⟩ (.u 0)).setCell ⟨w.heap.size+1+1+1,0,none⟩ (.bool false))):=(((o.setCell (p:=⟨w.heap.size+1+1,0,none⟩) bh _).setCell (p:=⟨w.heap.size+1+1,1,none⟩) bh _).setCell (p:=⟨w.heap.size+1+1,2,none⟩) bh _).setCell (p:=⟨w.heap.size+1+1+1,0,none⟩) bh _;have Z2:Hid (((((((W.setCell ⟨w.heap.size+1+1,0,none⟩ (.u 0)).setCell ⟨w.heap.size+1+1,1,none⟩ (.u 0)).setCell ⟨w.heap.size+1+1,2,none⟩ (.u 0)).setCell ⟨w.heap.size+1+1+1,0,none⟩ (.bool false))).putObj D (.deferred none)).heap[w.heap.size+1+1]?=some (.cells #[.u 0,.u 0,.u 0] 90 (0,0))):=tO z2 ab;have Z3:Hid (Boxed (((((W.setCell ⟨w.heap.size+1+1,0,none⟩ (.u 0)).setCell ⟨w.heap.size+1+1,1,none⟩ (.u 0)).setCell ⟨w.heap.size+1+1,2,none⟩ (.u 0)).setCell ⟨w.heap.size+1+1+1,0,none⟩ (.bool false)).putObj D (.deferred none)) (w.heap.size+1+1+1) 4 (.bool false)):=tO z3 ab;clear z2 z3;gi_wp2_with fail;refine ⟨cp,.inl ⟨_,_,rfl,run_takeDeferred k1.out,?_⟩⟩;have Q:=Z2.out;have y3:=Z3.out.cell;refine ⟨.tuple #[.agg #[.u 0,.u 0,.u 0],.bool false],?_,by rw [FN.out],z4.out.trans (belowK_b (w:=w) (Nat.le_refl _) _ D _ _ ab k1.out rfl rfl)⟩;have E:=oV Q 0;have F:=oV Q 1;have G:=oV Q 2;simp at E F G;simp [results,Tryz.f230,go_sem,E,F,G,y3]
 case stop =>rintro D c pre W hD T ⟨⟨rfl,C,d,e1,e2,e3,f,m⟩,o⟩ R;have FN:Hid (kI l x y=(d.2.1,d.2.2.1,d.2.2.2,true)):=(by show kI l x y=_;unfold kI;rw [IZ T e1 e2 e3]);gi_wp2_with fail;refine ⟨cp,.inl ⟨_,_,rfl,run_takeDeferred R,?_⟩⟩;have Q:(W.putObj D (.deferred none)).heap[w.heap.size+1+1]?=_:=tO f ab;have y3:=Boxed.cell (show Boxed (W.putObj D (.deferred none)) (w.heap.size+1+1+1) 4 (.bool true) from tO m ab);have E:=oV Q 0;have F:=oV Q 1;have G:=oV Q 2;simp at E F G;refine ⟨.tuple #[.agg #[.u d.2.1,.u d.2.2.1,.u d.2.2.2],.bool true],?_,by rw [FN.out],o.trans (belowK_b (w:=w) (Nat.le_refl _) W D _ _ ab R rfl rfl)⟩;simp [results,Tryz.f230,go_sem,E,F,G,y3]
theorem LL {l:List Int} {n:Nat} (hl:∀ j,U (l.getD j 0)) {q:Nat × Int × Int × Int} (h:q ∈ fU l n):∃ z:Nat,z<256/\q.2.2.2=z:=by
 obtain ⟨_,e⟩:=OP h;unfold mE at e;split at e;·cases e
 ·have:=Option.some.inj e;rw [<- this];obtain ⟨a,b⟩:=kq (l.getD 16 0) (8*q.1) 8;exact ⟨(cQ (l.getD 16 0) (8*q.1) 8).toNat,ab,by show cQ _ _ _=_;omega⟩
theorem I7 (z:Nat) (hz:z<256) (p k:Int):wI z p k=ox z p k:=by
 obtain ⟨a,e2,e3,e4,e5,e6⟩:=Tp z hz;unfold wI ox BJ;rw [a];cases h:((p==3)&&((z:Int)/128==0)) with
 | true=>rfl
 | false =>
   cases b:(k==1) with
   | true=>simp only [if_true,Bool.false_eq_true,if_false,Bool.false_or];rw [e3]
   | false =>
     cases c:(k==2) with
     | true=>simp only [if_true,Bool.false_eq_true,if_false,Bool.false_or];rw [e4]
     | false=>simp only [Bool.false_eq_true,if_false,Bool.false_or];rw [e5]
theorem LO {l:List Int} (hl:∀ j,U (l.getD j 0)) (a:bq 22 l=true) (p x y k:Int):aA l p x y k 4 0=if (kI l x y).2.2.2=true then (Es (kI l x y).1 (kI l x y).2.1 x y&&ox (kI l x y).2.2.1 p k) else (p==3):=by
 rw [I6 hl a p x y k 4 0 ab];have c:(List.range' 0 4).filterMap (mE l)=fU l 4:=by unfold fU;rw [List.range_eq_range']
 rw [c];unfold kI;cases b:(fU l 4).find? (js x y) with
 | none=>rfl
 | some q =>
   obtain ⟨z,d,e⟩:=LL hl (List.mem_of_find?_eq_some b);show (!(decide (x<q.2.1)||decide (q.2.2.1<y))&&wI q.2.2.2 p k)=(Es q.2.1 q.2.2.1 x y&&ox q.2.2.2 p k);rw [e,I7 z d p k];congr 1;unfold Es;rw [Bool.not_or];congr 1;·rw [<- decide_not];congr 1;exact propext ⟨λh=>ab,λh=>ab⟩
   ·rw [<- decide_not];congr 1;exact propext ⟨λh=>ab,λh=>ab⟩
theorem LP {w:World} {a:Option Addr} {l:List Int} (hs:Sl .u64 w a l) (hz:l.length=22):∃ b c,a=some ⟨b,c,none⟩/\b<w.heap.size/\∀ j,j<22->w.cell? ⟨b,c+j,none⟩=some (.u (l.getD j 0)):=by obtain ⟨b,c,rfl,f,_⟩:=hs 0 ab;refine ⟨b,c,rfl,f,λj i=>?_⟩;obtain ⟨h,d,e,_,g⟩:=hs j ab;cases e;exact g
theorem ky (a:Option Addr) (n cap:Nat) (l:List Int) (p x s k:Int) (w:World) (hz:l.length=n) (hs:Sl .u64 w a l) (hl:∀ j,U (l.getD j 0)) (hx:U x) (O:qV w):CB 189 #[.slice a n cap,.i p,.u x,.i s,.i k] w (.bool (uH n l p x s k)):=by
 have A:=λW (i:Bw w W)=>fh a n cap l p W hz (hs.below i) hl;have B:=gx s;have o:=lz k;rw [qG] at o;have D:Uz.wrap (Uz.wrap (x+Uz.wrap s)-1)=aZ x s:=rfl;have L:aX n l p=true->(∀ W,Bw w W->CB 230 #[.slice a n cap,.u x,.u (aZ x s)] W (.tuple #[.agg #[.u (kI l x (aZ x s)).1,.u (kI l x (aZ x s)).2.1,.u (kI l x (aZ x s)).2.2.1],.bool (kI l x (aZ x s)).2.2.2])) /\
  aA l p x (aZ x s) k 4 0=if (kI l x (aZ x s)).2.2.2=true then (Es (kI l x (aZ x s)).1 (kI l x (aZ x s)).2.1 x (aZ x s)&&ox (kI l x (aZ x s)).2.2.1 p k) else (p==3):=by
  intro h
  obtain ⟨rfl,V⟩:=gu h
  have u:bq 22 l=true:=by unfold aX at h;rw [Bool.and_eq_true] at h;exact h.1
  obtain ⟨b,f,rfl,i,P⟩:=LP hs hz
  exact ⟨λW q=>zx b f cap l x (aZ x s) W (Nat.lt_of_lt_of_le i q.size) (λj Q=>(q.cell (p:=⟨b,f+j,none⟩) i).trans (P j Q)) hl (O.below q),LO hl u p x (aZ x s) k⟩
 unfold uH;generalize aA l p x (aZ x s) k 4 0=X at *;generalize decide (1<=k/\k<=3)=E at *;generalize iW s=G at *;generalize aZ x s=y at *;generalize aX n l p=F at *;generalize kI l x y=m at *;obtain ⟨d,c,r,R⟩:=m;refine bz (S:=Bs w []) (args:=[.slice a n cap,.i p,.u x,.i s,.i k]) [] func189 ?_;cases C:decide (y<x);case' false=>cases F;case' true=>cases G;case' true=>cases E
 case false.true.true.true =>obtain ⟨K,H⟩:=L rfl;refine ae Bs.eng {eq:=[(32,dI .u64 D),(35,aj C)],cv:=[(16,fW A),(20,mM λW _=>B W),(25,mM λW _=>o W),(40,fW K)]} 60 (Bs.start _ _) λW h=>?_;refine dU 1 (dW (T:=90) (z:=.agg #[.u 0,.u 0,.u 0]) al W) ?_;refine bJ (aG (g:=W.heap.size) (t:=90) (ty:=90) (cells:=#[.u d,.u c,.u r]) (heap_alloc_new _ _) al rfl al) ?_;refine aH (R1 w W.heap.size #[.u d,.u c,.u r] 90) ?_;have I:=λW=>Et d c r x y W;have J:=λW=>Eu d c r p k W;generalize Es d c x y=N at *;generalize ox r p k=Y at *;subst H;cases R<;>cases N<;>exact aY (t:=10) R1.eng {cv:=[(50,jy R1.below λW _=>I W),(55,jy R1.below λW _=>J W)]} 60 (R1.new h.2) (λM h=>⟨rfl,h.2⟩)
 all_goals (try cases F)<;>(try cases G)<;>(try cases E)<;>exact aY (t:=10) Bs.eng {eq:=[(32,dI .u64 D),(35,aj C)],cv:=[(16,fW A),(20,mM λW _=>B W),(25,mM λW _=>o W)]} 60 (Bs.start _ _) (λM h=>⟨rfl,h.2⟩)
theorem LQ (x m:Int) (h:U x):bits .or .u64 (bits .andNot .u64 x m) (bits .and .u64 x m)=x:=by refine br _ _ (af _ _ _) h λi a=>?_;rw [cn,aw _ _ _ a,au];cases bt x i<;>cases bt m i<;>rfl
theorem LR (l:List Int) (k:Nat) (x:Int) (hk:k<l.length) (hx:l.getD k 0=x):l.set k x=l:=by
 have:l[k]=x:=by rw [<- hx];simp [List.getD,List.getElem?_eq_getElem hk]
 rw [<- this];exact List.set_getElem_self hk
theorem ye {M:MV} (a:M.cs.length=22) (b:U (M.cs.getD 9 0)) (hb:ls M=true):cC M=M:=by
 have e:bits .and .u64 (M.cs.getD 9 0) 2184=dD M.d:=by unfold ls at hb;simpa using hb
 have s:M.cs.set 9 (bits .or .u64 (bits .andNot .u64 (M.cs.getD 9 0) 2184) (dD M.d))=M.cs:=by rw [<- e];exact LR _ 9 _ ab (LQ _ _ b).symm
 unfold cC;rw [s]
theorem Gp (x:Int) (h:U x):bits .andNot .u64 x 7=x/8*8:=by
 refine br _ _ (af _ _ _) ⟨by have:=h.1;omega,by have:=h.2;omega⟩ λi c=>?_;have d:=mU (x/8) ⟨by have:=h.1;omega,by have:=h.2;omega⟩ 3 i;have f:Uz.wrap (x/8*2^3)=x/8*8:=by have l:=h.1;have m:=h.2;rw [IntKind.wrap_u64];omega
 rw [f] at d;rw [d,aw _ _ _ c];have k:∀ i,i<64->bt 7 i=decide (i<3):=bv
 rw [k i c];by_cases a:i<3
 ·have:¬ 3<=i:=by omega
  simp [a,this]
 ·have g:3<=i:=ab;have j:bt (x/8) (i-3)=bt x i:=(by have b:=jl x h 3 (i-3);rw [show i-3+3=i by omega] at b;have e:(2:Int)^3=8:=bb;rw [e] at b;exact b);simp [a,g,j,c]
theorem OT (M:MV) (pa:Int) (a:U pa) (hd:U M.hd):(M.hl&&(Uz.wrap (pa.tdiv 8)==Uz.wrap (M.hd.tdiv 8)))=lq M pa:=by
 have e:∀ x:Int,U x->Uz.wrap (x.tdiv 8)=x/8:=λx h=>by have b:=h.1;have c:=h.2;rw [Int.tdiv_eq_ediv_of_nonneg b,IntKind.wrap_u64];omega
 unfold lq;rw [e pa a,e M.hd hd,Gp pa a,Gp M.hd hd];congr 1;by_cases h:pa/8=M.hd/8;·rw [h];simp
 ·rw [beq_eq_false_iff_ne.2 h,beq_eq_false_iff_ne.2 ab]
theorem Gq (D:DV) (k:Nat) (h:nD D.xs.length D.ys.length D.ir=true) (hk:(jc D k).2.2=true):nD (jc D k).2.1.xs.length (jc D k).2.1.ys.length (jc D k).2.1.ir=true:=by
 have a:=yB h;match k,hk with
 | 0,_=>exact h
 | 1,_=>exact h
 | 2,_=>exact h
 | 3,_ =>show nD (D.xs.drop 1).length D.ys.length D.ir=true;unfold nD at h ⊢;simp only [Bool.and_eq_true,decide_eq_true_eq,List.length_drop] at h ⊢;omega
 | 4,_=>exact h
 | 5,_=>exact h
theorem LS (x:Int):0<=wrap64 (bits .and .u64 x 1)/\wrap64 (bits .and .u64 x 1)<=1:=by
 have c:∀ i,i<64->bt 1 i=decide (i=0):=bv
 have d:∀ i,i<64->bt 0 i=false:=bv
 have h:bits .and .u64 x 1=if bt x 0=true then 1 else 0:=by
  refine br _ _ (af _ _ _) (by split<;>exact ⟨ab,ab⟩) λi b=>?_;rw [au,c i b];by_cases a:i=0
  ·subst a;cases bt x 0;·rw [if_neg bb,d 0 ab];rfl
   ·rw [if_pos rfl,c 0 ab];rfl
  ·rw [decide_eq_false a,Bool.and_false];split;·rw [c i b,decide_eq_false a]
   ·rw [d i b]
 rw [h];split<;>decide +kernel
theorem Gr (D:DV) (x addr size:Int) (h:nD D.xs.length D.ys.length D.ir=true):(fI D x (gj addr size)).2=true->nD (fI D x (gj addr size)).1.xs.length (fI D x (gj addr size)).1.ys.length (fI D x (gj addr size)).1.ir=true:=by
 have b:=LS x;have e4:=Fs D x;obtain ⟨q,c⟩:∃ q,q=wrap64 (bits .and .u64 x 1):=⟨_,rfl⟩;rw [<- c] at e4 b;clear c;refine jD addr size (λk=>(fI D x k).2=true->nD (fI D x k).1.xs.length (fI D x k).1.ys.length (fI D x k).1.ir=true) ?_ ?_ ?_ ?_ ?_ ?_ ?_;·intro _ _;rw [Fl];exact λ_=>h
 ·intro _ _;rw [Fp];exact λ_=>h
 ·intro _ _;rw [Fq];exact λ_=>h
 ·intro _ _;by_cases a:D.ys.length<4096;·rw [yL D x a];intro _;unfold nD at h ⊢;simp only [Bool.and_eq_true,decide_eq_true_eq,List.length_append,List.length_singleton] at h ⊢;omega
  ·rw [yM D x a];exact λ_=>h
 ·intro _ _;rw [e4];intro _;unfold nD at h ⊢;simp only [Bool.and_eq_true,decide_eq_true_eq] at h ⊢;exact ⟨h.1,b⟩
 ·intro _ _;rw [Ft];exact λ_=>h
 ·intro _ _ _ _ _ _;rw [Fu];intro d;cases d
theorem RL (D:DV) (k:Nat) (h:(jc D k).2.2=false):(jc D k).1=0:=by
 match k,h with
 | 0,h=>cases h
 | 1,h=>cases h
 | 2,h=>cases h
 | 3,h=>cases h
 | 4,h=>cases h
 | 5,h=>cases h
 | k+6,_=>rfl
theorem Ew {n:Nat} (h:aU n=true):0<n:=by
 rcases Nat.eq_zero_or_pos n with a|a;·subst a;revert h;decide
 ·exact a
def BM (M:MV) (pa size kind x:Int):Int × Bool × MV :=
 if gn M.ram.length pa size=true then
  (if (kind==3)=true then (0,true,mB (bL M (jZ M.ram (pa-2147483648).toNat x size.toNat)) pa) else (le M.ram (pa-2147483648).toNat size.toNat,true,M))
 else if (kind==2)=true then
  (if (jc M.d (gj pa size)).2.2=true then ((jc M.d (gj pa size)).1,true,cC (cP M (jc M.d (gj pa size)).2.1)) else (0,false,M))
 else if (kind==3)=true then
  (if (fI M.d x (gj pa size)).2=true then (0,true,mB (cC (cP M (fI M.d x (gj pa size)).1)) pa) else (0,false,M))
 else (0,false,M)
theorem RM (M:MV) (pa size kind x:Int):qU M pa size kind x=if (BM M pa size kind x).2.1=true then ((BM M pa size kind x).1,(BM M pa size kind x).2.2,0) else (0,(BM M pa size kind x).2.2,gR kind):=by
 unfold qU BM;split;·split<;>rfl
 ·split;·split<;>rfl
  ·split;·split<;>rfl
   ·rfl
theorem LT (l:List Int) (p x s k:Int) (a:aX 22 l p=true) (b:iW s=true) (c:decide (1<=k/\k<=3)=true):uH 22 l p x s k=!Ir l p x s k:=by unfold uH Ir;rw [a,b,c,Bool.not_or,Bool.not_not];rfl
end Go.Proofs.YtjifdmoehfbihaaGreatDoor
