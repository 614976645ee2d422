/- Own lemmas. -/
import Derived.Test.YtjifdmoehfbihaaGreatDoorAuj
import Derived.Test.YtjifdmoehfbihaaGreatDoorJ17H
import Derived.Test.YtjifdmoehfbihaaGreatDoorJ12
import Derived.Test.YtjifdmoehfbihaaGreatDoorJ14
import Derived.Test.YtjifdmoehfbihaaGreatDoorJ15
set_option maxRecDepth 100000
set_option maxHeartbeats 6400000
namespace Go.Proofs.YtjifdmoehfbihaaGreatDoor
open Go.RowKit Tryz
open IntKind renaming u64->Uz
set_option linter.unusedVariables false
variable {w s b:World} {x a g:Nat} {A:List Int} {M dr:Bool} {k:MV} {c:MA} {r:TV} {p:Int} {P:Program} {Rs:Ending->World->Prop} (B:Option Addr) (l W:MV) (n:MA) (t o:Nat) (f:Int) (D:Bool) (d m:Int) (y:World) (R:Nat) (z:DV) (J:Int) (X:Bool)
theorem sU (c:0<=f) (a1:f<18446744073709551616) (b:0<=d) (a:d<18446744073709551616) (w:World):CE 278 #[.u f,.u d] w (.u (MF.smin.v f d)):=by
 have j:=kG c a1;have l:=kG b a;go_enter func278,ntmps278;go_wp2_with fail;·go_ret;exact ⟨ri,rfl⟩
 ·go_ret;exact ⟨lx,rfl⟩
theorem rB (c:0<=f) (a1:f<18446744073709551616) (b:0<=d) (a:d<18446744073709551616) (w:World):CE 279 #[.u f,.u d] w (.u (MF.smax.v f d)):=by
 have j:=kG c a1;have l:=kG b a;go_enter func279,ntmps279;go_wp2_with fail;·go_ret;exact ⟨ri,rfl⟩
 ·go_ret;exact ⟨lx,rfl⟩
theorem xm (c:0<=f) (a1:f<18446744073709551616) (b:0<=d) (a:d<18446744073709551616) (w:World):CE 280 #[.u f,.u d] w (.u (MF.umin.v f d)):=by
 have j:=kG c a1;have l:=kG b a;go_enter func280,ntmps280;go_wp2_with fail;·go_ret;exact ⟨ri,rfl⟩
 ·go_ret;exact ⟨lx,rfl⟩
theorem uz (c:0<=f) (a1:f<18446744073709551616) (b:0<=d) (a:d<18446744073709551616) (w:World):CE 281 #[.u f,.u d] w (.u (MF.umax.v f d)):=by
 have j:=kG c a1;have l:=kG b a;go_enter func281,ntmps281;go_wp2_with fail;·go_ret;exact ⟨ri,rfl⟩
 ·go_ret;exact ⟨lx,rfl⟩
def MF.fn:MF->Nat
 | .second=>277
 | .sum=>255
 | .xor=>258
 | .and=>260
 | .or=>259
 | .smin=>278
 | .smax=>279
 | .umin=>280
 | .umax=>281
theorem MF.calls (f:MF) (a b:Int) (c:0<=a) (a1:a<18446744073709551616) (d:0<=b) (g:b<18446744073709551616) (w:World):Calls prog f.fn #[.u a,.u b] w λe h=>e=.returned (.u (f.v a b))/\∃ m,h=w.drewN m:=by
 cases f;·exact bx (Av a b w)
 ·exact bx (zd a b w)
 ·exact bx (ze a b w)
 ·exact bx (zf a b w)
 ·exact bx (CV a b w)
 ·exact bx (sU a b c a1 d g w)
 ·exact bx (rB a b c a1 d g w)
 ·exact bx (xm a b c a1 d g w)
 ·exact bx (uz a b c a1 d g w)
theorem MF.enters (f:MF):(prog.funcs[f.fn]?).map (λa=>(a.name == "runtime.NumGoroutine",a.body.isSome))=some (false,true):=by cases f<;>kernel_rfl
def amoCells:Array Value:=(QE.map λf=>Value.func (.func f.fn) #[] #[]).toArray
def dX:Array Value:=(List.replicate 9 Value.nilFunc).toArray
theorem iH:dX.size=9:=by kernel_rfl
theorem cU:amoCells.size=9:=by kernel_rfl
theorem iI:(prog.info? 277).bind (·.zero)=some (.agg dX):=by kernel_rfl
theorem iJ:amoCells.all (·.oneCell')=true:=by kernel_rfl
theorem gS:(prog.info? 277).map (·.size)=some 9:=by kernel_rfl
theorem tZ (h:t<9):amoCells[t]?=some (.func (.func (mI t).fn) #[] #[]):=by
 match t,h with
 | 0,_=>rfl
 | 1,_=>rfl
 | 2,_=>rfl
 | 3,_=>rfl
 | 4,_=>rfl
 | 5,_=>rfl
 | 6,_=>rfl
 | 7,_=>rfl
 | 8,_=>rfl
 | t+9,h=>exact absurd h ab
theorem Dp:CB 241 #[] y (.agg amoCells):=by go_enter func241,ntmps241;apply wp_seq_k;intro c b;apply wp_region_list;refine cT rfl 277 rfl (some 0) rfl _ iI ?_;apply wpList_nil;refine b _ _ ?_;clear b c;apply wp_seq_k;intro c b;apply wp_region_lit;refine kK 10 0 10 (.p y.heap.size 0) (.agg amoCells) ba ?_;intro m f d j;have g:(y.alloc (.cells (Value.agg dX).cells 277)).heap[y.heap.size]?=some (.cells dX 277 (0,0)):=heap_alloc_new _ _;refine wpList_store_rowTo rfl 277 (.tmp 0) (.tmp 10) rfl rfl y.heap.size amoCells f d 277 dX g (by rw [gS,cU]) (by rw [iH,cU]) iJ ?_;apply wpList_nil;refine b _ _ ?_;clear b c;apply wp_ret;refine bodyPost_ret (results_cell_row results241 _ _ _ _ _ _ _ f (setRow_heap _ _ _ _ _ _ g) underlying277 rfl (by rw [gS,cU])) j ⟨rfl,?_⟩;exact aI (bal _ _) (Nat.le_refl _) _
theorem ng:Calls prog 241 #[] y λe a=>∃ T,e=.returned T/\Hid (T=.agg amoCells)/\Bw y a :=
 (Dp y).mono λe a h=>⟨.agg amoCells,h.1,(rfl:Value.agg amoCells=.agg amoCells),h.2⟩
theorem AI (hk:t<9) (a b:Int) (r:0<=a) (a1:a<18446744073709551616) (s:0<=b) (k:b<18446744073709551616) (f:MF) (y:Hid (mI t=f)) (w:World): CB 214 #[.i ((t:Int)+76),.u a,.u b] w (.tuple #[.u (f.v a b),.bool true]):=by
 have z:wrap64 ((t:Int)+76-76)=t:=by unfold wrap64;omega
 have C:decide (76<=(t:Int)+76)=true:=by simp;omega
 have D:decide ((t:Int)<9)=true:=by simp;omega
 have u:=m7 f.enters;go_enter func214,ntmps214;go_wp2_with fail;refine (ng _).mono ?_;rintro e d ⟨T,rfl,q,l⟩;have o:(d.alloc (.cells (Value.agg dX).cells 277)).heap[d.heap.size]?=some (.cells dX 277 (0,0)):=heap_alloc_new _ _;obtain ⟨g,c⟩:∃ g,g=(d.alloc (.cells (Value.agg dX).cells 277)).setRow d.heap.size amoCells:=⟨_,rfl⟩;have HR:Hid (g.heap[d.heap.size]?=some (.cells amoCells 277 (0,0))):=by show _=_;rw [c];exact setRow_heap _ _ _ _ _ _ o
 have p:Hid (Bw w g):=by show Below _ _ _;rw [c];exact aI (l.alloc l.size _) l.size _
 have j:Hid (g=(d.alloc (.cells (Value.agg dX).cells 277)).setRow d.heap.size amoCells):=c;clear c;have B:g.cell? ⟨d.heap.size,t,none⟩=some (.func (.func f.fn) #[] #[]):=by rw [cell_of_row _ _ _ _ _ _ HR.out,tZ t hk,y.out]
 go_wp2_with (first | refine cT rfl 277 rfl (some 8) rfl _ iI ?_ | (refine wpList_store_rowTo rfl 277 (.tmp 8) (.tmp 10) rfl rfl d.heap.size amoCells rfl q.out 277 dX o (by rw [gS,cU]) (by rw [iH,cU]) iJ ?_;rw [<- j.out]));refine (MF.calls f a b r a1 s k _).mono ?_;rintro e E ⟨rfl,nq,m⟩;subst m;go_wp2_with fail;go_ret2;exact ⟨rfl,rt p.out _⟩
theorem Dq (hk:t<9) (a b:Int) (C:0<=a) (a1:a<18446744073709551616) (D:0<=b) (E:b<18446744073709551616) (f:MF) (A:Hid (mI t=f)) (w:World): CB 214 #[.i ((t:Int)+65),.u a,.u b] w (.tuple #[.u (f.v (au 32 a) (au 32 b)%4294967296),.bool true]):=by
 have B:wrap64 ((t:Int)+65-65)=t:=by unfold wrap64;omega
 have G:decide (76<=(t:Int)+65)=false:=by simp;omega
 have H:decide (65<=(t:Int)+65)=true:=by simp;omega
 have I:decide ((t:Int)<9)=true:=by simp;omega
 have d4:0<=(t:Int)/\(t:Int)<((9:Nat):Int):=ab
 have z:=m7 f.enters;go_enter func214,ntmps214;go_wp2_with fail;refine (ng _).mono ?_;rintro e d ⟨T,rfl,u,o⟩;have q:(d.alloc (.cells (Value.agg dX).cells 277)).heap[d.heap.size]?=some (.cells dX 277 (0,0)):=heap_alloc_new _ _;obtain ⟨g,c⟩:∃ g,g=(d.alloc (.cells (Value.agg dX).cells 277)).setRow d.heap.size amoCells:=⟨_,rfl⟩;have HR:Hid (g.heap[d.heap.size]?=some (.cells amoCells 277 (0,0))):=by show _=_;rw [c];exact setRow_heap _ _ _ _ _ _ q
 have r:Hid (Bw w g):=by show Below _ _ _;rw [c];exact aI (o.alloc o.size _) o.size _
 have l:Hid (g=(d.alloc (.cells (Value.agg dX).cells 277)).setRow d.heap.size amoCells):=c;clear c;have F:g.cell? ⟨d.heap.size,t,none⟩=some (.func (.func f.fn) #[] #[]):=by rw [cell_of_row _ _ _ _ _ _ HR.out,tZ t hk,A.out]
 go_wp2_with (first | refine cT rfl 277 rfl (some 8) rfl _ iI ?_ | (refine wpList_store_rowTo rfl 277 (.tmp 8) (.tmp 10) rfl rfl d.heap.size amoCells rfl u.out 277 dX q (by rw [gS,cU]) (by rw [iH,cU]) iJ ?_;rw [<- l.out]));have y:0<=f.v (au 32 a) (au 32 b):=f.pos (bu a).1 (bu a).2 (bu b).1 (bu b).2;have k:Hid (∀ (x:Int) (w:World),Calls prog 242 #[.u x] w λe j=>e=.returned (.u (au 32 x))/\∃ m,j=w.drewN m):=λx w=>bx (pW x w);have s:Hid (∀ w:World,Calls prog f.fn #[.u (au 32 a),.u (au 32 b)] w λe j=>e=.returned (.u (f.v (au 32 a) (au 32 b)))/\∃ m,j=w.drewN m):=MF.calls f _ _ (bu a).1 (bu a).2 (bu b).1 (bu b).2;go_quiet (first | with_reducible refine Calls.quiet_of (k.out _ _) | with_reducible refine Calls.quiet_of (s.out _))
 go_wp2_with fail;refine (tR _ y _).mono ?_;rintro e J ⟨rfl,p⟩;subst p;go_wp2_with fail;go_ret2;exact ⟨rfl,rt r.out _⟩
theorem AJ (p:(Lit.int .i64 f).wf=true) (h:sT f=false) (w:World): CB 214 #[.i f,.u d,.u m] w (.tuple #[.u 0,.bool false]):=by
 have l:¬ (65<=f/\f<=73)/\¬ (76<=f/\f<=84):=by simpa [sT] using h
 have r:=Nw p;clear p h;by_cases j:f<65;·have b:decide (76<=f)=false:=bv;have u:decide (65<=f)=false:=bv;clear j l;go_enter func214,ntmps214;go_wp2_with fail;refine (ng _).mono ?_;rintro e a ⟨T,rfl,op,c⟩;have g:(a.alloc (.cells (Value.agg dX).cells 277)).heap[a.heap.size]?=some (.cells dX 277 (0,0)):=heap_alloc_new _ _;go_wp2_with (first | refine cT rfl 277 rfl (some 8) rfl _ iI ?_ | (refine wpList_store_rowTo rfl 277 (.tmp 8) (.tmp 10) rfl rfl a.heap.size amoCells rfl op.out 277 dX g (by rw [gS,cU]) (by rw [iH,cU]) iJ ?_));exact a0k
 ·have t:decide (65<=f)=true:=bv;have z:wrap64 (f-65)=f-65:=l0;have y:decide (f-65<9)=false:=bv;by_cases o:f<76;·have b:decide (76<=f)=false:=bv;clear j l o;go_enter func214,ntmps214;go_wp2_with fail;refine (ng _).mono ?_;rintro e a ⟨T,rfl,op,c⟩;have g:(a.alloc (.cells (Value.agg dX).cells 277)).heap[a.heap.size]?=some (.cells dX 277 (0,0)):=heap_alloc_new _ _;go_wp2_with (first | refine cT rfl 277 rfl (some 8) rfl _ iI ?_ | (refine wpList_store_rowTo rfl 277 (.tmp 8) (.tmp 10) rfl rfl a.heap.size amoCells rfl op.out 277 dX g (by rw [gS,cU]) (by rw [iH,cU]) iJ ?_));go_ret2;exact ⟨rfl,aI (c.alloc c.size _) c.size _⟩
  ·have b:decide (76<=f)=true:=bv;have q:wrap64 (f-76)=f-76:=l0;have d4:decide (f-76<9)=false:=bv;clear j l o;go_enter func214,ntmps214;go_wp2_with fail;refine (ng _).mono ?_;rintro e a ⟨T,rfl,op,c⟩;have g:(a.alloc (.cells (Value.agg dX).cells 277)).heap[a.heap.size]?=some (.cells dX 277 (0,0)):=heap_alloc_new _ _;go_wp2_with (first | refine cT rfl 277 rfl (some 8) rfl _ iI ?_ | (refine wpList_store_rowTo rfl 277 (.tmp 8) (.tmp 10) rfl rfl a.heap.size amoCells rfl op.out 277 dX g (by rw [gS,cU]) (by rw [iH,cU]) iJ ?_));exact a0k
theorem Dr (i:(Lit.int .i64 f).wf=true) (a:0<=d) (a1:d<18446744073709551616) (op:0<=m) (g:m<18446744073709551616) (w:World): CB 214 #[.i f,.u d,.u m] w (.tuple #[.u (i8 f d m),.bool (sT f)]):=by
 cases h:sT f with
 | false=>rw [Df h];exact AJ f d m i h w
 | true =>
   obtain ⟨k,c,rfl|rfl⟩:=zi h;·rw [De c];exact AI k c d m a a1 op g _ (rfl:mI k=mI k) w
   ·rw [If c];exact Dq k c d m a a1 op g _ (rfl:mI k=mI k) w
def xn (A B s:Int) (a b:Bool):Nat->Int
 | 0=>B | 1=>s | 2=>bits .xor .u64 A B | 3=>bits .and .u64 A B | 4=>bits .or .u64 A B
 | 5=>if a=true then A else B | 6=>if a=true then B else A | 7=>if b=true then A else B | _=>if b=true then B else A
theorem zk (A B s x y:Int) (g h:Bool) (hn:t=64/\f=76/\d=18446744073709551615\/t=32/\f=65/\d=4294967295) (n:bits .and .u64 m d=A) (u:bits .and .u64 J d=B) (hs:bits .and .u64 (Uz.wrap (A+B)) d=s) (hx:au t A=x) (hy:au t B=y) (hl:decide (IntKind.i64.wrap x<IntKind.i64.wrap y)=g) (j:decide (A<B)=h) (k:Nat) (hk:k<9) (w:World): CE 130 #[.i ((k:Int)+f),.u m,.u J] w (.tuple #[.u (xn A B s g h k),.bool true]):=by
 have l:=λW (_:W=w)=>ew ((k:Int)+f) 76 84 W;have a:=λW (_:W=w)=>ew ((k:Int)+f) 65 73 W;obtain ⟨V,i⟩:∃ V,V=xn A B s g h k:=⟨_,rfl⟩;rw [<- i];have p:∀ W,W=w->CE 127 #[.u A,.u t] W (.u x):=λW _=>hx ▸ eE A t ab ab W;have q:∀ W,W=w->CE 127 #[.u B,.u t] W (.u y):=λW _=>hy ▸ eE B t ab ab W;clear hx hy;have r:k=0\/k=1\/k=2\/k=3\/k=4\/k=5\/k=6\/k=7\/k=8:=ab
 refine bD (S:=λx=>x=w) (args:=[.i ((k:Int)+f),.u m,.u J]) [] func130 ?_;show Wg _ _ _ _ _ _ w;rcases hn with ⟨rfl,rfl,rfl⟩ | ⟨rfl,rfl,rfl⟩<;>rcases r with rfl | rfl | rfl | rfl | rfl | rfl | rfl | rfl | rfl<;>cases g<;>cases h <;>
  exact gz (R:=[]) trivial {eq:=[(29,dP .u64 n),(32,dP .u64 u),(41,ak hl),(52,dP .u64 hs),(82,ak j),(87,ak j)],cv:=[(14,kj l),(19,kj a),(35,kj p),(39,kj q)]} 300 λc hk=>⟨_,results_tmp2 rfl _ _ _,by rw [hk.slot (v:=.u V) (by rw [i];kernel_rfl),hk.slot (v:=.bool true) ba],rfl⟩
theorem Ds (a:0<=d) (a1:d<18446744073709551616) (op:0<=m) (g:m<18446744073709551616) (w:World): CE 130 #[.i f,.u d,.u m] w (.tuple #[.u (i8 f d m),.bool (sT f)]):=by
 cases h:sT f with
 | false =>rw [Df h];have l:¬ (65<=f/\f<=73)/\¬ (76<=f/\f<=84):=(by simpa [sT] using h);have q:decide (76<=f/\f<=84)=false:=(by simpa using l.2);have r:decide (65<=f/\f<=73)=false:=(by simpa using l.1);clear h l;go_enter func130,ntmps130;go_wp2_with (go_at_call 51;with_reducible refine (ew _ _ _ _).mono ?_;rintro e s ⟨rfl,rfl⟩);go_ret2;exact a07
 | true =>
   obtain ⟨k,c,rfl | rfl⟩:=zi h;all_goals have j:∀ z,IntKind.i64.wrap z=wrap64 z:=λz=>by rw [IntKind.wrap_i64];unfold wrap64;omega
   ·rw [De c];have e:(mI k).v d m=xn d m (Uz.wrap (d+m)) (decide (wrap64 d<wrap64 m)) (decide (d<m)) k:=by
     match k,c with
     | 0,_ | 1,_ | 2,_ | 3,_ | 4,_=>rfl
     | 5,_=>simpa [xn,mI,QE] using Ig a a1 op g
     | 6,_ | 8,_=>simp [xn,mI,QE,MF.v]
     | 7,_=>simpa [xn,mI,QE] using Ih d m
    rw [e];have b:0<=Uz.wrap (d+m)/\Uz.wrap (d+m)<18446744073709551616:=dm;exact zk 64 76 18446744073709551615 d m d m _ d m _ _ (.inl ⟨rfl,rfl,rfl⟩) (xh a a1) (xh op g) (xh b.1 b.2) (xg a a1) (xg op g) (by rw [j,j]) rfl k c w
   ·rw [If c];have e:(mI k).v (au 32 d) (au 32 m)%4294967296=xn (d%4294967296) (m%4294967296) ((d+m)%4294967296) (decide (wrap64 (au 32 d)<wrap64 (au 32 m))) (decide (d%4294967296<m%4294967296)) k:=by
     match k,c with
     | 0,_=>exact FU d m
     | 1,_=>exact ((QH d m).trans (jZ _)).trans (by show _=(d+m)%4294967296;omega)
     | 2,_=>exact NH d m
     | 3,_=>exact NI d m
     | 4,_=>exact QI d m
     | 5,_=>simpa [xn,mI,QE] using NJ d m
     | 6,_=>simpa [xn,mI,QE] using NK d m
     | 7,_=>simpa [xn,mI,QE] using NL d m
     | 8,_=>simpa [xn,mI,QE] using NM d m
    rw [e];have o:=lG ((d%4294967296)+(m%4294967296)) ab ab;exact zk 32 65 4294967295 d m _ _ _ _ _ _ _ (.inr ⟨rfl,rfl,rfl⟩) (lG d a a1) (lG m op g) (by rw [IntKind.wrap_u64,Int.emod_eq_of_lt ab ab,o];omega) (o6 d) (o6 m) (by rw [j,j]) rfl k c w
theorem xo (h:t<6):eR.drop t=eR.getD t 0::eR.drop (t+1):=by
 have e:t=0\/t=1\/t=2\/t=3\/t=4\/t=5:=ab
 rcases e with rfl|rfl|rfl|rfl|rfl|rfl<;>rfl
theorem Dt:eR.getD t 0<64:=by
 by_cases h:t<6;·have e:t=0\/t=1\/t=2\/t=3\/t=4\/t=5:=ab;rcases e with rfl|rfl|rfl|rfl|rfl|rfl<;>decide
 ·have:eR.getD t 0=0:=by simp [eR,List.getD,List.getElem?_eq_none (show [11,3,7,9,1,5].length<=t by simp;omega)]
  omega
theorem zl (h:R<6) (a:gu f (eR.drop R)=dA f) (hb:(ap f (eR.getD R 0)==1)=true):dA f=(eR.getD R 0:Nat):=by rw [<- a,xo R h,gu,hb]
theorem Du (h:R<6) (a:gu f (eR.drop R)=dA f) (hb:(ap f (eR.getD R 0)==1)=false):gu f (eR.drop (R+1))=dA f:=by rw [<- a,xo R h,gu,hb]
def g6:Array Value:=#[.i 11,.i 3,.i 7,.i 9,.i 1,.i 5]
theorem Kq (h:t<6):g6[t]?=some (.i (eR.getD t 0:Nat)):=by
 have e:t=0\/t=1\/t=2\/t=3\/t=4\/t=5:=ab
 rcases e with rfl|rfl|rfl|rfl|rfl|rfl<;>rfl
theorem Dy (w:World):CB 112 #[.u f] w (.i (dA f)):=by
 go_enter func112,ntmps112;go_wp2_with fail;have p:Bw w (w.alloc (Obj.cells #[.i 11,.i 3,.i 7,.i 9,.i 1,.i 5] 2)):=bal _ _;have u:Hid (∀ k,k<6->(w.alloc (Obj.cells #[.i 11,.i 3,.i 7,.i 9,.i 1,.i 5] 2)).cell? ⟨w.heap.size,k,none⟩=some (.i (eR.getD k 0:Nat))):=λk s=>(cell_of_row _ _ _ _ _ _ (heap_alloc_new _ _)).trans (Kq k s);generalize w.alloc (Obj.cells #[.i 11,.i 3,.i 7,.i 9,.i 1,.i 5] 2)=B at *;go_loopw [4] (λi wr=>∃ k:Nat,k<=6/\i=.i k/\Hid (gu f (eR.drop k)=dA f)/\wr=B)
  (λi _=>6-(intOf i).toNat)
 case atStart=>exact ⟨0,ab,rfl,(rfl:gu f (eR.drop 0)=dA f),rfl⟩
 case round =>
  obtain ⟨k,s,rfl,j,rfl⟩:=hrel;by_cases c:k<6
  ·have E:=u.out k c;have b:Hid ((ap f (eR.getD k 0)==1)=true->Hid (dA f=(eR.getD k 0:Nat))):=λh=>zl f k c j.out h;have l:Hid ((ap f (eR.getD k 0)==1)=false->Hid (gu f (eR.drop (k+1))=dA f)):=λh=>Du f k c j.out h;have t:=Dt k;generalize eR.getD k 0=r at *;have q:Hid (∀ w,CE 111 #[.u f,.u r] w (.u (ap f r))):=λw=>gW f r t w;have G:Uz.wrap (r:Int)=r:=dm;have D:decide ((k:Int)<6)=true:=bv;have z:(0:Int)<=(k:Int):=ab;have A:(k:Int)<6:=ab;clear t j;generalize ap f r=y at *;cases d:(y==1) with
   | true =>have F:=b.out d;clear b l;go_wp2_with fail;refine (q.out _).mono ?_;rintro e C ⟨rfl,x⟩;have g:=x.symm;subst g;go_wp2_with fail;go_ret;exact ⟨bh,p⟩
   | false =>
     have F:=l.out d;clear b l;go_wp2_with fail;refine (q.out _).mono ?_;rintro e C ⟨rfl,x⟩;have g:=x.symm;subst g;go_wp2_with fail;go_roundw;case rel=>exact ⟨k+1,ab,by go_num,F,trivial⟩
     case measure=>simp [intOf];omega
  ·have m:k=6:=ab;subst m;have F:Hid (dA f=-1):=j.out.symm;go_wp2_with fail;go_ret;exact ⟨bh,p⟩
theorem zm (h:Sl .u64 w (some ⟨x,a,none⟩) A) (k:Nat) (hk:k<A.length):x<w.heap.size/\w.cell? ⟨x,a+k,none⟩=some (.u (A.getD k 0)):=by obtain ⟨g,c,e,d,f⟩:=h k hk;simp only [Option.some.injEq,Addr.mk.injEq,and_true] at e;obtain ⟨rfl,rfl⟩:=e;exact ⟨d,f⟩
theorem ya (b a cap:Nat) (l:List Int) (p:Int) (s:cg p=true) (w:World) (hz:l.length=22) (hs:Sl .u64 w (some ⟨b,a,none⟩) l):CB 73 #[.slice (some ⟨b,a,none⟩) 22 cap,.i p] w (.i (fW l p)):=by
 obtain ⟨V,d⟩:∃ V,V=fW l p:=⟨_,rfl⟩;rw [<- d];unfold fW Gy Bl Bm ku at d;have c:∀ j,j<22->∀ W,Bs w [] W->W.cell? ⟨b,a+j,none⟩=some (.u (l.getD j 0)):=λj u W h=>(h.2.cell (by exact (zm hs 0 ab).1)).trans (zm hs j ab).2;have g:=λx W (_:Bw w W)=>Dy x W;have k:=λ(i:Nat) (r:i<64) W (_:Bw w W)=>gW (l.getD 0 0) i r W;refine bD (S:=Bs w []) (args:=[.slice (some ⟨b,a,none⟩) 22 cap,.i p]) [] func73 ?_;have f:p=0\/p=1\/p=3:=by simpa [cg,or_assoc] using s
 cases m:decide (dA (bits .andNot .u64 (bits .and .u64 (l.getD 9 0) (l.getD 3 0)) (l.getD 2 0))>=0)<;>cases n:(ap (l.getD 0 0) 1==1)<;>cases o:(ap (l.getD 0 0) 3==1)<;>rw [m,n,o] at d<;>rcases f with rfl|rfl|rfl <;>
  exact bm (t:=4) (v:=.i V) Bs.eng {eq:=[(21,ak o),(30,ak m),(42,ak n)],ov:=[(9,je ⟨b,a+9,none⟩ _ underlying22 rfl (c 9 ab)),(12,je ⟨b,a+3,none⟩ _ underlying22 rfl (c 3 ab)),(19,je ⟨b,a+0,none⟩ _ underlying22 rfl (c 0 ab)),(40,je ⟨b,a+0,none⟩ _ underlying22 rfl (c 0 ab)),(26,je ⟨b,a+2,none⟩ _ underlying22 rfl (c 2 ab)),(48,je ⟨b,a+2,none⟩ _ underlying22 rfl (c 2 ab))],cv:=[(20,mL (k 3 ab)),(41,mL (k 1 ab)),(28,fY (g (bits .andNot .u64 (bits .and .u64 (l.getD 9 0) (l.getD 3 0)) (l.getD 2 0)))),(50,fY (g (bits .and .u64 (bits .and .u64 (l.getD 9 0) (l.getD 3 0)) (l.getD 2 0))))]} 120 (Bs.start _ _) (hv:=by subst d;kernel_rfl) (he:=by subst d;kernel_rfl) (λq h=>⟨rfl,h.2⟩)
def xp (M:MV) (size kind:Int):Bool:=dU M&&jp size&&decide (1<=kind/\kind<=3)&&!((kind==1)&&(size != 4))
def uO (M:MV) (addr size kind x:Int):Int × MV × Int:=if xp M size kind=true then aE M addr size kind x else (0,aq,99)
theorem dp:(aj l n).all (·.oneCell')=true:=by unfold aj;kernel_rfl
def Sn (w:World) (r:Nat):World:=(w.setCell ⟨r,11,none⟩ (.u 0)).setCell ⟨r,12,none⟩ (.bool false)
theorem Mp.freeq (h:Mp x a k c w):Mp x a (lL k) c (Sn w a)/\Kx a (aH k c) (aH (lL k) c) w (Sn w a):=by refine ⟨⟨?_,Mp.fam_set (Mp.fam_set h.fam h.ne 11 _) h.ne 12 _,h.ne,h.lo⟩,(Kx.set w 11 _).trans (Kx.set _ 12 _)⟩;have r:=h.row;unfold aj at r;exact bH (bH r 11 (.u 0)) 12 (.bool false)
def yb (A:MA) (a:Option Addr) (c:Nat):MA:=⟨A.ax,A.cx,A.ac,A.cc,a,c,A.ai,A.ci,A.ao,A.co⟩
theorem Mp.ram {r:Nat} {A:MA} (h:Mp x r k A w) (hb:Bw w s) (R:List Int) (a:Option Addr) (c:Nat) (m:s.ownsRow w.heap.size 5 1 (.slice a R.length c) R.length (R.map (Value.int .u8))):Mp x r (bP k R) (yb A a c) (s.setCell ⟨r,4,none⟩ (.slice a R.length c))/\Kx r (aH k A) (aH (bP k R) (yb A a c)) w (s.setCell ⟨r,4,none⟩ (.slice a R.length c)):=by
 have g:=h.lt;have w':x<=w.heap.size:=by have:=h.lo;omega
 have t:=h.fam.below hb;have p:bz x w.heap.size s ([aK A.ax k.x.length A.cx k.x,aK A.ac k.cs.length A.cc k.cs]++[aF A.ai k.d.xs.length A.ci k.d.xs,aF A.ao k.d.ys.length A.co k.d.ys]):=t.sub (by unfold aH;simp);have hF:bz x s.heap.size s (aH (bP k R) (yb A a c)):=p.ins (q:=aF a R.length c R) m w' (Nat.le_refl _) hb.size;have b:∀ q ∈ aH (bP k R) (yb A a c),∀ M,q.v.ownBlock=some M->M<w.heap.size->∃ i ∈ aH k A,i.v.ownBlock=some M:=by
  intro q f M e l;simp only [aH,bP,yb,List.mem_cons,List.not_mem_nil,or_false] at f;rcases f with rfl|rfl|rfl|rfl|rfl;·exact ⟨aK A.ax k.x.length A.cx k.x,dv,e⟩
  ·exact ⟨aK A.ac k.cs.length A.cc k.cs,dv,e⟩
  ·have:=(m.lt M e).1;omega
  ·exact ⟨aF A.ai k.d.xs.length A.ci k.d.xs,dv,e⟩
  ·exact ⟨aF A.ao k.d.ys.length A.co k.d.ys,dv,e⟩
 have d:∀ q ∈ aH (bP k R) (yb A a c),q.v.ownBlock≠some r:=λq f e=>by obtain ⟨i,o,n⟩:=b q f r e g;exact h.ne i o n
 have j:=br hb h.row;unfold aj at j;have u:Kx r (aH k A) (aH (bP k R) (yb A a c)) w s:=⟨hb.os,hb.tape,hb.output,hb.size,λM l _ _=>hb.block M l,b⟩;exact ⟨⟨bH j 4 (.slice a R.length c),Mp.fam_set hF d 4 _,d,h.lo⟩,u.trans (Kx.set s 4 _)⟩
theorem QN (w:World) (hm:Mp t o l n w) (Q:∀ size,Mp t o l n size->Calls prog 285 #[.agg #[.u l.d.t,.u l.d.cm,.bool l.d.so,.slice n.ai l.d.xs.length n.ci,.slice n.ao l.d.ys.length n.co,.i l.d.ir],.u f,.i d] size λe R=>∃ (addr:Option Addr) (j:Nat) (g:Option Addr) (M:Nat),e=.returned (.tuple #[.u m,.agg #[.u z.t,.u z.cm,.bool z.so,.slice addr z.xs.length j,.slice g z.ys.length M,.i z.ir],.bool X])/\bz size.heap.size R.heap.size R (gj addr z.xs.length j z.xs g z.ys.length M z.ys)/\Bw size R): Calls prog 253 #[.p o 5,.u f,.i d] w λe size=>e=.returned (.tuple #[.u m,.bool X])/\∃ J,Mp t o (if X=true then dc l z else l) J size/\Kx o (aH l n) (aH (if X=true then dc l z else l) J) w size:=by
 have p:=aG hm;have S:=aG Q;obtain ⟨U,V,W,is,Y,K,L,N,O,P,B,E,F,G⟩:=be hm.row;clear hm Q;go_enter func253,ntmps253;go_wp2_with fail;refine (S.out _ p.out).mono ?_;rintro e I ⟨addr,j,g,M,rfl,u,c⟩;have y:=aG (aa c ((Below.refl _ _).alloc (Nat.le_refl _) (.cells #[.u z.t,.u z.cm,.bool z.so,.slice addr z.xs.length j,.slice g z.ys.length M,.i z.ir] 30 (0,0))));have T:Hid (fJ w (I.alloc (.cells #[.u z.t,.u z.cm,.bool z.so,.slice addr z.xs.length j,.slice g z.ys.length M,.i z.ir] 30 (0,0))) n.ai n.ci l.d.xs n.ao n.co l.d.ys addr j z.xs g M z.ys):=fJ.below (.inr (.inr (.inr u))) (bal _ _);have b:=br c p.out.row;unfold aj at b;have H:¬ o=I.heap.size:=by have h1:=p.out.lt;have h2:=c.size;omega
 have nb2:¬ I.heap.size=o:=λh=>H h.symm;clear U V W is Y K L N O P B E F G;have K:=λr=>(be (dj b r)).2.2.2.2.2.1;have L:=λr=>(be (dj b r)).2.2.2.2.2.2.1;have N:=λr=>(be (dj b r)).2.2.2.2.2.2.2.1;have O:=λr=>(be (dj b r)).2.2.2.2.2.2.2.2.1;have P:=λr=>(be (dj b r)).2.2.2.2.2.2.2.2.2.1;have B:=λr=>(be (dj b r)).2.2.2.2.2.2.2.2.2.2.1;have f5:=λr=>(fj (dj b r)).2.2.2.2.2.1;have f6:=λr=>(fj (dj b r)).2.2.2.2.2.2.1;have f7:=λr=>(fj (dj b r)).2.2.2.2.2.2.2.1;have f8:=λr=>(fj (dj b r)).2.2.2.2.2.2.2.2.1;have f9:=λr=>(fj (dj b r)).2.2.2.2.2.2.2.2.2.1;have Z:=λr=>(fj (dj b r)).2.2.2.2.2.2.2.2.2.2.1;clear c u b;cases X with
 | false =>go_wp2_with fail;refine bodyPost_ret (results_tmp2 rfl _ _ _) rfl ?_;exact ⟨rfl,n,p.out.below y.out,Kx.of_below y.out⟩
 | true =>obtain ⟨s,q⟩:=p.out.dev y.out z T.out;have C:=aG s;have D:=aG q;clear s q;go_wp2_with fail;refine bodyPost_ret (results_tmp2 rfl _ _ _) rfl ?_;exact ⟨rfl,kC n addr j g M,C.out,D.out⟩
theorem QO (w:World) (hm:Mp t o l n w) (Q:∀ size,Mp t o l n size->Calls prog 288 #[.agg #[.u l.d.t,.u l.d.cm,.bool l.d.so,.slice n.ai l.d.xs.length n.ci,.slice n.ao l.d.ys.length n.co,.i l.d.ir],.u f,.i d,.u m] size λe x=>∃ (addr:Option Addr) (j:Nat) (g:Option Addr) (M:Nat),e=.returned (.tuple #[.agg #[.u z.t,.u z.cm,.bool z.so,.slice addr z.xs.length j,.slice g z.ys.length M,.i z.ir],.bool X])/\bz size.heap.size x.heap.size x (gj addr z.xs.length j z.xs g z.ys.length M z.ys)/\Bw size x): Calls prog 283 #[.p o 5,.u f,.i d,.u m] w λe size=>e=.returned (.bool X)/\∃ J,Mp t o (if X=true then dc l z else l) J size/\Kx o (aH l n) (aH (if X=true then dc l z else l) J) w size:=by
 have p:=aG hm;have R:=aG Q;obtain ⟨T,U,V,W,is,K,L,N,O,P,B,E,F,G⟩:=be hm.row;clear hm Q;go_enter func283,ntmps283;go_wp2_with fail;refine (R.out _ p.out).mono ?_;rintro e I ⟨addr,j,g,M,rfl,u,c⟩;have y:=aG (aa c ((Below.refl _ _).alloc (Nat.le_refl _) (.cells #[.u z.t,.u z.cm,.bool z.so,.slice addr z.xs.length j,.slice g z.ys.length M,.i z.ir] 30 (0,0))));have S:Hid (fJ w (I.alloc (.cells #[.u z.t,.u z.cm,.bool z.so,.slice addr z.xs.length j,.slice g z.ys.length M,.i z.ir] 30 (0,0))) n.ai n.ci l.d.xs n.ao n.co l.d.ys addr j z.xs g M z.ys):=fJ.below (.inr (.inr (.inr u))) (bal _ _);have b:=br c p.out.row;unfold aj at b;have H:¬ o=I.heap.size:=by have h1:=p.out.lt;have h2:=c.size;omega
 have Z:¬ I.heap.size=o:=λh=>H h.symm;clear T U V W is K L N O P B E F G;have K:=λr=>(be (dj b r)).2.2.2.2.2.1;have L:=λr=>(be (dj b r)).2.2.2.2.2.2.1;have N:=λr=>(be (dj b r)).2.2.2.2.2.2.2.1;have O:=λr=>(be (dj b r)).2.2.2.2.2.2.2.2.1;have P:=λr=>(be (dj b r)).2.2.2.2.2.2.2.2.2.1;have B:=λr=>(be (dj b r)).2.2.2.2.2.2.2.2.2.2.1;have f5:=λr=>(fj (dj b r)).2.2.2.2.2.1;have f6:=λr=>(fj (dj b r)).2.2.2.2.2.2.1;have f7:=λr=>(fj (dj b r)).2.2.2.2.2.2.2.1;have f8:=λr=>(fj (dj b r)).2.2.2.2.2.2.2.2.1;have f9:=λr=>(fj (dj b r)).2.2.2.2.2.2.2.2.2.1;have Y:=λr=>(fj (dj b r)).2.2.2.2.2.2.2.2.2.2.1;clear c u b;cases X with
 | false =>go_wp2_with fail;go_ret;exact ⟨rfl,n,p.out.below y.out,Kx.of_below y.out⟩
 | true =>obtain ⟨s,q⟩:=p.out.dev y.out z S.out;have C:=aG s;have D:=aG q;clear s q;go_wp2_with fail;go_ret;exact ⟨rfl,kC n addr j g M,C.out,D.out⟩
theorem NU (hm:Mp t o l n y) (c:(l.hl&&(Uz.wrap (f.tdiv 8)==Uz.wrap (l.hd.tdiv 8)))=D): Calls prog 284 #[.p o 0,.u f] y λe j=>e=.returned (.tuple #[])/\Mp t o (if D=true then lL l else l) n j/\Kx o (aH l n) (aH (if D=true then lL l else l) n) y j:=by
 have pa:=aG hm;obtain ⟨w,z,C,hit,E,F,G,H,I,J,m,r,g,p⟩:=be hm.row;obtain ⟨K,L,N,O,P,Q,R,S,T,U,q,s,B,u⟩:=fj hm.row;clear hm;obtain ⟨M,d⟩:∃ b,b=l.hl:=⟨_,rfl⟩;rw [<- d] at g c;clear d;cases M with
 | false =>rw [Bool.false_and] at c;subst c;go_enter func284,ntmps284;go_wp2_with fail;refine bodyPost_end (results_none rfl _ _ _) rfl ?_;exact ⟨rfl,pa.out,Kx.refl _ _ _⟩
 | true =>
   rw [Bool.true_and] at c;cases D with
   | false =>go_enter func284,ntmps284;go_wp2_with fail;refine bodyPost_end (results_none rfl _ _ _) rfl ?_;exact ⟨rfl,pa.out,Kx.refl _ _ _⟩
   | true =>go_enter func284,ntmps284;go_wp2_with fail;refine bodyPost_end (results_none rfl _ _ _) rfl ?_;exact ⟨rfl,pa.out.freeq.1,pa.out.freeq.2⟩
theorem TT (M:MV) (A:MA) (B r:Nat) (pa size x:Int) (R:List Int) (D:DV) (m is:Bool) (f t:MV->MV) (w:World) (hm:Mp B r M A w) (hS:∀ d,Mp B r M A d->Calls prog 194 #[.slice A.ar M.ram.length A.cr,.u pa,.i size,.u x] d λe c=>∃ (J:Option Addr) (K:Nat),e=.returned (.tuple #[.slice J R.length K,.bool m])/\c.ownsRow d.heap.size 5 1 (.slice J R.length K) R.length (R.map (Value.int .u8))/\Bw d c) (hV:∀ d,Mp B r M A d->Calls prog 283 #[.p r 5,.u pa,.i size,.u x] d λe c=>e=.returned (.bool is)/\∃ b,Mp B r (if is=true then dc M D else M) b c/\Kx r (aH M A) (aH (if is=true then dc M D else M) b) d c) (hT:∀ (X:MV) (b:MA) d,Mp B r X b d->(X=bP M R\/X=dc M D)->Calls prog 254 #[.p r 0] d λe c=>e=.returned (.tuple #[])/\Mp B r (f X) b c/\Kx r (aH X b) (aH (f X) b) d c) (hG:∀ (X:MV) (b:MA) d,Mp B r X b d->(X=f (bP M R)\/X=f (dc M D))->Calls prog 284 #[.p r 0,.u pa] d λe c=>e=.returned (.tuple #[])/\Mp B r (t X) b c/\Kx r (aH X b) (aH (t X) b) d c):Calls prog 252 #[.p r 0,.u pa,.i size,.u x] w λe d=>e=.returned (.bool (m||is))/\∃ b,Mp B r (if m=true then t (f (bP M R)) else if is=true then t (f (dc M D)) else M) b d/\Kx r (aH M A) (aH (if m=true then t (f (bP M R)) else if is=true then t (f (dc M D)) else M) b) w d:=by
 have HM:=aG hm;have HS:=aG hS;have HV:=aG hV;have HTM:Hid (∀ (b:MA) d,Mp B r (bP M R) b d->Calls prog 254 #[.p r 0] d λe c=>e=.returned (.tuple #[])/\Mp B r (f (bP M R)) b c/\Kx r (aH (bP M R) b) (aH (f (bP M R)) b) d c):=λb d h=>hT _ b d h (.inl rfl);have HTD:Hid (∀ (b:MA) d,Mp B r (dc M D) b d->Calls prog 254 #[.p r 0] d λe c=>e=.returned (.tuple #[])/\Mp B r (f (dc M D)) b c/\Kx r (aH (dc M D) b) (aH (f (dc M D)) b) d c):=λb d h=>hT _ b d h (.inr rfl);have HGM:Hid (∀ (b:MA) d,Mp B r (f (bP M R)) b d->Calls prog 284 #[.p r 0,.u pa] d λe c=>e=.returned (.tuple #[])/\Mp B r (t (f (bP M R))) b c/\Kx r (aH (f (bP M R)) b) (aH (t (f (bP M R))) b) d c):=λb d h=>hG _ b d h (.inl rfl);have HGD:Hid (∀ (b:MA) d,Mp B r (f (dc M D)) b d->Calls prog 284 #[.p r 0,.u pa] d λe c=>e=.returned (.tuple #[])/\Mp B r (t (f (dc M D))) b c/\Kx r (aH (f (dc M D)) b) (aH (t (f (dc M D))) b) d c):=λb d h=>hG _ b d h (.inr rfl);obtain ⟨V,W,Y,Z,c4,c5,c6,c7,c8,c9,y,z,C,E⟩:=be hm.row;clear hm hS hV hT hG;go_enter func252,ntmps252;go_wp2_with fail;refine (HS.out _ HM.out).mono ?_;rintro e w5 ⟨J,K,rfl,N,l⟩;have u:=aG (HM.out.below l);have KX5:=aG (Kx.of_below (r:=r) (L:=aH M A) l);cases m with
 | true =>obtain ⟨S,P⟩:=HM.out.ram l R J K N;have j:=aG S;have g:=aG P;clear V W Y Z c4 c5 c6 c7 c8 c9 y z C E;obtain ⟨V,W,Y,Z,c4,c5,c6,c7,c8,c9,y,z,C,E⟩:=be u.out.row;obtain ⟨f0,f1,f2,f3,f4,f5,f6,f7,f8,f9,f10,f11,f12,f13⟩:=fj u.out.row;clear S P N l;go_wp2_with fail;refine (HTM.out (yb A J K) _ j.out).mono ?_;rintro e w7 ⟨rfl,q,o⟩;have H:=aG q;have F:=aG ((g.out).trans o);clear q o;go_wp2_with fail;refine (HGM.out (yb A J K) _ H.out).mono ?_;rintro e w8 ⟨rfl,s,p⟩;have I:=aG s;have G:=aG (F.out.trans p);clear s p;go_wp2_with fail;go_ret;exact ⟨rfl,(yb A J K),I.out,G.out⟩
 | false =>
   clear N l;clear V W Y Z c4 c5 c6 c7 c8 c9 y z C E;obtain ⟨V,W,Y,Z,c4,c5,c6,c7,c8,c9,y,z,C,E⟩:=be u.out.row;go_wp2_with fail;refine (HV.out _ u.out).mono ?_;rintro e w6 ⟨rfl,b,U,T⟩;have j:=aG U;have g:=aG (KX5.out.trans T);clear U T;cases is with
   | false =>go_wp2_with fail;go_ret;exact ⟨rfl,b,j.out,g.out⟩
   | true =>have Q:Hid (Mp B r (dc M D) b w6):=j.out;have O:Hid (Kx r (aH M A) (aH (dc M D) b) w w6):=g.out;clear j g;go_wp2_with fail;refine (HTD.out b _ Q.out).mono ?_;rintro e w7 ⟨rfl,q,o⟩;have H:=aG q;have F:=aG ((O.out).trans o);clear q o;go_wp2_with fail;refine (HGD.out b _ H.out).mono ?_;rintro e w8 ⟨rfl,s,p⟩;have I:=aG s;have G:=aG (F.out.trans p);clear s p;go_wp2_with fail;go_ret;exact ⟨rfl,b,I.out,G.out⟩
theorem QP (w:World) (hm:Mp t o l n w) (r:∀ c,Mp t o l n c->Calls prog 252 #[.p o 0,.u f,.i d,.u m] c λe g=>e=.returned (.bool X)/\∃ b,Mp t o W b g/\Kx o (aH l n) (aH W b) c g): Calls prog 235 #[.p o 0,.u f,.i d,.i 3,.u m] w λe c=>e=.returned (.tuple #[.u 0,.bool X])/\∃ b,Mp t o W b c/\Kx o (aH l n) (aH W b) w c:=by have q:=aG hm;have s:=aG r;clear hm r;go_enter func235,ntmps235;go_wp2_with fail;refine (s.out _ q.out).mono ?_;rintro e B ⟨rfl,b,pa,size⟩;have x:=aG pa;have M:=aG size;clear pa size;go_wp2_with fail;refine bodyPost_ret (results_tmp2 rfl _ _ _) rfl ?_;exact ⟨rfl,b,x.out,M.out⟩
theorem QQ (w:World) (hm:Mp t o l n w) (I:∀ pa,Mp t o l n pa->CB 188 #[.slice n.ar l.ram.length n.cr,.u f,.i d] pa (.tuple #[.u J,.bool X])): Calls prog 235 #[.p o 0,.u f,.i d,.i 1,.u m] w λe pa=>e=.returned (.tuple #[.u (if X=true then J else 0),.bool (X||false)])/\∃ q,Mp t o (if X=true then l else l) q pa/\Kx o (aH l n) (aH (if X=true then l else l) q) w pa:=by
 have s:=aG hm;have K:=aG I;obtain ⟨B,u,y,z,C,D,E,F,G,H,j,M,x,r⟩:=be hm.row;clear hm I;go_enter func235,ntmps235;go_wp2_with fail;refine (K.out _ s.out).mono ?_;rintro e N ⟨rfl,size⟩;have c:=aG (s.out.below size);have g:=aG (Kx.of_below (r:=o) (L:=aH l n) size);clear size;clear B u y z C D E F G H j M x r;obtain ⟨B,u,y,z,C,D,E,F,G,H,j,M,x,r⟩:=be c.out.row;cases X with
 | true =>go_wp2_with fail;refine bodyPost_ret (results_tmp2 rfl _ _ _) rfl ?_;exact ⟨rfl,n,c.out,g.out⟩
 | false =>go_wp2_with fail;refine bodyPost_ret (results_tmp2 rfl _ _ _) rfl ?_;exact ⟨rfl,n,c.out,g.out⟩
theorem QR (M2 z:MV) (W:Int) (is:Bool) (w:World) (hm:Mp t o l n w) (U:∀ b,Mp t o l n b->CB 188 #[.slice n.ar l.ram.length n.cr,.u f,.i d] b (.tuple #[.u J,.bool X])) (T:∀ b,Mp t o l n b->Calls prog 253 #[.p o 5,.u f,.i d] b λe c=>e=.returned (.tuple #[.u W,.bool is])/\∃ pa,Mp t o M2 pa c/\Kx o (aH l n) (aH M2 pa) b c) (V:∀ (pa:MA) b,Mp t o M2 pa b->Calls prog 254 #[.p o 0] b λe c=>e=.returned (.tuple #[])/\Mp t o z pa c/\Kx o (aH M2 pa) (aH z pa) b c): Calls prog 235 #[.p o 0,.u f,.i d,.i 2,.u m] w λe b=>e=.returned (.tuple #[.u (if X=true then J else W),.bool (X||is)])/\∃ pa,Mp t o (if X=true then l else z) pa b/\Kx o (aH l n) (aH (if X=true then l else z) pa) w b:=by
 have G:=aG hm;have Z:=aG U;have Y:=aG T;have HT:=aG V;clear T V;obtain ⟨H,I,x,K,N,O,P,Q,R,S,size,r,p,q⟩:=be hm.row;clear hm U;go_enter func235,ntmps235;go_wp2_with fail;refine (Z.out _ G.out).mono ?_;rintro e w5 ⟨rfl,j⟩;have g:=aG (G.out.below j);have M:=aG (Kx.of_below (r:=o) (L:=aH l n) j);clear j;clear H I x K N O P Q R S size r p q;obtain ⟨H,I,x,K,N,O,P,Q,R,S,size,r,p,q⟩:=be g.out.row;cases X with
 | true =>go_wp2_with fail;refine bodyPost_ret (results_tmp2 rfl _ _ _) rfl ?_;exact ⟨rfl,n,g.out,M.out⟩
 | false =>go_wp2_with fail;refine (Y.out _ g.out).mono ?_;rintro e w6 ⟨rfl,pa,u,s⟩;have E:=aG u;have C:=aG (M.out.trans s);clear u s;go_wp2_with fail;refine (HT.out pa _ E.out).mono ?_;rintro e w7 ⟨rfl,y,B⟩;have F:=aG y;have D:=aG (C.out.trans B);clear y B;go_wp2_with fail;refine bodyPost_ret (results_tmp2 rfl _ _ _) rfl ?_;exact ⟨rfl,pa,F.out,D.out⟩
theorem g7 (hk:f=1\/f=2\/f=3) (w:World):CE 210 #[.i f] w (.i (if f=1 then 0 else if f=2 then 4 else 6)):=by
 rcases hk with rfl|rfl|rfl;·go_enter func210,ntmps210;exact x7
 ·go_enter func210,ntmps210;exact x7
 ·go_enter func210,ntmps210;exact x7
theorem nP (hk:f=1\/f=2\/f=3) (w:World):CE 91 #[.i f] w (.i (if f=2 then 5 else if f=3 then 7 else 1)):=by
 rcases hk with rfl|rfl|rfl;·go_enter func91,ntmps91;exact x7
 ·go_enter func91,ntmps91;exact x7
 ·go_enter func91,ntmps91;exact x7
theorem Ij (op:BinOp) (a b:Int):0<=bits op .u64 a b/\bits op .u64 a b<18446744073709551616:=by have h:=SK (wf_bits op .u64 a b);omega
def rC (t:TV) (to:Int):TV:=if dg to 1 1==1 then {t with up:=true,cz:=0,vl:=to} else {t with nx:=to}
theorem Dz {o:Nat} {y:Int} (h:ix ⟨x,bL k c r,[]⟩ w) (J:5<=r.op) (z:r.op<=10) (q:c.ax=some ⟨a,o,none⟩) (B:0<=r.ra/\r.ra<k.x.length) (C:0<=r.rb/\r.rb<k.x.length) (hb:a≠x) (hx:w.cell? ⟨a,o+r.ra.toNat,none⟩=some (.u p)) (hy:w.cell? ⟨a,o+r.rb.toNat,none⟩=some (.u y)): Calls prog 154 #[.p x 0] w λe s=>e=.returned (.tuple #[])/\Iv [x] w [⟨x,bL k c (if KO r.op p y then rC r (Uz.wrap (k.pc+Uz.wrap r.im)) else r),[]⟩] s:=by
 have A:∀ (t:Addr) v,t.block=a->w.cell? t=some v->∀ W,Iv [x] w [⟨x,bL k c r,[]⟩] W->W.cell? t=some v:=λt v L I W M=>by rw [<- I];simp only [World.cell?,M.ag.block t.block (lK I) (by rw [L];simpa using hb)]
 obtain ⟨l,d⟩:∃ l,l=Uz.wrap (k.pc+Uz.wrap r.im):=⟨_,rfl⟩;have E:(r.op==4)=false:=by simp;omega
 have F:(r.op==3)=false:=by simp;omega
 have G:Pc r.op=true:=by simp [Pc,J,z]
 rw [<- d];obtain ⟨H,f⟩:∃ H,KO r.op p y=H:=⟨_,rfl⟩;rw [f];refine gq (args:=[.p x 0]) (Iv [x] w [⟨x,bL k c r,[]⟩]) func154 ?_;refine aN 0 1 ?_;cases H with
 | false =>refine lE Iv.eng {eq:=[(19,ak E),(21,ak F),(46,ak f)],cv:=[(11,xA λW M=>tI M.row1),(42,xA λW M=>L7 M.row1 q B hb (A _ _ rfl hx W M)),(44,xA λW M=>VC M.row1 q C hb (A _ _ rfl hy W M)),(45,jQ Iv.below λW _=>kQ r.op p y G W)]} 200 (Iv.one h) λs g K _=>⟨_,results_none rfl _ _ _,rfl,K⟩
 | true =>
   have i:0<=l:=(by rw [d,IntKind.wrap_u64];omega);have j:l<18446744073709551616:=(by rw [d,IntKind.wrap_u64];omega);rw [if_pos rfl];unfold rC;obtain ⟨u,n⟩:∃ u,(dg l 1 1==1)=u:=⟨_,rfl⟩;rw [n];cases u with
   | true =>refine aW Iv.eng {eq:=[(12,dP .u64 d.symm),(19,ak E),(21,ak F),(46,ak f),(52,ak n)],cv:=[(11,xA λW M=>tI M.row1),(42,xA λW M=>L7 M.row1 q B hb (A _ _ rfl hx W M)),(44,xA λW M=>VC M.row1 q C hb (A _ _ rfl hy W M)),(45,jQ Iv.below λW _=>kQ r.op p y G W),(51,jQ Iv.below λW _=>(bF l 1 1 i j bc bc W).mono λe s b=>⟨b.1,by rw [b.2];exact (Below.refl _ _).drew⟩),(54,kj λW _=>g7 1 (.inl rfl) W)]} 200 (Iv.one h) (λW M=>km 0 l M.row1) λW e s M D=>⟨_,0,D.1,gE ba,?_⟩;refine aJ (λ_=>True) ?_;exact px (Iv.one D.2.row1) {} 40 λW' m=>⟨rfl,(M.then1 D.2).then1 m⟩
   | false =>refine ae Iv.eng {eq:=[(12,dP .u64 d.symm),(19,ak E),(21,ak F),(46,ak f),(52,ak n)],cv:=[(11,xA λW M=>tI M.row1),(42,xA λW M=>L7 M.row1 q B hb (A _ _ rfl hx W M)),(44,xA λW M=>VC M.row1 q C hb (A _ _ rfl hy W M)),(45,jQ Iv.below λW _=>kQ r.op p y G W),(51,jQ Iv.below λW _=>(bF l 1 1 i j bc bc W).mono λe s b=>⟨b.1,by rw [b.2];exact (Below.refl _ _).drew⟩)]} 200 (Iv.one h) λW M=>?_;refine aJ (λ_=>True) ?_;exact gx (Iv.one M.row1) {} 40 λW' m=>⟨rfl,M.then1 m⟩
theorem Ks (h:ix ⟨x,bL k c r,[]⟩ w) (l:r.op=3): Calls prog 154 #[.p x 0] w λe p=>e=.returned (.tuple #[])/\Iv [x] w [⟨x,bL k c (rC {r with rs:=r.nx} (Uz.wrap (k.pc+Uz.wrap r.im))),[]⟩] p:=by
 obtain ⟨f,a⟩:∃ f,f=Uz.wrap (k.pc+Uz.wrap r.im):=⟨_,rfl⟩;have t:(r.op==4)=false:=by simp;omega
 have s:(r.op==3)=true:=by simp;omega
 have j:0<=f:=by rw [a,IntKind.wrap_u64];omega
 have M:f<18446744073709551616:=by rw [a,IntKind.wrap_u64];omega
 rw [<- a];refine gq (args:=[.p x 0]) (Iv [x] w [⟨x,bL k c r,[]⟩]) func154 ?_;refine aN 0 1 ?_;refine ae Iv.eng {eq:=[(12,dP .u64 a.symm),(19,ak t),(21,ak s)],cv:=[(11,xA λW b=>tI b.row1)]} 200 (Iv.one h) λW b=>?_;refine aJ (λ_=>True) ?_;refine fN (R1:=[⟨x,bL k c {r with rs:=r.nx},[]⟩]) (Iv.one b.row1) {} 40 (λn o=>bF f 1 1 j M bc bc n) λn e q o i=>⟨_,0,i.1,?_⟩;have l:Iv [x] w [⟨x,bL k c {r with rs:=r.nx},[]⟩] q:=(b.then1 o).below (by rw [i.2];exact (Below.refl _ _).drew);unfold rC;obtain ⟨m,d⟩:∃ m,(dg f 1 1==1)=m:=⟨_,rfl⟩;rw [d];cases m with
 | true =>refine aJ (Iv [x] w [⟨x,bL k c {r with rs:=r.nx},[]⟩]) ?_;refine aW Iv.eng {eq:=[(52,ak d)],cv:=[(54,kj λW _=>g7 1 (.inl rfl) W)]} 200 l (λW b=>km 0 f b.row1) λW e p b i=>⟨_,0,i.1,gE ba,?_⟩;refine aJ (λ_=>True) ?_;exact px (Iv.one i.2.row1) {} 40 λW' A=>⟨rfl,(b.then1 i.2).then1 A⟩
 | false =>exact gx (Iv.one l.row1) {eq:=[(52,ak d)]} 60 λW' A=>⟨rfl,l.then1 A⟩
theorem NV {o:Nat} (h:ix ⟨x,bL k c r,[]⟩ w) (h4:r.op=4) (z:c.ax=some ⟨a,o,none⟩) (C:0<=r.ra/\r.ra<k.x.length) (hb:a≠x) (hx:w.cell? ⟨a,o+r.ra.toNat,none⟩=some (.u p)): Calls prog 154 #[.p x 0] w λe u=>e=.returned (.tuple #[])/\Iv [x] w [⟨x,bL k c (rC {r with rs:=r.nx} (bits .andNot .u64 (Uz.wrap (p+Uz.wrap r.im)) 1)),[]⟩] u:=by
 obtain ⟨i,M⟩:∃ i,i=bits .andNot .u64 (Uz.wrap (p+Uz.wrap r.im)) 1:=⟨_,rfl⟩;have E:(r.op==4)=true:=by simp;omega
 have B:∀ (t:Addr) v,t.block=a->w.cell? t=some v->∀ W,Iv [x] w [⟨x,bL k c r,[]⟩] W->W.cell? t=some v:=λt v D s W g=>by rw [<- s];simp only [World.cell?,g.ag.block t.block (lK s) (by rw [D];simpa using hb)]
 have b:0<=i:=by rw [M];exact (Ij _ _ _).1
 have l:i<18446744073709551616:=by rw [M];exact (Ij _ _ _).2
 rw [<- M];refine gq (args:=[.p x 0]) (Iv [x] w [⟨x,bL k c r,[]⟩]) func154 ?_;refine aN 0 1 ?_;refine ae Iv.eng {eq:=[(27,dP .u64 M.symm),(19,ak E)],cv:=[(11,xA λW g=>tI g.row1),(23,xA λW g=>L7 g.row1 z C hb (B _ _ rfl hx W g)),(25,xA λW g=>tI g.row1)]} 200 (Iv.one h) λW g=>?_;refine aJ (λ_=>True) ?_;refine fN (R1:=[⟨x,bL k c {r with rs:=r.nx},[]⟩]) (Iv.one g.row1) {} 40 (λq A=>bF i 1 1 b l bc bc q) λq e y A j=>⟨_,0,j.1,?_⟩;have n:Iv [x] w [⟨x,bL k c {r with rs:=r.nx},[]⟩] y:=(g.then1 A).below (by rw [j.2];exact (Below.refl _ _).drew);unfold rC;obtain ⟨m,f⟩:∃ m,(dg i 1 1==1)=m:=⟨_,rfl⟩;rw [f];cases m with
 | true =>refine aJ (Iv [x] w [⟨x,bL k c {r with rs:=r.nx},[]⟩]) ?_;refine aW Iv.eng {eq:=[(52,ak f)],cv:=[(54,kj λW _=>g7 1 (.inl rfl) W)]} 200 n (λW g=>km 0 i g.row1) λW e u g j=>⟨_,0,j.1,gE ba,?_⟩;refine aJ (λ_=>True) ?_;exact px (Iv.one j.2.row1) {} 40 λW' d=>⟨rfl,(g.then1 j.2).then1 d⟩
 | false =>exact gx (Iv.one n.row1) {eq:=[(52,ak f)]} 60 λW' d=>⟨rfl,n.then1 d⟩
inductive Wf where
 | ld | st | hd | sc | am
def Wf.ty:Wf->Nat
 | .ld=>181
 | .st=>183
 | .hd=>185
 | .sc=>186
 | .am=>187
def ns (f:Wf) (n:Int) (s:Bool):Value:=.iface f.ty (.agg #[.i n,.bool s])
theorem rD (f:Wf) (n:Int) (s:Bool) (a:r.fm=ns f n s) (h:ix ⟨x,bL k c r,[]⟩ w):Calls prog 211 #[.p x 0] w λe A=>e=.returned (ns f n s)/\Iv [x] w [⟨x,bL k c r,[]⟩] A:=by obtain ⟨M,y,m,q,o,p,j,i,t,l,wr,u,d,g⟩:=r;dsimp only at a;subst a;refine gq (args:=[.p x 0]) (λ_=>True) func211 ?_;refine aN 0 1 ?_;cases f<;>exact vS (t:=2) (v:=ns _ n s) (Iv.one h) {} 40 λW b=>⟨rfl,b⟩
theorem AK:CB 311 #[.agg #[.i f,.bool D]] y (.i f):=by refine bD (args:=[.agg #[.i f,.bool D]]) (S:=Bs y [(#[.i f,.bool D],179)]) [(#[.i f,.bool D],179)] func311 ?_;exact bm (t:=2) (v:=.i f) Bs.eng {} 40 (Bs.start _ _) λa h=>⟨rfl,h.2⟩
theorem Kt (n:Nat) (s:Bool) (x:Int) (hn:n=1\/n=2\/n=4\/n=8) (w:World):CB 312 #[.agg #[.i n,.bool s],.u x] w (.u (if s then au (8*n) x else x)):=by
 refine bD (args:=[.agg #[.i n,.bool s],.u x]) (S:=Bs w [(#[.i n,.bool s],179)]) [(#[.i n,.bool s],179)] func312 ?_;cases s with
 | false=>exact bm (t:=4) (v:=.u x) Bs.eng {} 40 (Bs.start _ _) λa h=>⟨rfl,h.2⟩
 | true =>have b:IntKind.i64.wrap (8*(n:Int))=((8*n:Nat):Int):=(by rcases hn with rfl | rfl | rfl | rfl<;>rfl);exact bm (t:=4) (v:=.u (au (8*n) x)) Bs.eng {eq:=[(10,dP .i64 b)],cv:=[(11,mL λW _=>iX x (8*n) ab ab W)]} 40 (Bs.start _ _) λa h=>⟨rfl,h.2⟩
def cN:Bool->Array Value
 | true=>#[.i 3,.i 4,.i 6,.i 7,.i 8,.i 3,.i 7,.i 11,.i 2]
 | false=>#[.i 1,.i 10,.i 12,.i 13,.i 14,.i 1,.i 5,.i 8,.i 1]
theorem zn:(prog.info? 168).map (·.size)=some 9:=by kernel_rfl
theorem kR:CB 145 #[] y (.agg (cN true)):=by go_enter func145,ntmps145;go_wp2_with fail;exact bodyPost_ret (results_cell_row results145 _ _ _ _ _ _ _ rfl (heap_alloc_new _ _) underlying168 rfl zn) rfl ⟨rfl,bal _ _⟩
theorem jn:CB 147 #[] y (.agg (cN false)):=by go_enter func147,ntmps147;go_wp2_with fail;exact bodyPost_ret (results_cell_row results147 _ _ _ _ _ _ _ rfl (heap_alloc_new _ _) underlying168 rfl zn) rfl ⟨rfl,bal _ _⟩
theorem NW:IntKind.i64.wrap f=wrap64 f:=by rw [IntKind.wrap_i64];unfold wrap64;omega
theorem AL (h:U f) (k n:Nat) (hk:k<64) (hn:n<64) (W:World):CB 66 #[.u f,.i k,.i n] W (.u (dg f k n)):=(bF f k n h.1 h.2 hk hn W).mono λe a k=>⟨k.1,k.2 ▸ (Below.refl _ _).drew⟩
theorem DA (h:U d) (hr:IntKind.i64.wrap (dg d (if D=true then 11 else 8) (if D=true then 2 else 1))=m) (w:World):CB 251 #[.agg (cN D),.u d] w (.i m):=by have a:=λW (_:Bw w W)=>AL d h (if D=true then 11 else 8) (if D=true then 2 else 1) (by cases D<;>decide) (by cases D<;>decide) W;refine bD (S:=Bs w [(cN D,168)]) (args:=[.agg (cN D),.u d]) [(cN D,168)] func251 ?_;cases D<;>exact bm (t:=4) (v:=.i m) Bs.eng {cv:=[(10,fY a)],eq:=[(11,dP .i64 hr)]} 60 (Bs.start _ _) λW h=>⟨rfl,h.2⟩
theorem zo:CB 233 #[.agg (cN D),.u d] y (.u (bits .andNot .u64 d (if D=true then 6280 else 290))):=by refine bD (S:=Bs y [(cN D,168)]) (args:=[.agg (cN D),.u d]) [(cN D,168)] func233 ?_;cases D<;>exact bm (t:=4) (v:=.u (bits .andNot .u64 d _)) Bs.eng {} 60 (Bs.start _ _) λW h=>⟨rfl,h.2⟩
theorem xq (h:U f) (w:World):CB 251 #[.agg (cN true),.u f] w (.i (dy f true)):=DA true f _ h (by rw [Na f h];exact NW _) w
theorem DB (h:U f) (w:World):CB 251 #[.agg (cN false),.u f] w (.i (dy f false)):=DA false f _ h (by rw [CM f h];exact NW _) w
theorem sV (h:U d) (s:Uz.wrap m=m) (hr:bits .or .u64 (bits .or .u64 (bits .andNot .u64 d (if D=true then 6280 else 290)) (Uz.wrap (dg d (if D=true then 3 else 1) 1*(if D=true then 128 else 32)))) (Uz.wrap (m*(if D=true then 2048 else 256)))=J) (w:World):CB 198 #[.agg (cN D),.u d,.i m] w (.u J):=by have a:=λW (_:Bw w W)=>AL d h (if D=true then 3 else 1) 1 (by cases D<;>decide) bc W;have b:=λW (_:Bw w W)=>zo D d W;refine bD (S:=Bs w [(cN D,168)]) (args:=[.agg (cN D),.u d,.i m]) [(cN D,168)] func198 ?_;generalize dg d (if D=true then 3 else 1) 1=y at *;cases D<;>exact bm (t:=6) (v:=.u J) Bs.eng {cv:=[(11,fY a),(14,fY b)],eq:=[(21,dP .u64 s),(25,dP .u64 hr)]} 90 (Bs.start _ _) λW h=>⟨rfl,h.2⟩
theorem Ku (a:cg d=true) (h:U f) (w:World):CB 198 #[.agg (cN true),.u f,.i d] w (.u (mg f d)):=by
 have b:d=0\/d=1\/d=3:=by simpa [cg,or_assoc] using a
 exact sV true f d _ h dm (Qi f d h).symm w
theorem F4 (h:U f) (w:World):CB 198 #[.agg (cN false),.u f,.i 0] w (.u (lA f ((0:Int)==1))):=sV false f 0 _ h bc (MZ f h).symm w
theorem F5 (h:U f) (w:World):CB 198 #[.agg (cN false),.u f,.i 1] w (.u (lA f ((1:Int)==1))):=sV false f 1 _ h bc (M9 f h).symm w
theorem F6 (s o x r:Int) (h:U s) (g:∀ W,CB 251 #[.agg (cN D),.u s] W (.i o)) (hd:(o != 3)=X) (hx:bits .or .u64 (bits .or .u64 (bits .andNot .u64 s (if D=true then 6280 else 290)) (Uz.wrap (dg s (if D=true then 7 else 5) 1*(if D=true then 8 else 2)))) (if D=true then 128 else 32)=x) (hr:(if X=true then bits .andNot .u64 x 131072 else x)=r) (w:World):CB 282 #[.agg (cN D),.u s] w (.u r):=by
 have b:=λW (_:Bw w W)=>AL s h (if D=true then 7 else 5) 1 (by cases D<;>decide) bc W
 have f:=λW (_:Bw w W)=>zo D s W
 refine bD (S:=Bs w [(cN D,168)]) (args:=[.agg (cN D),.u s]) [(cN D,168)] func282 ?_
 generalize dg s (if D=true then 7 else 5) 1=y at *
 cases D<;>cases X<;>(
  subst hr
  exact bm (t:=4) (v:=.u (if _=true then bits .andNot .u64 x 131072 else x)) Bs.eng {cv:=[(10,fY b),(13,fY f),(25,fY λW _=>g W)],eq:=[(22,dP .u64 hx),(26,ak hd)]} 120 (Bs.start _ _) λW h=>⟨rfl,h.2⟩)
theorem TU (h:U f) (w:World):CB 282 #[.agg (cN true),.u f] w (.u (cO f true)):=by
 cases d:(dy f true != 3) with
 | true=>exact F6 true true f _ _ _ h (xq f h) d rfl (J3 f h d).symm w
 | false=>exact F6 true false f _ _ _ h (xq f h) d rfl (J4 f h d).symm w
theorem TW (h:U f) (w:World):CB 282 #[.agg (cN false),.u f] w (.u (cO f false)):=F6 false true f _ _ _ h (DB f h) (J5 f h) rfl (Nb f h).symm w
theorem F7:(prog.info? 223).map (·.size)=some 6:=by kernel_rfl
theorem F8:CB 195 #[] y (.agg g6):=by go_enter func195,ntmps195;go_wp2_with fail;exact bodyPost_ret (results_cell_row results195 _ _ _ _ _ _ _ rfl (heap_alloc_new _ _) underlying223 rfl F7) rfl ⟨rfl,bal _ _⟩
theorem F9 (hk:R<6):(Instr.index 223 (.agg g6) (.i (R:Int))).run prog y=.ok (.i (eR.getD R 0:Nat)) y:=by
 have a:(Instr.index 223 (.agg g6) (.i 0)).run prog y=.ok (.i 11) y:=ba
 have b:(Instr.index 223 (.agg g6) (.i 1)).run prog y=.ok (.i 3) y:=ba
 have c:(Instr.index 223 (.agg g6) (.i 2)).run prog y=.ok (.i 7) y:=ba
 have d:(Instr.index 223 (.agg g6) (.i 3)).run prog y=.ok (.i 9) y:=ba
 have f:(Instr.index 223 (.agg g6) (.i 4)).run prog y=.ok (.i 1) y:=ba
 have g:(Instr.index 223 (.agg g6) (.i 5)).run prog y=.ok (.i 5) y:=ba
 have e:R=0\/R=1\/R=2\/R=3\/R=4\/R=5:=ab
 rcases e with rfl|rfl|rfl|rfl|rfl|rfl;·exact a
 ·exact b
 ·exact c
 ·exact d
 ·exact f
 ·exact g
theorem DC (x:Int) (h:U x) (w:World):CB 144 #[.u x] w (.i (dA x)):=by
 have m:Hid (U x):=h;clear h;go_enter func144,ntmps144;go_wp2_with fail;refine (F8 _).mono ?_;rintro e D ⟨rfl,u⟩;go_wp2_with fail;have s:=F9;generalize Value.agg g6=T at *;go_loopw [6] (λi wr=>∃ k:Nat,k<=6/\i=.i k/\Hid (gu x (eR.drop k)=dA x)/\Bw w wr)
  (λi _=>6-(intOf i).toNat)
 case atStart=>exact ⟨0,ab,rfl,(rfl:gu x (eR.drop 0)=dA x),u⟩
 case round =>
  obtain ⟨k,B,rfl,l,b⟩:=hrel;by_cases f:k<6
  ·have C:∀ w,_:=λw=>s w k f;have c:Hid ((ap x (eR.getD k 0)==1)=true->Hid (dA x=(eR.getD k 0:Nat))):=λh=>zl x k f l.out h;have j:Hid ((ap x (eR.getD k 0)==1)=false->Hid (gu x (eR.drop (k+1))=dA x)):=λh=>Du x k f l.out h;have t:=Dt k;rw [dV _ _ m.out] at c j;have q:Hid (∀ w,Calls prog 66 #[.u x,.i (eR.getD k 0:Nat),.i 1] w λe p=>e=.returned (.u (dg x (eR.getD k 0) 1))/\p=w.drew):=λw=>bF x (eR.getD k 0) 1 m.out.1 m.out.2 t ab w;generalize dg x (eR.getD k 0) 1=y at *;generalize eR.getD k 0=r at *;have A:decide ((k:Int)<6)=true:=bv;clear t l s;cases d:(y==1) with
   | true =>have F:=c.out d;clear c j;go_wp2_with fail;refine (q.out _).mono ?_;rintro e z ⟨rfl,g⟩;subst g;go_wp2_with fail;go_ret;exact ⟨bh,b.drew⟩
   | false =>
     have F:=j.out d;clear c j;go_wp2_with fail;refine (q.out _).mono ?_;rintro e z ⟨rfl,g⟩;subst g;go_wp2_with fail;go_roundw;case rel=>exact ⟨k+1,ab,by go_num,F,b.drew⟩
     case measure=>simp [intOf];omega
  ·have o:k=6:=ab;subst o;have F:Hid (dA x=-1):=l.out.symm;go_wp2_with fail;go_ret;exact ⟨bh,b⟩
def NY (m:Bool) (s p:Int):Bool:=match m with
 | true=>decide (p<3)||((p==3)&&(dg s 3 1==1))
 | false=>decide (p<1)||((p==1)&&(dg s 1 1==1))
theorem Ik (s p:Int) (h:U s) (w:World):CB 146 #[.agg (cN D),.u s,.i p] w (.bool (decide (p<if D=true then 3 else 1)||((p==if D=true then 3 else 1)&&(dg s (if D=true then 3 else 1) 1==1)))):=by have a:=λW (_:Bw w W)=>AL s h (if D=true then 3 else 1) 1 (by cases D<;>decide) bc W;refine bD (S:=Bs w [(cN D,168)]) (args:=[.agg (cN D),.u s,.i p]) [(cN D,168)] func146 ?_;generalize dg s (if D=true then 3 else 1) 1=y at *;cases b:decide (p<if D=true then 3 else 1)<;>cases d:(p==if D=true then 3 else 1)<;>cases f:(y==1)<;>cases D<;>exact bm (t:=6) (v:=.bool (_||(_&&_))) Bs.eng {cv:=[(20,fY a)],eq:=[(10,ak b),(15,ak d),(21,ak f)]} 90 (Bs.start _ _) λW h=>⟨rfl,h.2⟩
theorem QS (h:U f) (w:World):CB 146 #[.agg (cN true),.u f,.i d] w (.bool (NY true f d)):=Ik true f d h w
theorem QT (h:U f) (w:World):CB 146 #[.agg (cN false),.u f,.i d] w (.bool (NY false f d)):=Ik false f d h w
theorem yc (hk:t<16) (i:Bool) (w:World):CE 197 #[.i t,.bool i] w (.u (gG t i)):=by
 have c:Uz.wrap (t:Int)=t:=by rw [IntKind.wrap_u64];omega
 clear hk;cases i with
 | true =>have F:Hid (gG t true=bits .or .u64 t 9223372036854775808):=(rfl:gG t true=_);generalize gG t true=r at *;go_enter func197,ntmps197;exact a02
 | false =>have F:Hid (gG t false=t):=(rfl:gG t false=_);generalize gG t false=r at *;go_enter func197,ntmps197;exact a02
theorem ye (hk:R<16) (i:Bool) (w:World):CE 199 #[.u f,.i R,.bool i] w (.u (ei f R (i&&(bits .and .u64 f 1==1)))):=by
 have c:Uz.wrap (R:Int)=R:=by rw [IntKind.wrap_u64];omega
 clear hk;cases i with
 | true =>
   cases d:(bits .and .u64 f 1 != 0) with
   | true =>have F:Hid (ei f R (true&&(bits .and .u64 f 1==1))=Uz.wrap (bits .andNot .u64 f 1+Uz.wrap (4*R))):=(by show _=_;rw [<- Ho,d];rfl);generalize ei f R (true&&(bits .and .u64 f 1==1))=r at *;exact a0p
   | false =>have F:Hid (ei f R (true&&(bits .and .u64 f 1==1))=bits .andNot .u64 f 1):=(by show _=_;rw [<- Ho,d];rfl);generalize ei f R (true&&(bits .and .u64 f 1==1))=r at *;exact a0p
 | false =>have F:Hid (ei f R (false&&(bits .and .u64 f 1==1))=bits .andNot .u64 f 1):=(rfl:ei f R false=_);generalize ei f R (false&&(bits .and .u64 f 1==1))=r at *;exact a0p
theorem yf (b f cap:Nat) (l:List Int) (p:Int) (k:Nat) (hk:k<16) (i:Bool) (w:World) (c1:w.cell? ⟨b,f+1,none⟩=some (.u (l.getD 1 0))) (c2:w.cell? ⟨b,f+2,none⟩=some (.u (l.getD 2 0))) (o:U (l.getD 1 0)) (q:U (l.getD 2 0)):CB 196 #[.slice (some ⟨b,f,none⟩) 22 cap,.i p,.i k,.bool i] w (.bool (du l p k i)):=by
 have F:Hid (du l p k i=(!(p==3)&&(ap (match i with | true=>l.getD 2 0 | false=>l.getD 1 0) k==1))):=(rfl:du l p k i=_);cases d:(p==3) with
 | true =>
   have g:Hid (du l p k i=false):=(by show _=_;rw [F.out,d];rfl);have u:(p != 3)=false:=(by simp [bne,d]);clear F;generalize du l p k i=r at *;generalize l.getD 1 0=s at *;generalize l.getD 2 0=t at *;cases i <;>
   ·go_enter func196,ntmps196;go_wp2_with fail;go_ret;exact ⟨by rw [g.out];rfl,Below.refl _ _⟩
 | false =>
   have u:(p != 3)=true:=(by simp [bne,d]);rw [d] at F;cases i with
   | true =>have g:Hid (du l p k true=(dg (l.getD 2 0) k 1==1)):=(by show _=_;rw [F.out];show (ap (l.getD 2 0) k==1)=_;rw [dV _ _ q]);have m:Hid (∀ w,Calls prog 66 #[.u (l.getD 2 0),.i k,.i 1] w λe j=>e=.returned (.u (dg (l.getD 2 0) k 1))/\j=w.drew):=λw=>bF _ k 1 q.1 q.2 ab ab w;clear F;generalize du l p k true=r at *;generalize dg (l.getD 2 0) k 1=y at *;generalize l.getD 1 0=s at *;generalize l.getD 2 0=t at *;go_enter func196,ntmps196;go_wp2_with fail;refine (m.out _).mono ?_;rintro e z ⟨rfl,c⟩;subst c;go_wp2_with fail;go_ret;exact ⟨by rw [g.out];rfl,(Below.refl _ _).drew⟩
   | false =>have g:Hid (du l p k false=(dg (l.getD 1 0) k 1==1)):=(by show _=_;rw [F.out];show (ap (l.getD 1 0) k==1)=_;rw [dV _ _ o]);have m:Hid (∀ w,Calls prog 66 #[.u (l.getD 1 0),.i k,.i 1] w λe j=>e=.returned (.u (dg (l.getD 1 0) k 1))/\j=w.drew):=λw=>bF _ k 1 o.1 o.2 ab ab w;clear F;generalize du l p k false=r at *;generalize dg (l.getD 1 0) k 1=y at *;generalize l.getD 1 0=s at *;generalize l.getD 2 0=t at *;go_enter func196,ntmps196;go_wp2_with fail;refine (m.out _).mono ?_;rintro e z ⟨rfl,c⟩;subst c;go_wp2_with fail;go_ret;exact ⟨by rw [g.out];rfl,(Below.refl _ _).drew⟩
structure Lq (w:World) (g:Nat) (c:Bool) (W:World):Prop where
 row:W.heap[g]?=some (.cells (cN c) 168 (0,0))
 bel:Bw w W
 lo:w.heap.size<=g
structure Lv (w:World) (g h:Nat) (c:Bool) (vs:List Int) (W:World):Prop where
 q:Lq w g c W
 own:W.ownsRow h 22 1 (.slice (some ⟨h,0,none⟩) 22 22) 22 (vs.map (Value.int .u64))
 lo:g<h
theorem Lq.below (p:Lq w g M s) (k:Bw s b):Lq w g M b:=⟨br k p.row,aa p.bel k,p.lo⟩
theorem Lv.below {h:Nat} (p:Lv w g h M A s) (k:Bw s b):Lv w g h M A b:=⟨p.q.below k,dH p.own k,p.lo⟩
theorem Lq.eng {fn:Func}:n6 P (Lq w x M) (Lq w x M) [⟨x,cN M,[]⟩] dr (bodyPost P fn Rs):=
 ⟨λ_ p=>p,λW p r a=>by rw [List.mem_singleton.1 a];exact ⟨_,_,p.row⟩,λ_ W p=>p.below (Below.refl _ _).drew,cJ⟩
theorem Lv.eng {h:Nat} {fn:Func}:n6 P (Lq w x M) (Lv w x h M A) [⟨x,cN M,[]⟩] dr (bodyPost P fn Rs):=
 ⟨λ_ p=>p.q,(Lq.eng (P:=P) (fn:=fn) (dr:=dr) (Rs:=Rs)).rows,λ_ W p=>p.below (Below.refl _ _).drew,cJ⟩
theorem Lv.put {h:Nat} (p:Lv w x h M A s) (j:Nat) (g:Int):Lv w x h M (A.set j g) (s.setCell ⟨h,j,none⟩ (.u g)):=by have d:=p.lo;have b:=p.q.lo;have a:=(p.own.stored j (.u g)).1;rw [kv] at a;exact ⟨⟨(Below.heap_setCell s ⟨h,j,none⟩ _ x di).trans p.q.row,p.q.bel.setCell (p:=⟨h,j,none⟩) di _,p.q.lo⟩,a,p.lo⟩
theorem Lv.run {W:World} {h:Nat} (p:Lv W x h M A w) (j:Nat) (b:j<22) (g:Int):(do Instr.storeAt 22 (.p h j) (.u g);pure Next.skip:Sem Next).run prog w=.ok .skip (w.setCell ⟨h,j,none⟩ (.u g)):=by have a:=p.own.1;exact iD ⟨(p.own.cellAt j ab).trans (List.getElem?_eq_getElem ab),p.own.frozenAt j⟩ ba rfl
theorem NZ:∃ W',(do pure (.value (<- Instr.makeSlice 23 (.i 22) (.i 22))):Sem Next).run prog y=.ok (.value (.slice (some ⟨y.heap.size,0,none⟩) 22 22)) W'/\(∃ l,W'.ownsRow y.heap.size 22 1 (.slice (some ⟨y.heap.size,0,none⟩) 22 22) 22 l)/\Bw y W':=by obtain ⟨j,f,c,d,e⟩:=info_parts Bq;obtain ⟨W',i,h,a⟩:=run_make_full (P:=prog) y y.heap.size 23 22 j (.u 0) 1 underlying23 f c d .i64 .i64 22 (by rw [e];omega) et (Nat.le_refl _);have b:(Instr.makeSlice 23 (.i 22) (.i 22)).run prog y=.ok (.slice (some ⟨y.heap.size,0,none⟩) 22 22) W':=i;exact ⟨W',by simp [b],⟨_,h⟩,a.os,a.tape,a.output,a.size,λk g=>a.block k g cp⟩
def Vd (T t:TypeId) (v u:Value):Sem Next:=execOp (λx=>match x with | .tmp 0=>v | _=>u) {dst:=none,op:=.call {callee:=.builtin .copy,args:=#[.tmp 0,.tmp 1],argTypes:=#[T,T]},type:=t,pos:= "",after:=#[],guard:=none}
theorem N0 {h:Nat} {cap:Nat} {ys:List Value} (b:w.ownsRow h 22 1 (.slice (some ⟨h,0,none⟩) 22 22) 22 ys) (hs:Sl .u64 w (some ⟨x,a,none⟩) A) (hz:A.length=22) (ty:TypeId): ∃ W',(Vd 23 ty (.slice (some ⟨h,0,none⟩) 22 22) (.slice (some ⟨x,a,none⟩) 22 cap)).run prog w=.ok (.value (.i 22)) W'/\W'.ownsRow h 22 1 (.slice (some ⟨h,0,none⟩) 22 22) 22 (A.map (Value.int .u64))/\w.grownBy W' (some h):=by
 obtain ⟨D,s,z,q,l⟩:=info_parts Bq
 have c:(A.map (Value.int .u64)).length=22:=by rw [List.length_map,hz]
 rcases b.2 with ⟨v,_⟩|⟨C,B,e,y,f,r,m,g,W,o⟩
 ·cases v
 ·cases y
  have t:=run_copy_row (P:=prog) w 23 23 ty 22 h 0 22 22 ⟨x,a,none⟩ 22 cap e 22 (A.map (Value.int .u64)) underlying23 (by rw [s];simp [q]) r (by rw [c];rfl) (λj u d=>by
   have k:j<A.length:=by
    rcases Nat.lt_or_ge j A.length with h|h
    ·exact h
    ·rw [List.getElem?_eq_none eo] at d;cases d
   have p:u=.u (A.getD j 0):=by
    simp [List.getElem?_eq_getElem k] at d
    simp [List.getD,List.getElem?_eq_getElem k,d]
   rw [zB,p];exact (zm hs j k).2) (by rw [c];omega) (ints_oneCell _ _)
  rw [c] at t
  refine ⟨_,by unfold Vd execOp;simp only [resolve,invoke,builtin,Sem.run_bind,Sem.run_pure,Result.andThen_ok,List.map_toArray,List.map_cons,List.map_nil,t];rfl,⟨by rw [c],.inr ⟨h,22,_,rfl,f,setRow_heap w h _ _ _ _ r,m,g,?_,?_⟩⟩,⟨rfl,rfl,rfl,by simp [World.setRow],λi s n=>setRow_other w h i _ (by intro h;apply n;rw [h])⟩⟩
  ·simp [hz];omega
  ·simp [hz]
theorem So {W3:World} (q:Lq w x M b) (a:x<s.heap.size) (k:b.grownBy W3 (some s.heap.size)) (o:W3.ownsRow s.heap.size 22 1 (.slice (some ⟨s.heap.size,0,none⟩) 22 22) 22 (A.map (Value.int .u64))) (W2:w.heap.size<=s.heap.size):Lv w x s.heap.size M A W3 :=
 ⟨⟨(k.block x (Array.getElem?_eq_some_iff.1 q.row).1 bv).trans q.row,Below.grown q.bel k q.bel.size (λj e=>by cases e;exact W2),q.lo⟩,o,a⟩
abbrev t6:Array Value:=#[.i 0,.i 0,.i 0,.i 0,.i 0,.i 0,.i 0,.i 0,.i 0]
theorem yg (n cap:Nat) (l:List Int) (p:Int) (m:Bool) (w:World) (hz:l.length=n) (hs:Sl .u64 w B l) (hl:∀ j,U (l.getD j 0)): Calls prog 249 #[.slice B n cap,.i p,.bool m] w λe r=>∃ (u:Option Addr) (c:Nat), e=.returned (.tuple #[.slice u (jR n l p m).length c,.i (rm n l p m),.u (rp n l p m),.bool (lS n l p m)]) /\ r.ownsRow w.heap.size 22 1 (.slice u (jR n l p m).length c) (jR n l p m).length ((jR n l p m).map (Value.int .u64))/\Bw w r:=by
 have y:=λ(g:Nat) W (q:Lq w g m W)=>fA B n cap l p W hz (hs.below q.bel) hl
 have fin:∀ (g:Nat) (W:World),Lq w g m W->Wg prog (Lq w g m) (bodyPost prog Tryz.f249 λe r=>∃ (u:Option Addr) (c:Nat),e=.returned (.tuple #[.slice u (jR n l p m).length c,.i (rm n l p m),.u (rp n l p m),.bool (lS n l p m)])/\r.ownsRow w.heap.size 22 1 (.slice u (jR n l p m).length c) (jR n l p m).length ((jR n l p m).map (Value.int .u64))/\Bw w r) Tryz.f249.ntmps [.code (aw 3 (aM Tryz.f249))] [(0,.slice B n cap,0),(1,.i p,0),(10,.p g 0,1)] W:=λg W q=>by
  have y:=y g
  have no:lS n l p m=false->∀ W,Lq w g m W->∃ (u:Option Addr) (c:Nat),Ending.returned (.tuple #[.slice none 0 0,.i 0,.u 0,.bool false])=.returned (.tuple #[.slice u (jR n l p m).length c,.i (rm n l p m),.u (rp n l p m),.bool (lS n l p m)])/\W.ownsRow w.heap.size 22 1 (.slice u (jR n l p m).length c) (jR n l p m).length ((jR n l p m).map (Value.int .u64))/\Bw w W:=λe W q=>by
   unfold jR rm rp
   rw [e]
   exact ⟨none,0,rfl,qX _ _,q.bel⟩
  cases i:bj n l p with
  | false =>
    rw [i] at y
    exact lE Lq.eng {cv:=[(18,jQ (λq k=>q.below k) y)]} 60 (dr:=true) q λW b q f=>⟨_,lQ rfl _ _ _,by rw [f.slot (v:=.slice none 0 0) ba,f.slot (v:=.i 0) ba,f.slot (v:=.u 0) ba,f.slot (v:=.bool false) ba];exact no (by simp [lS,i]) W q⟩
  | true =>
    obtain ⟨rfl,hp⟩:=gJ i
    have I:p=0\/p=1\/p=3:=by simpa [cg,or_assoc] using hp
    obtain ⟨b,o,rfl,C,_⟩:=hs 0 ab
    have H:∀ j,j<22->∀ W,Lq w g m W->W.cell? ⟨b,o+j,none⟩=some (.u (l.getD j 0)):=λj hj W q=>(q.bel.cell (by exact C)).trans (zm hs j ab).2
    rw [i] at y
    have a:lS 22 l p m=!decide (p<if m=true then 3 else 1):=by
     unfold lS
     rw [i]
     rcases I with rfl|rfl|rfl<;>cases m<;>rfl
    cases x:lS 22 l p m with
    | false =>
      have d:decide (p<if m=true then 3 else 1)=true:=by rw [x] at a;simpa using a.symm
      cases m<;>exact lE Lq.eng {cv:=[(18,jQ (λq k=>q.below k) y)],eq:=[(24,ak d)]} 60 (dr:=true) q λW b q f=>⟨_,lQ rfl _ _ _,by rw [f.slot (v:=.slice none 0 0) ba,f.slot (v:=.i 0) ba,f.slot (v:=.u 0) ba,f.slot (v:=.bool false) ba];have:=no x W q;rw [x] at this;exact this⟩
    | true =>
      have d:decide (p<if m=true then 3 else 1)=false:=by rw [x] at a;simpa using a.symm
      have V:jR 22 l p m=l.set 0 (cO (l.getD 0 0) m):=by unfold jR;rw [x]
      have X:rm 22 l p m=dy (l.getD 0 0) m:=by unfold rm;rw [x]
      have Q:rp 22 l p m=eQ l m:=by unfold rp;rw [x]
      have ez:(l.set 0 (cO (l.getD 0 0) m)).length=22:=vo
      rw [V,X,Q,ez]
      have N:∀ W,CB 251 #[.agg (cN m),.u (l.getD 0 0)] W (.i (dy (l.getD 0 0) m)):=λW=>by cases m;exact DB _ (hl 0) W;exact xq _ (hl 0) W
      have O:∀ W,CB 282 #[.agg (cN m),.u (l.getD 0 0)] W (.u (cO (l.getD 0 0) m)):=λW=>by cases m;exact TW _ (hl 0) W;exact TU _ (hl 0) W
      have P:=H 0 ab
      have cA:∀ W,Lq w g m W->W.cell? ⟨b,o+(if m=true then 6 else 12),none⟩=some (.u (eQ l m)):=λW q=>by cases m;exact H 12 ab W q;exact H 6 ab W q
      generalize dy (l.getD 0 0) m=vp at N ⊢
      generalize cO (l.getD 0 0) m=vs at O ⊢
      generalize eQ l m=va at cA ⊢
      clear no V X Q a x
      cases m<;>(
       refine ae Lq.eng {cv:=[(18,jQ (λq k=>q.below k) y)],eq:=[(24,ak d)]} 60 (dr:=true) q λG L=>?_
       obtain ⟨s,J,⟨ys,o2⟩,A⟩:=NZ G
       refine dM 0 J ?_
       have Y:=L.below A
       have g1:=(Array.getElem?_eq_some_iff.1 L.row).1
       refine an (R:=[]) trivial {} 6 ?_
       obtain ⟨W3,K,o3,g3⟩:=N0 (cap:=cap) o2 (hs.below Y.bel) hz 3
       refine dM 0 K ?_
       have Z:=So Y g1 g3 o3 L.bel.size
       generalize G.heap.size=h at Z ⊢
       refine ae Lv.eng {cv:=[(34,jQ (λq k=>q.below k) λW _=>N W),(40,jQ (λq k=>q.below k) λW _=>O W)],ov:=[(33,je ⟨b,o+0,none⟩ _ underlying22 rfl P),(39,je ⟨b,o+0,none⟩ _ underlying22 rfl P)]} 99 (dr:=true) Z λW4 M=>?_
       refine bM (M.run 0 ab vs) (hS:=λ_=>(M.put 0 vs).q) ?_
       exact lE Lv.eng {ov:=[(48,je _ _ underlying22 rfl cA)]} 99 (dr:=true) (M.put 0 vs) λW c v f=>⟨_,lQ rfl _ _ _,some ⟨h,0,none⟩,22,by rw [f.slot (v:=.slice (some ⟨h,0,none⟩) 22 22) ba,f.slot (v:=.i vp) ba,f.slot (v:=.u va) ba,f.slot (v:=.bool true) ba],cF v.own (by have:=v.lo;have:=v.q.lo;omega),v.q.bel⟩)
 refine bD (S:=Bs w []) (args:=[.slice B n cap,.i p,.bool m]) [] func249 ?_
 refine aW Bs.eng {} 9 (Bs.start w []) (λW _=>jn W) ?_
 rintro G e s E ⟨rfl,A⟩
 refine ⟨_,0,rfl,gE ba,?_⟩
 refine dM 1 (dQ (T:=168) (z:=.agg t6) ba s) ?_
 refine bM (aD (g:=s.heap.size) (t:=168) (ty:=168) (old:=t6) (cells:=cN false) (heap_alloc_new _ _) ba rfl ba) ?_
 have F:Lq w s.heap.size false ((s.alloc (.cells (Value.agg t6).cells 168)).setRow s.heap.size (cN false)):=⟨setRow_heap _ _ _ _ _ _ (heap_alloc_new _ _),aI ((E.below A).2.alloc (E.below A).2.size _) (E.below A).2.size _,(E.below A).2.size⟩
 generalize s.heap.size=g at F ⊢
 generalize (s.alloc (.cells (Value.agg t6).cells 168)).setRow g (cN false)=W3 at F ⊢
 refine aJ (Lq w g false) ?_
 cases m with
 | false =>
   refine ae Lq.eng {} 8 (dr:=false) F λW q=>?_
   exact af _ _ (fin g W q)
 | true =>
   refine aW Lq.eng {} 20 (dr:=false) F (λW _=>kR W) ?_
   rintro W4 e W5 q4 ⟨rfl,b5⟩
   refine ⟨_,0,rfl,gE ba,?_⟩
   have D:=q4.below b5
   refine bM (aD (g:=g) (t:=168) (ty:=168) (old:=cN false) (cells:=cN true) D.row ba rfl ba) ?_
   have q6:Lq w g true (W5.setRow g (cN true)):=⟨setRow_heap _ _ _ _ _ _ D.row,aI D.bel D.lo _,D.lo⟩
   refine aJ (Lq w g true) ?_
   refine ae Lq.eng {} 1 (dr:=false) q6 λW q=>?_
   exact af _ _ (fin g W q)
theorem yh (n cap:Nat) (l:List Int) (p pc k:Int) (i:Bool) (v:Int) (w:World) (hz:l.length=n) (hs:Sl .u64 w B l) (hl:∀ j,U (l.getD j 0)): Calls prog 148 #[.slice B n cap,.i p,.u pc,.i k,.bool i,.u v] w λe A=>∃ (s:Option Addr) (c:Nat), e=.returned (.tuple #[.slice s (sE n l p pc k i v).length c,.i (Fy n l p k i),.u (Fz n l p k i),.bool (Ar n l p k)]) /\ A.ownsRow w.heap.size 22 1 (.slice s (sE n l p pc k i v).length c) (sE n l p pc k i v).length ((sE n l p pc k i v).map (Value.int .u64))/\Bw w A:=by
 have J:=λW (hb:Bw w W)=>fA B n cap l p W hz (hs.below hb) hl
 refine bD (S:=Bs w []) (args:=[.slice B n cap,.i p,.u pc,.i k,.bool i,.u v]) [] func148 ?_
 cases y:Ar n l p k with
 | false =>
   have no:∀ W,Bs w [] W->∃ (s:Option Addr) (c:Nat),Ending.returned (.tuple #[.slice none 0 0,.i 0,.u 0,.bool false])=.returned (.tuple #[.slice s (sE n l p pc k i v).length c,.i (Fy n l p k i),.u (Fz n l p k i),.bool false])/\W.ownsRow w.heap.size 22 1 (.slice s (sE n l p pc k i v).length c) (sE n l p pc k i v).length ((sE n l p pc k i v).map (Value.int .u64))/\Bw w W:=λW q=>by
    unfold sE Fy Fz
    rw [y]
    exact ⟨none,0,rfl,qX _ _,q.2⟩
   cases f:bj n l p<;>cases d:decide (k<0)<;>cases L:decide (k>=16)<;>(
    first
    | (exfalso;revert y;unfold Ar VE;rw [f];simp at d L ⊢;omega)
    | (rw [f] at J
       exact lE Bs.eng {cv:=[(20,fY J)],eq:=[(24,ak d),(28,ak L)]} 60 (Bs.start w []) λW b q o=>⟨_,lQ rfl _ _ _,by rw [o.slot (v:=.slice none 0 0) ba,o.slot (v:=.i 0) ba,o.slot (v:=.u 0) ba,o.slot (v:=.bool false) ba];exact no W q⟩))
 | true =>
   have Q:=y
   unfold Ar VE at Q
   rw [Bool.and_eq_true,decide_eq_true_eq] at Q
   obtain ⟨f,hk0⟩:=Q
   rw [f] at J
   obtain ⟨rfl,hp⟩:=gJ f
   have d:decide (k<0)=false:=by rw [decide_eq_false_iff_not];omega
   have L:decide (k>=16)=false:=by rw [decide_eq_false_iff_not];omega
   obtain ⟨j,rfl⟩:∃ j:Nat,k=(j:Int):=⟨k.toNat,ab⟩
   have V:j<16:=ab
   obtain ⟨b,m,rfl,F,_⟩:=hs 0 ab
   have E:∀ x,x<22->∀ W,Bw w W->W.cell? ⟨b,m+x,none⟩=some (.u (l.getD x 0)):=λx hx W q=>(q.cell (by exact F)).trans (zm hs x ab).2
   have eL:sE 22 l p pc j i v=ij l (du l p j i) p (gG j i) pc v:=by unfold sE;rw [y,Int.toNat_natCast]
   have eP:Fy 22 l p j i=tl (du l p j i):=by unfold Fy;rw [y,Int.toNat_natCast]
   have eA:Fz 22 l p j i=ei (n8 l (du l p j i)) j (mU l (du l p j i) i):=by unfold Fz;rw [y,Int.toNat_natCast]
   have ez:(ij l (du l p j i) p (gG j i) pc v).length=22:=by rw [lR,hz]
   rw [eL,eP,eA,ez]
   clear eL eP eA ez y
   have C:=λW (q:Bw w W)=>yf b m cap l p j V i W (E 1 ab W q) (E 2 ab W q) (hl 1) (hl 2)
   have hp3:p=0\/p=1\/p=3:=by simpa [cg,or_assoc] using hp
   have hD:du l p j i=true->p=0\/p=1:=λe=>by
    rcases hp3 with h|h|h
    ·exact .inl h
    ·exact .inr h
    ·rw [h] at e;cases e
   generalize du l p j i=D at C hD ⊢
   have HE:∀ W,CB 198 #[.agg (cN !D),.u (l.getD 0 0),.i p] W (.u (if D=true then lA (l.getD 0 0) (p==1) else mg (l.getD 0 0) p)):=λW=>by
    cases D with
    | false=>exact Ku _ p hp (hl 0) W
    | true =>
      rcases hD rfl with rfl|rfl
      ·exact F4 _ (hl 0) W
      ·exact F5 _ (hl 0) W
   have HC:=λW=>yc j V i W
   have fin:∀ (g:Nat) (W:World),Lq w g (!D) W->Wg prog (Lq w g !D) (bodyPost prog Tryz.f148 λe A=>∃ (s:Option Addr) (c:Nat),e=.returned (.tuple #[.slice s 22 c,.i (tl D),.u (ei (n8 l D) j (mU l D i)),.bool true])/\A.ownsRow w.heap.size 22 1 (.slice s 22 c) 22 ((ij l D p (gG j i) pc v).map (Value.int .u64))/\Bw w A) Tryz.f148.ntmps [.code (aw 4 (aM Tryz.f148))] [(0,.slice (some ⟨b,m,none⟩) 22 cap,0),(1,.i p,0),(2,.u pc,0),(3,.i j,0),(4,.bool i,0),(5,.u v,0),(16,.p g 0,1)] W:=λg P N=>by
    have c0:=λW (q:Lq w g (!D) W)=>E 0 ab W q.bel
    have cV:∀ W,Lq w g (!D) W->W.cell? ⟨b,m+(if D=true then 10 else 4),none⟩=some (.u (n8 l D)):=λW q=>by cases D;exact E 4 ab W q.bel;exact E 10 ab W q.bel
    have K:=λW=>ye (n8 l D) j V i W
    have eT:ij l D p (gG j i) pc v=(((l.set (if D=true then 13 else 7) (gG j i)).set (if D=true then 12 else 6) (bits .andNot .u64 pc 3)).set (if D=true then 14 else 8) v).set 0 (if D=true then lA (l.getD 0 0) (p==1) else mg (l.getD 0 0) p):=by cases D<;>rfl
    rw [eT]
    clear eT
    have a:(if D=true then 13 else 7)<22/\(if D=true then 12 else 6)<22/\(if D=true then 14 else 8)<22:=by cases D<;>decide
    generalize X:(if D=true then 13 else 7)=k1 at a ⊢
    generalize Y:(if D=true then 12 else 6)=k2 at a ⊢
    generalize Z:(if D=true then 14 else 8)=k3 at a ⊢
    have eJ:ei (n8 l D) j (i&&(bits .and .u64 (n8 l D) 1==1))=ei (n8 l D) j (mU l D i):=rfl
    rw [eJ] at K
    generalize (if D=true then lA (l.getD 0 0) (p==1) else mg (l.getD 0 0) p)=st at HE ⊢
    generalize ei (n8 l D) j (mU l D i)=ea at K ⊢
    generalize n8 l D=vv at K cV
    generalize gG j i=tv at HC ⊢
    obtain ⟨r,G,⟨ys,o2⟩,u⟩:=NZ P
    refine kz (R:=[]) trivial {} 9 0 G ?_
    have q2:=N.below u
    refine an (R:=[]) trivial {} 6 ?_
    obtain ⟨W3,H,o3,g3⟩:=N0 (cap:=cap) o2 (hs.below q2.bel) hz 3
    refine dM 0 H ?_
    have v3:=So q2 (Array.getElem?_eq_some_iff.1 N.row).1 g3 o3 N.bel.size
    generalize P.heap.size=h at v3 ⊢
    clear q2 o2 u N g3 o3 G H
    cases D<;>(
     refine ae Lv.eng {cv:=[(46,kj λW _=>HC W)]} 60 (dr:=true) v3 λW4 v4=>?_
     refine bM (v4.run k1 a.1 tv) (hx:=by subst X;kernel_rfl) (hS:=λ_=>(v4.put k1 tv).q) ?_
     refine ae Lv.eng {eq:=[(52,dP .u64 (To pc))]} 60 (dr:=true) (v4.put k1 tv) λW5 v5=>?_
     refine bM (v5.run k2 a.2.1 (bits .andNot .u64 pc 3)) (hx:=by subst Y;kernel_rfl) ?_
     refine ae Lv.eng {} 60 (dr:=true) (v5.put k2 (bits .andNot .u64 pc 3)) λW6 v6=>?_
     refine bM (v6.run k3 a.2.2 v) (hx:=by subst Z;kernel_rfl) ?_
     refine ae Lv.eng {cv:=[(65,jQ (λq k=>q.below k) λW _=>HE W)],ov:=[(63,je ⟨b,m+0,none⟩ _ underlying22 rfl c0)]} 60 (dr:=true) (v6.put k3 v) λW7 v7=>?_
     refine bM (v7.run 0 bc st) (hS:=λ_=>(v7.put 0 st).q) ?_
     exact lE Lv.eng {cv:=[(77,kj λW _=>K W)],ov:=[(74,je _ _ underlying22 rfl cV)]} 99 (dr:=true) (v7.put 0 st) λW c v o=>⟨_,lQ rfl _ _ _,some ⟨h,0,none⟩,22,by rw [o.slot (v:=.slice (some ⟨h,0,none⟩) 22 22) ba,o.slot (v:=.i (tl _)) ba,o.slot (v:=.u ea) ba,o.slot (v:=.bool true) ba],cF v.own (by have:=v.lo;have:=v.q.lo;omega),v.q.bel⟩)
   refine aW Bs.eng {cv:=[(20,fY J)],eq:=[(24,ak d),(28,ak L)]} 60 (Bs.start w []) (λW _=>kR W) ?_
   rintro P e r M ⟨rfl,u⟩
   refine ⟨_,0,rfl,gE ba,?_⟩
   refine dM 1 (dQ (T:=168) (z:=.agg t6) ba r) ?_
   refine bM (aD (g:=r.heap.size) (t:=168) (ty:=168) (old:=t6) (cells:=cN true) (heap_alloc_new _ _) ba rfl ba) ?_
   have O:Lq w r.heap.size true ((r.alloc (.cells (Value.agg t6).cells 168)).setRow r.heap.size (cN true)):=⟨setRow_heap _ _ _ _ _ _ (heap_alloc_new _ _),aI ((M.below u).2.alloc (M.below u).2.size _) (M.below u).2.size _,(M.below u).2.size⟩
   generalize r.heap.size=g at O ⊢
   generalize (r.alloc (.cells (Value.agg t6).cells 168)).setRow g (cN true)=W3 at O ⊢
   refine aJ (Lq w g true) ?_
   have C:=λW (q:Lq w g true W)=>C W q.bel
   cases D with
   | false =>
     refine ae Lq.eng {cv:=[(35,jQ (λq k=>q.below k) C)]} 12 (dr:=false) O λW q=>?_
     exact af _ _ (fin g W q)
   | true =>
     refine aW Lq.eng {cv:=[(35,jQ (λq k=>q.below k) C)]} 30 (dr:=false) O (λW _=>jn W) ?_
     rintro W4 e W5 q4 ⟨rfl,b5⟩
     refine ⟨_,0,rfl,gE ba,?_⟩
     have I:=q4.below b5
     refine bM (aD (g:=g) (t:=168) (ty:=168) (old:=cN true) (cells:=cN false) I.row ba rfl ba) ?_
     have q6:Lq w g false (W5.setRow g (cN false)):=⟨setRow_heap _ _ _ _ _ _ I.row,aI I.bel I.lo _,I.lo⟩
     refine aJ (Lq w g false) ?_
     refine ae Lq.eng {} 1 (dr:=false) q6 λW q=>?_
     exact af _ _ (fin g W q)
end Go.Proofs.YtjifdmoehfbihaaGreatDoor
