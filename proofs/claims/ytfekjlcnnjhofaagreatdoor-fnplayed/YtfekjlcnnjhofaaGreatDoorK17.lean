/- Own lemmas. -/
import Derived.Test.YtfekjlcnnjhofaaGreatDoorAut
import Derived.Test.YtfekjlcnnjhofaaGreatDoorK17H
import Derived.Test.YtfekjlcnnjhofaaGreatDoorK12
import Derived.Test.YtfekjlcnnjhofaaGreatDoorK14
import Derived.Test.YtfekjlcnnjhofaaGreatDoorK15
set_option maxRecDepth 100000
set_option maxHeartbeats 6400000
namespace Go.Proofs.YtfekjlcnnjhofaaGreatDoor
open Go.RowKit Tryz
open IntKind renaming u64->Uz
open Below renaming refl->I2
open Go renaming World->A5,heap_alloc_new->A6,bodyPost_ret->A8,Calls->A9,bits->C5,wpList_store_rowTo->C6,results_tmp2->D1,setRow_heap->D2,results_cell_row->D3,results_none->D4,Addr->D8,bodyPost_end->F0,cell_of_row->F3,bodyPost->G1
open Go.RowKit renaming wrap64->L0
open Instr renaming index->I5,makeSlice->K0
open Int renaming toNat_natCast->R4
open IntKind renaming wrap_u64->I3,wrap_i64->I4
open List renaming getElem?_eq_getElem->L6,getElem?_eq_none->N1,getD->O1
open Nat renaming le_refl->P2
open Value renaming agg->H8,int->I1
open _root_.Array renaming getElem?_eq_some_iff->K1
set_option linter.unusedVariables false
variable {w s b:A5} {x a g:Nat} {A:List Int} {M dr:Bool} {k:MV} {c:MA} {r:TV} {p:Int} {P:Program} {Rs:Ending->A5->Prop} (B:Option D8) (l W:MV) (n:MA) (t o:Nat) (f:Int) (D:Bool) (d m:Int) (y:A5) (R:Nat) (J:Int) (X:Bool)
theorem sR (c:0<=f) (a1:f<18446744073709551616) (b:0<=d) (a:d<18446744073709551616) (w:A5):CE 252 #[.u f,.u d] w (.u (MF.smin.v f d)):=by
 have j:=kG c a1;have l:=kG b a;go_enter func252,ntmps252;go_wp2_with fail;·go_ret;exact ⟨sx,rfl⟩
 ·go_ret;exact ⟨nn,rfl⟩
theorem rB (c:0<=f) (a1:f<18446744073709551616) (b:0<=d) (a:d<18446744073709551616) (w:A5):CE 253 #[.u f,.u d] w (.u (MF.smax.v f d)):=by
 have j:=kG c a1;have l:=kG b a;go_enter func253,ntmps253;go_wp2_with fail;·go_ret;exact ⟨sx,rfl⟩
 ·go_ret;exact ⟨nn,rfl⟩
theorem wV (c:0<=f) (a1:f<18446744073709551616) (b:0<=d) (a:d<18446744073709551616) (w:A5):CE 254 #[.u f,.u d] w (.u (MF.umin.v f d)):=by
 have j:=kG c a1;have l:=kG b a;go_enter func254,ntmps254;go_wp2_with fail;·go_ret;exact ⟨sx,rfl⟩
 ·go_ret;exact ⟨nn,rfl⟩
theorem uq (c:0<=f) (a1:f<18446744073709551616) (b:0<=d) (a:d<18446744073709551616) (w:A5):CE 255 #[.u f,.u d] w (.u (MF.umax.v f d)):=by
 have j:=kG c a1;have l:=kG b a;go_enter func255,ntmps255;go_wp2_with fail;·go_ret;exact ⟨sx,rfl⟩
 ·go_ret;exact ⟨nn,rfl⟩
def MF.fn:MF->Nat
 | .second=>251
 | .sum=>229
 | .xor=>232
 | .and=>234
 | .or=>233
 | .smin=>252
 | .smax=>253
 | .umin=>254
 | .umax=>255
theorem MF.calls (f:MF) (a b:Int) (c:0<=a) (a1:a<18446744073709551616) (d:0<=b) (g:b<18446744073709551616) (w:A5):A9 prog f.fn #[.u a,.u b] w λe h=>e=.returned (.u (f.v a b))/\∃ m,h=w.drewN m:=by
 cases f;·exact bp (At a b w)
 ·exact bp (yR a b w)
 ·exact bp (yS a b w)
 ·exact bp (yT a b w)
 ·exact bp (CV a b w)
 ·exact bp (sR a b c a1 d g w)
 ·exact bp (rB a b c a1 d g w)
 ·exact bp (wV a b c a1 d g w)
 ·exact bp (uq a b c a1 d g w)
theorem MF.enters (f:MF):(prog.funcs[f.fn]?).map (λa=>(a.name == "runtime.NumGoroutine",a.body.isSome))=some (false,true):=by cases f<;>kernel_rfl
def amoCells:Array Value:=(Qk.map λf=>Value.func (.func f.fn) #[] #[]).toArray
def dR:Array Value:=(List.replicate 9 Value.nilFunc).toArray
theorem iH:dR.size=9:=by kernel_rfl
theorem cK:amoCells.size=9:=by kernel_rfl
theorem iI:(prog.info? 277).bind (·.zero)=some (.agg dR):=by kernel_rfl
theorem iJ:amoCells.all (·.oneCell'):=by kernel_rfl
theorem gO:(prog.info? 277).map (·.size)=some 9:=by kernel_rfl
theorem tU (h:t<9):amoCells[t]?=some (.func (.func (mL t).fn) #[] #[]):=by
 match t,h with
 | 0,_=>rfl
 | 1,_=>rfl
 | 2,_=>rfl
 | 3,_=>rfl
 | 4,_=>rfl
 | 5,_=>rfl
 | 6,_=>rfl
 | 7,_=>rfl
 | 8,_=>rfl
 | t+9,h=>exact absurd h ab
theorem Dk:CB 215 #[] y (.agg amoCells):=by go_enter func215,ntmps215;apply wp_seq_k;intro c b;apply wp_region_list;refine cI rfl 277 rfl (some 0) rfl _ iI ?_;apply wpList_nil;refine b _ _ ?_;clear b c;apply wp_seq_k;intro c b;apply wp_region_lit;refine kK 10 0 10 (.p y.heap.size 0) (.agg amoCells) ba ?_;intro m f d j;have g:(y.alloc (.cells (H8 dR).cells 277)).heap[y.heap.size]?=some (.cells dR 277 (0,0)):=A6 _ _;refine C6 rfl 277 (.tmp 0) (.tmp 10) rfl rfl y.heap.size amoCells f d 277 dR g (by rw [gO,cK]) (by rw [iH,cK]) iJ ?_;apply wpList_nil;refine b _ _ ?_;clear b c;apply wp_ret;refine A8 (D3 results215 _ _ _ _ _ _ _ f (D2 _ _ _ _ _ _ g) underlying277 rfl (by rw [gO,cK])) j ⟨rfl,?_⟩;exact aK (bal _ _) (P2 _) _
theorem nh:A9 prog 215 #[] y λe a=>∃ T,e=.returned T/\Hid (T=.agg amoCells)/\Bw y a :=
 (Dk y).mono λe a h=>⟨.agg amoCells,h.1,(rfl:H8 amoCells=.agg amoCells),h.2⟩
theorem AH (hk:t<9) (a b:Int) (r:0<=a) (a1:a<18446744073709551616) (s:0<=b) (k:b<18446744073709551616) (f:MF) (y:Hid (mL t=f)) (w:A5): CB 195 #[.i ((t:Int)+76),.u a,.u b] w (.tuple #[.u (f.v a b),.bool true]):=by
 have z:L0 ((t:Int)+76-76)=t:=by unfold L0;omega
 have C:decide (76<=(t:Int)+76):=by simp;omega
 have D:decide ((t:Int)<9):=by simp;omega
 have u:=m0 f.enters;go_enter func195,ntmps195;go_wp2_with fail;refine (nh _).mono ?_;rintro e d ⟨T,rfl,q,l⟩;have o:(d.alloc (.cells (H8 dR).cells 277)).heap[d.heap.size]?=some (.cells dR 277 (0,0)):=A6 _ _;obtain ⟨g,c⟩:∃ g,g=(d.alloc (.cells (H8 dR).cells 277)).setRow d.heap.size amoCells:=⟨_,rfl⟩;have HR:Hid (g.heap[d.heap.size]?=some (.cells amoCells 277 (0,0))):=by show _=_;rw [c];exact D2 _ _ _ _ _ _ o
 have p:Hid (Bw w g):=by show Below _ _ _;rw [c];exact aK (l.alloc l.size _) l.size _
 have j:Hid (g=(d.alloc (.cells (H8 dR).cells 277)).setRow d.heap.size amoCells):=c;clear c;have B:g.cell? ⟨d.heap.size,t,none⟩=some (.func (.func f.fn) #[] #[]):=by rw [F3 _ _ _ _ _ _ HR.out,tU t hk,y.out]
 go_wp2_with (first | refine cI rfl 277 rfl (some 8) rfl _ iI ?_ | (refine C6 rfl 277 (.tmp 8) (.tmp 10) rfl rfl d.heap.size amoCells rfl q.out 277 dR o (by rw [gO,cK]) (by rw [iH,cK]) iJ ?_;rw [<- j.out]));refine (MF.calls f a b r a1 s k _).mono ?_;rintro e E ⟨rfl,nq,m⟩;subst m;go_wp2_with fail;go_ret2;exact ⟨rfl,ru p.out _⟩
theorem Dl (hk:t<9) (a b:Int) (C:0<=a) (a1:a<18446744073709551616) (D:0<=b) (E:b<18446744073709551616) (f:MF) (A:Hid (mL t=f)) (w:A5): CB 195 #[.i ((t:Int)+65),.u a,.u b] w (.tuple #[.u (f.v (ay 32 a) (ay 32 b)%4294967296),.bool true]):=by
 have B:L0 ((t:Int)+65-65)=t:=by unfold L0;omega
 have G:decide (76<=(t:Int)+65)=false:=by simp;omega
 have H:decide (65<=(t:Int)+65):=by simp;omega
 have I:decide ((t:Int)<9):=by simp;omega
 have d4:0<=(t:Int)/\(t:Int)<((9:Nat):Int):=ab
 have z:=m0 f.enters;go_enter func195,ntmps195;go_wp2_with fail;refine (nh _).mono ?_;rintro e d ⟨T,rfl,u,o⟩;have q:(d.alloc (.cells (H8 dR).cells 277)).heap[d.heap.size]?=some (.cells dR 277 (0,0)):=A6 _ _;obtain ⟨g,c⟩:∃ g,g=(d.alloc (.cells (H8 dR).cells 277)).setRow d.heap.size amoCells:=⟨_,rfl⟩;have HR:Hid (g.heap[d.heap.size]?=some (.cells amoCells 277 (0,0))):=by show _=_;rw [c];exact D2 _ _ _ _ _ _ q
 have r:Hid (Bw w g):=by show Below _ _ _;rw [c];exact aK (o.alloc o.size _) o.size _
 have l:Hid (g=(d.alloc (.cells (H8 dR).cells 277)).setRow d.heap.size amoCells):=c;clear c;have F:g.cell? ⟨d.heap.size,t,none⟩=some (.func (.func f.fn) #[] #[]):=by rw [F3 _ _ _ _ _ _ HR.out,tU t hk,A.out]
 go_wp2_with (first | refine cI rfl 277 rfl (some 8) rfl _ iI ?_ | (refine C6 rfl 277 (.tmp 8) (.tmp 10) rfl rfl d.heap.size amoCells rfl u.out 277 dR q (by rw [gO,cK]) (by rw [iH,cK]) iJ ?_;rw [<- l.out]));have y:0<=f.v (ay 32 a) (ay 32 b):=f.pos (bo a).1 (bo a).2 (bo b).1 (bo b).2;have k:Hid (∀ (x:Int) (w:A5),A9 prog 216 #[.u x] w λe j=>e=.returned (.u (ay 32 x))/\∃ m,j=w.drewN m):=λx w=>bp (pZ x w);have s:Hid (∀ w:A5,A9 prog f.fn #[.u (ay 32 a),.u (ay 32 b)] w λe j=>e=.returned (.u (f.v (ay 32 a) (ay 32 b)))/\∃ m,j=w.drewN m):=MF.calls f _ _ (bo a).1 (bo a).2 (bo b).1 (bo b).2;go_quiet (first | with_reducible refine Calls.quiet_of (k.out _ _) | with_reducible refine Calls.quiet_of (s.out _))
 go_wp2_with fail;refine (tO _ y _).mono ?_;rintro e J ⟨rfl,p⟩;subst p;go_wp2_with fail;go_ret2;exact ⟨rfl,ru r.out _⟩
theorem AI (p:(Lit.int .i64 f).wf) (h:sP f=false) (w:A5): CB 195 #[.i f,.u d,.u m] w (.tuple #[.u 0,.bool false]):=by
 have l:¬ (65<=f/\f<=73)/\¬ (76<=f/\f<=84):=by simpa [sP] using h
 have r:=Nv p;clear p h;by_cases j:f<65;·have b:decide (76<=f)=false:=bv;have u:decide (65<=f)=false:=bv;clear j l;go_enter func195,ntmps195;go_wp2_with fail;refine (nh _).mono ?_;rintro e a ⟨T,rfl,op,c⟩;have g:(a.alloc (.cells (H8 dR).cells 277)).heap[a.heap.size]?=some (.cells dR 277 (0,0)):=A6 _ _;go_wp2_with (first | refine cI rfl 277 rfl (some 8) rfl _ iI ?_ | (refine C6 rfl 277 (.tmp 8) (.tmp 10) rfl rfl a.heap.size amoCells rfl op.out 277 dR g (by rw [gO,cK]) (by rw [iH,cK]) iJ ?_));exact a0r
 ·have t:decide (65<=f):=bv;have z:L0 (f-65)=f-65:=ob;have y:decide (f-65<9)=false:=bv;by_cases o:f<76;·have b:decide (76<=f)=false:=bv;clear j l o;go_enter func195,ntmps195;go_wp2_with fail;refine (nh _).mono ?_;rintro e a ⟨T,rfl,op,c⟩;have g:(a.alloc (.cells (H8 dR).cells 277)).heap[a.heap.size]?=some (.cells dR 277 (0,0)):=A6 _ _;go_wp2_with (first | refine cI rfl 277 rfl (some 8) rfl _ iI ?_ | (refine C6 rfl 277 (.tmp 8) (.tmp 10) rfl rfl a.heap.size amoCells rfl op.out 277 dR g (by rw [gO,cK]) (by rw [iH,cK]) iJ ?_));go_ret2;exact ⟨rfl,aK (c.alloc c.size _) c.size _⟩
  ·have b:decide (76<=f):=bv;have q:L0 (f-76)=f-76:=ob;have d4:decide (f-76<9)=false:=bv;clear j l o;go_enter func195,ntmps195;go_wp2_with fail;refine (nh _).mono ?_;rintro e a ⟨T,rfl,op,c⟩;have g:(a.alloc (.cells (H8 dR).cells 277)).heap[a.heap.size]?=some (.cells dR 277 (0,0)):=A6 _ _;go_wp2_with (first | refine cI rfl 277 rfl (some 8) rfl _ iI ?_ | (refine C6 rfl 277 (.tmp 8) (.tmp 10) rfl rfl a.heap.size amoCells rfl op.out 277 dR g (by rw [gO,cK]) (by rw [iH,cK]) iJ ?_));exact a0r
theorem Dn (op a b:Int) (i:(Lit.int .i64 op).wf) (d:0<=a) (a1:a<18446744073709551616) (f:0<=b) (g:b<18446744073709551616) (w:A5):CB 195 #[.i op,.u a,.u b] w (.tuple #[.u (jd op a b),.bool (sP op)]):=by
 cases h:sP op with
 | false=>rw [Dg h];exact AI op a b i h w
 | true =>
   obtain ⟨k,c,rfl|rfl⟩:=yW h;·rw [Df c];exact AH k c a b d a1 f g _ (rfl:mL k=mL k) w
   ·rw [Ih c];exact Dl k c a b d a1 f g _ (rfl:mL k=mL k) w
def wX (A B s:Int) (a b:Bool):Nat->Int
 | 0=>B | 1=>s | 2=>C5 .xor .u64 A B | 3=>C5 .and .u64 A B | 4=>C5 .or .u64 A B
 | 5=>if a=true then A else B | 6=>if a=true then B else A | 7=>if b=true then A else B | _=>if b=true then B else A
theorem yY (A B s x y:Int) (g h:Bool) (hn:t=64/\f=76/\d=18446744073709551615\/t=32/\f=65/\d=4294967295) (n:C5 .and .u64 m d=A) (u:C5 .and .u64 J d=B) (hs:C5 .and .u64 (Uz.wrap (A+B)) d=s) (hx:ay t A=x) (hy:ay t B=y) (hl:decide (IntKind.i64.wrap x<IntKind.i64.wrap y)=g) (j:decide (A<B)=h) (k:Nat) (hk:k<9) (w:A5): CE 104 #[.i ((k:Int)+f),.u m,.u J] w (.tuple #[.u (wX A B s g h k),.bool true]):=by
 have l:=λW (_:W=w)=>eH ((k:Int)+f) 76 84 W;have a:=λW (_:W=w)=>eH ((k:Int)+f) 65 73 W;obtain ⟨V,i⟩:∃ V,V=wX A B s g h k:=⟨_,rfl⟩;rw [<- i];have p:∀ W,W=w->CE 101 #[.u A,.u t] W (.u x):=λW _=>hx ▸ ei A t ab ab W;have q:∀ W,W=w->CE 101 #[.u B,.u t] W (.u y):=λW _=>hy ▸ ei B t ab ab W;clear hx hy;have r:k=0\/k=1\/k=2\/k=3\/k=4\/k=5\/k=6\/k=7\/k=8:=ab
 refine br (S:=λx=>x=w) (args:=[.i ((k:Int)+f),.u m,.u J]) [] func104 ?_;show Wg _ _ _ _ _ _ w;rcases hn with ⟨rfl,rfl,rfl⟩ | ⟨rfl,rfl,rfl⟩<;>rcases r with rfl | rfl | rfl | rfl | rfl | rfl | rfl | rfl | rfl<;>cases g<;>cases h <;>
  exact ix (R:=[]) trivial {eq:=[(29,cR .u64 n),(32,cR .u64 u),(41,an hl),(52,cR .u64 hs),(82,an j),(87,an j)],cv:=[(14,kj l),(19,kj a),(35,kj p),(39,kj q)]} 300 λc hk=>⟨_,D1 rfl _ _ _,by rw [hk.slot (v:=.u V) (by rw [i];kernel_rfl),hk.slot (v:=.bool true) ba],rfl⟩
theorem Do (op a b:Int) (d:0<=a) (a1:a<18446744073709551616) (f:0<=b) (g:b<18446744073709551616) (w:A5):CE 104 #[.i op,.u a,.u b] w (.tuple #[.u (jd op a b),.bool (sP op)]):=by
 cases h:sP op with
 | false =>rw [Dg h];have l:¬ (65<=op/\op<=73)/\¬ (76<=op/\op<=84):=(by simpa [sP] using h);have q:decide (76<=op/\op<=84)=false:=(by simpa using l.2);have r:decide (65<=op/\op<=73)=false:=(by simpa using l.1);clear h l;go_enter func104,ntmps104;go_wp2_with (go_at_call 47;with_reducible refine (eH _ _ _ _).mono ?_;rintro e s ⟨rfl,rfl⟩);go_ret2;exact a0e
 | true =>
   obtain ⟨k,c,rfl | rfl⟩:=yW h;all_goals have j:∀ z,IntKind.i64.wrap z=L0 z:=λz=>by rw [I4];unfold L0;omega
   ·rw [Df c];have e:(mL k).v a b=wX a b (Uz.wrap (a+b)) (decide (L0 a<L0 b)) (decide (a<b)) k:=by
     match k,c with
     | 0,_ | 1,_ | 2,_ | 3,_ | 4,_=>rfl
     | 5,_=>simpa [wX,mL,Qk] using Ii d a1 f g
     | 6,_ | 8,_=>simp [wX,mL,Qk,MF.v]
     | 7,_=>simpa [wX,mL,Qk] using Ij a b
    rw [e];have m:0<=Uz.wrap (a+b)/\Uz.wrap (a+b)<18446744073709551616:=dv;exact yY 64 76 18446744073709551615 a b a b _ a b _ _ (.inl ⟨rfl,rfl,rfl⟩) (wO d a1) (wO f g) (wO m.1 m.2) (wM d a1) (wM f g) (by rw [j,j]) rfl k c w
   ·rw [Ih c];have e:(mL k).v (ay 32 a) (ay 32 b)%4294967296=wX (a%4294967296) (b%4294967296) ((a+b)%4294967296) (decide (L0 (ay 32 a)<L0 (ay 32 b))) (decide (a%4294967296<b%4294967296)) k:=by
     match k,c with
     | 0,_=>exact FQ a b
     | 1,_=>exact ((Qn a b).trans (jZ _)).trans (by show _=(a+b)%4294967296;omega)
     | 2,_=>exact NG a b
     | 3,_=>exact NH a b
     | 4,_=>exact Qo a b
     | 5,_=>simpa [wX,mL,Qk] using NI a b
     | 6,_=>simpa [wX,mL,Qk] using NJ a b
     | 7,_=>simpa [wX,mL,Qk] using NK a b
     | 8,_=>simpa [wX,mL,Qk] using NL a b
    rw [e];have o:=lK ((a%4294967296)+(b%4294967296)) ab ab;exact yY 32 65 4294967295 a b _ _ _ _ _ _ _ (.inr ⟨rfl,rfl,rfl⟩) (lK a d a1) (lK b f g) (by rw [I3,Int.emod_eq_of_lt ab ab,o];omega) (o9 a) (o9 b) (by rw [j,j]) rfl k c w
theorem wY (h:t<6):eG.drop t=eG.getD t 0::eG.drop (t+1):=by
 have e:t=0\/t=1\/t=2\/t=3\/t=4\/t=5:=ab
 rcases e with rfl|rfl|rfl|rfl|rfl|rfl<;>rfl
theorem Dp:eG.getD t 0<64:=by
 by_cases h:t<6;·have e:t=0\/t=1\/t=2\/t=3\/t=4\/t=5:=ab;rcases e with rfl|rfl|rfl|rfl|rfl|rfl<;>decide
 ·have:eG.getD t 0=0:=by simp [eG,O1,N1 (show [11,3,7,9,1,5].length<=t by simp;omega)]
  omega
theorem yZ (h:R<6) (a:gn f (eG.drop R)=dh f) (hb:(aw f (eG.getD R 0)==1)):dh f=(eG.getD R 0:Nat):=by rw [<- a,wY R h,gn,hb]
theorem Dq (h:R<6) (a:gn f (eG.drop R)=dh f) (hb:(aw f (eG.getD R 0)==1)=false):gn f (eG.drop (R+1))=dh f:=by rw [<- a,wY R h,gn,hb]
def g8:Array Value:=#[.i 11,.i 3,.i 7,.i 9,.i 1,.i 5]
theorem Kt (h:t<6):g8[t]?=some (.i (eG.getD t 0:Nat)):=by
 have e:t=0\/t=1\/t=2\/t=3\/t=4\/t=5:=ab
 rcases e with rfl|rfl|rfl|rfl|rfl|rfl<;>rfl
theorem Dr (x:Int) (w:A5):CB 89 #[.u x] w (.i (dh x)):=by
 go_enter func89,ntmps89;go_wp2_with fail;have p:Bw w (w.alloc (Obj.cells #[.i 11,.i 3,.i 7,.i 9,.i 1,.i 5] 2)):=bal _ _;have u:Hid (∀ k,k<6->(w.alloc (Obj.cells #[.i 11,.i 3,.i 7,.i 9,.i 1,.i 5] 2)).cell? ⟨w.heap.size,k,none⟩=some (.i (eG.getD k 0:Nat))):=λk s=>(F3 _ _ _ _ _ _ (A6 _ _)).trans (Kt k s);generalize w.alloc (Obj.cells #[.i 11,.i 3,.i 7,.i 9,.i 1,.i 5] 2)=B at *;go_loopw [4] (λi wr=>∃ k:Nat,k<=6/\i=.i k/\Hid (gn x (eG.drop k)=dh x)/\wr=B)
  (λi _=>6-(intOf i).toNat)
 case atStart=>exact ⟨0,ab,rfl,(rfl:gn x (eG.drop 0)=dh x),rfl⟩
 case round =>
  obtain ⟨k,s,rfl,j,rfl⟩:=hrel;by_cases c:k<6
  ·have E:=u.out k c;have b:Hid ((aw x (eG.getD k 0)==1)->Hid (dh x=(eG.getD k 0:Nat))):=λh=>yZ x k c j.out h;have l:Hid ((aw x (eG.getD k 0)==1)=false->Hid (gn x (eG.drop (k+1))=dh x)):=λh=>Dq x k c j.out h;have t:=Dp k;generalize eG.getD k 0=r at *;have q:Hid (∀ w,CE 88 #[.u x,.u r] w (.u (aw x r))):=λw=>gY x r t w;have G:Uz.wrap (r:Int)=r:=dv;have D:decide ((k:Int)<6):=bv;have z:(0:Int)<=(k:Int):=ab;have A:(k:Int)<6:=ab;clear t j;generalize aw x r=y at *;cases d:(y==1) with
   | true =>have F:=b.out d;clear b l;go_wp2_with fail;refine (q.out _).mono ?_;rintro e C ⟨rfl,f⟩;have g:=f.symm;subst g;go_wp2_with fail;go_ret;exact ⟨bh,p⟩
   | false =>
     have F:=l.out d;clear b l;go_wp2_with fail;refine (q.out _).mono ?_;rintro e C ⟨rfl,f⟩;have g:=f.symm;subst g;go_wp2_with fail;go_roundw;case rel=>exact ⟨k+1,ab,by go_num,F,trivial⟩
     case measure=>simp [intOf];omega
  ·have m:k=6:=ab;subst m;have F:Hid (dh x=-1):=j.out.symm;go_wp2_with fail;go_ret;exact ⟨bh,p⟩
theorem za (h:Sl .u64 w (some ⟨x,a,none⟩) A) (k:Nat) (hk:k<A.length):x<w.heap.size/\w.cell? ⟨x,a+k,none⟩=some (.u (A.getD k 0)):=by obtain ⟨g,c,e,d,f⟩:=h k hk;simp only [Option.some.injEq,Addr.mk.injEq,and_true] at e;obtain ⟨rfl,rfl⟩:=e;exact ⟨d,f⟩
theorem xR (b a cap:Nat) (l:List Int) (p:Int) (s:bZ p) (w:A5) (hz:l.length=22) (hs:Sl .u64 w (some ⟨b,a,none⟩) l):CB 63 #[.slice (some ⟨b,a,none⟩) 22 cap,.i p] w (.i (fS l p)):=by
 obtain ⟨V,d⟩:∃ V,V=fS l p:=⟨_,rfl⟩;rw [<- d];unfold fS GB Bq Bt kv at d;have c:∀ j,j<22->∀ W,Bs w [] W->W.cell? ⟨b,a+j,none⟩=some (.u (l.getD j 0)):=λj u W h=>(h.2.cell (by exact (za hs 0 ab).1)).trans (za hs j ab).2;have g:=λx W (_:Bw w W)=>Dr x W;have k:=λ(i:Nat) (r:i<64) W (_:Bw w W)=>gY (l.getD 0 0) i r W;refine br (S:=Bs w []) (args:=[.slice (some ⟨b,a,none⟩) 22 cap,.i p]) [] func63 ?_;have f:p=0\/p=1\/p=3:=by simpa [bZ,or_assoc] using s
 cases m:decide (dh (C5 .andNot .u64 (C5 .and .u64 (l.getD 9 0) (l.getD 3 0)) (l.getD 2 0))>=0)<;>cases n:(aw (l.getD 0 0) 1==1)<;>cases o:(aw (l.getD 0 0) 3==1)<;>rw [m,n,o] at d<;>rcases f with rfl|rfl|rfl <;>
  exact bn (t:=4) (v:=.i V) Bs.eng {eq:=[(21,an o),(30,an m),(42,an n)],ov:=[(9,iP ⟨b,a+9,none⟩ _ underlying24 rfl (c 9 ab)),(12,iP ⟨b,a+3,none⟩ _ underlying24 rfl (c 3 ab)),(19,iP ⟨b,a+0,none⟩ _ underlying24 rfl (c 0 ab)),(40,iP ⟨b,a+0,none⟩ _ underlying24 rfl (c 0 ab)),(26,iP ⟨b,a+2,none⟩ _ underlying24 rfl (c 2 ab)),(48,iP ⟨b,a+2,none⟩ _ underlying24 rfl (c 2 ab))],cv:=[(20,nt (k 3 ab)),(41,nt (k 1 ab)),(28,fM (g (C5 .andNot .u64 (C5 .and .u64 (l.getD 9 0) (l.getD 3 0)) (l.getD 2 0)))),(50,fM (g (C5 .and .u64 (C5 .and .u64 (l.getD 9 0) (l.getD 3 0)) (l.getD 2 0))))]} 120 (Bs.start _ _) (hv:=by subst d;kernel_rfl) (he:=by subst d;kernel_rfl) (λq h=>⟨rfl,h.2⟩)
def wZ (M:MV) (size kind:Int):Bool:=dJ M&&jt size&&decide (1<=kind/\kind<=3)&&!((kind==1)&&(size != 4))
def uI (M:MV) (addr size kind x:Int):Int × MV × Int:=if wZ M size kind=true then aH M addr size kind x else (0,zeroM,99)
theorem bO:(ak l n).all (·.oneCell'):=by unfold ak;kernel_rfl
def RM (w:A5) (r:Nat):World:=(w.setCell ⟨r,11,none⟩ (.u 0)).setCell ⟨r,12,none⟩ (.bool false)
theorem Mp.freeq (h:Mp x a k c w):Mp x a (lP k) c (RM w a)/\Kx a (aF k c) (aF (lP k) c) w (RM w a):=by refine ⟨⟨?_,Mp.fam_set (Mp.fam_set h.fam h.ne 11 _) h.ne 12 _,h.ne,h.lo⟩,(Kx.set w 11 _).trans (Kx.set _ 12 _)⟩;have r:=h.row;unfold ak at r;exact bH (bH r 11 (.u 0)) 12 (.bool false)
def xS (A:MA) (a:Option D8) (c:Nat):MA:=⟨A.ax,A.cx,A.ac,A.cc,a,c,A.ai,A.ci,A.ao,A.co⟩
theorem Mp.ram {r:Nat} {A:MA} (h:Mp x r k A w) (hb:Bw w s) (R:List Int) (a:Option D8) (c:Nat) (m:s.ownsRow w.heap.size 5 1 (.slice a R.length c) R.length (R.map (I1 .u8))):Mp x r (bN k R) (xS A a c) (s.setCell ⟨r,4,none⟩ (.slice a R.length c))/\Kx r (aF k A) (aF (bN k R) (xS A a c)) w (s.setCell ⟨r,4,none⟩ (.slice a R.length c)):=by
 have g:=h.lt;have w':x<=w.heap.size:=by have:=h.lo;omega
 have t:=h.fam.below hb;have p:bj x w.heap.size s ([aG A.ax k.x.length A.cx k.x,aG A.ac k.cs.length A.cc k.cs]++[aE A.ai k.d.xs.length A.ci k.d.xs,aE A.ao k.d.ys.length A.co k.d.ys]):=t.sub (by unfold aF;simp);have hF:bj x s.heap.size s (aF (bN k R) (xS A a c)):=p.ins (q:=aE a R.length c R) m w' (P2 _) hb.size;have b:∀ q ∈ aF (bN k R) (xS A a c),∀ M,q.v.ownBlock=some M->M<w.heap.size->∃ i ∈ aF k A,i.v.ownBlock=some M:=by
  intro q f M e l;simp only [aF,bN,xS,List.mem_cons,List.not_mem_nil,or_false] at f;rcases f with rfl|rfl|rfl|rfl|rfl;·exact ⟨aG A.ax k.x.length A.cx k.x,ef,e⟩
  ·exact ⟨aG A.ac k.cs.length A.cc k.cs,ef,e⟩
  ·have:=(m.lt M e).1;omega
  ·exact ⟨aE A.ai k.d.xs.length A.ci k.d.xs,ef,e⟩
  ·exact ⟨aE A.ao k.d.ys.length A.co k.d.ys,ef,e⟩
 have d:∀ q ∈ aF (bN k R) (xS A a c),q.v.ownBlock≠some r:=λq f e=>by obtain ⟨i,o,n⟩:=b q f r e g;exact h.ne i o n
 have j:=aD hb h.row;unfold ak at j;have u:Kx r (aF k A) (aF (bN k R) (xS A a c)) w s:=⟨hb.os,hb.tape,hb.output,hb.size,λM l _ _=>hb.block M l,b⟩;exact ⟨⟨bH j 4 (.slice a R.length c),Mp.fam_set hF d 4 _,d,h.lo⟩,u.trans (Kx.set s 4 _)⟩
theorem Qr (B r:Nat) (addr size R:Int) (D:DV) (is:Bool) (w:A5) (hm:Mp B r l n w) (Q:∀ d,Mp B r l n d->A9 prog 262 #[.agg #[.u l.d.t,.u l.d.cm,.bool l.d.so,.slice n.ai l.d.xs.length n.ci,.slice n.ao l.d.ys.length n.co,.i l.d.ir],.u addr,.i size] d λe m=>∃ (f:Option D8) (j:Nat) (g:Option D8) (M:Nat),e=.returned (.tuple #[.u R,.agg #[.u D.t,.u D.cm,.bool D.so,.slice f D.xs.length j,.slice g D.ys.length M,.i D.ir],.bool is])/\bj d.heap.size m.heap.size m (eX f D.xs.length j D.xs g D.ys.length M D.ys)/\Bw d m): A9 prog 228 #[.p r 5,.u addr,.i size] w λe d=>e=.returned (.tuple #[.u R,.bool is])/\∃ J,Mp B r (if is=true then bW l D else l) J d/\Kx r (aF l n) (aF (if is=true then bW l D else l) J) w d:=by
 have p:=aq hm;have S:=aq Q;obtain ⟨U,V,W,X,Y,K,L,N,O,P,t,E,F,G⟩:=aX hm.row;clear hm Q;go_enter func228,ntmps228;go_wp2_with fail;refine (S.out _ p.out).mono ?_;rintro e I ⟨f,j,g,M,rfl,u,c⟩;have y:=aq (aa c ((I2 _ _).alloc (P2 _) (.cells #[.u D.t,.u D.cm,.bool D.so,.slice f D.xs.length j,.slice g D.ys.length M,.i D.ir] 27 (0,0))));have T:Hid (fE w (I.alloc (.cells #[.u D.t,.u D.cm,.bool D.so,.slice f D.xs.length j,.slice g D.ys.length M,.i D.ir] 27 (0,0))) n.ai n.ci l.d.xs n.ao n.co l.d.ys f j D.xs g M D.ys):=fE.below (.inr (.inr (.inr u))) (bal _ _);have b:=aD c p.out.row;unfold ak at b;have H:¬ r=I.heap.size:=by have h1:=p.out.lt;have h2:=c.size;omega
 have nb2:¬ I.heap.size=r:=λh=>H h.symm;clear U V W X Y K L N O P t E F G;have K:=λo=>(aX (ap b o)).2.2.2.2.2.1;have L:=λo=>(aX (ap b o)).2.2.2.2.2.2.1;have N:=λo=>(aX (ap b o)).2.2.2.2.2.2.2.1;have O:=λo=>(aX (ap b o)).2.2.2.2.2.2.2.2.1;have P:=λo=>(aX (ap b o)).2.2.2.2.2.2.2.2.2.1;have t:=λo=>(aX (ap b o)).2.2.2.2.2.2.2.2.2.2.1;have f5:=λo=>(fg (ap b o)).2.2.2.2.2.1;have f6:=λo=>(fg (ap b o)).2.2.2.2.2.2.1;have f7:=λo=>(fg (ap b o)).2.2.2.2.2.2.2.1;have f8:=λo=>(fg (ap b o)).2.2.2.2.2.2.2.2.1;have f9:=λo=>(fg (ap b o)).2.2.2.2.2.2.2.2.2.1;have Z:=λo=>(fg (ap b o)).2.2.2.2.2.2.2.2.2.2.1;clear c u b;cases is with
 | false =>go_wp2_with fail;refine A8 (D1 rfl _ _ _) rfl ?_;exact ⟨rfl,n,p.out.below y.out,Kx.of_below y.out⟩
 | true =>obtain ⟨s,q⟩:=p.out.dev y.out D T.out;have C:=aq s;have z:=aq q;clear s q;go_wp2_with fail;refine A8 (D1 rfl _ _ _) rfl ?_;exact ⟨rfl,jG n f j g M,C.out,z.out⟩
theorem Qs (B r:Nat) (addr size x:Int) (D:DV) (is:Bool) (w:A5) (hm:Mp B r l n w) (Q:∀ d,Mp B r l n d->A9 prog 268 #[.agg #[.u l.d.t,.u l.d.cm,.bool l.d.so,.slice n.ai l.d.xs.length n.ci,.slice n.ao l.d.ys.length n.co,.i l.d.ir],.u addr,.i size,.u x] d λe m=>∃ (f:Option D8) (j:Nat) (g:Option D8) (M:Nat),e=.returned (.tuple #[.agg #[.u D.t,.u D.cm,.bool D.so,.slice f D.xs.length j,.slice g D.ys.length M,.i D.ir],.bool is])/\bj d.heap.size m.heap.size m (eX f D.xs.length j D.xs g D.ys.length M D.ys)/\Bw d m): A9 prog 260 #[.p r 5,.u addr,.i size,.u x] w λe d=>e=.returned (.bool is)/\∃ J,Mp B r (if is=true then bW l D else l) J d/\Kx r (aF l n) (aF (if is=true then bW l D else l) J) w d:=by
 have p:=aq hm;have R:=aq Q;obtain ⟨T,U,V,W,X,K,L,N,O,P,t,E,F,G⟩:=aX hm.row;clear hm Q;go_enter func260,ntmps260;go_wp2_with fail;refine (R.out _ p.out).mono ?_;rintro e I ⟨f,j,g,M,rfl,u,c⟩;have y:=aq (aa c ((I2 _ _).alloc (P2 _) (.cells #[.u D.t,.u D.cm,.bool D.so,.slice f D.xs.length j,.slice g D.ys.length M,.i D.ir] 27 (0,0))));have S:Hid (fE w (I.alloc (.cells #[.u D.t,.u D.cm,.bool D.so,.slice f D.xs.length j,.slice g D.ys.length M,.i D.ir] 27 (0,0))) n.ai n.ci l.d.xs n.ao n.co l.d.ys f j D.xs g M D.ys):=fE.below (.inr (.inr (.inr u))) (bal _ _);have b:=aD c p.out.row;unfold ak at b;have H:¬ r=I.heap.size:=by have h1:=p.out.lt;have h2:=c.size;omega
 have Z:¬ I.heap.size=r:=λh=>H h.symm;clear T U V W X K L N O P t E F G;have K:=λo=>(aX (ap b o)).2.2.2.2.2.1;have L:=λo=>(aX (ap b o)).2.2.2.2.2.2.1;have N:=λo=>(aX (ap b o)).2.2.2.2.2.2.2.1;have O:=λo=>(aX (ap b o)).2.2.2.2.2.2.2.2.1;have P:=λo=>(aX (ap b o)).2.2.2.2.2.2.2.2.2.1;have t:=λo=>(aX (ap b o)).2.2.2.2.2.2.2.2.2.2.1;have f5:=λo=>(fg (ap b o)).2.2.2.2.2.1;have f6:=λo=>(fg (ap b o)).2.2.2.2.2.2.1;have f7:=λo=>(fg (ap b o)).2.2.2.2.2.2.2.1;have f8:=λo=>(fg (ap b o)).2.2.2.2.2.2.2.2.1;have f9:=λo=>(fg (ap b o)).2.2.2.2.2.2.2.2.2.1;have Y:=λo=>(fg (ap b o)).2.2.2.2.2.2.2.2.2.2.1;clear c u b;cases is with
 | false =>go_wp2_with fail;go_ret;exact ⟨rfl,n,p.out.below y.out,Kx.of_below y.out⟩
 | true =>obtain ⟨s,q⟩:=p.out.dev y.out D S.out;have C:=aq s;have z:=aq q;clear s q;go_wp2_with fail;go_ret;exact ⟨rfl,jG n f j g M,C.out,z.out⟩
theorem NS (B r:Nat) (pa:Int) (hit:Bool) (w:A5) (hm:Mp B r l n w) (c:(l.hl&&(Uz.wrap (pa.tdiv 8)==Uz.wrap (l.hd.tdiv 8)))=hit): A9 prog 261 #[.p r 0,.u pa] w λe j=>e=.returned (.tuple #[])/\Mp B r (if hit=true then lP l else l) n j/\Kx r (aF l n) (aF (if hit=true then lP l else l) n) w j:=by
 have f:=aq hm;obtain ⟨y,z,C,D,E,F,G,H,I,J,m,o,g,p⟩:=aX hm.row;obtain ⟨K,L,N,O,P,Q,R,S,T,U,q,s,t,u⟩:=fg hm.row;clear hm;obtain ⟨M,d⟩:∃ b,b=l.hl:=⟨_,rfl⟩;rw [<- d] at g c;clear d;cases M with
 | false =>rw [Bool.false_and] at c;subst c;go_enter func261,ntmps261;go_wp2_with fail;refine F0 (D4 rfl _ _ _) rfl ?_;exact ⟨rfl,f.out,Kx.refl _ _ _⟩
 | true =>
   rw [Bool.true_and] at c;cases hit with
   | false =>go_enter func261,ntmps261;go_wp2_with fail;refine F0 (D4 rfl _ _ _) rfl ?_;exact ⟨rfl,f.out,Kx.refl _ _ _⟩
   | true =>go_enter func261,ntmps261;go_wp2_with fail;refine F0 (D4 rfl _ _ _) rfl ?_;exact ⟨rfl,f.out.freeq.1,f.out.freeq.2⟩
theorem Tv (B r:Nat) (pa size x:Int) (R:List Int) (D:DV) (m is:Bool) (f t:MV->MV) (w:A5) (hm:Mp B r l n w) (hS:∀ d,Mp B r l n d->A9 prog 175 #[.slice n.ar l.ram.length n.cr,.u pa,.i size,.u x] d λe c=>∃ (J:Option D8) (K:Nat),e=.returned (.tuple #[.slice J R.length K,.bool m])/\c.ownsRow d.heap.size 5 1 (.slice J R.length K) R.length (R.map (I1 .u8))/\Bw d c) (hV:∀ d,Mp B r l n d->A9 prog 260 #[.p r 5,.u pa,.i size,.u x] d λe c=>e=.returned (.bool is)/\∃ b,Mp B r (if is=true then bW l D else l) b c/\Kx r (aF l n) (aF (if is=true then bW l D else l) b) d c) (hT:∀ (X:MV) (b:MA) d,Mp B r X b d->(X=bN l R\/X=bW l D)->A9 prog 42 #[.p r 0] d λe c=>e=.returned (.tuple #[])/\Mp B r (f X) b c/\Kx r (aF X b) (aF (f X) b) d c) (hG:∀ (X:MV) (b:MA) d,Mp B r X b d->(X=f (bN l R)\/X=f (bW l D))->A9 prog 261 #[.p r 0,.u pa] d λe c=>e=.returned (.tuple #[])/\Mp B r (t X) b c/\Kx r (aF X b) (aF (t X) b) d c): A9 prog 227 #[.p r 0,.u pa,.i size,.u x] w λe d=>e=.returned (.bool (m||is))/\∃ b,Mp B r (if m=true then t (f (bN l R)) else if is=true then t (f (bW l D)) else l) b d/\Kx r (aF l n) (aF (if m=true then t (f (bN l R)) else if is=true then t (f (bW l D)) else l) b) w d:=by
 have HM:=aq hm;have HS:=aq hS;have HV:=aq hV;have HTM:Hid (∀ (b:MA) d,Mp B r (bN l R) b d->A9 prog 42 #[.p r 0] d λe c=>e=.returned (.tuple #[])/\Mp B r (f (bN l R)) b c/\Kx r (aF (bN l R) b) (aF (f (bN l R)) b) d c):=λb d h=>hT _ b d h (.inl rfl);have HTD:Hid (∀ (b:MA) d,Mp B r (bW l D) b d->A9 prog 42 #[.p r 0] d λe c=>e=.returned (.tuple #[])/\Mp B r (f (bW l D)) b c/\Kx r (aF (bW l D) b) (aF (f (bW l D)) b) d c):=λb d h=>hT _ b d h (.inr rfl);have HGM:Hid (∀ (b:MA) d,Mp B r (f (bN l R)) b d->A9 prog 261 #[.p r 0,.u pa] d λe c=>e=.returned (.tuple #[])/\Mp B r (t (f (bN l R))) b c/\Kx r (aF (f (bN l R)) b) (aF (t (f (bN l R))) b) d c):=λb d h=>hG _ b d h (.inl rfl);have HGD:Hid (∀ (b:MA) d,Mp B r (f (bW l D)) b d->A9 prog 261 #[.p r 0,.u pa] d λe c=>e=.returned (.tuple #[])/\Mp B r (t (f (bW l D))) b c/\Kx r (aF (f (bW l D)) b) (aF (t (f (bW l D))) b) d c):=λb d h=>hG _ b d h (.inr rfl);obtain ⟨V,W,Y,Z,c4,c5,c6,c7,c8,c9,y,z,C,E⟩:=aX hm.row;clear hm hS hV hT hG;go_enter func227,ntmps227;go_wp2_with fail;refine (HS.out _ HM.out).mono ?_;rintro e w5 ⟨J,K,rfl,N,M⟩;have u:=aq (HM.out.below M);have KX5:=aq (Kx.of_below (r:=r) (L:=aF l n) M);cases m with
 | true =>obtain ⟨S,P⟩:=HM.out.ram M R J K N;have j:=aq S;have g:=aq P;clear V W Y Z c4 c5 c6 c7 c8 c9 y z C E;obtain ⟨V,W,Y,Z,c4,c5,c6,c7,c8,c9,y,z,C,E⟩:=aX u.out.row;obtain ⟨f0,f1,f2,f3,f4,f5,f6,f7,f8,f9,f10,f11,f12,f13⟩:=fg u.out.row;clear S P N M;go_wp2_with fail;refine (HTM.out (xS n J K) _ j.out).mono ?_;rintro e w7 ⟨rfl,q,o⟩;have H:=aq q;have F:=aq ((g.out).trans o);clear q o;go_wp2_with fail;refine (HGM.out (xS n J K) _ H.out).mono ?_;rintro e w8 ⟨rfl,s,p⟩;have I:=aq s;have G:=aq (F.out.trans p);clear s p;go_wp2_with fail;go_ret;exact ⟨rfl,(xS n J K),I.out,G.out⟩
 | false =>
   clear N M;clear V W Y Z c4 c5 c6 c7 c8 c9 y z C E;obtain ⟨V,W,Y,Z,c4,c5,c6,c7,c8,c9,y,z,C,E⟩:=aX u.out.row;go_wp2_with fail;refine (HV.out _ u.out).mono ?_;rintro e w6 ⟨rfl,b,U,T⟩;have j:=aq U;have g:=aq (KX5.out.trans T);clear U T;cases is with
   | false =>go_wp2_with fail;go_ret;exact ⟨rfl,b,j.out,g.out⟩
   | true =>have Q:Hid (Mp B r (bW l D) b w6):=j.out;have O:Hid (Kx r (aF l n) (aF (bW l D) b) w w6):=g.out;clear j g;go_wp2_with fail;refine (HTD.out b _ Q.out).mono ?_;rintro e w7 ⟨rfl,q,o⟩;have H:=aq q;have F:=aq ((O.out).trans o);clear q o;go_wp2_with fail;refine (HGD.out b _ H.out).mono ?_;rintro e w8 ⟨rfl,s,p⟩;have I:=aq s;have G:=aq (F.out.trans p);clear s p;go_wp2_with fail;go_ret;exact ⟨rfl,b,I.out,G.out⟩
theorem Qt (w:A5) (hm:Mp t o l n w) (r:∀ c,Mp t o l n c->A9 prog 227 #[.p o 0,.u f,.i d,.u m] c λe g=>e=.returned (.bool X)/\∃ b,Mp t o W b g/\Kx o (aF l n) (aF W b) c g): A9 prog 209 #[.p o 0,.u f,.i d,.i 3,.u m] w λe c=>e=.returned (.tuple #[.u 0,.bool X])/\∃ b,Mp t o W b c/\Kx o (aF l n) (aF W b) w c:=by have q:=aq hm;have s:=aq r;clear hm r;go_enter func209,ntmps209;go_wp2_with fail;refine (s.out _ q.out).mono ?_;rintro e B ⟨rfl,b,pa,size⟩;have x:=aq pa;have M:=aq size;clear pa size;go_wp2_with fail;refine A8 (D1 rfl _ _ _) rfl ?_;exact ⟨rfl,b,x.out,M.out⟩
theorem Qu (B r:Nat) (pa size x J:Int) (b:Bool) (w:A5) (hm:Mp B r l n w) (I:∀ f,Mp B r l n f->CB 169 #[.slice n.ar l.ram.length n.cr,.u pa,.i size] f (.tuple #[.u J,.bool b])): A9 prog 209 #[.p r 0,.u pa,.i size,.i 1,.u x] w λe f=>e=.returned (.tuple #[.u (if b=true then J else 0),.bool (b||false)])/\∃ q,Mp B r (if b=true then l else l) q f/\Kx r (aF l n) (aF (if b=true then l else l) q) w f:=by
 have s:=aq hm;have K:=aq I;obtain ⟨t,u,y,z,C,D,E,F,G,H,j,M,m,o⟩:=aX hm.row;clear hm I;go_enter func209,ntmps209;go_wp2_with fail;refine (K.out _ s.out).mono ?_;rintro e N ⟨rfl,d⟩;have c:=aq (s.out.below d);have g:=aq (Kx.of_below (r:=r) (L:=aF l n) d);clear d;clear t u y z C D E F G H j M m o;obtain ⟨t,u,y,z,C,D,E,F,G,H,j,M,m,o⟩:=aX c.out.row;cases b with
 | true =>go_wp2_with fail;refine A8 (D1 rfl _ _ _) rfl ?_;exact ⟨rfl,n,c.out,g.out⟩
 | false =>go_wp2_with fail;refine A8 (D1 rfl _ _ _) rfl ?_;exact ⟨rfl,n,c.out,g.out⟩
theorem Qv (B r:Nat) (pa size x X:Int) (f:Bool) (M2 z:MV) (W:Int) (is:Bool) (w:A5) (hm:Mp B r l n w) (U:∀ b,Mp B r l n b->CB 169 #[.slice n.ar l.ram.length n.cr,.u pa,.i size] b (.tuple #[.u X,.bool f])) (T:∀ b,Mp B r l n b->A9 prog 228 #[.p r 5,.u pa,.i size] b λe c=>e=.returned (.tuple #[.u W,.bool is])/\∃ d,Mp B r M2 d c/\Kx r (aF l n) (aF M2 d) b c) (V:∀ (d:MA) b,Mp B r M2 d b->A9 prog 42 #[.p r 0] b λe c=>e=.returned (.tuple #[])/\Mp B r z d c/\Kx r (aF M2 d) (aF z d) b c): A9 prog 209 #[.p r 0,.u pa,.i size,.i 2,.u x] w λe b=>e=.returned (.tuple #[.u (if f=true then X else W),.bool (f||is)])/\∃ d,Mp B r (if f=true then l else z) d b/\Kx r (aF l n) (aF (if f=true then l else z) d) w b:=by
 have G:=aq hm;have Z:=aq U;have Y:=aq T;have HT:=aq V;clear T V;obtain ⟨H,I,J,K,N,O,P,Q,R,S,m,o,p,q⟩:=aX hm.row;clear hm U;go_enter func209,ntmps209;go_wp2_with fail;refine (Z.out _ G.out).mono ?_;rintro e w5 ⟨rfl,j⟩;have g:=aq (G.out.below j);have M:=aq (Kx.of_below (r:=r) (L:=aF l n) j);clear j;clear H I J K N O P Q R S m o p q;obtain ⟨H,I,J,K,N,O,P,Q,R,S,m,o,p,q⟩:=aX g.out.row;cases f with
 | true =>go_wp2_with fail;refine A8 (D1 rfl _ _ _) rfl ?_;exact ⟨rfl,n,g.out,M.out⟩
 | false =>go_wp2_with fail;refine (Y.out _ g.out).mono ?_;rintro e w6 ⟨rfl,d,u,s⟩;have E:=aq u;have C:=aq (M.out.trans s);clear u s;go_wp2_with fail;refine (HT.out d _ E.out).mono ?_;rintro e w7 ⟨rfl,y,t⟩;have F:=aq y;have D:=aq (C.out.trans t);clear y t;go_wp2_with fail;refine A8 (D1 rfl _ _ _) rfl ?_;exact ⟨rfl,d,F.out,D.out⟩
theorem hC (hk:f=1\/f=2\/f=3) (w:A5):CE 191 #[.i f] w (.i (if f=1 then 0 else if f=2 then 4 else 6)):=by
 rcases hk with rfl|rfl|rfl;·go_enter func191,ntmps191;exact a02
 ·go_enter func191,ntmps191;exact a02
 ·go_enter func191,ntmps191;exact a02
theorem nS (hk:f=1\/f=2\/f=3) (w:A5):CE 129 #[.i f] w (.i (if f=2 then 5 else if f=3 then 7 else 1)):=by
 rcases hk with rfl|rfl|rfl;·go_enter func129,ntmps129;exact a02
 ·go_enter func129,ntmps129;exact a02
 ·go_enter func129,ntmps129;exact a02
theorem Ik (op:BinOp) (a b:Int):0<=C5 op .u64 a b/\C5 op .u64 a b<18446744073709551616:=by have h:=Sj (wf_bits op .u64 a b);omega
def rC (t:TV) (to:Int):TV:=if de to 1 1==1 then {t with up:=true,cz:=0,vl:=to} else {t with nx:=to}
theorem Ds {o:Nat} {y:Int} (h:iA ⟨x,bI k c r,[]⟩ w) (J:5<=r.op) (z:r.op<=10) (q:c.ax=some ⟨a,o,none⟩) (B:0<=r.ra/\r.ra<k.x.length) (C:0<=r.rb/\r.rb<k.x.length) (hb:a≠x) (hx:w.cell? ⟨a,o+r.ra.toNat,none⟩=some (.u p)) (hy:w.cell? ⟨a,o+r.rb.toNat,none⟩=some (.u y)): A9 prog 156 #[.p x 0] w λe s=>e=.returned (.tuple #[])/\Iv [x] w [⟨x,bI k c (if KO r.op p y then rC r (Uz.wrap (k.pc+Uz.wrap r.im)) else r),[]⟩] s:=by
 have A:∀ (t:D8) v,t.block=a->w.cell? t=some v->∀ W,Iv [x] w [⟨x,bI k c r,[]⟩] W->W.cell? t=some v:=λt v L I W M=>by rw [<- I];simp only [World.cell?,M.ag.block t.block (lO I) (by rw [L];simpa using hb)]
 obtain ⟨l,d⟩:∃ l,l=Uz.wrap (k.pc+Uz.wrap r.im):=⟨_,rfl⟩;have E:(r.op==4)=false:=by simp;omega
 have F:(r.op==3)=false:=by simp;omega
 have G:OZ r.op:=by simp [OZ,J,z]
 rw [<- d];obtain ⟨H,f⟩:∃ H,KO r.op p y=H:=⟨_,rfl⟩;rw [f];refine fy (args:=[.p x 0]) (Iv [x] w [⟨x,bI k c r,[]⟩]) func156 ?_;refine aP 0 1 ?_;cases H with
 | false =>refine kJ Iv.eng {eq:=[(19,an E),(21,an F),(46,an f)],cv:=[(11,xt λW M=>tE M.row1),(42,xt λW M=>L9 M.row1 q B hb (A _ _ rfl hx W M)),(44,xt λW M=>Vl M.row1 q C hb (A _ _ rfl hy W M)),(45,iQ Iv.below λW _=>kR r.op p y G W)]} 200 (Iv.one h) λs g K _=>⟨_,D4 rfl _ _ _,rfl,K⟩
 | true =>
   have i:0<=l:=(by rw [d,I3];omega);have j:l<18446744073709551616:=(by rw [d,I3];omega);rw [JZ8 rfl];unfold rC;obtain ⟨u,n⟩:∃ u,(de l 1 1==1)=u:=⟨_,rfl⟩;rw [n];cases u with
   | true =>refine aT Iv.eng {eq:=[(12,cR .u64 d.symm),(19,an E),(21,an F),(46,an f),(52,an n)],cv:=[(11,xt λW M=>tE M.row1),(42,xt λW M=>L9 M.row1 q B hb (A _ _ rfl hx W M)),(44,xt λW M=>Vl M.row1 q C hb (A _ _ rfl hy W M)),(45,iQ Iv.below λW _=>kR r.op p y G W),(51,iQ Iv.below λW _=>(bJ l 1 1 i j bc bc W).mono λe s b=>⟨b.1,by rw [b.2];exact (I2 _ _).drew⟩),(54,kj λW _=>hC 1 (.inl rfl) W)]} 200 (Iv.one h) (λW M=>km 0 l M.row1) λW e s M D=>⟨_,0,D.1,gi ba,?_⟩;refine aL (λ_=>True) ?_;exact px (Iv.one D.2.row1) {} 40 λW' m=>⟨rfl,(M.then1 D.2).then1 m⟩
   | false =>refine ae Iv.eng {eq:=[(12,cR .u64 d.symm),(19,an E),(21,an F),(46,an f),(52,an n)],cv:=[(11,xt λW M=>tE M.row1),(42,xt λW M=>L9 M.row1 q B hb (A _ _ rfl hx W M)),(44,xt λW M=>Vl M.row1 q C hb (A _ _ rfl hy W M)),(45,iQ Iv.below λW _=>kR r.op p y G W),(51,iQ Iv.below λW _=>(bJ l 1 1 i j bc bc W).mono λe s b=>⟨b.1,by rw [b.2];exact (I2 _ _).drew⟩)]} 200 (Iv.one h) λW M=>?_;refine aL (λ_=>True) ?_;exact gt (Iv.one M.row1) {} 40 λW' m=>⟨rfl,M.then1 m⟩
theorem Ku (h:iA ⟨x,bI k c r,[]⟩ w) (l:r.op=3): A9 prog 156 #[.p x 0] w λe p=>e=.returned (.tuple #[])/\Iv [x] w [⟨x,bI k c (rC {r with rs:=r.nx} (Uz.wrap (k.pc+Uz.wrap r.im))),[]⟩] p:=by
 obtain ⟨f,a⟩:∃ f,f=Uz.wrap (k.pc+Uz.wrap r.im):=⟨_,rfl⟩;have t:(r.op==4)=false:=by simp;omega
 have s:(r.op==3):=by simp;omega
 have j:0<=f:=by rw [a,I3];omega
 have M:f<18446744073709551616:=by rw [a,I3];omega
 rw [<- a];refine fy (args:=[.p x 0]) (Iv [x] w [⟨x,bI k c r,[]⟩]) func156 ?_;refine aP 0 1 ?_;refine ae Iv.eng {eq:=[(12,cR .u64 a.symm),(19,an t),(21,an s)],cv:=[(11,xt λW b=>tE b.row1)]} 200 (Iv.one h) λW b=>?_;refine aL (λ_=>True) ?_;refine fK (R1:=[⟨x,bI k c {r with rs:=r.nx},[]⟩]) (Iv.one b.row1) {} 40 (λn o=>bJ f 1 1 j M bc bc n) λn e q o i=>⟨_,0,i.1,?_⟩;have l:Iv [x] w [⟨x,bI k c {r with rs:=r.nx},[]⟩] q:=(b.then1 o).below (by rw [i.2];exact (I2 _ _).drew);unfold rC;obtain ⟨m,d⟩:∃ m,(de f 1 1==1)=m:=⟨_,rfl⟩;rw [d];cases m with
 | true =>refine aL (Iv [x] w [⟨x,bI k c {r with rs:=r.nx},[]⟩]) ?_;refine aT Iv.eng {eq:=[(52,an d)],cv:=[(54,kj λW _=>hC 1 (.inl rfl) W)]} 200 l (λW b=>km 0 f b.row1) λW e p b i=>⟨_,0,i.1,gi ba,?_⟩;refine aL (λ_=>True) ?_;exact px (Iv.one i.2.row1) {} 40 λW' A=>⟨rfl,(b.then1 i.2).then1 A⟩
 | false =>exact gt (Iv.one l.row1) {eq:=[(52,an d)]} 60 λW' A=>⟨rfl,l.then1 A⟩
theorem NT {o:Nat} (h:iA ⟨x,bI k c r,[]⟩ w) (h4:r.op=4) (z:c.ax=some ⟨a,o,none⟩) (C:0<=r.ra/\r.ra<k.x.length) (hb:a≠x) (hx:w.cell? ⟨a,o+r.ra.toNat,none⟩=some (.u p)): A9 prog 156 #[.p x 0] w λe u=>e=.returned (.tuple #[])/\Iv [x] w [⟨x,bI k c (rC {r with rs:=r.nx} (C5 .andNot .u64 (Uz.wrap (p+Uz.wrap r.im)) 1)),[]⟩] u:=by
 obtain ⟨i,M⟩:∃ i,i=C5 .andNot .u64 (Uz.wrap (p+Uz.wrap r.im)) 1:=⟨_,rfl⟩;have E:(r.op==4):=by simp;omega
 have B:∀ (t:D8) v,t.block=a->w.cell? t=some v->∀ W,Iv [x] w [⟨x,bI k c r,[]⟩] W->W.cell? t=some v:=λt v D s W g=>by rw [<- s];simp only [World.cell?,g.ag.block t.block (lO s) (by rw [D];simpa using hb)]
 have b:0<=i:=by rw [M];exact (Ik _ _ _).1
 have l:i<18446744073709551616:=by rw [M];exact (Ik _ _ _).2
 rw [<- M];refine fy (args:=[.p x 0]) (Iv [x] w [⟨x,bI k c r,[]⟩]) func156 ?_;refine aP 0 1 ?_;refine ae Iv.eng {eq:=[(27,cR .u64 M.symm),(19,an E)],cv:=[(11,xt λW g=>tE g.row1),(23,xt λW g=>L9 g.row1 z C hb (B _ _ rfl hx W g)),(25,xt λW g=>tE g.row1)]} 200 (Iv.one h) λW g=>?_;refine aL (λ_=>True) ?_;refine fK (R1:=[⟨x,bI k c {r with rs:=r.nx},[]⟩]) (Iv.one g.row1) {} 40 (λq A=>bJ i 1 1 b l bc bc q) λq e y A j=>⟨_,0,j.1,?_⟩;have n:Iv [x] w [⟨x,bI k c {r with rs:=r.nx},[]⟩] y:=(g.then1 A).below (by rw [j.2];exact (I2 _ _).drew);unfold rC;obtain ⟨m,f⟩:∃ m,(de i 1 1==1)=m:=⟨_,rfl⟩;rw [f];cases m with
 | true =>refine aL (Iv [x] w [⟨x,bI k c {r with rs:=r.nx},[]⟩]) ?_;refine aT Iv.eng {eq:=[(52,an f)],cv:=[(54,kj λW _=>hC 1 (.inl rfl) W)]} 200 n (λW g=>km 0 i g.row1) λW e u g j=>⟨_,0,j.1,gi ba,?_⟩;refine aL (λ_=>True) ?_;exact px (Iv.one j.2.row1) {} 40 λW' d=>⟨rfl,(g.then1 j.2).then1 d⟩
 | false =>exact gt (Iv.one n.row1) {eq:=[(52,an f)]} 60 λW' d=>⟨rfl,n.then1 d⟩
inductive Wf where
 | ld | st | hd | sc | am
def Wf.ty:Wf->Nat
 | .ld=>211
 | .st=>213
 | .hd=>215
 | .sc=>216
 | .am=>217
def nu (f:Wf) (n:Int) (s:Bool):Value:=.iface f.ty (.agg #[.i n,.bool s])
theorem rD (f:Wf) (n:Int) (s:Bool) (a:r.fm=nu f n s) (h:iA ⟨x,bI k c r,[]⟩ w):A9 prog 192 #[.p x 0] w λe A=>e=.returned (nu f n s)/\Iv [x] w [⟨x,bI k c r,[]⟩] A:=by obtain ⟨M,y,m,q,o,p,j,i,t,l,wr,u,d,g⟩:=r;dsimp only at a;subst a;refine fy (args:=[.p x 0]) (λ_=>True) func192 ?_;refine aP 0 1 ?_;cases f<;>exact vG (t:=2) (v:=nu _ n s) (Iv.one h) {} 40 λW b=>⟨rfl,b⟩
theorem AJ:CB 306 #[.agg #[.i f,.bool D]] y (.i f):=by refine br (args:=[.agg #[.i f,.bool D]]) (S:=Bs y [(#[.i f,.bool D],209)]) [(#[.i f,.bool D],209)] func306 ?_;exact bn (t:=2) (v:=.i f) Bs.eng {} 40 (Bs.start _ _) λa h=>⟨rfl,h.2⟩
theorem Kv (n:Nat) (s:Bool) (x:Int) (hn:n=1\/n=2\/n=4\/n=8) (w:A5):CB 307 #[.agg #[.i n,.bool s],.u x] w (.u (if s then ay (8*n) x else x)):=by
 refine br (args:=[.agg #[.i n,.bool s],.u x]) (S:=Bs w [(#[.i n,.bool s],209)]) [(#[.i n,.bool s],209)] func307 ?_;cases s with
 | false=>exact bn (t:=4) (v:=.u x) Bs.eng {} 40 (Bs.start _ _) λa h=>⟨rfl,h.2⟩
 | true =>have b:IntKind.i64.wrap (8*(n:Int))=((8*n:Nat):Int):=(by rcases hn with rfl | rfl | rfl | rfl<;>rfl);exact bn (t:=4) (v:=.u (ay (8*n) x)) Bs.eng {eq:=[(10,cR .i64 b)],cv:=[(11,nt λW _=>i8 x (8*n) ab ab W)]} 40 (Bs.start _ _) λa h=>⟨rfl,h.2⟩
def cF:Bool->Array Value
 | true=>#[.i 3,.i 4,.i 6,.i 7,.i 8,.i 3,.i 7,.i 11,.i 2]
 | false=>#[.i 1,.i 10,.i 12,.i 13,.i 14,.i 1,.i 5,.i 8,.i 1]
theorem zd:(prog.info? 199).map (·.size)=some 9:=by kernel_rfl
theorem kT:CB 147 #[] y (.agg (cF true)):=by go_enter func147,ntmps147;go_wp2_with fail;exact A8 (D3 results147 _ _ _ _ _ _ _ rfl (A6 _ _) underlying199 rfl zd) rfl ⟨rfl,bal _ _⟩
theorem js:CB 149 #[] y (.agg (cF false)):=by go_enter func149,ntmps149;go_wp2_with fail;exact A8 (D3 results149 _ _ _ _ _ _ _ rfl (A6 _ _) underlying199 rfl zd) rfl ⟨rfl,bal _ _⟩
theorem NU:IntKind.i64.wrap f=L0 f:=by rw [I4];unfold L0;omega
theorem AK (h:U f) (k n:Nat) (hk:k<64) (hn:n<64) (W:A5):CB 31 #[.u f,.i k,.i n] W (.u (de f k n)):=(bJ f k n h.1 h.2 hk hn W).mono λe a k=>⟨k.1,k.2 ▸ (I2 _ _).drew⟩
theorem Dt (h:U d) (hr:IntKind.i64.wrap (de d (if D=true then 11 else 8) (if D=true then 2 else 1))=m) (w:A5):CB 226 #[.agg (cF D),.u d] w (.i m):=by have a:=λW (_:Bw w W)=>AK d h (if D=true then 11 else 8) (if D=true then 2 else 1) (by cases D<;>decide) (by cases D<;>decide) W;refine br (S:=Bs w [(cF D,199)]) (args:=[.agg (cF D),.u d]) [(cF D,199)] func226 ?_;cases D<;>exact bn (t:=4) (v:=.i m) Bs.eng {cv:=[(10,fM a)],eq:=[(11,cR .i64 hr)]} 60 (Bs.start _ _) λW h=>⟨rfl,h.2⟩
theorem ze:CB 207 #[.agg (cF D),.u d] y (.u (C5 .andNot .u64 d (if D=true then 6280 else 290))):=by refine br (S:=Bs y [(cF D,199)]) (args:=[.agg (cF D),.u d]) [(cF D,199)] func207 ?_;cases D<;>exact bn (t:=4) (v:=.u (C5 .andNot .u64 d _)) Bs.eng {} 60 (Bs.start _ _) λW h=>⟨rfl,h.2⟩
theorem xa (h:U f) (w:A5):CB 226 #[.agg (cF true),.u f] w (.i (dq f true)):=Dt true f _ h (by rw [MZ f h];exact NU _) w
theorem Du (h:U f) (w:A5):CB 226 #[.agg (cF false),.u f] w (.i (dq f false)):=Dt false f _ h (by rw [CM f h];exact NU _) w
theorem sS (h:U d) (s:Uz.wrap m=m) (hr:C5 .or .u64 (C5 .or .u64 (C5 .andNot .u64 d (if D=true then 6280 else 290)) (Uz.wrap (de d (if D=true then 3 else 1) 1*(if D=true then 128 else 32)))) (Uz.wrap (m*(if D=true then 2048 else 256)))=J) (w:A5):CB 179 #[.agg (cF D),.u d,.i m] w (.u J):=by have a:=λW (_:Bw w W)=>AK d h (if D=true then 3 else 1) 1 (by cases D<;>decide) bc W;have b:=λW (_:Bw w W)=>ze D d W;refine br (S:=Bs w [(cF D,199)]) (args:=[.agg (cF D),.u d,.i m]) [(cF D,199)] func179 ?_;generalize de d (if D=true then 3 else 1) 1=y at *;cases D<;>exact bn (t:=6) (v:=.u J) Bs.eng {cv:=[(11,fM a),(14,fM b)],eq:=[(21,cR .u64 s),(25,cR .u64 hr)]} 90 (Bs.start _ _) λW h=>⟨rfl,h.2⟩
theorem Kw (a:bZ d) (h:U f) (w:A5):CB 179 #[.agg (cF true),.u f,.i d] w (.u (mO f d)):=by
 have b:d=0\/d=1\/d=3:=by simpa [bZ,or_assoc] using a
 exact sS true f d _ h dv (PT f d h).symm w
theorem FU (h:U f) (w:A5):CB 179 #[.agg (cF false),.u f,.i 0] w (.u (ml f ((0:Int)==1))):=sS false f 0 _ h bc (MX f h).symm w
theorem FY (h:U f) (w:A5):CB 179 #[.agg (cF false),.u f,.i 1] w (.u (ml f ((1:Int)==1))):=sS false f 1 _ h bc (MY f h).symm w
theorem FZ (s o x r:Int) (h:U s) (g:∀ W,CB 226 #[.agg (cF D),.u s] W (.i o)) (hd:(o != 3)=X) (hx:C5 .or .u64 (C5 .or .u64 (C5 .andNot .u64 s (if D=true then 6280 else 290)) (Uz.wrap (de s (if D=true then 7 else 5) 1*(if D=true then 8 else 2)))) (if D=true then 128 else 32)=x) (hr:(if X=true then C5 .andNot .u64 x 131072 else x)=r) (w:A5):CB 256 #[.agg (cF D),.u s] w (.u r):=by
 have b:=λW (_:Bw w W)=>AK s h (if D=true then 7 else 5) 1 (by cases D<;>decide) bc W
 have f:=λW (_:Bw w W)=>ze D s W
 refine br (S:=Bs w [(cF D,199)]) (args:=[.agg (cF D),.u s]) [(cF D,199)] func256 ?_
 generalize de s (if D=true then 7 else 5) 1=y at *
 cases D<;>cases X<;>(
  subst hr
  exact bn (t:=4) (v:=.u (if _=true then C5 .andNot .u64 x 131072 else x)) Bs.eng {cv:=[(10,fM b),(13,fM f),(25,fM λW _=>g W)],eq:=[(22,cR .u64 hx),(26,an hd)]} 120 (Bs.start _ _) λW h=>⟨rfl,h.2⟩)
theorem Tw (s:Int) (h:U s) (w:A5):CB 256 #[.agg (cF true),.u s] w (.u (cP s true)):=by
 cases d:(dq s true != 3) with
 | true=>exact FZ true true s _ _ _ h (xa s h) d rfl (J8 s h d).symm w
 | false=>exact FZ true false s _ _ _ h (xa s h) d rfl (J9 s h d).symm w
theorem Tx (h:U f) (w:A5):CB 256 #[.agg (cF false),.u f] w (.u (cP f false)):=FZ false true f _ _ _ h (Du f h) (Ka f h) rfl (M9 f h).symm w
theorem F4:(prog.info? 225).map (·.size)=some 6:=by kernel_rfl
theorem F5:CB 176 #[] y (.agg g8):=by go_enter func176,ntmps176;go_wp2_with fail;exact A8 (D3 results176 _ _ _ _ _ _ _ rfl (A6 _ _) underlying225 rfl F4) rfl ⟨rfl,bal _ _⟩
theorem F6 (hk:R<6):(I5 225 (.agg g8) (.i (R:Int))).run prog y=.ok (.i (eG.getD R 0:Nat)) y:=by
 have a:(I5 225 (.agg g8) (.i 0)).run prog y=.ok (.i 11) y:=ba
 have b:(I5 225 (.agg g8) (.i 1)).run prog y=.ok (.i 3) y:=ba
 have c:(I5 225 (.agg g8) (.i 2)).run prog y=.ok (.i 7) y:=ba
 have d:(I5 225 (.agg g8) (.i 3)).run prog y=.ok (.i 9) y:=ba
 have f:(I5 225 (.agg g8) (.i 4)).run prog y=.ok (.i 1) y:=ba
 have g:(I5 225 (.agg g8) (.i 5)).run prog y=.ok (.i 5) y:=ba
 have e:R=0\/R=1\/R=2\/R=3\/R=4\/R=5:=ab
 rcases e with rfl|rfl|rfl|rfl|rfl|rfl;·exact a
 ·exact b
 ·exact c
 ·exact d
 ·exact f
 ·exact g
theorem Dy (x:Int) (h:U x) (w:A5):CB 146 #[.u x] w (.i (dh x)):=by
 have m:Hid (U x):=h;clear h;go_enter func146,ntmps146;go_wp2_with fail;refine (F5 _).mono ?_;rintro e D ⟨rfl,u⟩;go_wp2_with fail;have s:=F6;generalize H8 g8=T at *;go_loopw [6] (λi wr=>∃ k:Nat,k<=6/\i=.i k/\Hid (gn x (eG.drop k)=dh x)/\Bw w wr)
  (λi _=>6-(intOf i).toNat)
 case atStart=>exact ⟨0,ab,rfl,(rfl:gn x (eG.drop 0)=dh x),u⟩
 case round =>
  obtain ⟨k,B,rfl,l,b⟩:=hrel;by_cases f:k<6
  ·have C:∀ w,_:=λw=>s w k f;have c:Hid ((aw x (eG.getD k 0)==1)->Hid (dh x=(eG.getD k 0:Nat))):=λh=>yZ x k f l.out h;have j:Hid ((aw x (eG.getD k 0)==1)=false->Hid (gn x (eG.drop (k+1))=dh x)):=λh=>Dq x k f l.out h;have t:=Dp k;rw [dP _ _ m.out] at c j;have q:Hid (∀ w,A9 prog 31 #[.u x,.i (eG.getD k 0:Nat),.i 1] w λe p=>e=.returned (.u (de x (eG.getD k 0) 1))/\p=w.drew):=λw=>bJ x (eG.getD k 0) 1 m.out.1 m.out.2 t ab w;generalize de x (eG.getD k 0) 1=y at *;generalize eG.getD k 0=r at *;have A:decide ((k:Int)<6):=bv;clear t l s;cases d:(y==1) with
   | true =>have F:=c.out d;clear c j;go_wp2_with fail;refine (q.out _).mono ?_;rintro e z ⟨rfl,g⟩;subst g;go_wp2_with fail;go_ret;exact ⟨bh,b.drew⟩
   | false =>
     have F:=j.out d;clear c j;go_wp2_with fail;refine (q.out _).mono ?_;rintro e z ⟨rfl,g⟩;subst g;go_wp2_with fail;go_roundw;case rel=>exact ⟨k+1,ab,by go_num,F,b.drew⟩
     case measure=>simp [intOf];omega
  ·have o:k=6:=ab;subst o;have F:Hid (dh x=-1):=l.out.symm;go_wp2_with fail;go_ret;exact ⟨bh,b⟩
def NV (m:Bool) (s p:Int):Bool:=match m with
 | true=>decide (p<3)||((p==3)&&(de s 3 1==1))
 | false=>decide (p<1)||((p==1)&&(de s 1 1==1))
theorem Il (s p:Int) (h:U s) (w:A5):CB 148 #[.agg (cF D),.u s,.i p] w (.bool (decide (p<if D=true then 3 else 1)||((p==if D=true then 3 else 1)&&(de s (if D=true then 3 else 1) 1==1)))):=by have a:=λW (_:Bw w W)=>AK s h (if D=true then 3 else 1) 1 (by cases D<;>decide) bc W;refine br (S:=Bs w [(cF D,199)]) (args:=[.agg (cF D),.u s,.i p]) [(cF D,199)] func148 ?_;generalize de s (if D=true then 3 else 1) 1=y at *;cases b:decide (p<if D=true then 3 else 1)<;>cases d:(p==if D=true then 3 else 1)<;>cases f:(y==1)<;>cases D<;>exact bn (t:=6) (v:=.bool (_||(_&&_))) Bs.eng {cv:=[(20,fM a)],eq:=[(10,an b),(15,an d),(21,an f)]} 90 (Bs.start _ _) λW h=>⟨rfl,h.2⟩
theorem Qw (h:U f) (w:A5):CB 148 #[.agg (cF true),.u f,.i d] w (.bool (NV true f d)):=Il true f d h w
theorem Qx (h:U f) (w:A5):CB 148 #[.agg (cF false),.u f,.i d] w (.bool (NV false f d)):=Il false f d h w
theorem xU (k:Nat) (hk:k<16) (i:Bool) (w:A5):CE 178 #[.i k,.bool i] w (.u (gG k i)):=by
 have c:Uz.wrap (k:Int)=k:=by rw [I3];omega
 clear hk;cases i with
 | true =>have F:Hid (gG k true=C5 .or .u64 k 9223372036854775808):=(rfl:gG k true=_);generalize gG k true=r at *;go_enter func178,ntmps178;exact a09
 | false =>have F:Hid (gG k false=k):=(rfl:gG k false=_);generalize gG k false=r at *;go_enter func178,ntmps178;exact a09
theorem xV (to:Int) (k:Nat) (hk:k<16) (i:Bool) (w:A5):CE 180 #[.u to,.i k,.bool i] w (.u (dX to k (i&&(C5 .and .u64 to 1==1)))):=by
 have c:Uz.wrap (k:Int)=k:=by rw [I3];omega
 clear hk;cases i with
 | true =>
   cases d:(C5 .and .u64 to 1 != 0) with
   | true =>have F:Hid (dX to k (true&&(C5 .and .u64 to 1==1))=Uz.wrap (C5 .andNot .u64 to 1+Uz.wrap (4*k))):=(by show _=_;rw [<- Hr,d];rfl);generalize dX to k (true&&(C5 .and .u64 to 1==1))=r at *;exact a0u
   | false =>have F:Hid (dX to k (true&&(C5 .and .u64 to 1==1))=C5 .andNot .u64 to 1):=(by show _=_;rw [<- Hr,d];rfl);generalize dX to k (true&&(C5 .and .u64 to 1==1))=r at *;exact a0u
 | false =>have F:Hid (dX to k (false&&(C5 .and .u64 to 1==1))=C5 .andNot .u64 to 1):=(rfl:dX to k false=_);generalize dX to k (false&&(C5 .and .u64 to 1==1))=r at *;exact a0u
theorem xW (b f cap:Nat) (l:List Int) (p:Int) (k:Nat) (hk:k<16) (i:Bool) (w:A5) (c1:w.cell? ⟨b,f+1,none⟩=some (.u (l.getD 1 0))) (c2:w.cell? ⟨b,f+2,none⟩=some (.u (l.getD 2 0))) (o:U (l.getD 1 0)) (q:U (l.getD 2 0)):CB 177 #[.slice (some ⟨b,f,none⟩) 22 cap,.i p,.i k,.bool i] w (.bool (cU l p k i)):=by
 have F:Hid (cU l p k i=(!(p==3)&&(aw (match i with | true=>l.getD 2 0 | false=>l.getD 1 0) k==1))):=(rfl:cU l p k i=_);cases d:(p==3) with
 | true =>
   have g:Hid (cU l p k i=false):=(by show _=_;rw [F.out,d];rfl);have u:(p != 3)=false:=(by simp [bne,d]);clear F;generalize cU l p k i=r at *;generalize l.getD 1 0=s at *;generalize l.getD 2 0=t at *;cases i <;>
   ·go_enter func177,ntmps177;go_wp2_with fail;go_ret;exact ⟨by rw [g.out];rfl,I2 _ _⟩
 | false =>
   have u:(p != 3):=(by simp [bne,d]);rw [d] at F;cases i with
   | true =>have g:Hid (cU l p k true=(de (l.getD 2 0) k 1==1)):=(by show _=_;rw [F.out];show (aw (l.getD 2 0) k==1)=_;rw [dP _ _ q]);have m:Hid (∀ w,A9 prog 31 #[.u (l.getD 2 0),.i k,.i 1] w λe j=>e=.returned (.u (de (l.getD 2 0) k 1))/\j=w.drew):=λw=>bJ _ k 1 q.1 q.2 ab ab w;clear F;generalize cU l p k true=r at *;generalize de (l.getD 2 0) k 1=y at *;generalize l.getD 1 0=s at *;generalize l.getD 2 0=t at *;go_enter func177,ntmps177;go_wp2_with fail;refine (m.out _).mono ?_;rintro e z ⟨rfl,c⟩;subst c;go_wp2_with fail;go_ret;exact ⟨by rw [g.out];rfl,(I2 _ _).drew⟩
   | false =>have g:Hid (cU l p k false=(de (l.getD 1 0) k 1==1)):=(by show _=_;rw [F.out];show (aw (l.getD 1 0) k==1)=_;rw [dP _ _ o]);have m:Hid (∀ w,A9 prog 31 #[.u (l.getD 1 0),.i k,.i 1] w λe j=>e=.returned (.u (de (l.getD 1 0) k 1))/\j=w.drew):=λw=>bJ _ k 1 o.1 o.2 ab ab w;clear F;generalize cU l p k false=r at *;generalize de (l.getD 1 0) k 1=y at *;generalize l.getD 1 0=s at *;generalize l.getD 2 0=t at *;go_enter func177,ntmps177;go_wp2_with fail;refine (m.out _).mono ?_;rintro e z ⟨rfl,c⟩;subst c;go_wp2_with fail;go_ret;exact ⟨by rw [g.out];rfl,(I2 _ _).drew⟩
structure Lq (w:A5) (g:Nat) (c:Bool) (W:A5):Prop where
 row:W.heap[g]?=some (.cells (cF c) 199 (0,0))
 bel:Bw w W
 lo:w.heap.size<=g
structure Lv (w:A5) (g h:Nat) (c:Bool) (vs:List Int) (W:A5):Prop where
 q:Lq w g c W
 own:W.ownsRow h 24 1 (.slice (some ⟨h,0,none⟩) 22 22) 22 (vs.map (I1 .u64))
 lo:g<h
theorem Lq.below (p:Lq w g M s) (k:Bw s b):Lq w g M b:=⟨aD k p.row,aa p.bel k,p.lo⟩
theorem Lv.below {h:Nat} (p:Lv w g h M A s) (k:Bw s b):Lv w g h M A b:=⟨p.q.below k,dc p.own k,p.lo⟩
theorem Lq.eng {fn:Func}:n6 P (Lq w x M) (Lq w x M) [⟨x,cF M,[]⟩] dr (G1 P fn Rs):=
 ⟨λ_ p=>p,λW p r a=>by rw [List.mem_singleton.1 a];exact ⟨_,_,p.row⟩,λ_ W p=>p.below (I2 _ _).drew,cD⟩
theorem Lv.eng {h:Nat} {fn:Func}:n6 P (Lq w x M) (Lv w x h M A) [⟨x,cF M,[]⟩] dr (G1 P fn Rs):=
 ⟨λ_ p=>p.q,(Lq.eng (P:=P) (fn:=fn) (dr:=dr) (Rs:=Rs)).rows,λ_ W p=>p.below (I2 _ _).drew,cD⟩
theorem Lv.put {h:Nat} (p:Lv w x h M A s) (j:Nat) (g:Int):Lv w x h M (A.set j g) (s.setCell ⟨h,j,none⟩ (.u g)):=by have d:=p.lo;have b:=p.q.lo;have a:=(p.own.stored j (.u g)).1;rw [ky] at a;exact ⟨⟨(Below.heap_setCell s ⟨h,j,none⟩ _ x cb).trans p.q.row,p.q.bel.setCell (p:=⟨h,j,none⟩) cb _,p.q.lo⟩,a,p.lo⟩
theorem Lv.run {w:A5} {h:Nat} (p:Lv w x h M A s) (j:Nat) (b:j<22) (g:Int):(do Instr.storeAt 24 (.p h j) (.u g);pure Next.skip:Sem Next).run prog s=.ok .skip (s.setCell ⟨h,j,none⟩ (.u g)):=by have a:=p.own.1;exact jh ⟨(p.own.cellAt j ab).trans (L6 ab),p.own.frozenAt j⟩ ba rfl
theorem NW:∃ W',(do pure (.value (<- K0 25 (.i 22) (.i 22))):Sem Next).run prog y=.ok (.value (.slice (some ⟨y.heap.size,0,none⟩) 22 22)) W'/\(∃ l,W'.ownsRow y.heap.size 24 1 (.slice (some ⟨y.heap.size,0,none⟩) 22 22) 22 l)/\Bw y W':=by obtain ⟨j,f,c,d,e⟩:=info_parts Bv;obtain ⟨W',i,h,a⟩:=run_make_full (P:=prog) y y.heap.size 25 24 j (.u 0) 1 underlying25 f c d .i64 .i64 22 (by rw [e];omega) fb (P2 _);have b:(K0 25 (.i 22) (.i 22)).run prog y=.ok (.slice (some ⟨y.heap.size,0,none⟩) 22 22) W':=i;exact ⟨W',by simp [b],⟨_,h⟩,a.os,a.tape,a.output,a.size,λk g=>a.block k g di⟩
def US (T t:TypeId) (v u:Value):Sem Next:=execOp (λx=>match x with | .tmp 0=>v | _=>u) {dst:=none,op:=.call {callee:=.builtin .copy,args:=#[.tmp 0,.tmp 1],argTypes:=#[T,T]},type:=t,pos:= "",after:=#[],guard:=none}
theorem NY {h:Nat} {cap:Nat} {ys:List Value} (b:w.ownsRow h 24 1 (.slice (some ⟨h,0,none⟩) 22 22) 22 ys) (hs:Sl .u64 w (some ⟨x,a,none⟩) A) (hz:A.length=22) (ty:TypeId): ∃ W',(US 25 ty (.slice (some ⟨h,0,none⟩) 22 22) (.slice (some ⟨x,a,none⟩) 22 cap)).run prog w=.ok (.value (.i 22)) W'/\W'.ownsRow h 24 1 (.slice (some ⟨h,0,none⟩) 22 22) 22 (A.map (I1 .u64))/\w.grownBy W' (some h):=by
 obtain ⟨D,s,z,q,l⟩:=info_parts Bv
 have c:(A.map (I1 .u64)).length=22:=by rw [List.length_map,hz]
 rcases b.2 with ⟨v,_⟩|⟨C,B,e,y,f,r,m,g,W,o⟩
 ·cases v
 ·cases y
  have t:=run_copy_row (P:=prog) w 25 25 ty 24 h 0 22 22 ⟨x,a,none⟩ 22 cap e 24 (A.map (I1 .u64)) underlying25 (by rw [s];simp [q]) r (by rw [c];rfl) (λj u d=>by
   have k:j<A.length:=by
    rcases Nat.lt_or_ge j A.length with h|h
    ·exact h
    ·rw [N1 et] at d;cases d
   have p:u=.u (A.getD j 0):=by
    simp [L6 k] at d
    simp [O1,L6 k,d]
   rw [zt,p];exact (za hs j k).2) (by rw [c];omega) (ints_oneCell _ _)
  rw [c] at t
  refine ⟨_,by unfold US execOp;simp only [resolve,invoke,builtin,Sem.run_bind,Sem.run_pure,Result.andThen_ok,List.map_toArray,List.map_cons,List.map_nil,t];rfl,⟨by rw [c],.inr ⟨h,22,_,rfl,f,D2 w h _ _ _ _ r,m,g,?_,?_⟩⟩,⟨rfl,rfl,rfl,by simp [World.setRow],λi s n=>setRow_other w h i _ (by intro h;apply n;rw [h])⟩⟩
  ·simp [hz];omega
  ·simp [hz]
theorem RQ {W3:A5} (q:Lq w x M b) (a:x<s.heap.size) (k:b.grownBy W3 (some s.heap.size)) (o:W3.ownsRow s.heap.size 24 1 (.slice (some ⟨s.heap.size,0,none⟩) 22 22) 22 (A.map (I1 .u64))) (W2:w.heap.size<=s.heap.size):Lv w x s.heap.size M A W3 :=
 ⟨⟨(k.block x (K1.1 q.row).1 bv).trans q.row,Below.grown q.bel k q.bel.size (λj e=>by cases e;exact W2),q.lo⟩,o,a⟩
abbrev tV:Array Value:=#[.i 0,.i 0,.i 0,.i 0,.i 0,.i 0,.i 0,.i 0,.i 0]
theorem xX (n cap:Nat) (l:List Int) (p:Int) (m:Bool) (w:A5) (hz:l.length=n) (hs:Sl .u64 w B l) (hl:∀ j,U (l.getD j 0)): A9 prog 223 #[.slice B n cap,.i p,.bool m] w λe r=>∃ (u:Option D8) (c:Nat), e=.returned (.tuple #[.slice u (jS n l p m).length c,.i (rp n l p m),.u (rq n l p m),.bool (lY n l p m)]) /\ r.ownsRow w.heap.size 24 1 (.slice u (jS n l p m).length c) (jS n l p m).length ((jS n l p m).map (I1 .u64))/\Bw w r:=by
 have y:=λ(g:Nat) W (q:Lq w g m W)=>fF B n cap l p W hz (hs.below q.bel) hl
 have fin:∀ (g:Nat) (W:A5),Lq w g m W->Wg prog (Lq w g m) (G1 prog Tryz.f223 λe r=>∃ (u:Option D8) (c:Nat),e=.returned (.tuple #[.slice u (jS n l p m).length c,.i (rp n l p m),.u (rq n l p m),.bool (lY n l p m)])/\r.ownsRow w.heap.size 24 1 (.slice u (jS n l p m).length c) (jS n l p m).length ((jS n l p m).map (I1 .u64))/\Bw w r) Tryz.f223.ntmps [.code (au 3 (aM Tryz.f223))] [(0,.slice B n cap,0),(1,.i p,0),(10,.p g 0,1)] W:=λg W q=>by
  have y:=y g
  have no:lY n l p m=false->∀ W,Lq w g m W->∃ (u:Option D8) (c:Nat),Ending.returned (.tuple #[.slice none 0 0,.i 0,.u 0,.bool false])=.returned (.tuple #[.slice u (jS n l p m).length c,.i (rp n l p m),.u (rq n l p m),.bool (lY n l p m)])/\W.ownsRow w.heap.size 24 1 (.slice u (jS n l p m).length c) (jS n l p m).length ((jS n l p m).map (I1 .u64))/\Bw w W:=λe W q=>by
   unfold jS rp rq
   rw [e]
   exact ⟨none,0,rfl,rf _ _,q.bel⟩
  cases i:bm n l p with
  | false =>
    rw [i] at y
    exact kJ Lq.eng {cv:=[(18,iQ (λq k=>q.below k) y)]} 60 (dr:=true) q λW b q f=>⟨_,lW rfl _ _ _,by rw [f.slot (v:=.slice none 0 0) ba,f.slot (v:=.i 0) ba,f.slot (v:=.u 0) ba,f.slot (v:=.bool false) ba];exact no (by simp [lY,i]) W q⟩
  | true =>
    obtain ⟨rfl,hp⟩:=gH i
    have I:p=0\/p=1\/p=3:=by simpa [bZ,or_assoc] using hp
    obtain ⟨b,o,rfl,C,_⟩:=hs 0 ab
    have H:∀ j,j<22->∀ W,Lq w g m W->W.cell? ⟨b,o+j,none⟩=some (.u (l.getD j 0)):=λj hj W q=>(q.bel.cell (by exact C)).trans (za hs j ab).2
    rw [i] at y
    have a:lY 22 l p m=!decide (p<if m=true then 3 else 1):=by
     unfold lY
     rw [i]
     rcases I with rfl|rfl|rfl<;>cases m<;>rfl
    cases x:lY 22 l p m with
    | false =>
      have d:decide (p<if m=true then 3 else 1):=by rw [x] at a;simpa using a.symm
      cases m<;>exact kJ Lq.eng {cv:=[(18,iQ (λq k=>q.below k) y)],eq:=[(24,an d)]} 60 (dr:=true) q λW b q f=>⟨_,lW rfl _ _ _,by rw [f.slot (v:=.slice none 0 0) ba,f.slot (v:=.i 0) ba,f.slot (v:=.u 0) ba,f.slot (v:=.bool false) ba];have:=no x W q;rw [x] at this;exact this⟩
    | true =>
      have d:decide (p<if m=true then 3 else 1)=false:=by rw [x] at a;simpa using a.symm
      have V:jS 22 l p m=l.set 0 (cP (l.getD 0 0) m):=by unfold jS;rw [x]
      have X:rp 22 l p m=dq (l.getD 0 0) m:=by unfold rp;rw [x]
      have Q:rq 22 l p m=eE l m:=by unfold rq;rw [x]
      have ez:(l.set 0 (cP (l.getD 0 0) m)).length=22:=x7
      rw [V,X,Q,ez]
      have N:∀ W,CB 226 #[.agg (cF m),.u (l.getD 0 0)] W (.i (dq (l.getD 0 0) m)):=λW=>by cases m;exact Du _ (hl 0) W;exact xa _ (hl 0) W
      have O:∀ W,CB 256 #[.agg (cF m),.u (l.getD 0 0)] W (.u (cP (l.getD 0 0) m)):=λW=>by cases m;exact Tx _ (hl 0) W;exact Tw _ (hl 0) W
      have P:=H 0 ab
      have cA:∀ W,Lq w g m W->W.cell? ⟨b,o+(if m=true then 6 else 12),none⟩=some (.u (eE l m)):=λW q=>by cases m;exact H 12 ab W q;exact H 6 ab W q
      generalize dq (l.getD 0 0) m=vp at N ⊢
      generalize cP (l.getD 0 0) m=vs at O ⊢
      generalize eE l m=va at cA ⊢
      clear no V X Q a x
      cases m<;>(
       refine ae Lq.eng {cv:=[(18,iQ (λq k=>q.below k) y)],eq:=[(24,an d)]} 60 (dr:=true) q λG L=>?_
       obtain ⟨s,J,⟨ys,o2⟩,A⟩:=NW G
       refine dt 0 J ?_
       have Y:=L.below A
       have g1:=(K1.1 L.row).1
       refine aj (R:=[]) trivial {} 6 ?_
       obtain ⟨W3,K,o3,g3⟩:=NY (cap:=cap) o2 (hs.below Y.bel) hz 3
       refine dt 0 K ?_
       have Z:=RQ Y g1 g3 o3 L.bel.size
       generalize G.heap.size=h at Z ⊢
       refine ae Lv.eng {cv:=[(34,iQ (λq k=>q.below k) λW _=>N W),(40,iQ (λq k=>q.below k) λW _=>O W)],ov:=[(33,iP ⟨b,o+0,none⟩ _ underlying24 rfl P),(39,iP ⟨b,o+0,none⟩ _ underlying24 rfl P)]} 99 (dr:=true) Z λW4 M=>?_
       refine bE (M.run 0 ab vs) (hS:=λ_=>(M.put 0 vs).q) ?_
       exact kJ Lv.eng {ov:=[(48,iP _ _ underlying24 rfl cA)]} 99 (dr:=true) (M.put 0 vs) λW c v f=>⟨_,lW rfl _ _ _,some ⟨h,0,none⟩,22,by rw [f.slot (v:=.slice (some ⟨h,0,none⟩) 22 22) ba,f.slot (v:=.i vp) ba,f.slot (v:=.u va) ba,f.slot (v:=.bool true) ba],cQ v.own (by have:=v.lo;have:=v.q.lo;omega),v.q.bel⟩)
 refine br (S:=Bs w []) (args:=[.slice B n cap,.i p,.bool m]) [] func223 ?_
 refine aT Bs.eng {} 9 (Bs.start w []) (λW _=>js W) ?_
 rintro G e s E ⟨rfl,A⟩
 refine ⟨_,0,rfl,gi ba,?_⟩
 refine dt 1 (ct (T:=199) (z:=.agg tV) ba s) ?_
 refine bE (av (g:=s.heap.size) (t:=199) (ty:=199) (old:=tV) (cells:=cF false) (A6 _ _) ba rfl ba) ?_
 have F:Lq w s.heap.size false ((s.alloc (.cells (H8 tV).cells 199)).setRow s.heap.size (cF false)):=⟨D2 _ _ _ _ _ _ (A6 _ _),aK ((E.below A).2.alloc (E.below A).2.size _) (E.below A).2.size _,(E.below A).2.size⟩
 generalize s.heap.size=g at F ⊢
 generalize (s.alloc (.cells (H8 tV).cells 199)).setRow g (cF false)=W3 at F ⊢
 refine aL (Lq w g false) ?_
 cases m with
 | false =>
   refine ae Lq.eng {} 8 (dr:=false) F λW q=>?_
   exact af _ _ (fin g W q)
 | true =>
   refine aT Lq.eng {} 20 (dr:=false) F (λW _=>kT W) ?_
   rintro W4 e W5 q4 ⟨rfl,b5⟩
   refine ⟨_,0,rfl,gi ba,?_⟩
   have D:=q4.below b5
   refine bE (av (g:=g) (t:=199) (ty:=199) (old:=cF false) (cells:=cF true) D.row ba rfl ba) ?_
   have q6:Lq w g true (W5.setRow g (cF true)):=⟨D2 _ _ _ _ _ _ D.row,aK D.bel D.lo _,D.lo⟩
   refine aL (Lq w g true) ?_
   refine ae Lq.eng {} 1 (dr:=false) q6 λW q=>?_
   exact af _ _ (fin g W q)
theorem xY (n cap:Nat) (l:List Int) (p pc k:Int) (i:Bool) (v:Int) (w:A5) (hz:l.length=n) (hs:Sl .u64 w B l) (hl:∀ j,U (l.getD j 0)): A9 prog 150 #[.slice B n cap,.i p,.u pc,.i k,.bool i,.u v] w λe A=>∃ (s:Option D8) (c:Nat), e=.returned (.tuple #[.slice s (sB n l p pc k i v).length c,.i (Fw n l p k i),.u (Fx n l p k i),.bool (Ap n l p k)]) /\ A.ownsRow w.heap.size 24 1 (.slice s (sB n l p pc k i v).length c) (sB n l p pc k i v).length ((sB n l p pc k i v).map (I1 .u64))/\Bw w A:=by
 have J:=λW (hb:Bw w W)=>fF B n cap l p W hz (hs.below hb) hl
 refine br (S:=Bs w []) (args:=[.slice B n cap,.i p,.u pc,.i k,.bool i,.u v]) [] func150 ?_
 cases y:Ap n l p k with
 | false =>
   have no:∀ W,Bs w [] W->∃ (s:Option D8) (c:Nat),Ending.returned (.tuple #[.slice none 0 0,.i 0,.u 0,.bool false])=.returned (.tuple #[.slice s (sB n l p pc k i v).length c,.i (Fw n l p k i),.u (Fx n l p k i),.bool false])/\W.ownsRow w.heap.size 24 1 (.slice s (sB n l p pc k i v).length c) (sB n l p pc k i v).length ((sB n l p pc k i v).map (I1 .u64))/\Bw w W:=λW q=>by
    unfold sB Fw Fx
    rw [y]
    exact ⟨none,0,rfl,rf _ _,q.2⟩
   cases f:bm n l p<;>cases d:decide (k<0)<;>cases L:decide (k>=16)<;>(
    first
    | (exfalso;revert y;unfold Ap Vn;rw [f];simp at d L ⊢;omega)
    | (rw [f] at J
       exact kJ Bs.eng {cv:=[(20,fM J)],eq:=[(24,an d),(28,an L)]} 60 (Bs.start w []) λW b q o=>⟨_,lW rfl _ _ _,by rw [o.slot (v:=.slice none 0 0) ba,o.slot (v:=.i 0) ba,o.slot (v:=.u 0) ba,o.slot (v:=.bool false) ba];exact no W q⟩))
 | true =>
   have Q:=y
   unfold Ap Vn at Q
   rw [Bool.and_eq_true,JZ6] at Q
   obtain ⟨f,hk0⟩:=Q
   rw [f] at J
   obtain ⟨rfl,hp⟩:=gH f
   have d:decide (k<0)=false:=by rw [JZ7];omega
   have L:decide (k>=16)=false:=by rw [JZ7];omega
   obtain ⟨j,rfl⟩:∃ j:Nat,k=(j:Int):=⟨k.toNat,ab⟩
   have V:j<16:=ab
   obtain ⟨b,m,rfl,F,_⟩:=hs 0 ab
   have E:∀ x,x<22->∀ W,Bw w W->W.cell? ⟨b,m+x,none⟩=some (.u (l.getD x 0)):=λx hx W q=>(q.cell (by exact F)).trans (za hs x ab).2
   have eL:sB 22 l p pc j i v=iO l (cU l p j i) p (gG j i) pc v:=by unfold sB;rw [y,R4]
   have eP:Fw 22 l p j i=te (cU l p j i):=by unfold Fw;rw [y,R4]
   have eA:Fx 22 l p j i=dX (od l (cU l p j i)) j (mV l (cU l p j i) i):=by unfold Fx;rw [y,R4]
   have ez:(iO l (cU l p j i) p (gG j i) pc v).length=22:=by rw [lX,hz]
   rw [eL,eP,eA,ez]
   clear eL eP eA ez y
   have C:=λW (q:Bw w W)=>xW b m cap l p j V i W (E 1 ab W q) (E 2 ab W q) (hl 1) (hl 2)
   have hp3:p=0\/p=1\/p=3:=by simpa [bZ,or_assoc] using hp
   have hD:cU l p j i->p=0\/p=1:=λe=>by
    rcases hp3 with h|h|h
    ·exact .inl h
    ·exact .inr h
    ·rw [h] at e;cases e
   generalize cU l p j i=D at C hD ⊢
   have HE:∀ W,CB 179 #[.agg (cF !D),.u (l.getD 0 0),.i p] W (.u (if D=true then ml (l.getD 0 0) (p==1) else mO (l.getD 0 0) p)):=λW=>by
    cases D with
    | false=>exact Kw _ p hp (hl 0) W
    | true =>
      rcases hD rfl with rfl|rfl
      ·exact FU _ (hl 0) W
      ·exact FY _ (hl 0) W
   have HC:=λW=>xU j V i W
   have fin:∀ (g:Nat) (W:A5),Lq w g (!D) W->Wg prog (Lq w g !D) (G1 prog Tryz.f150 λe A=>∃ (s:Option D8) (c:Nat),e=.returned (.tuple #[.slice s 22 c,.i (te D),.u (dX (od l D) j (mV l D i)),.bool true])/\A.ownsRow w.heap.size 24 1 (.slice s 22 c) 22 ((iO l D p (gG j i) pc v).map (I1 .u64))/\Bw w A) Tryz.f150.ntmps [.code (au 4 (aM Tryz.f150))] [(0,.slice (some ⟨b,m,none⟩) 22 cap,0),(1,.i p,0),(2,.u pc,0),(3,.i j,0),(4,.bool i,0),(5,.u v,0),(16,.p g 0,1)] W:=λg P N=>by
    have c0:=λW (q:Lq w g (!D) W)=>E 0 ab W q.bel
    have cV:∀ W,Lq w g (!D) W->W.cell? ⟨b,m+(if D=true then 10 else 4),none⟩=some (.u (od l D)):=λW q=>by cases D;exact E 4 ab W q.bel;exact E 10 ab W q.bel
    have K:=λW=>xV (od l D) j V i W
    have eT:iO l D p (gG j i) pc v=(((l.set (if D=true then 13 else 7) (gG j i)).set (if D=true then 12 else 6) (C5 .andNot .u64 pc 3)).set (if D=true then 14 else 8) v).set 0 (if D=true then ml (l.getD 0 0) (p==1) else mO (l.getD 0 0) p):=by cases D<;>rfl
    rw [eT]
    clear eT
    have a:(if D=true then 13 else 7)<22/\(if D=true then 12 else 6)<22/\(if D=true then 14 else 8)<22:=by cases D<;>decide
    generalize X:(if D=true then 13 else 7)=k1 at a ⊢
    generalize Y:(if D=true then 12 else 6)=k2 at a ⊢
    generalize Z:(if D=true then 14 else 8)=k3 at a ⊢
    have eJ:dX (od l D) j (i&&(C5 .and .u64 (od l D) 1==1))=dX (od l D) j (mV l D i):=rfl
    rw [eJ] at K
    generalize (if D=true then ml (l.getD 0 0) (p==1) else mO (l.getD 0 0) p)=st at HE ⊢
    generalize dX (od l D) j (mV l D i)=ea at K ⊢
    generalize od l D=vv at K cV
    generalize gG j i=tv at HC ⊢
    obtain ⟨r,G,⟨ys,o2⟩,u⟩:=NW P
    refine gz (R:=[]) trivial {} 9 0 G ?_
    have q2:=N.below u
    refine aj (R:=[]) trivial {} 6 ?_
    obtain ⟨W3,H,o3,g3⟩:=NY (cap:=cap) o2 (hs.below q2.bel) hz 3
    refine dt 0 H ?_
    have v3:=RQ q2 (K1.1 N.row).1 g3 o3 N.bel.size
    generalize P.heap.size=h at v3 ⊢
    clear q2 o2 u N g3 o3 G H
    cases D<;>(
     refine ae Lv.eng {cv:=[(46,kj λW _=>HC W)]} 60 (dr:=true) v3 λW4 v4=>?_
     refine bE (v4.run k1 a.1 tv) (hx:=by subst X;kernel_rfl) (hS:=λ_=>(v4.put k1 tv).q) ?_
     refine ae Lv.eng {eq:=[(52,cR .u64 (SV pc))]} 60 (dr:=true) (v4.put k1 tv) λW5 v5=>?_
     refine bE (v5.run k2 a.2.1 (C5 .andNot .u64 pc 3)) (hx:=by subst Y;kernel_rfl) ?_
     refine ae Lv.eng {} 60 (dr:=true) (v5.put k2 (C5 .andNot .u64 pc 3)) λW6 v6=>?_
     refine bE (v6.run k3 a.2.2 v) (hx:=by subst Z;kernel_rfl) ?_
     refine ae Lv.eng {cv:=[(65,iQ (λq k=>q.below k) λW _=>HE W)],ov:=[(63,iP ⟨b,m+0,none⟩ _ underlying24 rfl c0)]} 60 (dr:=true) (v6.put k3 v) λW7 v7=>?_
     refine bE (v7.run 0 bc st) (hS:=λ_=>(v7.put 0 st).q) ?_
     exact kJ Lv.eng {cv:=[(77,kj λW _=>K W)],ov:=[(74,iP _ _ underlying24 rfl cV)]} 99 (dr:=true) (v7.put 0 st) λW c v o=>⟨_,lW rfl _ _ _,some ⟨h,0,none⟩,22,by rw [o.slot (v:=.slice (some ⟨h,0,none⟩) 22 22) ba,o.slot (v:=.i (te _)) ba,o.slot (v:=.u ea) ba,o.slot (v:=.bool true) ba],cQ v.own (by have:=v.lo;have:=v.q.lo;omega),v.q.bel⟩)
   refine aT Bs.eng {cv:=[(20,fM J)],eq:=[(24,an d),(28,an L)]} 60 (Bs.start w []) (λW _=>kT W) ?_
   rintro P e r M ⟨rfl,u⟩
   refine ⟨_,0,rfl,gi ba,?_⟩
   refine dt 1 (ct (T:=199) (z:=.agg tV) ba r) ?_
   refine bE (av (g:=r.heap.size) (t:=199) (ty:=199) (old:=tV) (cells:=cF true) (A6 _ _) ba rfl ba) ?_
   have O:Lq w r.heap.size true ((r.alloc (.cells (H8 tV).cells 199)).setRow r.heap.size (cF true)):=⟨D2 _ _ _ _ _ _ (A6 _ _),aK ((M.below u).2.alloc (M.below u).2.size _) (M.below u).2.size _,(M.below u).2.size⟩
   generalize r.heap.size=g at O ⊢
   generalize (r.alloc (.cells (H8 tV).cells 199)).setRow g (cF true)=W3 at O ⊢
   refine aL (Lq w g true) ?_
   have C:=λW (q:Lq w g true W)=>C W q.bel
   cases D with
   | false =>
     refine ae Lq.eng {cv:=[(35,iQ (λq k=>q.below k) C)]} 12 (dr:=false) O λW q=>?_
     exact af _ _ (fin g W q)
   | true =>
     refine aT Lq.eng {cv:=[(35,iQ (λq k=>q.below k) C)]} 30 (dr:=false) O (λW _=>js W) ?_
     rintro W4 e W5 q4 ⟨rfl,b5⟩
     refine ⟨_,0,rfl,gi ba,?_⟩
     have I:=q4.below b5
     refine bE (av (g:=g) (t:=199) (ty:=199) (old:=cF true) (cells:=cF false) I.row ba rfl ba) ?_
     have q6:Lq w g false (W5.setRow g (cF false)):=⟨D2 _ _ _ _ _ _ I.row,aK I.bel I.lo _,I.lo⟩
     refine aL (Lq w g false) ?_
     refine ae Lq.eng {} 1 (dr:=false) q6 λW q=>?_
     exact af _ _ (fin g W q)
