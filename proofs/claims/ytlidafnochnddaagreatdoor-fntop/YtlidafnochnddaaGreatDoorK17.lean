/- Own lemmas. -/
import Derived.Test.YtlidafnochnddaaGreatDoorAut
import Derived.Test.YtlidafnochnddaaGreatDoorK06
import Derived.Test.YtlidafnochnddaaGreatDoorK13
set_option maxRecDepth 100000
set_option maxHeartbeats 4000000
namespace Go.Proofs.YtlidafnochnddaaGreatDoor
open Go.RowKit Tryz
open IntKind renaming u64->Uz
open Bool renaming and_true->L4,eq_iff_iff->L5,and_false->L6,true_and->L7,and_eq_true->M5
open Calls renaming quiet_of->P2
open Go renaming wpList_store_rowTo->A0,World->A5,heap_alloc_new->A6,cell_of_row->F0,bits->F3,setRow_heap->G3,Calls->H1,setRow_size->H2,Value->H3,results_cell_row->H5,bodyPost_ret->H8
open Go.RowKit renaming wrap64->I4
open IntKind renaming wrap_u64->R4
open List renaming all_eq_true->R5,getElem?_eq_getElem->S1
open Nat renaming le_refl->M7,le_trans->N1
open Value renaming agg->I5,func->K0,int->K1,oneCell'->K4
set_option linter.unusedVariables false
variable {a:A5} {b:Nat} {w:Program} {e:FuncId} {x:Array H3} {k:H3} {l:Int} (n:Option Addr) (f L M c:Nat) (P:List Int) (g m p:Int) (s:List Nat) (t:A5)
theorem qy {w:A5} (h:Below b a w) (n:Nat):Below b a (w.drewN n):=⟨h.os,h.tape,h.output,h.size,h.block⟩
theorem aM (h:H1 w e x a λP args=>P=.returned k/\args=a):H1 w e x a λP args=>P=.returned k/\∃ m,args=a.drewN m :=
 h.mono λ_ _ h=>⟨h.1,0,h.2⟩
theorem mO (h:H1 w e x a λP args=>P=.returned k/\args=a.drew):H1 w e x a λP args=>P=.returned k/\∃ m,args=a.drewN m :=
 h.mono λ_ _ h=>⟨h.1,1,h.2⟩
theorem l5 {n:Nat} (h:(prog.funcs[n]?).map (λa=>(a.name == "runtime.NumGoroutine",a.body.isSome))=some (false,true)) (args:Array H3) (w:A5):(callFunc n args).run prog w=.ok (.enter n args) w:=by
 cases b:prog.funcs[n]? with
 | none=>rw [b] at h;cases h
 | some a =>rw [b] at h;simp only [Option.map_some,Option.some.injEq,Prod.mk.injEq] at h;have d:a.name≠ "runtime.NumGoroutine":=(by simpa using h.1);obtain ⟨c,e⟩:=Option.isSome_iff_exists.mp h.2;simp [callFunc,b,d,e,mark]
theorem Kq (h:(Lit.int .i64 l).wf): -9223372036854775808<=l/\l<=9223372036854775807:=by have b:IntKind.i64.min=-9223372036854775808:=rfl;have a:IntKind.i64.max=9223372036854775807:=rfl;simp only [Lit.wf,M5,JZ6] at h;omega
theorem Ks (a:0<=g) (b:g<18446744073709551616) (w:A5):H1 prog 73 #[.u g,.i 0,.i 6] w λe c=>e=.returned (.u (sh g))/\c=w.drew:=by
 have h:=aL g 0 6 a b aa aa w;have e:aG g 0 6=sh g:=by rw [<- Rq];simp [aG]
 rw [e] at h;exact h
theorem Bb (c:0<=g) (d:g<18446744073709551616) (w:A5):H1 prog 243 #[.u g] w λe b=>e=.returned (.u (g%32))/\b=w.drew:=by
 have h:∀ w,H1 prog 73 #[.u g,.i 0,.i 5] w λe b=>e=.returned (.u (aG g 0 5))/\b=w.drew:=λw=>aL g 0 5 c d aa aa w;have e:aG g 0 5=g%32:=by simp [aG]
 rw [e] at h;go_enter func243,ntmps243;go_wp2_with fail;refine (h _).mono ?_;exact ph
theorem G5 (b:0<=g) (w:A5):CE 213 #[.u g,.i 4] w (.u (g%4294967296)):=by have F:Hid (Uz.wrap (g*2^32)/2^32=g%4294967296):=wG g 4 aa aa b;go_enter func213,ntmps213;go_wp2_with fail;go_ret;exact ⟨by rw [<- F.out];rfl,rfl⟩
theorem sg (b:0<=g) (w:A5):CE 225 #[.u g] w (.u (g%4294967296)):=by go_enter func225,ntmps225;go_wp2_with fail;refine (G5 g b _).mono ?_;rintro e d ⟨rfl,rfl⟩;exact oj
theorem oU:CE 224 #[.u g] t (.u (aX 32 g)):=by go_enter func224,ntmps224;go_wp2_with fail;refine (gI g 32 aa aa _).mono ?_;rintro e d ⟨rfl,b⟩;subst b;exact oj
theorem xo:CE 234 #[.u g,.u m] t (.u (Uz.wrap (g+m))):=by go_enter func234,ntmps234;exact oj
theorem ru:CE 244 #[.u g,.u m] t (.u (Uz.wrap (g-m))):=by go_enter func244,ntmps244;exact oj
theorem wk:CE 245 #[.u g,.u m] t (.u (Uz.wrap (g*m))):=by go_enter func245,ntmps245;exact oj
theorem xp:CE 237 #[.u g,.u m] t (.u (F3 .xor .u64 g m)):=by go_enter func237,ntmps237;exact oj
theorem Bc:CE 238 #[.u g,.u m] t (.u (F3 .or .u64 g m)):=by go_enter func238,ntmps238;exact oj
theorem xq:CE 239 #[.u g,.u m] t (.u (F3 .and .u64 g m)):=by go_enter func239,ntmps239;exact oj
theorem yY:CE 256 #[.u g,.u m] t (.u m):=by go_enter func256,ntmps256;exact oj
theorem wm (c:0<=m) (d:m<18446744073709551616) (w:A5):H1 prog 240 #[.u g,.u m] w λe f=>e=.returned (.u (Uz.wrap (g*2^sh m)))/\f=w.drew:=by have bZ:=JP m;go_enter func240,ntmps240;go_wp2_with fail;refine (Ks m c d _).mono ?_;exact qh
theorem uW (c:0<=m) (d:m<18446744073709551616) (w:A5):H1 prog 241 #[.u g,.u m] w λe f=>e=.returned (.u (g/2^sh m))/\f=w.drew:=by have bZ:=JP m;go_enter func241,ntmps241;go_wp2_with fail;refine (Ks m c d _).mono ?_;exact qh
theorem nY (c:0<=m) (d:m<18446744073709551616) (w:A5):H1 prog 242 #[.u g,.u m] w λe f=>e=.returned (.u (Uz.wrap (I4 g/2^sh m)))/\f=w.drew:=by have bZ:=JP m;go_enter func242,ntmps242;go_wp2_with fail;refine (Ks m c d _).mono ?_;exact qh
theorem si:CE 253 #[.u g,.u m] t (.bool (g==m)):=by go_enter func253,ntmps253;exact oj
theorem jc:CE 254 #[.u g,.u m] t (.bool (decide (I4 g<I4 m))):=by go_enter func254,ntmps254;exact oj
theorem kN:CE 255 #[.u g,.u m] t (.bool (decide (g<m))):=by go_enter func255,ntmps255;exact oj
theorem xr (c:Bool) (w:A5):CE 268 #[.bool c] w (.u (GK c)):=by
 cases c;all_goals go_enter func268,ntmps268
 all_goals go_wp2_with fail
 all_goals go_ret
 all_goals exact ⟨rfl,rfl⟩
theorem uX:CE 235 #[.u g,.u m] t (.u (GK (decide (I4 g<I4 m)))):=by go_enter func235,ntmps235;go_wp2_with fail;refine (jc g m _).mono ?_;rintro e d ⟨rfl,rfl⟩;go_wp2_with fail;refine (xr _ _).mono ?_;exact ph
theorem yZ:CE 236 #[.u g,.u m] t (.u (GK (decide (g<m)))):=by go_enter func236,ntmps236;go_wp2_with fail;refine (kN g m _).mono ?_;rintro e d ⟨rfl,rfl⟩;go_wp2_with fail;refine (xr _ _).mono ?_;exact ph
theorem G9 (c:0<=g) (d:g<18446744073709551616) (f:0<=m) (a:m<18446744073709551616) (w:A5): CE 269 #[.u g,.u m] w (.tuple #[.u (m7 g m),.u (Uz.wrap (g*m))]):=by obtain ⟨D,C,B,A,t,u,v,l,b,o,p,q,r,s,y,z⟩:=Di g m c d f a;have m1:=Dh g c d;have m2:=Dh m f a;go_enter func269,ntmps269;go_wp2;go_ret2;exact ⟨rfl,rfl⟩
theorem mP (c:0<=g) (d:g<18446744073709551616) (f:0<=m) (a:m<18446744073709551616) (w:A5): CE 248 #[.u g,.u m] w (.u (m7 g m)):=by go_enter func248,ntmps248;go_wp2_with fail;refine (G9 g m c d f a _).mono ?_;rintro e l ⟨rfl,rfl⟩;exact oj
theorem hC (c:0<=g) (f:g<18446744073709551616) (a:0<=m) (j:m<18446744073709551616) (w:A5): CE 247 #[.u g,.u m] w (.u (gU g m)):=by
 by_cases h:I4 g<0;·have F:Hid (gU g m=Uz.wrap (m7 g m-m)):=(by show _=_;unfold gU;rw [JZ8 h]);have d:decide (I4 g<0):=dd;clear h;go_enter func247,ntmps247;go_wp2_with fail;refine (mP g m c f a j _).mono ?_;exact ri
 ·have F:Hid (gU g m=m7 g m):=(by show _=_;unfold gU;rw [JZ9 h]);have d:decide (I4 g<0)=false:=dd;clear h;go_enter func247,ntmps247;go_wp2_with fail;refine (mP g m c f a j _).mono ?_;exact ri
theorem uY (c:0<=g) (f:g<18446744073709551616) (a:0<=m) (j:m<18446744073709551616) (w:A5): CE 246 #[.u g,.u m] w (.u (pk g m)):=by
 by_cases h:I4 m<0;·have F:Hid (pk g m=Uz.wrap (gU g m-g)):=(by show _=_;unfold pk;rw [JZ8 h]);have d:decide (I4 m<0):=dd;clear h;go_enter func246,ntmps246;go_wp2_with fail;refine (hC g m c f a j _).mono ?_;exact ri
 ·have F:Hid (pk g m=gU g m):=(by show _=_;unfold pk;rw [JZ9 h]);have d:decide (I4 m<0)=false:=dd;clear h;go_enter func246,ntmps246;go_wp2_with fail;refine (hC g m c f a j _).mono ?_;exact ri
theorem po (c:0<=m) (f:m<18446744073709551616) (w:A5): CE 249 #[.u g,.u m] w (.u (AF.div.v g m)):=by
 by_cases h:m=0;·have F:Hid (AF.div.v g m=18446744073709551615):=fb;have d:(m==0):=dd;clear h;go_enter func249,ntmps249;exact o6
 ·have F:Hid (AF.div.v g m=Uz.wrap (I4 ((I4 g).tdiv (I4 m)))):=fb;have d:(m==0)=false:=dd;have j:¬ I4 m=0:=(by rw [rY c f];exact h);clear h;go_enter func249,ntmps249;exact o6
theorem uZ (c:0<=m) (f:m<18446744073709551616) (w:A5): CE 251 #[.u g,.u m] w (.u (AF.rem.v g m)):=by
 by_cases h:m=0;·have F:Hid (AF.rem.v g m=g):=fb;have d:(m==0):=dd;clear h;go_enter func251,ntmps251;exact o6
 ·have F:Hid (AF.rem.v g m=Uz.wrap ((I4 g).tmod (I4 m))):=fb;have d:(m==0)=false:=dd;have j:¬ I4 m=0:=(by rw [rY c f];exact h);clear h;go_enter func251,ntmps251;exact o6
theorem rv: CE 250 #[.u g,.u m] t (.u (AF.divu.v g m)):=by
 by_cases h:m=0;·have F:Hid (AF.divu.v g m=18446744073709551615):=fb;have d:(m==0):=dd;clear h;go_enter func250,ntmps250;exact o6
 ·have F:Hid (AF.divu.v g m=Uz.wrap (g.tdiv m)):=fb;have d:(m==0)=false:=dd;go_enter func250,ntmps250;exact o6
theorem za: CE 252 #[.u g,.u m] t (.u (AF.remu.v g m)):=by
 by_cases h:m=0;·have F:Hid (AF.remu.v g m=g):=fb;have d:(m==0):=dd;clear h;go_enter func252,ntmps252;exact o6
 ·have F:Hid (AF.remu.v g m=g.tmod m):=fb;have d:(m==0)=false:=dd;go_enter func252,ntmps252;exact o6
def Rx (op:Int):Bool:=decide (5<=op/\op<=10)
def Qj (op a b:Int):Bool :=
 if op=5 then (a==b) else if op=6 then !(a==b) else if op=7 then decide (I4 a<I4 b) else if op=8 then !decide (I4 a<I4 b)
 else if op=9 then decide (a<b) else if op=10 then !decide (a<b) else false
theorem Kt (h:Rx l):l=5\/l=6\/l=7\/l=8\/l=9\/l=10:=by
 have:5<=l/\l<=10:=by simpa [Rx] using h
 omega
theorem jQ:(prog.info? 317).map (·.size)=some 3:=by kernel_rfl
theorem nZ:(#[K0 (.func 253) #[] #[],.func (.func 254) #[] #[],.func (.func 255) #[] #[]]:Array H3).all (·.oneCell'):=by kernel_rfl
theorem vc:CB 222 #[] t (.agg #[.func (.func 253) #[] #[],.func (.func 254) #[] #[],.func (.func 255) #[] #[]]):=by have b:(t.alloc (.cells #[.nilFunc,.nilFunc,.nilFunc] 317)).heap[t.heap.size]?=some (.cells #[.nilFunc,.nilFunc,.nilFunc] 317 (0,0)):=A6 _ _;go_enter func222,ntmps222;go_wp2_with (refine A0 rfl 317 (.tmp 0) (.tmp 4) rfl rfl t.heap.size #[.func (.func 253) #[] #[],.func (.func 254) #[] #[],.func (.func 255) #[] #[]] rfl rfl 317 _ b jQ rfl nZ ?_);refine H8 (H5 results222 _ _ _ _ _ _ _ rfl (G3 _ _ _ _ _ _ b) underlying317 rfl jQ) rfl ⟨rfl,?_⟩;exact ay (bal _ _) (M7 _) _
theorem jR (h:Rx g) (w:A5): CB 202 #[.i g,.u m,.u p] w (.tuple #[.bool (Qj g m p),.bool true]):=by
 have G:=si m p
 have H:=jc m p
 have I:=kN m p
 obtain ⟨b,s⟩:∃ c,c=(m==p):=⟨_,rfl⟩
 obtain ⟨q,t⟩:∃ c,c=decide (I4 m<I4 p):=⟨_,rfl⟩
 obtain ⟨r,u⟩:∃ c,c=decide (m<p):=⟨_,rfl⟩
 have F:Hid (∀ g,Qj g m p=if g=5 then b else if g=6 then !b else if g=7 then q else if g=8 then !q else if g=9 then r else if g=10 then !r else false):=by
  intro g;rw [s,t,u];rfl
 have B:Hid (∀ w:A5,CE 253 #[.u m,.u p] w (.bool b)):=by rw [s];exact si m p
 have C:Hid (∀ w:A5,CE 254 #[.u m,.u p] w (.bool q)):=by rw [t];exact jc m p
 have D:Hid (∀ w:A5,CE 255 #[.u m,.u p] w (.bool r)):=by rw [u];exact kN m p
 clear s t u G H I
 rcases Kt h with rfl|rfl|rfl|rfl|rfl|rfl
 all_goals
  go_enter func202,ntmps202
  go_wp2_with fail
  refine (vc _).mono ?_
  rintro e f ⟨rfl,y⟩
  have z:(f.alloc (.cells #[.nilFunc,.nilFunc,.nilFunc] 317)).heap[f.heap.size]?=some (.cells #[.nilFunc,.nilFunc,.nilFunc] 317 (0,0)):=A6 _ _
  obtain ⟨j,op⟩:∃ j,j=(f.alloc (.cells #[.nilFunc,.nilFunc,.nilFunc] 317)).setRow f.heap.size #[.func (.func 253) #[] #[],.func (.func 254) #[] #[],.func (.func 255) #[] #[]]:=⟨_,rfl⟩
  have a:j.heap[f.heap.size]?=some (.cells #[.func (.func 253) #[] #[],.func (.func 254) #[] #[],.func (.func 255) #[] #[]] 317 (0,0)):=by rw [op];exact G3 _ _ _ _ _ _ z
  have J:j.cell? ⟨f.heap.size,0,none⟩=some (.func (.func 253) #[] #[]):=F0 _ _ _ _ _ _ a
  have K:j.cell? ⟨f.heap.size,1,none⟩=some (.func (.func 254) #[] #[]):=F0 _ _ _ _ _ _ a
  have L:j.cell? ⟨f.heap.size,2,none⟩=some (.func (.func 255) #[] #[]):=F0 _ _ _ _ _ _ a
  have E:Hid (Bw w j):=by rw [op];exact ay (y.alloc y.size _) y.size _
  have o:Hid (j=(f.alloc (.cells #[.nilFunc,.nilFunc,.nilFunc] 317)).setRow f.heap.size #[.func (.func 253) #[] #[],.func (.func 254) #[] #[],.func (.func 255) #[] #[]]):=op
  clear op a
  go_wp2_with (first
   | (refine A0 rfl 317 (.tmp 8) (.tmp 12) rfl rfl f.heap.size #[.func (.func 253) #[] #[],.func (.func 254) #[] #[],.func (.func 255) #[] #[]] rfl rfl 317 _ z jQ rfl nZ ?_;rw [<- o.out])
   | (go_at_call 253;with_reducible refine (B.out _).mono ?_;rintro e A ⟨rfl,d⟩;subst d)
   | (go_at_call 254;with_reducible refine (C.out _).mono ?_;rintro e A ⟨rfl,d⟩;subst d)
   | (go_at_call 255;with_reducible refine (D.out _).mono ?_;rintro e A ⟨rfl,d⟩;subst d))
  go_ret2
  exact ⟨bc,E.out⟩
def U4 (a b:Int):Prop:=0<=a/\a<18446744073709551616/\0<=b/\b<18446744073709551616
section
variable (a b : Int) (w : A5)
end
theorem Ry (h:U g) (i:Nat):bu g i=if bt g i=true then 1 else 0:=by
 unfold bu;have f:=kA g h i 1;have b:F3 .and .u64 (g/2^i) 1=aG g i 1:=by have:=gm g i 1 h.1 h.2 aa;rw [<- this];rfl
 rw [b];have d:=jI g i 1;have a:=kA g h i 1 0 aa;rw [Nat.zero_add] at a;simp only [Nat.lt_add_one,decide_true,L7] at a;rw [<- a];have c:aG g i 1=0\/aG g i 1=1:=by
  have:(2:Int)^1=2:=ba
  omega
 rcases c with e|e;·rw [e];rfl
 ·rw [e];rfl
theorem EW (h:U g) (i:Nat):(bu g i==1)=bt g i:=by rw [Ry g h i];cases bt g i<;>rfl
theorem qz (h:U g) (i:Nat):(bu g i==0)=!bt g i:=by rw [Ry g h i];cases bt g i<;>rfl
theorem mR:bt 0 f=false:=by unfold bt;simp
theorem Dy:U 0:=⟨aa,aa⟩
theorem n5 (c:∀ i,i<64->bt m i=s.contains i) (d:∀ i ∈ s,i<64):(F3 .and .u64 g m==0)=s.all (λi=>!bt g i):=by
 rw [L5,beq_iff_eq,R5];constructor
 ·intro h i a;have b:=aq g m i;rw [h,mR,c i (d i a)] at b;have:s.contains i:=by simpa using a
  rw [this,L4] at b;rw [<- b];rfl
 ·intro h;refine aS _ _ (af _ _ _) Dy λi a=>?_;rw [aq,mR,c i a];cases f:s.contains i with
  | false=>rw [L6]
  | true =>have:=h i cb;rw [L4];simpa using this
theorem OO (e M:Int) (L:List Nat) (f:U M) (c:∀ i,i<64->bt M i=L.contains i) (d:∀ i ∈ L,i<64):(F3 .and .u64 e M==M)=L.all (λi=>bt e i):=by
 rw [L5,beq_iff_eq,R5];constructor
 ·intro h i a;have b:=aq e M i;rw [h,c i (d i a)] at b;have:L.contains i:=by simpa using a
  rw [this,L4] at b;exact b.symm
 ·intro h;refine aS _ _ (af _ _ _) f λi a=>?_;rw [aq,c i a];cases g:L.contains i with
  | false=>rw [L6]
  | true =>rw [h i ck];rfl
theorem OP (he:U g) (c:∀ i,i<64->bt m i=s.contains i) (d:∀ i ∈ s,i<64):(F3 .or .u64 g m==g)=s.all (λi=>bt g i):=by
 rw [L5,beq_iff_eq,R5];constructor
 ·intro h i a;have b:=bC g m i;rw [h,c i (d i a)] at b;have:s.contains i:=by simpa using a
  rw [this,Bool.or_true] at b;exact b
 ·intro h;refine aS _ _ (af _ _ _) he λi a=>?_;rw [bC,c i a];cases f:s.contains i with
  | false=>rw [Bool.or_false]
  | true=>rw [h i cb];rfl
theorem m1:(F3 .and .u64 g 1==0)=!bt g 0:=by rw [n5 g 1 [0] bv ba];simp
theorem m2:(F3 .and .u64 g 2==0)=!bt g 1:=by rw [n5 g 2 [1] bv ba];simp
theorem m4:(F3 .and .u64 g 4==0)=!bt g 2:=by rw [n5 g 4 [2] bv ba];simp
theorem m8:(F3 .and .u64 g 8==0)=!bt g 3:=by rw [n5 g 8 [3] bv ba];simp
theorem Tv:(F3 .and .u64 g 16==0)=!bt g 4:=by rw [n5 g 16 [4] bv ba];simp
theorem Tw:(F3 .and .u64 g 10==0)=(!bt g 1&&!bt g 3):=by rw [n5 g 10 [1,3] bv ba];simp
theorem SI:(F3 .and .u64 g 208==0)=(!bt g 4&&(!bt g 6&&!bt g 7)):=by rw [n5 g 208 [4,6,7] bv ba];simp
theorem Tx:(F3 .and .u64 g 262144==0)=!bt g 18:=by rw [n5 g 262144 [18] bv ba];simp
theorem Ty:(F3 .and .u64 g 524288==0)=!bt g 19:=by rw [n5 g 524288 [19] bv ba];simp
theorem TA:(F3 .and .u64 g 131072==0)=!bt g 17:=by rw [n5 g 131072 [17] bv ba];simp
theorem m6:(F3 .and .u64 g 6==4)=(!bt g 1&&bt g 2):=by
 have c:∀ i,i<64->bt 6 i=[1,2].contains i/\bt 4 i=[2].contains i:=bv
 rw [L5,beq_iff_eq,M5];constructor;·intro h;have a:=aq g 6 1;have b:=aq g 6 2;rw [h,(c 1 aa).1,(c 1 aa).2] at a;rw [h,(c 2 aa).1,(c 2 aa).2] at b;have f:false=(bt g 1&&true):=a;have e:true=(bt g 2&&true):=b;rw [L4] at f e;rw [<- f,<- e];exact ⟨rfl,rfl⟩
 ·rintro ⟨m,n⟩;have d:bt g 1=false:=(by simpa using m);refine aS _ _ (af _ _ _) ⟨aa,aa⟩ λi j=>?_;rw [aq,(c i j).1,(c i j).2];by_cases k:i=1;·subst k;rw [d];rfl
  ·by_cases l:i=2;·subst l;rw [n];rfl
   ·simp [k,l]
theorem TB (he:U g):(F3 .and .u64 g 18428729675200069632==0)=(g/18014398509481984==0):=by
 have f:∀ i,i<64->bt 18428729675200069632 i=decide (54<=i):=bv
 have c:(18014398509481984:Int)=2^54:=ba
 rw [c,L5,beq_iff_eq,beq_iff_eq];constructor
 ·intro h;refine aS _ _ (kX g he 54) Dy λi e=>?_;rw [it g he,mR];by_cases d:64<=i+54;·exact sY _ _ d
  ·have a:=aq g 18428729675200069632 (i+54);rw [h,mR,f _ aa] at a;simpa using a.symm
 ·intro h;refine aS _ _ (af _ _ _) Dy λi e=>?_;rw [aq,mR,f i e];by_cases b:54<=i;·have a:=it g he 54 (i-54);rw [h,mR,Nat.sub_add_cancel b] at a;rw [<- a];rfl
  ·simp [b]
def Nm (e:Int):Bool:=(F3 .and .u64 e 1==0)||(F3 .and .u64 e 6==4)||(F3 .and .u64 e 18428729675200069632 != 0)
theorem Qk (he:U g):Nm g=badB g:=by unfold Nm badB;rw [qz g he,EW g he,m6,bne,bne,TB g he]
theorem Nn (he:U g):(F3 .and .u64 g 10 != 0)=!ptrB g:=by unfold ptrB;rw [qz g he,qz g he,bne,Tw]
theorem Np (he:U g) (lv:Nat):(((lv:Int)==0)||(F3 .and .u64 g 208 != 0))=stopB g lv:=by
 unfold stopB;have c:(16:Int)=2^4:=ba
 have a:=EW g he 4;unfold bu at a;rw [<- c] at a;have b:(F3 .and .u64 (g/64) 3==0)=(!bt g 6&&!bt g 7):=by rw [n5 (g/64) 3 [0,1] bv ba];have d:(64:Int)=2^6:=ba;simp only [List.all_cons,List.all_nil,L4];rw [d,it g he,it g he]
 rw [bne,bne,SI,a,b];cases ((lv:Int)==0)<;>cases bt g 4<;>cases bt g 6<;>cases bt g 7<;>rfl
theorem vd (he:U g):aG g 10 44=frameV g:=by rw [<- gm g 10 44 he.1 he.2 aa];rfl
theorem Nq:U (frameV g):=af _ _ _
theorem Ku (he:U g) (lv:Nat) (h:lv<=2):(aG g 10 (9*lv) != 0)=offB g lv:=by
 unfold offB lowM;have c:=Nq g;have a:=gm (frameV g) 0 (9*lv) c.1 c.2 aa;rw [show frameV g/2^0=frameV g from bh] at a;rw [a,<- vd g he];congr 1;refine aS _ _ (rJ _ _ _ aa) (rJ _ _ _ aa) λi d=>?_;rw [kA g he _ _ _ aa,kA _ (rJ _ _ _ aa) _ _ _ aa,kA g he _ _ _ aa];by_cases b:i<9*lv;·simp [b,show i<44 from aa]
 ·simp [b]
def n6 (x k e:Int):Bool:=if k=1 then (F3 .and .u64 e 8 != 0) else if k=2 then ((F3 .and .u64 e 2 != 0)||((F3 .and .u64 x 524288 != 0)&&(F3 .and .u64 e 8 != 0))) else (F3 .and .u64 e 4 != 0)
theorem Kv (he:U m) (hx:U (P.getD 0 0)) (b:1<=g) (c:g<=3):n6 (P.getD 0 0) g m=!noKind P g m:=by
 unfold n6 noKind;rw [qz m he,qz m he,qz m he,qz _ hx];simp only [bne,m8,m2,m4,Ty];have a:g=1\/g=2\/g=3:=aa
 rcases a with rfl|rfl|rfl;·cases bt m 3<;>rfl
 ·cases bt m 1<;>cases bt m 3<;>cases bt (P.getD 0 0) 19<;>rfl
 ·cases bt m 2<;>rfl
def Bd (x p k e:Int):Bool:=if (F3 .and .u64 e 16==0)=true then (p==1) else ((p==0)||((k != 1)&&(F3 .and .u64 x 262144 != 0)))
theorem Kw (he:U p) (hx:U (P.getD 0 0)) (a:g=0\/g=1):Bd (P.getD 0 0) g m p=!noPriv P g m p:=by
 unfold Bd noPriv;rw [qz p he,EW p he,qz _ hx];simp only [bne,Tv,Tx];rcases a with rfl|rfl;·cases bt p 4<;>rfl
 ·cases bt p 4<;>cases bt (P.getD 0 0) 18<;>cases (m==1)<;>rfl
def n7 (k:Int):Int:=if k=3 then 192 else 64
theorem EX:F3 .or .u64 g (n7 m)=wantV g m:=by
 unfold n7 wantV;by_cases h:m=3;·subst h;have a:∀ i,i<64->bt 192 i=(bt 64 i||bt 128 i):=bv;rw [JZ8 rfl,JZ8 ba];refine aS _ _ (af _ _ _) (af _ _ _) λi b=>?_;rw [bC,bC,bC,a i b,Bool.or_assoc]
 ·have:(m==3)=false:=by simpa using h
  rw [JZ9 h,this];rfl
theorem EY (he:U g):(F3 .and .u64 g (n7 m)==n7 m)=!(wantV g m != g):=by
 rw [<- EX,bne,Bool.not_not];unfold n7;by_cases h:m=3;·rw [JZ8 h,OO g 192 [6,7] ⟨aa,aa⟩ bv ba,OP g 192 [6,7] he bv ba]
 ·rw [JZ9 h,OO g 64 [6] ⟨aa,aa⟩ bv ba,OP g 64 [6] he bv ba]
theorem Nr (he:U g) (hv:U m) (lv:Nat) (h:lv<=2) (e:offB g lv=false):F3 .or .u64 (Uz.wrap (aG g 10 44*4096)) (aG m 0 (12+9*lv))=leadV g m lv:=by
 rw [<- Ku g he lv h] at e;have c:aG g 10 (9*lv)=0:=by simpa using e
 unfold leadV;rw [<- vd g he];have b:∀ i,i<64->bt (lowM (12+9*lv)) i=decide (i<12+9*lv):=by
  have:lv=0\/lv=1\/lv=2:=aa
  rcases this with rfl|rfl|rfl;·decide +kernel
  ·decide +kernel
  ·decide +kernel
 have a:(4096:Int)=2^12:=ba
 refine aS _ _ (af _ _ _) (af _ _ _) λi j=>?_;rw [bC,bC,aw _ _ _ j,aq,b i j,kA m hv _ _ _ aa,Nat.add_zero,a,my _ (rJ _ _ _ aa)];by_cases bZ:i<12+9*lv
 ·simp only [bZ,decide_true,L7,L4,Bool.not_true,L6,Bool.false_or];by_cases d:12<=i;·have f:=kA g he 10 (9*lv) (i-12) aa;rw [c,mR] at f;rw [kA g he _ _ _ aa];have k:decide (i-12<9*lv):=bb;rw [k,L7] at f;rw [<- f];simp
  ·simp [d]
 ·simp [bZ]
theorem Ql (h:U (P.getD 15 0)):Uz.wrap (aG (P.getD 15 0) 0 44*4096)=topT P:=by rw [<- gm _ 0 44 h.1 h.2 aa];unfold topT;rw [show P.getD 15 0/2^0=P.getD 15 0 from bh];rfl
theorem Qm (hv:U m) (lv:Nat):Uz.wrap (g+Uz.wrap (8*aG m (12+9*lv) 9))=pteAt g m lv:=by rw [<- gm _ (12+9*lv) 9 hv.1 hv.2 aa];rfl
theorem Ns (h:U g):(aG g 60 4==0)=(g/1152921504606846976==0):=by
 have b:(1152921504606846976:Int)=2^60:=ba
 have e:aG g 60 4=g/2^60:=by unfold aG;have a:(2:Int)^4=16:=ba;have c:(2:Int)^60=1152921504606846976:=ba;rw [a,c];have:=h.1;have:=h.2;omega
 rw [e,b]
theorem EZ (a:aQ 22 P 1) (hx:iP f g 8) (n:1<=m) (x:m<=3):permV 22 P 1 g 8 m=permRest P 1 g (lastOf g 8) m 4 0:=by
 unfold permV;obtain ⟨_,_,b,c,_,_,h,i⟩:=lF hx;have e:lastOf g 8=g+7:=by unfold lastOf;rw [R4,R4,R4];omega
 have bZ:decide (lastOf g 8<g)=false:=by rw [e];simp;omega
 have d:decide (1<=m/\m<=3):=by simp;omega
 rw [a,bZ,d];rfl
theorem Be (hz:P.length=f) (hn:f<=1048576) (F:Sl .u8 t n P) (y:iP f (2147483648+(M:Int)) (c:Int)) (I:0<=g) (hx1:g<=18446744073709551615): H1 prog 191 #[.slice n f L,.u (2147483648+(M:Int)),.i (c:Int),.u g] t λe N=>e=.returned (.tuple #[.slice (some ⟨t.heap.size,0,none⟩) f f,.bool true]) /\ N.ownsRow t.heap.size 5 1 (.slice (some ⟨t.heap.size,0,none⟩) f f) f ((iM P M g c).map (K1 .u8))/\Bw t N:=by
 have B:Hid (P.length=f):=hz;obtain ⟨hr,hsz,T,U,Y,Z,W,X⟩:=lF y;have S:0<=2147483648+(M:Int):=aa
 have C:2147483648+(M:Int)<=18446744073709551615:=aa
 clear hz;have R:Hid (dO f (2147483648+(M:Int)) (c:Int)=M):=by show dO f (2147483648+(M:Int)) (c:Int)=M;simp only [dO,y,if_true];omega
 obtain ⟨b,cap,rfl,O,E⟩:=F 0 (by have:=B.out;omega);clear E;obtain ⟨Q,zs,K,A,a⟩:=info_parts info5;have z:(prog.info? 5).map (·.size)=some 1:=by rw [zs];simp [A]
 have u:Q.bytes*f<=281474976710656:=by rw [a];omega
 have D:f<=maxLen:=by unfold maxLen;omega
 go_enter func191,ntmps191;go_wp2_with (first | (go_at_call 211;refine (km _ _ _ _ _ _ hn S C).mono ?_;rw [R.out];rintro e N ⟨rfl,G⟩;have H:=G.symm;subst H) | (at_make;refine wpList_make_full _ rfl (.tmp 24) (.tmp 24) 22 rfl t.heap.size 5 Q (.int .u8 0) 1 underlying22 zs K A .i64 .i64 _ _ f rfl rfl rfl rfl u D (M7 _) ?_;intro w1 q d) | (refine lL rfl (.tmp 26) (.tmp 27) 22 rfl 5 underlying22 z .u8 t.heap.size t.heap.size f f b cap L P _ rfl rfl q (F.below ((Below.refl _ _).grown d (M7 _) l1)) B.out ?_;intro w2 o x));have l:Bw t w2:=Below.grown ((Below.refl _ _).grown d (M7 _) l1) x d.size (by intro k h;cases h;exact M7 _);clear q d x F;go_loopw [30] (λi wr=>∃ j:Nat,j<=c/\i=.i (j:Int)/\wr.ownsRow t.heap.size 5 1 (.slice (some ⟨t.heap.size,0,none⟩) f f) f ((iM P M g j).map (K1 .u8))/\Bw t wr)
  (λi _=>c-(intOf i).toNat)
 case atStart=>exact ⟨0,Nat.zero_le _,rfl,o,l⟩
 case round =>
  obtain ⟨j,hj,rfl,m,p⟩:=hrel;clear o l;by_cases bZ:j<c
  ·have V:wr.frozen? ⟨t.heap.size,M+j,none⟩=false:=m.frozenAt (M+j);have w:=(m.stored (M+j) (.int .u8 (g/256^j%256))).1;obtain ⟨v3,hv3⟩:∃ v,wr.cell? ⟨t.heap.size,M+j,none⟩=some v:=(by rw [m.cellAt (M+j) aa];exact ⟨_,S1 (by rw [List.length_map,gQ,B.out];omega)⟩);rw [iR] at w;have r:(wr.setCell ⟨t.heap.size,M+j,none⟩ (.int .u8 (g/256^j%256))).ownsRow t.heap.size 5 1 (.slice (some ⟨t.heap.size,0,none⟩) f f) f ((iM P M g (j+1)).map (K1 .u8)):=w;have s:Bw t (wr.setCell ⟨t.heap.size,M+j,none⟩ (.int .u8 (g/256^j%256))):=p.setCell (M7 _) _;have J:0<=g/256^j:=Int.ediv_nonneg I (Int.le_of_lt (Int.pow_pos aa));clear w m;rw [<- tB] at r s J;go_wp2;go_roundw;case rel=>exact ⟨j+1,aa,by go_num,r,s⟩
   case measure=>simp [intOf];omega
  ·have:j=c:=by omega
   subst this;go_wp2;go_ret2;exact ⟨rfl,m,p⟩
def AF.fn:AF->Nat
 | .sum=>234 | .slt=>235 | .sltu=>236 | .xor=>237 | .or=>238 | .and=>239
 | .sl=>240 | .sr=>241 | .sra=>242 | .sub=>244 | .mul=>245
 | .mulh=>246 | .mulhsu=>247 | .high=>248 | .div=>249 | .divu=>250
 | .rem=>251 | .remu=>252
def SD.fn:SD->Nat
 | .low=>225 | .sgn=>224 | .five=>243
theorem AF.calls (f:AF) (a b:Int) (g:0<=a) (h:a<18446744073709551616) (c:0<=b) (d:b<18446744073709551616) (w:A5):H1 prog f.fn #[.u a,.u b] w λe i=>e=.returned (.u (f.v a b))/\∃ m,i=w.drewN m:=by
 cases f;·exact aM (xo a b w)
 ·exact aM (uX a b w)
 ·exact aM (yZ a b w)
 ·exact aM (xp a b w)
 ·exact aM (Bc a b w)
 ·exact aM (xq a b w)
 ·exact mO (wm a b c d w)
 ·exact mO (uW a b c d w)
 ·exact mO (nY a b c d w)
 ·exact aM (ru a b w)
 ·exact aM (wk a b w)
 ·exact aM (uY a b g h c d w)
 ·exact aM (hC a b g h c d w)
 ·exact aM (mP a b g h c d w)
 ·exact aM (po a b c d w)
 ·exact aM (rv a b w)
 ·exact aM (uZ a b c d w)
 ·exact aM (za a b w)
theorem SD.calls (s:SD) (x:Int) (a:0<=x) (b:x<18446744073709551616) (w:A5):H1 prog s.fn #[.u x] w λe c=>e=.returned (.u (s.v x))/\∃ m,c=w.drewN m:=by
 cases s;·exact aM (sg x a w)
 ·exact aM (oU x w)
 ·exact mO (Bb x a b w)
def AO.cells:AO->List H3
 | .d f=>[.func (.func f.fn) #[] #[],.nilFunc,.nilFunc]
 | .w f l r=>[.func (.func f.fn) #[] #[],.func (.func l.fn) #[] #[],.func (.func r.fn) #[] #[]]
def aluCells:Array Value:=(QX.flatMap AO.cells).toArray
def dH:Array Value:=(List.replicate 123 Value.nilFunc).toArray
theorem iE:dH.size=123:=by kernel_rfl
theorem cJ:aluCells.size=123:=by kernel_rfl
theorem iF:(prog.info? 313).bind (·.zero)=some (.agg dH):=by kernel_rfl
theorem iG:aluCells.all (·.oneCell'):=by kernel_rfl
theorem gq:(prog.info? 313).map (·.size)=some 123:=by kernel_rfl
theorem zd:QX.length=41:=by rfl
theorem Bg (h:f<41) (j:Nat) (a:j<3):aluCells[f*3+j]?=(uN f).cells[j]?:=by
 have:=zJ AO.cells 3 QX (by intro x _;cases x<;>rfl) f (by rw [zd];exact h) j a;have e:QX[f]'(by rw [zd];exact h)=uN f:=by simp [uN,List.getD,S1 (show f<QX.length by rw [zd];exact h)]
 rw [e] at this;rw [<- this];simp [aluCells]
theorem Bh:CB 221 #[] t (.agg aluCells):=by go_enter func221,ntmps221;apply wp_seq_k;intro c b;apply wp_region_list;refine bL rfl 313 rfl (some 0) rfl _ iF ?_;apply wpList_nil;refine b _ _ ?_;clear b c;apply wp_seq_k;intro c b;apply wp_region_lit;refine jH 42 0 42 (.p t.heap.size 0) (.agg aluCells) ab ?_;intro m f d j;have g:(t.alloc (.cells (I5 dH).cells 313)).heap[t.heap.size]?=some (.cells dH 313 (0,0)):=A6 _ _;refine A0 rfl 313 (.tmp 0) (.tmp 42) rfl rfl t.heap.size aluCells f d 313 dH g (by rw [gq,cJ]) (by rw [iE,cJ]) iG ?_;apply wpList_nil;refine b _ _ ?_;clear b c;apply wp_ret;refine H8 (H5 results221 _ _ _ _ _ _ _ f (G3 _ _ _ _ _ _ g) underlying313 rfl (by rw [gq,cJ])) j ⟨rfl,?_⟩;exact ay (bal _ _) (M7 _) _
theorem oD:H1 prog 221 #[] t λe a=>∃ T,e=.returned T/\Hid (T=.agg aluCells)/\Bw t a :=
 (Bh t).mono λe a h=>⟨.agg aluCells,h.1,(rfl:I5 aluCells=.agg aluCells),h.2⟩
theorem AF.enters (f:AF):(prog.funcs[f.fn]?).map (λa=>(a.name == "runtime.NumGoroutine",a.body.isSome))=some (false,true):=by cases f<;>kernel_rfl
theorem SD.enters (s:SD):(prog.funcs[s.fn]?).map (λa=>(a.name == "runtime.NumGoroutine",a.body.isSome))=some (false,true):=by cases s<;>kernel_rfl
def Ky (w:A5) (g:Nat):Prop:=g<w.heap.size/\∀ k,k<41->∀ a b c,(uN k).cells=[a,b,c]->w.cell? ⟨g,k*3,none⟩=some a/\w.cell? ⟨g,k*3+1,none⟩=some b/\w.cell? ⟨g,k*3+2,none⟩=some c
theorem E5 {t:TypeId} (h:a.heap[b]?=some (.cells aluCells t (0,0))):Ky a b:=by
 refine ⟨?_,λk c f i l w=>?_⟩
 ·by_cases d:b<a.heap.size;·exact d
  ·rw [Array.getElem?_eq_none aa] at h;cases h
 ·have e:∀ j,j<3->a.cell? ⟨b,k*3+j,none⟩=(uN k).cells[j]?:=(by intro j g;rw [F0 _ _ _ _ _ _ h];exact Bg k c j g);rw [w] at e;exact ⟨e 0 ba,e 1 ba,e 2 ba⟩
theorem Bi:(binOp .eql 136 (.func (.func f) #[] #[]) .nilFunc).run prog t=.ok (.bool false) t:=by kernel_rfl
theorem Dz:(binOp .eql 136 .nilFunc .nilFunc).run prog t=.ok (.bool true) t:=by kernel_rfl
theorem sj:(prog.info? 312).map (·.size)=some 3:=by kernel_rfl
theorem Kz:(#[K0 (.func f) #[] #[],.func (.func L) #[] #[],.func (.func M) #[] #[]]:Array H3).all (·.oneCell'):=by simp [K4]
theorem KA:(#[K0 (.func f) #[] #[],.nilFunc,.nilFunc]:Array H3).all (·.oneCell'):=by simp [K4]
theorem Ha (hk:f<41) (a b:Int) (z:0<=a) (J:a<18446744073709551616) (A:0<=b) (K:b<18446744073709551616) (k:AF) (l r:SD) (P:Hid (uN f=.w k l r)) (w:A5): CB 201 #[.i ((f:Int)+22),.u a,.u b] w (.tuple #[.u (aX 32 (k.v (l.v a) (r.v b))),.bool true]):=by
 have O:I4 ((f:Int)+22-22)=f:=by unfold I4;omega
 have U:decide ((f:Int)+22<22)=false:=by simp;omega
 have V:decide (41<=(f:Int))=false:=by simp;omega
 have C:=Bi;have L:=l5 k.enters;have M:=l5 l.enters;have N:=l5 r.enters;go_enter func201,ntmps201;go_wp2_with fail;refine (oD _).mono ?_;rintro e j ⟨T,rfl,I,u⟩;have B:(j.alloc (.cells (I5 dH).cells 313)).heap[j.heap.size]?=some (.cells dH 313 (0,0)):=A6 _ _;obtain ⟨c,o⟩:∃ c,c=(j.alloc (.cells (I5 dH).cells 313)).setRow j.heap.size aluCells:=⟨_,rfl⟩;have D:Hid (Ky c j.heap.size):=by show Ky _ _;rw [o];exact E5 (G3 _ _ _ _ _ _ B)
 have s:Hid (c=(j.alloc (.cells (I5 dH).cells 313)).setRow j.heap.size aluCells):=o;clear o;have y:(c.alloc (.cells #[.nilFunc,.nilFunc,.nilFunc] 312)).heap[c.heap.size]?=some (.cells #[.nilFunc,.nilFunc,.nilFunc] 312 (0,0)):=A6 _ _;obtain ⟨q,p⟩:∃ q,q=(c.alloc (.cells #[.nilFunc,.nilFunc,.nilFunc] 312)).setRow c.heap.size #[.func (.func k.fn) #[] #[],.func (.func l.fn) #[] #[],.func (.func r.fn) #[] #[]]:=⟨_,rfl⟩;have d:q.heap[c.heap.size]?=some (.cells #[.func (.func k.fn) #[] #[],.func (.func l.fn) #[] #[],.func (.func r.fn) #[] #[]] 312 (0,0)):=by rw [p];exact G3 _ _ _ _ _ _ y
 have W:q.cell? ⟨c.heap.size,0,none⟩=some (.func (.func k.fn) #[] #[]):=F0 _ _ _ _ _ _ d;have X:q.cell? ⟨c.heap.size,1,none⟩=some (.func (.func l.fn) #[] #[]):=F0 _ _ _ _ _ _ d;have Y:q.cell? ⟨c.heap.size,2,none⟩=some (.func (.func r.fn) #[] #[]):=F0 _ _ _ _ _ _ d;have t:Hid (q=(c.alloc (.cells #[.nilFunc,.nilFunc,.nilFunc] 312)).setRow c.heap.size #[.func (.func k.fn) #[] #[],.func (.func l.fn) #[] #[],.func (.func r.fn) #[] #[]]):=p;clear p d;obtain ⟨Q,R,S⟩:=D.out.2 f hk _ _ _ (by rw [P.out];rfl);go_wp2_with (first | refine bL rfl 313 rfl (some 8) rfl _ iF ?_ | (refine A0 rfl 313 (.tmp 8) (.tmp 10) rfl rfl j.heap.size aluCells rfl I.out 313 dH B (by rw [gq,cJ]) (by rw [iE,cJ]) iG ?_;rw [<- s.out]) | (refine A0 rfl 312 (.tmp 9) (.tmp 21) rfl rfl c.heap.size #[.func (.func k.fn) #[] #[],.func (.func l.fn) #[] #[],.func (.func r.fn) #[] #[]] rfl rfl 312 _ y sj rfl (Kz _ _ _) ?_;rw [<- t.out]));have F:Hid (∀ w:A5,H1 prog l.fn #[.u a] w λe g=>e=.returned (.u (l.v a))/\∃ m,g=w.drewN m):=SD.calls l a z J;have H:Hid (∀ w:A5,H1 prog r.fn #[.u b] w λe g=>e=.returned (.u (r.v b))/\∃ m,g=w.drewN m):=SD.calls r b A K;have E:Hid (∀ w:A5,H1 prog k.fn #[.u (l.v a),.u (r.v b)] w λe g=>e=.returned (.u (k.v (l.v a) (r.v b)))/\∃ m,g=w.drewN m):=AF.calls k _ _ (l.bd a z).1 (l.bd a z).2 (r.bd b A).1 (r.bd b A).2;have G:Hid (∀ (x:Int) (w:A5),H1 prog 116 #[.u x,.i 32] w λe g=>e=.returned (.u (aX 32 x))/\∃ m,g=w.drewN m):=λx w=>aM (gI x 32 aa aa w);go_quiet (first | with_reducible refine P2 (F.out _) | with_reducible refine P2 (H.out _) | with_reducible refine P2 (E.out _) | with_reducible refine P2 (G.out _ _))
 go_wp2_with fail;go_ret2;refine ⟨rfl,qy ?_ _⟩;rw [t.out,s.out];refine ay (Below.alloc (ay (u.alloc u.size _) u.size _) ?_ _) ?_ _;·rw [H2];exact N1 u.size bh
 ·rw [H2];exact N1 u.size bh
theorem Hb (hk:f<41) (a b:Int) (A:0<=a) (B:a<18446744073709551616) (C:0<=b) (D:b<18446744073709551616) (k:AF) (G:Hid (uN f=.d k)) (w:A5): CB 201 #[.i ((f:Int)+22),.u a,.u b] w (.tuple #[.u (k.v a b),.bool true]):=by
 have F:I4 ((f:Int)+22-22)=f:=by unfold I4;omega
 have L:decide ((f:Int)+22<22)=false:=by simp;omega
 have M:decide (41<=(f:Int))=false:=by simp;omega
 have u:=Dz;have E:=l5 k.enters;go_enter func201,ntmps201;go_wp2_with fail;refine (oD _).mono ?_;rintro e g ⟨T,rfl,z,q⟩;have t:(g.alloc (.cells (I5 dH).cells 313)).heap[g.heap.size]?=some (.cells dH 313 (0,0)):=A6 _ _;obtain ⟨c,j⟩:∃ c,c=(g.alloc (.cells (I5 dH).cells 313)).setRow g.heap.size aluCells:=⟨_,rfl⟩;have y:Hid (Ky c g.heap.size):=by show Ky _ _;rw [j];exact E5 (G3 _ _ _ _ _ _ t)
 have o:Hid (c=(g.alloc (.cells (I5 dH).cells 313)).setRow g.heap.size aluCells):=j;clear j;have r:(c.alloc (.cells #[.nilFunc,.nilFunc,.nilFunc] 312)).heap[c.heap.size]?=some (.cells #[.nilFunc,.nilFunc,.nilFunc] 312 (0,0)):=A6 _ _;obtain ⟨m,l⟩:∃ m,m=(c.alloc (.cells #[.nilFunc,.nilFunc,.nilFunc] 312)).setRow c.heap.size #[.func (.func k.fn) #[] #[],.nilFunc,.nilFunc]:=⟨_,rfl⟩;have d:m.heap[c.heap.size]?=some (.cells #[.func (.func k.fn) #[] #[],.nilFunc,.nilFunc] 312 (0,0)):=by rw [l];exact G3 _ _ _ _ _ _ r
 have N:m.cell? ⟨c.heap.size,0,none⟩=some (.func (.func k.fn) #[] #[]):=F0 _ _ _ _ _ _ d;have O:m.cell? ⟨c.heap.size,1,none⟩=some .nilFunc:=F0 _ _ _ _ _ _ d;have P:m.cell? ⟨c.heap.size,2,none⟩=some .nilFunc:=F0 _ _ _ _ _ _ d;have p:Hid (m=(c.alloc (.cells #[.nilFunc,.nilFunc,.nilFunc] 312)).setRow c.heap.size #[.func (.func k.fn) #[] #[],.nilFunc,.nilFunc]):=l;clear l d;obtain ⟨I,J,K⟩:=y.out.2 f hk _ _ _ (by rw [G.out];rfl);go_wp2_with (first | refine bL rfl 313 rfl (some 8) rfl _ iF ?_ | (refine A0 rfl 313 (.tmp 8) (.tmp 10) rfl rfl g.heap.size aluCells rfl z.out 313 dH t (by rw [gq,cJ]) (by rw [iE,cJ]) iG ?_;rw [<- o.out]) | (refine A0 rfl 312 (.tmp 9) (.tmp 21) rfl rfl c.heap.size #[.func (.func k.fn) #[] #[],.nilFunc,.nilFunc] rfl rfl 312 _ r sj rfl (KA _) ?_;rw [<- p.out]));refine (AF.calls k a b A B C D _).mono ?_;rintro e Q ⟨rfl,nq,s⟩;subst s;go_wp2_with fail;go_ret2;refine ⟨rfl,qy ?_ _⟩;rw [p.out,o.out];refine ay (Below.alloc (ay (q.alloc q.size _) q.size _) ?_ _) ?_ _;·rw [H2];exact N1 q.size bh
 ·rw [H2];exact N1 q.size bh
theorem ze (a:(Lit.int .i64 g).wf) (h:GL g=false) (w:A5): CB 201 #[.i g,.u m,.u p] w (.tuple #[.u 0,.bool false]):=by
 have l:¬ (22<=g/\g<=62):=by simpa [GL] using h
 have b:=Kq a;clear a h;by_cases f:g<22;·have o:decide (g<22):=cb;clear l f;go_enter func201,ntmps201;go_wp2_with fail;refine (oD _).mono ?_;rintro e d ⟨T,rfl,op,c⟩;have j:(d.alloc (.cells (I5 dH).cells 313)).heap[d.heap.size]?=some (.cells dH 313 (0,0)):=A6 _ _;go_wp2_with (first | refine bL rfl 313 rfl (some 8) rfl _ iF ?_ | (refine A0 rfl 313 (.tmp 8) (.tmp 10) rfl rfl d.heap.size aluCells rfl op.out 313 dH j (by rw [gq,cJ]) (by rw [iE,cJ]) iG ?_));exact sb
 ·have o:decide (g<22)=false:=cb;have s:I4 (g-22)=g-22:=bw;have r:decide (41<=g-22):=bb;clear l f;go_enter func201,ntmps201;go_wp2_with fail;refine (oD _).mono ?_;rintro e d ⟨T,rfl,op,c⟩;have j:(d.alloc (.cells (I5 dH).cells 313)).heap[d.heap.size]?=some (.cells dH 313 (0,0)):=A6 _ _;go_wp2_with (first | refine bL rfl 313 rfl (some 8) rfl _ iF ?_ | (refine A0 rfl 313 (.tmp 8) (.tmp 10) rfl rfl d.heap.size aluCells rfl op.out 313 dH j (by rw [gq,cJ]) (by rw [iE,cJ]) iG ?_));exact sb
theorem sn (a b:Int) (n:(Lit.int .i64 g).wf) (c:0<=a) (op:a<18446744073709551616) (i:0<=b) (j:b<18446744073709551616) (w:A5): CB 201 #[.i g,.u a,.u b] w (.tuple #[.u (rh g a b),.bool (GL g)]):=by
 cases h:GL g with
 | false =>have e:rh g a b=0:=(by simp [rh,h]);rw [e];exact ze g a b n h w
 | true =>
   have p:22<=g/\g<=62:=(by simpa [GL] using h);obtain ⟨k,rfl⟩:∃ k:Nat,g=(k:Int)+22:=⟨(g-22).toNat,aa⟩;have e:rh ((k:Int)+22) a b=(uN k).v a b:=(by simp [rh,h]);rw [e];cases m:uN k with
   | d f=>exact Hb k aa a b c op i j f m w
   | w f l r=>exact Ha k aa a b c op i j f l r m w
structure Code (w0:A5) (a:Option Addr) (n:Nat) (zs:List Int):Prop where
 len:zs.length=n
 few:n<=4096
 sl:Sl .u8 w0 a zs
 bd:∀ y ∈ zs,(Lit.int .u8 y).wf
theorem Nt:CE 4 #[.slice n f L] t (.bool (decide (4096<f))):=by
 by_cases h:4096<f;·have F:Hid (decide (4096<f)):=(by show decide (4096<f)=true;simpa using h);have d:decide ((4096:Int)<(f:Int)):=bb;clear h;go_enter func4,ntmps4;exact o6
 ·have F:Hid (decide (4096<f)=false):=(by show decide (4096<f)=false;simpa using h);have d:decide ((4096:Int)<(f:Int))=false:=bb;clear h;go_enter func4,ntmps4;exact o6
