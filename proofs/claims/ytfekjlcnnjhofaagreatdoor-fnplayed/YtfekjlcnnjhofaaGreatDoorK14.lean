/- Own lemmas. -/
import Derived.Test.YtfekjlcnnjhofaaGreatDoorAut
import Derived.Test.YtfekjlcnnjhofaaGreatDoorK07
set_option maxRecDepth 100000
set_option maxHeartbeats 4000000
namespace Go.Proofs.YtfekjlcnnjhofaaGreatDoor
open Go.RowKit Tryz
open IntKind renaming u64->Uz
open Below renaming refl->S5,alloc->T3
open BitVec renaming ofInt->T5
open Bool renaming eq_iff_iff->L0,and_true->L6,and_eq_true->N1,and_false->O1,true_and->P2,false_eq_true->R4
open Calls renaming quiet_of->T4
open Ending renaming returned->S2
open Go renaming wpList_store_rowTo->A6,World->A8,heap_alloc_new->A9,cell_of_row->C5,bits->C6,setRow_heap->D1,bodyPost_ret->D2,Calls->D3,heap_setCell_same->D4,setRow_size->D8,Value->F0,results_cell_row->F3,frozen_of_row->G1
open Go.RowKit renaming wrap64->A5
open Int renaming emod_lt_of_pos->T6,emod_nonneg->V4,mul_comm->V8
open IntKind renaming wrap_u64->R6
open List renaming all_eq_true->R7,getElem?_eq_getElem->R8
open Nat renaming le_refl->H8,le_trans->I1,zero_le->I2
open RowKit renaming wrap64->R5
open Value renaming agg->I3,bool->I4,func->I5,int->K0,oneCell'->K1
set_option linter.unusedVariables false
variable {a w b:Nat} {e x:A8} {n:Option Addr} {g:Int} {k:List Int} {f:F0} {c:Program} {l:FuncId} {d:Array F0} {o:Ins} (L:Option Addr) (M m:Nat) (P:Bool) (T:List Int) (p:Fm) (j r s:Int) (y:Nat) (z:A8) (B Q:Nat)
theorem ru (h:Below a e x) (n:Nat):Below a e (x.drewN n):=⟨h.os,h.tape,h.output,h.size,h.block⟩
theorem bp (h:D3 c l d e λv a=>v=.returned f/\a=e):D3 c l d e λv a=>v=.returned f/\∃ m,a=e.drewN m :=
 h.mono λ_ _ h=>⟨h.1,0,h.2⟩
theorem nN (h:D3 c l d e λv a=>v=.returned f/\a=e.drew):D3 c l d e λv a=>v=.returned f/\∃ m,a=e.drewN m :=
 h.mono λ_ _ h=>⟨h.1,1,h.2⟩
theorem m0 (h:(prog.funcs[a]?).map (λn=>(n.name == "runtime.NumGoroutine",n.body.isSome))=some (false,true)) (args:Array F0) (w:A8):(callFunc a args).run prog w=.ok (.enter a args) w:=by
 cases b:prog.funcs[a]? with
 | none=>rw [b] at h;cases h
 | some n =>rw [b] at h;simp only [Option.map_some,Option.some.injEq,Prod.mk.injEq] at h;have d:n.name≠ "runtime.NumGoroutine":=(by simpa using h.1);obtain ⟨c,e⟩:=Option.isSome_iff_exists.mp h.2;simp [callFunc,b,d,e,mark]
theorem Nv (h:(Lit.int .i64 g).wf): -9223372036854775808<=g/\g<=9223372036854775807:=by have b:IntKind.i64.min=-9223372036854775808:=rfl;have a:IntKind.i64.max=9223372036854775807:=rfl;simp only [Lit.wf,N1,JZ6] at h;omega
theorem Nw (a:0<=j) (b:j<18446744073709551616) (w:A8):D3 prog 31 #[.u j,.i 0,.i 6] w λe c=>e=.returned (.u (sh j))/\c=w.drew:=by
 have h:=bJ j 0 6 a b ab ab w;have e:de j 0 6=sh j:=by rw [<- Rx];simp [de]
 rw [e] at h;exact h
theorem CU (c:0<=j) (d:j<18446744073709551616) (w:A8):D3 prog 238 #[.u j] w λe b=>e=.returned (.u (j%32))/\b=w.drew:=by
 have h:∀ w,D3 prog 31 #[.u j,.i 0,.i 5] w λe b=>e=.returned (.u (de j 0 5))/\b=w.drew:=λw=>bJ j 0 5 c d ab ab w;have e:de j 0 5=j%32:=by simp [de]
 rw [e] at h;go_enter func238,ntmps238;go_wp2_with fail;refine (h _).mono ?_;exact a0k
theorem Kf (b:0<=j) (w:A8):CE 202 #[.u j,.i 4] w (.u (j%4294967296)):=by have F:Hid (Uz.wrap (j*2^32)/2^32=j%4294967296):=yk j 4 ab ab b;go_enter func202,ntmps202;go_wp2_with fail;go_ret;exact ⟨by rw [<- F.out];rfl,rfl⟩
theorem tO (b:0<=j) (w:A8):CE 217 #[.u j] w (.u (j%4294967296)):=by go_enter func217,ntmps217;go_wp2_with fail;refine (Kf j b _).mono ?_;rintro e d ⟨rfl,rfl⟩;exact a02
theorem pZ:CE 216 #[.u j] z (.u (ay 32 j)):=by go_enter func216,ntmps216;go_wp2_with fail;refine (i8 j 32 ab ab _).mono ?_;rintro e d ⟨rfl,b⟩;subst b;exact a02
theorem yR:CE 229 #[.u j,.u r] z (.u (Uz.wrap (j+r))):=by go_enter func229,ntmps229;exact a02
theorem sJ:CE 239 #[.u j,.u r] z (.u (Uz.wrap (j-r))):=by go_enter func239,ntmps239;exact a02
theorem xO:CE 240 #[.u j,.u r] z (.u (Uz.wrap (j*r))):=by go_enter func240,ntmps240;exact a02
theorem yS:CE 232 #[.u j,.u r] z (.u (C6 .xor .u64 j r)):=by go_enter func232,ntmps232;exact a02
theorem CV:CE 233 #[.u j,.u r] z (.u (C6 .or .u64 j r)):=by go_enter func233,ntmps233;exact a02
theorem yT:CE 234 #[.u j,.u r] z (.u (C6 .and .u64 j r)):=by go_enter func234,ntmps234;exact a02
theorem At:CE 251 #[.u j,.u r] z (.u r):=by go_enter func251,ntmps251;exact a02
theorem xP (c:0<=r) (d:r<18446744073709551616) (w:A8):D3 prog 235 #[.u j,.u r] w λe g=>e=.returned (.u (Uz.wrap (j*2^sh r)))/\g=w.drew:=by have f:=GP r;go_enter func235,ntmps235;go_wp2_with fail;refine (Nw r c d _).mono ?_;exact a0l
theorem wA (c:0<=r) (d:r<18446744073709551616) (w:A8):D3 prog 236 #[.u j,.u r] w λe g=>e=.returned (.u (j/2^sh r))/\g=w.drew:=by have f:=GP r;go_enter func236,ntmps236;go_wp2_with fail;refine (Nw r c d _).mono ?_;exact a0l
theorem oV (c:0<=r) (d:r<18446744073709551616) (w:A8):D3 prog 237 #[.u j,.u r] w λe g=>e=.returned (.u (Uz.wrap (A5 j/2^sh r)))/\g=w.drew:=by have f:=GP r;go_enter func237,ntmps237;go_wp2_with fail;refine (Nw r c d _).mono ?_;exact a0l
theorem tP:CE 248 #[.u j,.u r] z (.bool (j==r)):=by go_enter func248,ntmps248;exact a02
theorem j8:CE 249 #[.u j,.u r] z (.bool (decide (A5 j<A5 r))):=by go_enter func249,ntmps249;exact a02
theorem l8:CE 250 #[.u j,.u r] z (.bool (decide (j<r))):=by go_enter func250,ntmps250;exact a02
theorem yU:CE 263 #[.bool P] z (.u (EJ P)):=by
 cases P;all_goals go_enter func263,ntmps263
 all_goals go_wp2_with fail
 all_goals go_ret
 all_goals exact ⟨rfl,rfl⟩
theorem Nx:CE 48 #[.bool P] z (.u (EJ P)):=by
 cases P;all_goals go_enter func48,ntmps48
 all_goals go_wp2_with fail
 all_goals go_ret
 all_goals exact ⟨rfl,rfl⟩
theorem wC:CE 230 #[.u j,.u r] z (.u (EJ (decide (A5 j<A5 r)))):=by go_enter func230,ntmps230;go_wp2_with fail;refine (j8 j r _).mono ?_;rintro e d ⟨rfl,rfl⟩;go_wp2_with fail;refine (yU _ _).mono ?_;exact a0k
theorem Au:CE 231 #[.u j,.u r] z (.u (EJ (decide (j<r)))):=by go_enter func231,ntmps231;go_wp2_with fail;refine (l8 j r _).mono ?_;rintro e d ⟨rfl,rfl⟩;go_wp2_with fail;refine (yU _ _).mono ?_;exact a0k
theorem Kg (c:0<=j) (a1:j<18446744073709551616) (d:0<=r) (f:r<18446744073709551616) (w:A8): CE 264 #[.u j,.u r] w (.tuple #[.u (kX j r),.u (Uz.wrap (j*r))]):=by obtain ⟨b,q,p,o,t,u,v,a,e2,e3,e4,e5,e6,e7,l,m⟩:=vB j r c a1 d f;have m1:=lK j c a1;have m2:=lK r d f;go_enter func264,ntmps264;go_wp2;go_ret2;exact a0e
theorem nO (c:0<=j) (a1:j<18446744073709551616) (d:0<=r) (f:r<18446744073709551616) (w:A8): CE 243 #[.u j,.u r] w (.u (kX j r)):=by go_enter func243,ntmps243;go_wp2_with fail;refine (Kg j r c a1 d f _).mono ?_;exact a0l
theorem rv (c:0<=j) (a1:j<18446744073709551616) (d:0<=r) (f:r<18446744073709551616) (w:A8): CE 118 #[.u j,.u r] w (.u (kX j r)):=by
 obtain ⟨s,b,q,p,t,u,v,a,e2,e3,e4,e5,e6,e7,o,l⟩:=vB r j d f c a1;have g:kX r j=kX j r:=by simp only [kX,V8]
 rw [V8] at a e2 e3 e4;rw [Int.add_comm] at e7;rw [g] at l;clear g;have m1:=lK j c a1;have m2:=lK r d f;go_enter func118,ntmps118;exact a00
theorem jq (c:0<=j) (a1:j<18446744073709551616) (f:0<=r) (g:r<18446744073709551616) (w:A8): CE 242 #[.u j,.u r] w (.u (gp j r)):=by
 by_cases h:A5 j<0;·have F:Hid (gp j r=Uz.wrap (kX j r-r)):=(by show _=_;unfold gp;rw [JZ8 h]);have d:decide (A5 j<0):=et;clear h;go_enter func242,ntmps242;go_wp2_with fail;refine (nO j r c a1 f g _).mono ?_;exact a0m
 ·have F:Hid (gp j r=kX j r):=(by show _=_;unfold gp;rw [JZ9 h]);have d:decide (A5 j<0)=false:=et;clear h;go_enter func242,ntmps242;go_wp2_with fail;refine (nO j r c a1 f g _).mono ?_;exact a0m
theorem wE (c:0<=j) (a1:j<18446744073709551616) (f:0<=r) (g:r<18446744073709551616) (w:A8): CE 241 #[.u j,.u r] w (.u (mE j r)):=by
 by_cases h:A5 r<0;·have F:Hid (mE j r=Uz.wrap (gp j r-j)):=(by show _=_;unfold mE;rw [JZ8 h]);have d:decide (A5 r<0):=et;clear h;go_enter func241,ntmps241;go_wp2_with fail;refine (jq j r c a1 f g _).mono ?_;exact a0m
 ·have F:Hid (mE j r=gp j r):=(by show _=_;unfold mE;rw [JZ9 h]);have d:decide (A5 r<0)=false:=et;clear h;go_enter func241,ntmps241;go_wp2_with fail;refine (jq j r c a1 f g _).mono ?_;exact a0m
theorem qp (c:0<=r) (f:r<18446744073709551616) (w:A8): CE 244 #[.u j,.u r] w (.u (AF.div.v j r)):=by
 by_cases h:r=0;·have F:Hid (AF.div.v j r=18446744073709551615):=fa;have d:(r==0):=et;clear h;go_enter func244,ntmps244;exact a09
 ·have F:Hid (AF.div.v j r=Uz.wrap (A5 ((A5 j).tdiv (A5 r)))):=fa;have d:(r==0)=false:=et;have a:¬ A5 r=0:=(by rw [fA c f];exact h);clear h;go_enter func244,ntmps244;exact a09
theorem wG (c:0<=r) (f:r<18446744073709551616) (w:A8): CE 246 #[.u j,.u r] w (.u (AF.rem.v j r)):=by
 by_cases h:r=0;·have F:Hid (AF.rem.v j r=j):=fa;have d:(r==0):=et;clear h;go_enter func246,ntmps246;exact a09
 ·have F:Hid (AF.rem.v j r=Uz.wrap ((A5 j).tmod (A5 r))):=fa;have d:(r==0)=false:=et;have a:¬ A5 r=0:=(by rw [fA c f];exact h);clear h;go_enter func246,ntmps246;exact a09
theorem sK: CE 245 #[.u j,.u r] z (.u (AF.divu.v j r)):=by
 by_cases h:r=0;·have F:Hid (AF.divu.v j r=18446744073709551615):=fa;have d:(r==0):=et;clear h;go_enter func245,ntmps245;exact a09
 ·have F:Hid (AF.divu.v j r=Uz.wrap (j.tdiv r)):=fa;have d:(r==0)=false:=et;go_enter func245,ntmps245;exact a09
theorem Av: CE 247 #[.u j,.u r] z (.u (AF.remu.v j r)):=by
 by_cases h:r=0;·have F:Hid (AF.remu.v j r=j):=fa;have d:(r==0):=et;clear h;go_enter func247,ntmps247;exact a09
 ·have F:Hid (AF.remu.v j r=j.tmod r):=fa;have d:(r==0)=false:=et;go_enter func247,ntmps247;exact a09
def OZ (op:Int):Bool:=decide (5<=op/\op<=10)
def KO (op a b:Int):Bool :=
 if op=5 then (a==b) else if op=6 then !(a==b) else if op=7 then decide (A5 a<A5 b) else if op=8 then !decide (A5 a<A5 b)
 else if op=9 then decide (a<b) else if op=10 then !decide (a<b) else false
theorem CW (h:OZ g):g=5\/g=6\/g=7\/g=8\/g=9\/g=10:=by
 have:5<=g/\g<=10:=by simpa [OZ] using h
 omega
theorem Qb (h:OZ g=false) (a b:Int):KO g a b=false:=by
 have:¬ (5<=g/\g<=10):=by simpa [OZ] using h
 unfold KO;rw [JZ9 ab,JZ9 ab,JZ9 ab,JZ9 ab,JZ9 ab,JZ9 ab]
theorem kQ:(prog.info? 273).map (·.size)=some 3:=by kernel_rfl
theorem oW:(#[I5 (.func 248) #[] #[],.func (.func 249) #[] #[],.func (.func 250) #[] #[]]:Array F0).all (·.oneCell'):=by kernel_rfl
theorem wH:CB 214 #[] z (.agg #[.func (.func 248) #[] #[],.func (.func 249) #[] #[],.func (.func 250) #[] #[]]):=by have b:(z.alloc (.cells #[.nilFunc,.nilFunc,.nilFunc] 273)).heap[z.heap.size]?=some (.cells #[.nilFunc,.nilFunc,.nilFunc] 273 (0,0)):=A9 _ _;go_enter func214,ntmps214;go_wp2_with (refine A6 rfl 273 (.tmp 0) (.tmp 4) rfl rfl z.heap.size #[.func (.func 248) #[] #[],.func (.func 249) #[] #[],.func (.func 250) #[] #[]] rfl rfl 273 _ b kQ rfl oW ?_);refine D2 (F3 results214 _ _ _ _ _ _ _ rfl (D1 _ _ _ _ _ _ b) underlying273 rfl kQ) rfl ⟨rfl,?_⟩;exact aK (bal _ _) (H8 _) _
theorem kR (a b:Int) (h:OZ j) (w:A8): CB 190 #[.i j,.u a,.u b] w (.tuple #[.bool (KO j a b),.bool true]):=by
 have G:=tP a b
 have e2:=j8 a b
 have e3:=l8 a b
 obtain ⟨p,s⟩:∃ c,c=(a==b):=⟨_,rfl⟩
 obtain ⟨q,t⟩:∃ c,c=decide (A5 a<A5 b):=⟨_,rfl⟩
 obtain ⟨r,u⟩:∃ c,c=decide (a<b):=⟨_,rfl⟩
 have F:Hid (∀ j,KO j a b=if j=5 then p else if j=6 then !p else if j=7 then q else if j=8 then !q else if j=9 then r else if j=10 then !r else false):=by
  intro j;rw [s,t,u];rfl
 have B:Hid (∀ w:A8,CE 248 #[.u a,.u b] w (.bool p)):=by rw [s];exact tP a b
 have C:Hid (∀ w:A8,CE 249 #[.u a,.u b] w (.bool q)):=by rw [t];exact j8 a b
 have D:Hid (∀ w:A8,CE 250 #[.u a,.u b] w (.bool r)):=by rw [u];exact l8 a b
 clear s t u G e2 e3
 rcases CW h with rfl|rfl|rfl|rfl|rfl|rfl
 all_goals
  go_enter func190,ntmps190
  go_wp2_with fail
  refine (wH _).mono ?_
  rintro e f ⟨rfl,y⟩
  have z:(f.alloc (.cells #[.nilFunc,.nilFunc,.nilFunc] 273)).heap[f.heap.size]?=some (.cells #[.nilFunc,.nilFunc,.nilFunc] 273 (0,0)):=A9 _ _
  obtain ⟨op,g⟩:∃ op,op=(f.alloc (.cells #[.nilFunc,.nilFunc,.nilFunc] 273)).setRow f.heap.size #[.func (.func 248) #[] #[],.func (.func 249) #[] #[],.func (.func 250) #[] #[]]:=⟨_,rfl⟩
  have m:op.heap[f.heap.size]?=some (.cells #[.func (.func 248) #[] #[],.func (.func 249) #[] #[],.func (.func 250) #[] #[]] 273 (0,0)):=by rw [g];exact D1 _ _ _ _ _ _ z
  have H:op.cell? ⟨f.heap.size,0,none⟩=some (.func (.func 248) #[] #[]):=C5 _ _ _ _ _ _ m
  have I:op.cell? ⟨f.heap.size,1,none⟩=some (.func (.func 249) #[] #[]):=C5 _ _ _ _ _ _ m
  have J:op.cell? ⟨f.heap.size,2,none⟩=some (.func (.func 250) #[] #[]):=C5 _ _ _ _ _ _ m
  have E:Hid (Bw w op):=by rw [g];exact aK (y.alloc y.size _) y.size _
  have o:Hid (op=(f.alloc (.cells #[.nilFunc,.nilFunc,.nilFunc] 273)).setRow f.heap.size #[.func (.func 248) #[] #[],.func (.func 249) #[] #[],.func (.func 250) #[] #[]]):=g
  clear g m
  go_wp2_with (first
   | (refine A6 rfl 273 (.tmp 8) (.tmp 12) rfl rfl f.heap.size #[.func (.func 248) #[] #[],.func (.func 249) #[] #[],.func (.func 250) #[] #[]] rfl rfl 273 _ z kQ rfl oW ?_;rw [<- o.out])
   | (go_at_call 248;with_reducible refine (B.out _).mono ?_;rintro e A ⟨rfl,d⟩;subst d)
   | (go_at_call 249;with_reducible refine (C.out _).mono ?_;rintro e A ⟨rfl,d⟩;subst d)
   | (go_at_call 250;with_reducible refine (D.out _).mono ?_;rintro e A ⟨rfl,d⟩;subst d))
  go_ret2
  exact ⟨bh,E.out⟩
theorem yV:decide (r<=j)=!decide (j<r):=by
 by_cases h:j<r;·simp [h]
 ·simp [h];omega
theorem wI (a b:Int) (w:A8): CE 100 #[.i j,.u a,.u b] w (.tuple #[.bool (KO j a b),.bool (OZ j)]):=by
 cases h:OZ j with
 | false =>rw [Qb h];have r:¬ (5<=j/\j<=10):=(by simpa [OZ] using h);have d5:(j==5)=false:=bv;have d6:(j==6)=false:=bv;have d7:(j==7)=false:=bv;have d8:(j==8)=false:=bv;have d9:(j==9)=false:=bv;have Vv:(j==10)=false:=bv;clear h r;go_enter func100,ntmps100;go_wp2_with fail;go_ret2;exact a0e
 | true =>
   have o:=yV (A5 a) (A5 b);have p:=yV a b;have q:(a != b)=!(a==b):=rfl;obtain ⟨op,d⟩:∃ c,c=(a==b):=⟨_,rfl⟩;obtain ⟨l,f⟩:∃ c,c=decide (A5 a<A5 b):=⟨_,rfl⟩;obtain ⟨m,g⟩:∃ c,c=decide (a<b):=⟨_,rfl⟩;have F:Hid (∀ j,KO j a b=if j=5 then op else if j=6 then !op else if j=7 then l else if j=8 then !l else if j=9 then m else if j=10 then !m else false):=(by intro j;rw [d,f,g];rfl);rw [<- d] at q;rw [<- f] at o;rw [<- g] at p;have t:=d.symm;have u:=f.symm;have y:=g.symm;clear d f g;rcases CW h with rfl|rfl|rfl|rfl|rfl|rfl;all_goals
    go_enter func100,ntmps100
    go_wp2_with fail
    go_ret2
    exact ⟨bh,rfl⟩
theorem Aw:∀ n k x,cy j n k=some x->k<=x/\x<k+n/\mH x j:=by
 intro n;induction n with
 | zero=>intro k x h;simp [cy] at h
 | succ n b =>
   intro k x h;rw [cy] at h;split at h;·rename_i a;simp at h;subst h;exact ⟨ab,ab,a⟩
   ·have:=b (k+1) x h;exact ⟨ab,ab,this.2.2⟩
theorem Ny (h:Cc g=some o):g<4294967296/\∃ k,k<98/\mH k g/\o=qP k g:=by
 unfold Cc at h;split at h
 ·rename_i c;cases a:cy g 98 0 with
  | none=>rw [a] at h;simp at h
  | some k =>rw [a] at h;simp at h;obtain ⟨d,e,b⟩:=Aw g 98 0 k a;exact ⟨c,k,ab,b,h.symm⟩
 ·simp at h
theorem Tj:0<=LO p j/\LO p j<=31:=by have:=kL j 7 5;unfold LO;split<;>omega
theorem UO:0<=aV p j/\aV p j<=31:=by have:=kL j 15 5;unfold aV;split<;>omega
theorem UP:0<=bV p j/\bV p j<=31:=by have:=kL j 20 5;unfold bV;split<;>omega
theorem Ax (h:j%2=0):ay 13 j%2=0:=by
 have e:(2:Int)^(64-13)=2251799813685248:=bc
 unfold ay;exact a0d
theorem Ay (h:j%2=0):ay 21 j%2=0:=by
 have e:(2:Int)^(64-21)=8796093022208:=bc
 unfold ay;exact a0d
structure jT (i:Ins):Prop where
 op1:1<=i.op
 op98:i.op<=98
 rd0:0<=i.rd
 rd31:i.rd<=31
 a0:0<=i.a
 a31:i.a<=31
 b0:0<=i.b
 b31:i.b<=31
 im0 : -9223372036854775808<=i.imm
 im1:i.imm<9223372036854775808
 even:(i.op=3\/5<=i.op/\i.op<=10)->i.imm%2=0
theorem Tk:∀ k,k<98->(k=2\/4<=k/\k<=9)->(ce k).fm=.b\/(ce k).fm=.j:=by
 have h:(List.range 98).all (λk=>!(decide (k=2\/4<=k/\k<=9))||(decide ((ce k).fm=.b\/(ce k).fm=.j))):=ba
 intro k a e;have:=R7.1 h k ta;rw [decide_eq_true e] at this;simpa using this
theorem Az (h:Cc g=some o):jT o:=by
 obtain ⟨j,k,f,x,rfl⟩:=Ny h;have a:=Tj (ce k).fm g;have b:=UO (ce k).fm g;have c:=UP (ce k).fm g;have d : -9223372036854775808<=n8 (ce k).fm g/\n8 (ce k).fm g<9223372036854775808:=by unfold n8 R5;omega
 refine ⟨by show (1:Int)<=(k:Int)+1;omega,by show (k:Int)+1<=98;omega,a.1,a.2,b.1,b.2,c.1,c.2,d.1,d.2,λe=>?_⟩;have e2:k=2\/4<=k/\k<=9:=by have e3:((k:Int)+1=3\/5<=(k:Int)+1/\(k:Int)+1<=10):=e;omega
 show n8 (ce k).fm g%2=0;rcases Tk k f e2 with q|q<;>rw [q]<;>unfold n8;·have:=Ax (zJ .b g) (by simp only [zJ];omega);show R5 (ay 13 (zJ .b g))%2=0;unfold R5;omega
 ·have:=Ay (zJ .j g) (by simp only [zJ];omega);show R5 (ay 21 (zJ .j g))%2=0;unfold R5;omega
theorem sL:CE 101 #[.u j,.u 32] z (.u (ay 32 j)):=ei j 32 ab ab z
theorem sM (a:0<=j) (a1:j<18446744073709551616) (c:0<=r) (f:r<18446744073709551616) (w:A8):CE 119 #[.string ⟨#[100,105,118]⟩,.u j,.u r] w (.u (AF.div.v j r)):=by
 by_cases h:r=0;·have F:Hid (AF.div.v j r=18446744073709551615):=fa;have d:(A5 r==0):=(by simpa using (fA c f).mpr h);exact a0n
 by_cases g:r=18446744073709551615;·have F:Hid (AF.div.v j r=Uz.wrap (-j)):=(by show _=_;simp only [AF.v,JZ9 h];rw [(jw c f).mpr g];exact LE j a a1);have d:(A5 r==0)=false:=sv;have l:(A5 r == -1):=(by simpa using (jw c f).mpr g);exact a0o
 ·have F:Hid (AF.div.v j r=Uz.wrap (A5 ((A5 j).tdiv (A5 r)))):=fa;have d:(A5 r==0)=false:=sv;have l:(A5 r == -1)=false:=(by simpa using λk=>g ((jw c f).mp k));have o:¬ A5 r=0:=λk=>h ((fA c f).mp k);exact a0o
theorem sN (m:0<=j) (a1:j<18446744073709551616) (c:0<=r) (f:r<18446744073709551616) (w:A8):CE 119 #[.string ⟨#[114,101,109]⟩,.u j,.u r] w (.u (AF.rem.v j r)):=by
 by_cases h:r=0;·have F:Hid (AF.rem.v j r=j):=fa;have d:(A5 r==0):=(by simpa using (fA c f).mpr h);exact a0n
 by_cases g:r=18446744073709551615;·have F:Hid (AF.rem.v j r=0):=(by show _=_;simp only [AF.v,JZ9 h];rw [(jw c f).mpr g];exact LF j);have d:(A5 r==0)=false:=sv;have a:(A5 r == -1):=(by simpa using (jw c f).mpr g);exact a0o
 ·have F:Hid (AF.rem.v j r=Uz.wrap ((A5 j).tmod (A5 r))):=fa;have d:(A5 r==0)=false:=sv;have a:(A5 r == -1)=false:=(by simpa using λk=>g ((jw c f).mp k));have o:¬ A5 r=0:=λk=>h ((fA c f).mp k);exact a0o
theorem qq (c:0<=j) (a1:j<18446744073709551616) (f:0<=r) (g:r<18446744073709551616) (w:A8):CE 119 #[.string ⟨#[100,105,118,117]⟩,.u j,.u r] w (.u (AF.divu.v j r)):=by
 by_cases h:r=0;·have F:Hid (AF.divu.v j r=18446744073709551615):=fa;have d:(r==0):=et;exact a0n
 ·have F:Hid (AF.divu.v j r=Uz.wrap (j.tdiv r)):=fa;have d:(r==0)=false:=et;clear c a1 f g;go_enter func119,ntmps119;exact a09
theorem qr (c:0<=j) (a1:j<18446744073709551616) (f:0<=r) (g:r<18446744073709551616) (w:A8):CE 119 #[.string ⟨#[114,101,109,117]⟩,.u j,.u r] w (.u (AF.remu.v j r)):=by
 by_cases h:r=0;·have F:Hid (AF.remu.v j r=j):=fa;have d:(r==0):=et;exact a0n
 ·have F:Hid (AF.remu.v j r=j.tmod r):=fa;have d:(r==0)=false:=et;clear c a1 f g;go_enter func119,ntmps119;exact a09
abbrev O3 (a b:Int) (w:A8) (s:Array UInt8) (k:Nat):Prop:=CE 102 #[.string ⟨s⟩,.u a,.u b] w (.u ((oG k).v a b))
def U4 (a b:Int):Prop:=0<=a/\a<18446744073709551616/\0<=b/\b<18446744073709551616
section
variable (a b : Int) (w : A8)
theorem VL:O3 a b w #[97,100,100,105] 0/\O3 a b w #[120,111,114,105] 3/\O3 a b w #[111,114,105] 4/\O3 a b w #[97,110,100,105] 5/\O3 a b w #[97,100,100] 13/\O3 a b w #[115,117,98] 14/\O3 a b w #[120,111,114] 18/\O3 a b w #[111,114] 21/\O3 a b w #[97,110,100] 22/\O3 a b w #[109,117,108] 28:=by
 refine ⟨?_,?_,?_,?_,?_,?_,?_,?_,?_,?_⟩<;>(
  delta O3
  go_enter func102,ntmps102
  go_wp2_with (fail)
  go_ret
  exact ⟨rfl,rfl⟩)
theorem VM:O3 a b w #[115,108,116,105] 1/\O3 a b w #[115,108,116,105,117] 2/\O3 a b w #[115,108,116] 16/\O3 a b w #[115,108,116,117] 17:=by
 refine ⟨?_,?_,?_,?_⟩<;>(
  delta O3
  go_enter func102,ntmps102
  go_wp2_with (go_at_call 48;with_reducible refine (Nx _ _).mono ?_;rintro e c ⟨rfl,rfl⟩)
  go_ret
  exact ⟨rfl,rfl⟩)
theorem VN (g:U4 a b):O3 a b w #[115,108,108,105] 6/\O3 a b w #[115,114,108,105] 7/\O3 a b w #[115,114,97,105] 8/\O3 a b w #[115,108,108] 15/\O3 a b w #[115,114,108] 19/\O3 a b w #[115,114,97] 20:=by
 obtain ⟨j,l,c,d⟩:=g
 have m:C6 .and .u64 b 63=(sh b:Int):=by rw [<- Rx];exact cE b 6 c d ab
 have f:=GP b
 refine ⟨?_,?_,?_,?_,?_,?_⟩<;>(
  delta O3
  go_enter func102,ntmps102
  go_wp2_with (fail)
  go_ret
  exact ⟨rfl,rfl⟩)
theorem VO (l:U4 a b):O3 a b w #[97,100,100,105,119] 9/\O3 a b w #[97,100,100,119] 23/\O3 a b w #[115,117,98,119] 24/\O3 a b w #[109,117,108,119] 36/\O3 a b w #[115,108,108,105,119] 10/\O3 a b w #[115,108,108,119] 25/\O3 a b w #[115,114,108,105,119] 11/\O3 a b w #[115,114,108,119] 26/\O3 a b w #[115,114,97,105,119] 12/\O3 a b w #[115,114,97,119] 27:=by
 obtain ⟨c,d,f,g⟩:=l
 have o:C6 .and .u64 b 31=(LD b:Int):=by rw [<- SJ];exact cE b 5 f g ab
 have j:=SK b
 have m:=lK a c d
 refine ⟨?_,?_,?_,?_,?_,?_,?_,?_,?_,?_⟩<;>(
  delta O3
  go_enter func102,ntmps102
  go_wp2_with (go_at_call 101;with_reducible refine (sL _ _).mono ?_;rintro e p ⟨rfl,rfl⟩)
  go_ret
  exact ⟨by first | (rw [Um];rfl) | (rw [Un];rfl) | (rw [Uo];rfl) | (rw [VB];rfl) | (rw [VC];rfl) | (rw [Up];rfl),rfl⟩)
theorem VP (j:U4 a b):O3 a b w #[109,117,108,104,117] 31:=by obtain ⟨c,d,f,g⟩:=j;delta O3;go_enter func102,ntmps102;go_wp2_with (go_at_call 118;with_reducible refine (rv a b c d f g _).mono ?_;rintro e l ⟨rfl,rfl⟩);go_ret;exact a0e
theorem VQ (m:U4 a b):O3 a b w #[100,105,118] 32/\O3 a b w #[100,105,118,117] 33/\O3 a b w #[114,101,109] 34/\O3 a b w #[114,101,109,117] 35:=by
 obtain ⟨f,g,j,l⟩:=m
 have c:=And.intro f g
 have d:=And.intro j l
 refine ⟨?_,?_,?_,?_⟩<;>(
  delta O3
  go_enter func102,ntmps102
  go_wp2_with (go_at_call 119;(first | with_reducible refine (sM a b c.1 c.2 d.1 d.2 _).mono ?_ | with_reducible refine (qq a b c.1 c.2 d.1 d.2 _).mono ?_ | with_reducible refine (sN a b c.1 c.2 d.1 d.2 _).mono ?_ | with_reducible refine (qr a b c.1 c.2 d.1 d.2 _).mono ?_);rintro e o ⟨rfl,rfl⟩)
  go_ret
  exact ⟨rfl,rfl⟩)
theorem VR (f:U4 a b):O3 a b w #[100,105,118,119] 37/\O3 a b w #[114,101,109,119] 39:=by
 obtain ⟨j,l,m,o⟩:=f
 have c:=bo a
 have d:=bo b
 refine ⟨?_,?_⟩<;>(
  delta O3
  go_enter func102,ntmps102
  go_wp2_with (first | (go_at_call 101;with_reducible refine (sL _ _).mono ?_;rintro e g ⟨rfl,rfl⟩) | (go_at_call 119;(first | with_reducible refine (sM (ay 32 a) (ay 32 b) c.1 c.2 d.1 d.2 _).mono ?_ | with_reducible refine (qq (ay 32 a) (ay 32 b) c.1 c.2 d.1 d.2 _).mono ?_ | with_reducible refine (sN (ay 32 a) (ay 32 b) c.1 c.2 d.1 d.2 _).mono ?_ | with_reducible refine (qr (ay 32 a) (ay 32 b) c.1 c.2 d.1 d.2 _).mono ?_);rintro e g ⟨rfl,rfl⟩))
  go_ret
  exact ⟨rfl,rfl⟩)
theorem VS (m:U4 a b):O3 a b w #[100,105,118,117,119] 38/\O3 a b w #[114,101,109,117,119] 40:=by
 obtain ⟨f,g,j,l⟩:=m
 have p:=lK a f g
 have q:=lK b j l
 have c:0<=a%4294967296/\a%4294967296<18446744073709551616:=ab
 have d:0<=b%4294967296/\b%4294967296<18446744073709551616:=ab
 refine ⟨?_,?_⟩<;>(
  delta O3
  go_enter func102,ntmps102
  go_wp2_with (first | (go_at_call 101;with_reducible refine (sL _ _).mono ?_;rintro e o ⟨rfl,rfl⟩) | (go_at_call 119;(first | with_reducible refine (sM (a%4294967296) (b%4294967296) c.1 c.2 d.1 d.2 _).mono ?_ | with_reducible refine (qq (a%4294967296) (b%4294967296) c.1 c.2 d.1 d.2 _).mono ?_ | with_reducible refine (sN (a%4294967296) (b%4294967296) c.1 c.2 d.1 d.2 _).mono ?_ | with_reducible refine (qr (a%4294967296) (b%4294967296) c.1 c.2 d.1 d.2 _).mono ?_);rintro e o ⟨rfl,rfl⟩))
  go_ret
  exact ⟨rfl,rfl⟩)
theorem VT (u:U4 a b):O3 a b w #[109,117,108,104] 29/\O3 a b w #[109,117,108,104,115,117] 30:=by
 obtain ⟨o,p,q,r⟩:=u
 have g:Hid ((oG 29).v a b=mE a b):=rfl
 have j:Hid ((oG 30).v a b=gp a b):=rfl
 obtain ⟨y,c⟩:∃ v,v=mE a b:=⟨_,rfl⟩
 obtain ⟨z,e2⟩:∃ v,v=gp a b:=⟨_,rfl⟩
 unfold O3
 rw [g.out,j.out,<- c,<- e2]
 unfold mE gp at c
 unfold gp at e2
 clear g j
 by_cases d:A5 a<0<;>by_cases f:A5 b<0<;>(
  simp only [d,f,if_true,if_false] at c e2
  have l:Hid (y=_):=c
  have m:Hid (z=_):=e2
  clear c e2
  first | have s:decide (A5 a<0):=decide_eq_true d | have s:decide (A5 a<0)=false:=decide_eq_false d
  first | have t:decide (A5 b<0):=decide_eq_true f | have t:decide (A5 b<0)=false:=decide_eq_false f
  clear d f
  refine ⟨?_,?_⟩<;>(
   go_enter func102,ntmps102
   go_wp2_with (go_at_call 118;with_reducible refine (rv a b o p q r _).mono ?_;rintro e A ⟨rfl,rfl⟩)
   go_ret
   exact ⟨by first | (rw [l.out];rfl) | (rw [m.out];rfl),rfl⟩))
end
theorem Nz (hk:M<41) (s:ByteArray) (hs:s=(ce (M+21)).name) (a b:Int) (N:0<=a) (a1:a<18446744073709551616) (O:0<=b) (P:b<18446744073709551616) (w:A8):CE 102 #[.string s,.u a,.u b] w (.u ((oG M).v a b)):=by
 subst hs;have c:U4 a b:=⟨N,a1,O,P⟩;obtain ⟨Q,T,U,V,i,j,o,r,t,A⟩:=VL a b w;obtain ⟨R,S,m,n⟩:=VM a b w;obtain ⟨W,X,Y,l,p,q⟩:=VN a b w c;obtain ⟨Z,u,v,I,d,x,f,y,g,z⟩:=VO a b w c;have D:=VP a b w c;obtain ⟨E,F,G,H⟩:=VQ a b w c;obtain ⟨J,L⟩:=VR a b w c;obtain ⟨K,k⟩:=VS a b w c;obtain ⟨B,C⟩:=VT a b w c;match M,hk with
 | 0,_=>exact Q
 | 1,_=>exact R
 | 2,_=>exact S
 | 3,_=>exact T
 | 4,_=>exact U
 | 5,_=>exact V
 | 6,_=>exact W
 | 7,_=>exact X
 | 8,_=>exact Y
 | 9,_=>exact Z
 | 10,_=>exact d
 | 11,_=>exact f
 | 12,_=>exact g
 | 13,_=>exact i
 | 14,_=>exact j
 | 15,_=>exact l
 | 16,_=>exact m
 | 17,_=>exact n
 | 18,_=>exact o
 | 19,_=>exact p
 | 20,_=>exact q
 | 21,_=>exact r
 | 22,_=>exact t
 | 23,_=>exact u
 | 24,_=>exact v
 | 25,_=>exact x
 | 26,_=>exact y
 | 27,_=>exact z
 | 28,_=>exact A
 | 29,_=>exact B
 | 30,_=>exact C
 | 31,_=>exact D
 | 32,_=>exact E
 | 33,_=>exact F
 | 34,_=>exact G
 | 35,_=>exact H
 | 36,_=>exact I
 | 37,_=>exact J
 | 38,_=>exact K
 | 39,_=>exact L
 | 40,_=>exact k
 | M+41,h=>exact absurd h ab
theorem tQ (z:(Lit.int .i64 j).wf) (o:0<=r) (a1:r<18446744073709551616) (p:0<=s) (q:s<18446744073709551616) (w:A8): CB 74 #[.i j,.u r,.u s] w (.tuple #[.u (nD j r s),.bool (zL j)]):=by
 cases h:zL j with
 | false =>have e:nD j r s=0:=(by simp [nD,h]);rw [e];have c:decide (22<=j/\j<=62)=false:=h;clear h e;go_enter func74,ntmps74;go_wp2_with fail;refine (eH j 22 62 _).mono ?_;rintro e A ⟨rfl,rfl⟩;rw [c];clear c;go_wp2_with fail;go_ret2;exact ⟨rfl,S5 _ _⟩
 | true =>have a:22<=j/\j<=62:=(by simpa [zL] using h);have c:decide (22<=j/\j<=62):=h;obtain ⟨k,rfl⟩:∃ k:Nat,j=(k:Int)+22:=⟨(j-22).toNat,ab⟩;have e:nD ((k:Int)+22) r s=(oG k).v r s:=(by simp [nD,h]);rw [e];have l:jX ((k:Int)+22)=(ce (k+21)).name:=(by have t:rW ((k:Int)+22)=true:=(by simp [rW];omega);have y:((k:Int)+22-1).toNat=k+21:=ab;simp [jX,t,y]);have op:Hid (∀ w,CE 102 #[.string (jX ((k:Int)+22)),.u r,.u s] w (.u ((oG k).v r s))):=Nz k ab _ l r s o a1 p q;obtain ⟨b,m⟩:∃ b,b=jX ((k:Int)+22):=⟨_,rfl⟩;have g:Hid (∀ w,CB 103 #[.i ((k:Int)+22)] w (.string (jX ((k:Int)+22)))):=zI _ z;rw [<- m] at op g;clear h a e l m;go_enter func74,ntmps74;go_wp2_with fail;refine (eH _ 22 62 _).mono ?_;rintro e A ⟨rfl,f⟩;subst f;rw [c];clear c;go_wp2_with fail;refine (g.out _).mono ?_;rintro e B ⟨rfl,u⟩;go_wp2_with fail;refine (op.out _).mono ?_;rintro e C ⟨rfl,rfl⟩;go_wp2_with fail;go_ret2;exact ⟨rfl,u⟩
theorem xQ {c:Array Oper} {rest:List Oper} {o:Oper} {a:Act} {Q:Exit->Act->A8->Prop} {V:F0} {kk:IntKind} (H:Hid (∀ e:A8,(Instr.index 235 f (.int kk g)).run prog e=.ok V e)) (w:o.guard=none) (x i:Operand) (k:o.op=.index 235 x i) (hx:a.eval x=f) (T:a.eval i=.int kk g) (h:wpList prog c Q rest (a.put o.dst V) e):wpList prog c Q (o::rest) a e:=by
 refine wpList_plain w λK d=>?_;have b:(execOp a.eval o).run prog e=.ok (.value V) e:=by simp [execOp,k,hx,T,H.out]
 unfold Oper.wp;rw [b,Oper.upon_value];exact d _ _ h
theorem rx:(z.alloc (.cells #[.i 0,.i 0,.i 0,.i 0,.i 0] 88)).heap[z.heap.size]?=some (.cells #[.i 0,.i 0,.i 0,.i 0,.i 0] 88 (0,0)):=A9 _ _
theorem wJ (Y:0<=j) (h1:j<18446744073709551616) (w:A8): CB 152 #[.u j] w (mj j):=by
 by_cases b:j<4294967296
 ·have d1:decide (4294967295<j)=false:=by simp;omega
  have p:=λk (h:cy j 98 0=some k)=>Ce j k b h
  have d:=λ(h:cy j 98 0=none)=>yE j b h
  have HH:Hid (∀ k,cy j 98 0=some k->mj j=.tuple #[(qP k j).val,.bool true]):=p
  have HM:Hid (cy j 98 0=none->mj j=.tuple #[pY.val,.bool false]):=d
  obtain ⟨V,E⟩:∃ V,V=mj j:=⟨_,rfl⟩
  rw [<- E] at HH HM ⊢
  clear p d E
  go_enter func152,ntmps152
  go_wp2_with fail
  refine (BL _).mono ?_
  rintro e w1 ⟨T,rfl,HT,S⟩
  have hsz:w.heap.size<w1.heap.size:=by have:=S.size;simp at this;omega
  have G0:Hid (w1.heap[w.heap.size]?=some (.cells #[.i 0,.i 0,.i 0,.i 0,.i 0] 88 (0,0))):=by
   show _=_
   rw [S.block _ di];exact rx w
  have H:Bw w w1:=(bal _ _).trans (S.mono di)
  clear S
  go_wp2_with fail
  go_loopw [13] (λi wr=>∃ k:Nat,k<=98/\i=.i k/\Hid (cy j (98-k) k=cy j 98 0) /\
   Hid (wr.heap[w.heap.size]?=some (.cells #[.i 0,.i 0,.i 0,.i 0,.i 0] 88 (0,0)))/\Bw w wr)
   (λi _=>98-(intOf i).toNat)
  case atStart=>exact ⟨0,ab,rfl,(rfl:cy j (98-0) 0=cy j 98 0),G0,H⟩
  case round =>
   obtain ⟨k,hk,rfl,hf,G,I⟩:=hrel
   clear G0 H
   by_cases l:k<98
   ·have RO:=GS k l
    have q:=LS k (ce k) RO j Y b
    obtain ⟨r,g⟩:∃ r,r=ce k:=⟨_,rfl⟩
    have hr:Hid (r=ce k):=g
    rw [<- g] at q
    have MB:decide (fO k r.fm r.op r.f3 r.more j)=mH k j:=by rw [g];rfl
    rw [MB] at q
    have c:=vF ((k:Int)+1) r.fm j Y h1
    have IM:A5 (ay r.fm.width (qO j r.fm.pcs))=n8 r.fm j:=by rw [Ps r.fm j Y b];rfl
    rw [IM] at c
    have X:Hid (I3 #[.i ((k:Int)+1),.i (LO r.fm j),.i (aV r.fm j),.i (bV r.fm j),.i (n8 r.fm j)]=(qP k j).val):=by
     show _=_
     rw [g];rfl
    clear g MB IM RO
    obtain ⟨W,f,o,m3,m⟩:=r
    simp only [Row.f3z] at q
    obtain ⟨z,hz⟩:∃ z:Int,z=if m3<0 then 0 else m3:=⟨_,rfl⟩
    rw [<- hz] at q
    have x:=vE ((k:Int)+1) W f o z m
    obtain ⟨MM,D⟩:∃ M,M=i9 ((k:Int)+1) f:=⟨_,rfl⟩
    obtain ⟨BB,C⟩:∃ B,B=vD f o z m:=⟨_,rfl⟩
    rw [<- D,<- C] at q x
    simp only at c X
    obtain ⟨s,hs⟩:∃ s,s=f.str:=⟨_,rfl⟩
    obtain ⟨y1,N⟩:∃ y,y=LO f j:=⟨_,rfl⟩
    obtain ⟨y2,O⟩:∃ y,y=aV f j:=⟨_,rfl⟩
    obtain ⟨y3,P⟩:∃ y,y=bV f j:=⟨_,rfl⟩
    obtain ⟨y4,Q⟩:∃ y,y=n8 f j:=⟨_,rfl⟩
    rw [<- hs] at x c
    rw [<- N,<- O,<- P,<- Q] at c X
    have RF:Hid (∀ w:A8,CB 185 #[.i ((k:Int)+1),.string s,.u j] w (.agg #[.i ((k:Int)+1),.i y1,.i y2,.i y3,.i y4])):=c
    have RP:Hid (∀ w:A8,CB 184 #[.i ((k:Int)+1),.agg #[.string W,.string s,.u o,.u z,.u m]] w (.tuple #[.u MM,.u BB])):=x
    have IX:∀ w:A8,(Instr.index 235 T (.i (k:Int))).run prog w=.ok (.agg #[.string W,.string s,.u o,.u z,.u m]) w:=by
     intro w
     rw [tl HT .i64 k l _ hr w,hs,hz];rfl
    clear N O P Q c x D C hs hz hr
    have A:Hid (∀ w:A8,(Instr.index 235 T (.i (k:Int))).run prog w=.ok (.agg #[.string W,.string s,.u o,.u z,.u m]) w):=IX
    clear IX HT
    go_wp2_with (refine xQ A rfl _ _ rfl rfl rfl ?_)
    refine (RP.out _).mono ?_
    rintro e w2 ⟨rfl,t⟩
    clear RP A
    have L:Bw wr w2:=(bal _ _).trans (t.mono di)
    have c1:w2.cell? ⟨wr.heap.size,1,none⟩=some (.string s):=by
     rw [t.cell di]
     rw [C5 _ _ _ _ _ _ (A9 _ _)];rfl
    have G2:Hid (w2.heap[w.heap.size]?=some (.cells #[.i 0,.i 0,.i 0,.i 0,.i 0] 88 (0,0))):=dp L G.out
    have J:=aa I L
    clear t
    cases U:mH k j with
    | true =>
      rw [U] at q
      have F:Hid (V=.tuple #[(qP k j).val,.bool true]):=HH.out k (hf.out.symm.trans (tB j k l U))
      go_wp2_with fail
      refine (RF.out _).mono ?_
      rintro e w3 ⟨rfl,K⟩
      have u:w3.heap[w.heap.size]?=some (.cells #[.i 0,.i 0,.i 0,.i 0,.i 0] 88 (0,0)):=dp K G2.out
      have Z:=aa J K
      go_wp2_with (refine A6 rfl 88 (.tmp 2) (.tmp 34) rfl rfl w.heap.size #[.i ((k:Int)+1),.i y1,.i y2,.i y3,.i y4] rfl rfl 88 _ u fR rfl (oI _ _ _ _ _) ?_)
      refine D2 (gL results152 _ _ _ _ _ _ _ rfl (D1 _ _ _ _ _ _ u) underlying88 rfl fR) rfl ⟨?_,?_⟩
      ·rw [F.out,<- X.out];rfl
      ·exact aK Z (H8 _) _
    | false =>
      rw [U] at q
      have F:Hid (cy j (98-(k+1)) (k+1)=cy j 98 0):=(qQ j k l U).symm.trans hf.out
      clear RF
      go_wp2_with fail
      go_roundw
      case rel=>exact ⟨k+1,ab,by go_num,F,G2,J⟩
      case measure=>simp [intOf];omega
   ·have hk2:k=98:=by omega
    subst hk2
    have F:Hid (V=.tuple #[pY.val,.bool false]):=HM.out hf.out.symm
    have u:=G.out
    go_wp2_with (refine A6 rfl 88 (.tmp 2) (.tmp 36) rfl rfl w.heap.size #[.i 0,.i 0,.i 0,.i 0,.i 0] rfl rfl 88 _ u fR rfl (oI _ _ _ _ _) ?_)
    refine D2 (gL results152 _ _ _ _ _ _ _ rfl (D1 _ _ _ _ _ _ u) underlying88 rfl fR) rfl ⟨?_,?_⟩
    ·rw [F.out];rfl
    ·exact aK I (H8 _) _
 ·have d1:decide (4294967295<j):=by simp;omega
  have F:Hid (mj j=.tuple #[pY.val,.bool false]):=Cd j b
  obtain ⟨V,E⟩:∃ V,V=mj j:=⟨_,rfl⟩
  rw [<- E] at F ⊢
  clear E
  go_enter func152,ntmps152
  go_wp2_with fail
  refine D2 (gL results152 _ _ _ _ _ _ _ rfl (rx w) underlying88 rfl fR) rfl ⟨?_,?_⟩
  ·rw [F.out];rfl
  ·exact bal _ _
theorem CY (t:M<98) (c:ByteArray) (f:Fm) (o z m x:Int) (b:0<=x) (s:x<4294967296) (hx:Hid (f=.x->0<=o/\o<128/\0<=m/\m<4096)) (w:A8): CB 98 #[.i M,.agg #[.string c,.string f.str,.u o,.i z,.u m],.u x] w (.bool (decide (fO M f o z m x))):=by
 have g:C6 .and .u64 x 127=x%128:=cE x 7 b ab bc
 have j:C6 .and .u64 (x/4096) 7=x/4096%8:=cE (x/4096) 3 ab ab bc
 have l:C6 .and .u64 (x/128) 31=x/128%32:=cE (x/128) 5 ab ab bc
 have p:C6 .and .u64 (x/1048576) 31=x/1048576%32:=cE (x/1048576) 5 ab ab bc
 cases f
 case x =>
  have H:=hx.out rfl
  have q:Uz.wrap (m*1048576)=m*1048576:=by rw [R6];omega
  have r:C6 .or .u64 (m*1048576) o=m*1048576+o:=by
   rw [u64_or _ _ ab ab ab ab]
   rw [nat_join 20 _ _ ab ab];omega
  clear H
  simp only [Fm.str]
  go_enter func98,ntmps98
  go_wp2_with fail
  all_goals go_ret
  all_goals refine ⟨?_,bal _ _⟩
  all_goals (clear hx;go_tidy;show S2 (I4 _)=S2 (I4 _);congr 2;rw [L0,decide_eq_true_iff];simp only [fO,bne_iff_ne,beq_iff_eq,bne_eq_false_iff_eq,R4,ne_eq,false_iff] at *)
  all_goals omega
 all_goals (
  simp only [Fm.str]
  go_enter func98,ntmps98
  go_wp2_with fail
  all_goals go_ret
  all_goals refine ⟨?_,bal _ _⟩
  all_goals (clear hx;go_tidy;show S2 (I4 _)=S2 (I4 _);congr 2;rw [L0,decide_eq_true_iff];simp only [fO,bne_iff_ne,beq_iff_eq,bne_eq_false_iff_eq,R4,ne_eq,true_iff,false_iff,and_true] at *)
  all_goals omega)
theorem Kh (x:Int) (C:0<=x) (D:x<4294967296) (w:A8): CE 99 #[.string p.str,.u x] w (.i (n8 p x)):=by
 cases p;case i =>simp only [Fm.str];go_enter func99,ntmps99;go_wp2_with fail;refine (ei (x/1048576) 12 bc bc _).mono ?_;exact a0p
 case s =>have d:Uz.wrap (x/33554432*32)=x/33554432*32:=dv;have m:C6 .and .u64 (x/128) 31=x/128%32:=cE (x/128) 5 ab ab bc;have o:C6 .or .u64 (x/33554432*32) (x/128%32)=x/33554432*32+x/128%32:=(by have:=mU (x/33554432*32) (x/128%32) 0 5 ab ab ab ab ab ab;simpa using this);simp only [Fm.str];go_enter func99,ntmps99;go_wp2_with fail;refine (ei (x/33554432*32+x/128%32) 12 bc bc _).mono ?_;exact a0p
 case b =>
  have d:Uz.wrap (x/2147483648*4096)=x/2147483648*4096:=dv;have m:C6 .and .u64 (x/128) 1=x/128%2:=cE (x/128) 1 ab ab bc;have o:Uz.wrap (x/128%2*2048)=x/128%2*2048:=dv;have f:C6 .or .u64 (x/2147483648*4096) (x/128%2*2048)=x/2147483648*4096+x/128%2*2048 :=
   mU (x/2147483648*4096) (x/128%2) 11 1 ab ab ab ab ab ab
  have q:C6 .and .u64 (x/33554432) 63=x/33554432%64:=cE (x/33554432) 6 ab ab bc;have t:Uz.wrap (x/33554432%64*32)=x/33554432%64*32:=dv;have y:C6 .or .u64 (x/2147483648*4096+x/128%2*2048) (x/33554432%64*32)=x/2147483648*4096+x/128%2*2048+x/33554432%64*32 :=
   mU (x/2147483648*4096+x/128%2*2048) (x/33554432%64) 5 6 ab ab ab ab ab ab
  have z:C6 .and .u64 (x/256) 15=x/256%16:=cE (x/256) 4 ab ab bc;have A:Uz.wrap (x/256%16*2)=x/256%16*2:=dv;have l:C6 .or .u64 (x/2147483648*4096+x/128%2*2048+x/33554432%64*32) (x/256%16*2)=x/2147483648*4096+x/128%2*2048+x/33554432%64*32+x/256%16*2 :=
   mU (x/2147483648*4096+x/128%2*2048+x/33554432%64*32) (x/256%16) 1 4 ab ab ab ab ab ab
  simp only [Fm.str];go_enter func99,ntmps99;go_wp2_with fail;refine (ei (x/2147483648*4096+x/128%2*2048+x/33554432%64*32+x/256%16*2) 13 bc bc _).mono ?_;exact a0p
 case u =>have d:Uz.wrap (x/4096*4096)=x/4096*4096:=dv;simp only [Fm.str];go_enter func99,ntmps99;go_wp2_with fail;refine (ei (x/4096*4096) 32 bc bc _).mono ?_;exact a0p
 case j =>
  have d:Uz.wrap (x/2147483648*1048576)=x/2147483648*1048576:=dv;have m:C6 .and .u64 (x/4096) 255=x/4096%256:=cE (x/4096) 8 ab ab bc;have o:Uz.wrap (x/4096%256*4096)=x/4096%256*4096:=dv;have f:C6 .or .u64 (x/2147483648*1048576) (x/4096%256*4096)=x/2147483648*1048576+x/4096%256*4096 :=
   mU (x/2147483648*1048576) (x/4096%256) 12 8 ab ab ab ab ab ab
  have q:C6 .and .u64 (x/1048576) 1=x/1048576%2:=cE (x/1048576) 1 ab ab bc;have t:Uz.wrap (x/1048576%2*2048)=x/1048576%2*2048:=dv;have y:C6 .or .u64 (x/2147483648*1048576+x/4096%256*4096) (x/1048576%2*2048)=x/2147483648*1048576+x/4096%256*4096+x/1048576%2*2048 :=
   mU (x/2147483648*1048576+x/4096%256*4096) (x/1048576%2) 11 1 ab ab ab ab ab ab
  have z:C6 .and .u64 (x/2097152) 1023=x/2097152%1024:=cE (x/2097152) 10 ab ab bc;have A:Uz.wrap (x/2097152%1024*2)=x/2097152%1024*2:=dv;have l:C6 .or .u64 (x/2147483648*1048576+x/4096%256*4096+x/1048576%2*2048) (x/2097152%1024*2)=x/2147483648*1048576+x/4096%256*4096+x/1048576%2*2048+x/2097152%1024*2 :=
   mU (x/2147483648*1048576+x/4096%256*4096+x/1048576%2*2048) (x/2097152%1024) 1 10 ab ab ab ab ab ab
  simp only [Fm.str];go_enter func99,ntmps99;go_wp2_with fail;refine (ei (x/2147483648*1048576+x/4096%256*4096+x/1048576%2*2048+x/2097152%1024*2) 21 bc bc _).mono ?_;exact a0p
 case h =>have d:C6 .and .u64 (x/1048576) 63=x/1048576%64:=cE (x/1048576) 6 ab ab bc;have F:Hid (n8 .h x=x/1048576%64):=pq (x/1048576%64) ab ab;exact a0q
 case w =>have d:C6 .and .u64 (x/1048576) 31=x/1048576%32:=cE (x/1048576) 5 ab ab bc;have F:Hid (n8 .w x=x/1048576%32):=pq (x/1048576%32) ab ab;exact a0q
 case a =>have d:C6 .and .u64 (x/33554432) 3=x/33554432%4:=cE (x/33554432) 2 ab ab bc;have F:Hid (n8 .a x=x/33554432%4):=pq (x/33554432%4) ab ab;exact a0q
 case c =>have F:Hid (n8 .c x=x/1048576):=pq (x/1048576) ab ab;exact a0q
 case r =>have F:Hid (n8 .r x=0):=pq (0) ab ab;exact a0q
 case x =>have F:Hid (n8 .x x=0):=pq (0) ab ab;exact a0q
theorem Qc {r:Row} (h:yD a r):r.fm=.x->0<=r.op/\r.op<128/\0<=r.more/\r.more<4096:=by intro k;simp only [yD,k,N1,JZ6] at h;omega
theorem oX (h0:0<=j) (h1:j<18446744073709551616) (w:A8): CB 68 #[.u j] w (mj j):=by
 by_cases c:j<4294967296
 ·have d1:(j/4294967296 != 0)=false:=by simp;omega
  have HH:Hid (∀ k,cy j 98 0=some k->mj j=.tuple #[(qP k j).val,.bool true]):=λk (h:cy j 98 0=some k)=>Ce j k c h
  have HM:Hid (cy j 98 0=none->mj j=.tuple #[pY.val,.bool false]):=λ(h:cy j 98 0=none)=>yE j c h
  obtain ⟨V,K⟩:∃ V,V=mj j:=⟨_,rfl⟩
  rw [<- K] at HH HM ⊢
  clear K
  go_enter func68,ntmps68
  go_wp2_with fail
  refine (oD _).mono ?_
  rintro e w1 ⟨rfl,R,hb⟩
  have hsz:w.heap.size+1<w1.heap.size:=by have:=R.out.1;simp at this;omega
  have G0:Hid (w1.heap[w.heap.size]?=some (.cells #[.i 0,.i 0,.i 0,.i 0,.i 0] 88 (0,0))):=by
   show _=_
   rw [hb.block _ di];exact rx w
  have L:Bw w w1:=(bal _ _).trans (hb.mono di)
  obtain ⟨g,hg⟩:∃ g,g=(w.alloc (.cells #[.i 0,.i 0,.i 0,.i 0,.i 0] 88)).heap.size:=⟨_,rfl⟩
  rw [<- hg] at R ⊢
  clear hb hg
  go_wp2_with fail
  go_loopw [5] (λi wr=>∃ k:Nat,k<=98/\i=.i k/\Hid (cy j (98-k) k=cy j 98 0)/\Hid (BM wr g) /\
   Hid (wr.heap[w.heap.size]?=some (.cells #[.i 0,.i 0,.i 0,.i 0,.i 0] 88 (0,0)))/\Bw w wr)
   (λi _=>98-(intOf i).toNat)
  case atStart=>exact ⟨0,ab,rfl,(rfl:cy j (98-0) 0=cy j 98 0),R,G0,L⟩
  case round =>
   obtain ⟨k,hk,rfl,hf,B,G,M⟩:=hrel
   clear G0 L R
   by_cases l:k<98
   ·have W:=Qc (GS k l)
    obtain ⟨r,q⟩:∃ r,r=ce k:=⟨_,rfl⟩
    obtain ⟨c0,X,c2,c3,c4⟩:=B.out.2 k l r q
    have MB:decide (fO k r.fm r.op r.f3 r.more j)=mH k j:=by rw [q];rfl
    have U:Hid (I3 #[.i ((k:Int)+1),.i (LO r.fm j),.i (aV r.fm j),.i (bV r.fm j),.i (n8 r.fm j)]=(qP k j).val):=by
     show _=_
     rw [q];rfl
    rw [<- q] at W
    have d:=CY k l r.name r.fm r.op r.f3 r.more j h0 c W
    rw [MB] at d
    clear q MB W
    obtain ⟨nm,f,o,z,m⟩:=r
    simp only at c0 X c2 c3 c4 U d
    obtain ⟨s,O⟩:∃ s,s=f.str:=⟨_,rfl⟩
    rw [<- O] at X d
    obtain ⟨mb,E⟩:∃ b,b=mH k j:=⟨_,rfl⟩
    rw [<- E] at d
    have LM:Hid (∀ w:A8,CB 98 #[.i k,.agg #[.string nm,.string s,.u o,.i z,.u m],.u j] w (.bool mb)):=d
    have I:Hid (mb=mH k j):=E
    have HS:Hid (s=f.str):=O
    clear d E O
    go_wp2_with fail
    refine (LM.out _).mono ?_
    rintro e x ⟨rfl,t⟩
    have D:Bw wr x:=(bal _ _).trans (t.mono di)
    have J:x.cell? ⟨wr.heap.size,1,none⟩=some (.string s):=by
     rw [t.cell di]
     rw [C5 _ _ _ _ _ _ (A9 _ _)];rfl
    have S:x.heap[w.heap.size]?=some (.cells #[.i 0,.i 0,.i 0,.i 0,.i 0] 88 (0,0)):=dp D G.out
    have Z:Hid (BM x g):=BM.below B.out B.out.1 D
    have C:=aa M D
    have N:wr.heap.size<x.heap.size:=by have:=t.size;simp at this;omega
    have Y:∀ o,(x.alloc o).cell? ⟨wr.heap.size,1,none⟩=some (.string s):=λo=>(((S5 x.heap.size x).alloc (H8 _) o).cell (p:=⟨wr.heap.size,1,none⟩) N).trans J
    have H:∀ o,(x.alloc o).heap[w.heap.size]?=some (.cells #[.i 0,.i 0,.i 0,.i 0,.i 0] 88 (0,0)):=λo=>dp ((S5 x.heap.size x).alloc (H8 _) o) S
    have u:Hid (∀ o,(x.alloc o).heap[w.heap.size]?=some (.cells #[.i 0,.i 0,.i 0,.i 0,.i 0] 88 (0,0))):=H
    have T:Hid (x.heap[w.heap.size]?=some (.cells #[.i 0,.i 0,.i 0,.i 0,.i 0] 88 (0,0))):=S
    clear S H
    clear t LM c0 X c2 c3 c4
    cases mb with
    | true =>
      have F:Hid (V=.tuple #[(qP k j).val,.bool true]):=HH.out k (hf.out.symm.trans (tB j k l I.out.symm))
      have A7:C6 .and .u64 (j/128) 31=j/128%32:=cE (j/128) 5 ab ab bc
      have A15:C6 .and .u64 (j/32768) 31=j/32768%32:=cE (j/32768) 5 ab ab bc
      have A20:C6 .and .u64 (j/1048576) 31=j/1048576%32:=cE (j/1048576) 5 ab ab bc
      have O:=HS.out
      subst O
      have A:=Kh f j h0 c
      obtain ⟨y4,P⟩:∃ y,y=n8 f j:=⟨_,rfl⟩
      rw [<- P] at A U
      have LI:Hid (∀ w:A8,CE 99 #[.string f.str,.u j] w (.i y4)):=A
      clear A P HS
      cases f
      all_goals (
       simp only [Fm.str] at J Y LI ⊢
       go_wp2_with fail
       refine (LI.out _).mono ?_
       rintro e w3 ⟨rfl,hw3⟩
       have hw4:=hw3.symm
       subst hw4
       go_wp2_with (refine A6 rfl 88 (.tmp 2) (.tmp 82) rfl rfl w.heap.size _ rfl rfl 88 _ (u.out _) fR rfl (oI _ _ _ _ _) ?_)
       refine D2 (gL results68 _ _ _ _ _ _ _ rfl (D1 _ _ _ _ _ _ (u.out _)) underlying88 rfl fR) rfl ⟨?_,?_⟩
       ·rw [F.out,<- U.out];rfl
       ·exact aK (C.alloc C.size _) (H8 _) _)
    | false =>
      have F:Hid (cy j (98-(k+1)) (k+1)=cy j 98 0):=(qQ j k l I.out.symm).symm.trans hf.out
      go_wp2_with fail
      go_roundw
      case rel=>exact ⟨k+1,ab,by go_num,F,Z,T,C⟩
      case measure=>simp [intOf];omega
   ·have hk2:k=98:=by omega
    subst hk2
    have F:Hid (V=.tuple #[pY.val,.bool false]):=HM.out hf.out.symm
    have G3:=G.out
    go_wp2_with (refine A6 rfl 88 (.tmp 2) (.tmp 83) rfl rfl w.heap.size #[.i 0,.i 0,.i 0,.i 0,.i 0] rfl rfl 88 _ G3 fR rfl (oI _ _ _ _ _) ?_)
    refine D2 (gL results68 _ _ _ _ _ _ _ rfl (D1 _ _ _ _ _ _ G3) underlying88 rfl fR) rfl ⟨?_,?_⟩
    ·rw [F.out];rfl
    ·exact aK M (H8 _) _
 ·have d1:(j/4294967296 != 0):=by simp;omega
  have F:Hid (mj j=.tuple #[pY.val,.bool false]):=Cd j c
  obtain ⟨V,K⟩:∃ V,V=mj j:=⟨_,rfl⟩
  rw [<- K] at F ⊢
  clear K
  go_enter func68,ntmps68
  go_wp2_with fail
  refine D2 (gL results68 _ _ _ _ _ _ _ rfl (rx w) underlying88 rfl fR) rfl ⟨?_,?_⟩
  ·rw [F.out];rfl
  ·exact bal _ _
theorem UQ (h:U j) (i:Nat):aw j i=if bt j i=true then 1 else 0:=by
 unfold aw;have d:=lI j h i 1;have b:C6 .and .u64 (j/2^i) 1=de j i 1:=by have:=iD j i 1 h.1 h.2 ab;rw [<- this];rfl
 rw [b];have c:=kL j i 1;have a:=lI j h i 1 0 ab;rw [Nat.zero_add] at a;simp only [Nat.lt_add_one,decide_true,P2] at a;rw [<- a];have e2:de j i 1=0\/de j i 1=1:=by
  have:(2:Int)^1=2:=bc
  omega
 rcases e2 with e|e;·rw [e];rfl
 ·rw [e];rfl
theorem Ib (h:U j) (i:Nat):(aw j i==1)=bt j i:=by rw [UQ j h i];cases bt j i<;>rfl
theorem ry (h:U j) (i:Nat):(aw j i==0)=!bt j i:=by rw [UQ j h i];cases bt j i<;>rfl
theorem nP:bt 0 M=false:=by unfold bt;simp
theorem FI:U 0:=⟨ab,ab⟩
theorem oY (L:List Nat) (c:∀ i,i<64->bt r i=L.contains i) (d:∀ i ∈ L,i<64):(C6 .and .u64 j r==0)=L.all (λi=>!bt j i):=by
 rw [L0,beq_iff_eq,R7];constructor
 ·intro h i a;have b:=aA j r i;rw [h,nP,c i (d i a)] at b;have:L.contains i:=by simpa using a
  rw [this,L6] at b;rw [<- b];rfl
 ·intro h;refine bF _ _ (ah _ _ _) FI λi a=>?_;rw [aA,nP,c i a];cases f:L.contains i with
  | false=>rw [O1]
  | true =>have:=h i kd;rw [L6];simpa using this
theorem RK (L:List Nat) (f:U r) (c:∀ i,i<64->bt r i=L.contains i) (d:∀ i ∈ L,i<64):(C6 .and .u64 j r==r)=L.all (λi=>bt j i):=by
 rw [L0,beq_iff_eq,R7];constructor
 ·intro h i a;have b:=aA j r i;rw [h,c i (d i a)] at b;have:L.contains i:=by simpa using a
  rw [this,L6] at b;exact b.symm
 ·intro h;refine bF _ _ (ah _ _ _) f λi a=>?_;rw [aA,c i a];cases g:L.contains i with
  | false=>rw [O1]
  | true =>rw [h i x9];rfl
theorem RL (L:List Nat) (he:U j) (c:∀ i,i<64->bt r i=L.contains i) (d:∀ i ∈ L,i<64):(C6 .or .u64 j r==j)=L.all (λi=>bt j i):=by
 rw [L0,beq_iff_eq,R7];constructor
 ·intro h i a;have b:=cC j r i;rw [h,c i (d i a)] at b;have:L.contains i:=by simpa using a
  rw [this,Bool.or_true] at b;exact b
 ·intro h;refine bF _ _ (ah _ _ _) he λi a=>?_;rw [cC,c i a];cases f:L.contains i with
  | false=>rw [Bool.or_false]
  | true=>rw [h i kd];rfl
theorem m1:(C6 .and .u64 j 1==0)=!bt j 0:=by rw [oY j 1 [0] cp bc];simp
theorem m2:(C6 .and .u64 j 2==0)=!bt j 1:=by rw [oY j 2 [1] cp bc];simp
theorem m4:(C6 .and .u64 j 4==0)=!bt j 2:=by rw [oY j 4 [2] cp bc];simp
theorem m8:(C6 .and .u64 j 8==0)=!bt j 3:=by rw [oY j 8 [3] cp bc];simp
theorem WR:(C6 .and .u64 j 16==0)=!bt j 4:=by rw [oY j 16 [4] cp bc];simp
theorem WS:(C6 .and .u64 j 10==0)=(!bt j 1&&!bt j 3):=by rw [oY j 10 [1,3] cp bc];simp
theorem VU:(C6 .and .u64 j 208==0)=(!bt j 4&&(!bt j 6&&!bt j 7)):=by rw [oY j 208 [4,6,7] cp bc];simp
theorem WT:(C6 .and .u64 j 262144==0)=!bt j 18:=by rw [oY j 262144 [18] cp bc];simp
theorem WU:(C6 .and .u64 j 524288==0)=!bt j 19:=by rw [oY j 524288 [19] cp bc];simp
theorem WV:(C6 .and .u64 j 131072==0)=!bt j 17:=by rw [oY j 131072 [17] cp bc];simp
theorem m6:(C6 .and .u64 j 6==4)=(!bt j 1&&bt j 2):=by
 have c:∀ i,i<64->bt 6 i=[1,2].contains i/\bt 4 i=[2].contains i:=cp
 rw [L0,beq_iff_eq,N1];constructor;·intro h;have a:=aA j 6 1;have b:=aA j 6 2;rw [h,(c 1 ab).1,(c 1 ab).2] at a;rw [h,(c 2 ab).1,(c 2 ab).2] at b;have f:false=(bt j 1&&true):=a;have g:true=(bt j 2&&true):=b;rw [L6] at f g;rw [<- f,<- g];exact a0e
 ·rintro ⟨m,n⟩;have d:bt j 1=false:=(by simpa using m);refine bF _ _ (ah _ _ _) ⟨ab,ab⟩ λi e=>?_;rw [aA,(c i e).1,(c i e).2];by_cases k:i=1;·subst k;rw [d];rfl
  ·by_cases l:i=2;·subst l;rw [n];rfl
   ·simp [k,l]
theorem WW (he:U j):(C6 .and .u64 j 18428729675200069632==0)=(j/18014398509481984==0):=by
 have f:∀ i,i<64->bt 18428729675200069632 i=decide (54<=i):=cp
 have c:(18014398509481984:Int)=2^54:=bc
 rw [c,L0,beq_iff_eq,beq_iff_eq];constructor
 ·intro h;refine bF _ _ (mq j he 54) FI λi g=>?_;rw [jF j he,nP];by_cases d:64<=i+54;·exact uA _ _ d
  ·have a:=aA j 18428729675200069632 (i+54);rw [h,nP,f _ ab] at a;simpa using a.symm
 ·intro h;refine bF _ _ (ah _ _ _) FI λi g=>?_;rw [aA,nP,f i g];by_cases b:54<=i;·have a:=jF j he 54 (i-54);rw [h,nP,Nat.sub_add_cancel b] at a;rw [<- a];rfl
  ·simp [b]
def Qd (e:Int):Bool:=(C6 .and .u64 e 1==0)||(C6 .and .u64 e 6==4)||(C6 .and .u64 e 18428729675200069632 != 0)
theorem Tl (he:U j):Qd j=pQ j:=by unfold Qd pQ;rw [ry j he,Ib j he,m6,bne,bne,WW j he]
theorem Qe (he:U j):(C6 .and .u64 j 10 != 0)=!mG j:=by unfold mG;rw [ry j he,ry j he,bne,WS]
theorem Qf (he:U j) (lv:Nat):(((lv:Int)==0)||(C6 .and .u64 j 208 != 0))=kY j lv:=by
 unfold kY;have c:(16:Int)=2^4:=bc
 have a:=Ib j he 4;unfold aw at a;rw [<- c] at a;have b:(C6 .and .u64 (j/64) 3==0)=(!bt j 6&&!bt j 7):=by rw [oY (j/64) 3 [0,1] cp bc];have d:(64:Int)=2^6:=bc;simp only [List.all_cons,List.all_nil,L6];rw [d,jF j he,jF j he]
 rw [bne,bne,VU,a,b];cases ((lv:Int)==0)<;>cases bt j 4<;>cases bt j 6<;>cases bt j 7<;>rfl
theorem wK (he:U j):de j 10 44=fu j:=by rw [<- iD j 10 44 he.1 he.2 ab];rfl
theorem Qg:U (fu j):=ah _ _ _
theorem NA (he:U j) (lv:Nat) (h:lv<=2):(de j 10 (9*lv) != 0)=nE j lv:=by
 unfold nE Jy;have c:=Qg j;have a:=iD (fu j) 0 (9*lv) c.1 c.2 ab;rw [show fu j/2^0=fu j from di] at a;rw [a,<- wK j he];congr 1;refine bF _ _ (tq _ _ _ ab) (tq _ _ _ ab) λi d=>?_;rw [lI j he _ _ _ ab,lI _ (tq _ _ _ ab) _ _ _ ab,lI j he _ _ _ ab];by_cases b:i<9*lv;·simp [b,show i<44 from ab]
 ·simp [b]
def oZ (x k e:Int):Bool:=if k=1 then (C6 .and .u64 e 8 != 0) else if k=2 then ((C6 .and .u64 e 2 != 0)||((C6 .and .u64 x 524288 != 0)&&(C6 .and .u64 e 8 != 0))) else (C6 .and .u64 e 4 != 0)
theorem NB (e:Int) (he:U e) (hx:U (T.getD 0 0)) (b:1<=j) (c:j<=3):oZ (T.getD 0 0) j e=!hZ T j e:=by
 unfold oZ hZ;rw [ry e he,ry e he,ry e he,ry _ hx];simp only [bne,m8,m2,m4,WU];have a:j=1\/j=2\/j=3:=ab
 rcases a with rfl|rfl|rfl;·cases bt e 3<;>rfl
 ·cases bt e 1<;>cases bt e 3<;>cases bt (T.getD 0 0) 19<;>rfl
 ·cases bt e 2<;>rfl
def CZ (x p k e:Int):Bool:=if (C6 .and .u64 e 16==0)=true then (p==1) else ((p==0)||((k != 1)&&(C6 .and .u64 x 262144 != 0)))
theorem NC (k e:Int) (he:U e) (hx:U (T.getD 0 0)) (a:j=0\/j=1):CZ (T.getD 0 0) j k e=!ic T j k e:=by
 unfold CZ ic;rw [ry e he,Ib e he,ry _ hx];simp only [bne,WR,WT];rcases a with rfl|rfl;·cases bt e 4<;>rfl
 ·cases bt e 4<;>cases bt (T.getD 0 0) 18<;>cases (k==1)<;>rfl
def o6 (k:Int):Int:=if k=3 then 192 else 64
theorem Ic:C6 .or .u64 j (o6 r)=cW j r:=by
 unfold o6 cW;by_cases h:r=3;·subst h;have a:∀ i,i<64->bt 192 i=(bt 64 i||bt 128 i):=cp;rw [JZ8 rfl,JZ8 bc];refine bF _ _ (ah _ _ _) (ah _ _ _) λi b=>?_;rw [cC,cC,cC,a i b,Bool.or_assoc]
 ·have:(r==3)=false:=by simpa using h
  rw [JZ9 h,this];rfl
theorem Ie (he:U j):(C6 .and .u64 j (o6 r)==o6 r)=!(cW j r != j):=by
 rw [<- Ic,bne,Bool.not_not];unfold o6;by_cases h:r=3;·rw [JZ8 h,RK j 192 [6,7] ⟨ab,ab⟩ cp bc,RL j 192 [6,7] he cp bc]
 ·rw [JZ9 h,RK j 64 [6] ⟨ab,ab⟩ cp bc,RL j 64 [6] he cp bc]
theorem Qh (va:Int) (he:U j) (hv:U va) (lv:Nat) (h:lv<=2) (e:nE j lv=false):C6 .or .u64 (Uz.wrap (de j 10 44*4096)) (de va 0 (12+9*lv))=gS j va lv:=by
 rw [<- NA j he lv h] at e;have d:de j 10 (9*lv)=0:=by simpa using e
 unfold gS;rw [<- wK j he];have b:∀ i,i<64->bt (Jy (12+9*lv)) i=decide (i<12+9*lv):=by
  have:lv=0\/lv=1\/lv=2:=ab
  rcases this with rfl|rfl|rfl;·decide +kernel
  ·decide +kernel
  ·decide +kernel
 have a:(4096:Int)=2^12:=bc
 refine bF _ _ (ah _ _ _) (ah _ _ _) λi k=>?_;rw [cC,cC,aB _ _ _ k,aA,b i k,lI va hv _ _ _ ab,Nat.add_zero,a,nC _ (tq _ _ _ ab)];by_cases c:i<12+9*lv
 ·simp only [c,decide_true,P2,L6,Bool.not_true,O1,Bool.false_or];by_cases f:12<=i;·have g:=lI j he 10 (9*lv) (i-12) ab;rw [d,nP] at g;rw [lI j he _ _ _ ab];have l:decide (i-12<9*lv):=bv;rw [l,P2] at g;rw [<- g];simp
  ·simp [f]
 ·simp [c]
theorem Tm (h:U (T.getD 15 0)):Uz.wrap (de (T.getD 15 0) 0 44*4096)=n9 T:=by rw [<- iD _ 0 44 h.1 h.2 ab];unfold n9;rw [show T.getD 15 0/2^0=T.getD 15 0 from di];rfl
theorem Tn (hv:U r) (lv:Nat):Uz.wrap (j+Uz.wrap (8*de r (12+9*lv) 9))=bL j r lv:=by rw [<- iD _ (12+9*lv) 9 hv.1 hv.2 ab];rfl
theorem Qi (h:U j):(de j 60 4==0)=(j/1152921504606846976==0):=by
 have b:(1152921504606846976:Int)=2^60:=bc
 have e:de j 60 4=j/2^60:=by unfold de;have a:(2:Int)^4=16:=bc;have e6:(2:Int)^60=1152921504606846976:=bc;rw [a,e6];have:=h.1;have:=h.2;omega
 rw [e,b]
theorem If (b:bm 22 T 1) (hx:gQ M j 8) (g:1<=r) (h:r<=3):vC 22 T 1 j 8 r=aJ T 1 j (bu j 8) r 4 0:=by
 unfold vC;obtain ⟨_,_,c,d,_,_,i,x⟩:=ku hx;have e:bu j 8=j+7:=by unfold bu;rw [R6,R6,R6];omega
 have a:decide (bu j 8<j)=false:=by rw [e];simp;omega
 have f:decide (1<=r/\r<=3):=by simp;omega
 rw [b,a,f];rfl
theorem C9 (zs:List Int) (x:Int) (w:A8) (hz:zs.length=M) (hn:M<=1048576) (hs:Sl .u8 w L zs) (cap:gQ M (2147483648+(y:Int)) (B:Int)) (H:0<=x) (hx1:x<=18446744073709551615): D3 prog 175 #[.slice L M m,.u (2147483648+(y:Int)),.i (B:Int),.u x] w λe n=>e=.returned (.tuple #[.slice (some ⟨w.heap.size,0,none⟩) M M,.bool true]) /\ n.ownsRow w.heap.size 5 1 (.slice (some ⟨w.heap.size,0,none⟩) M M) M ((kU zs y x B).map (K0 .u8))/\Bw w n:=by
 have f:Hid (zs.length=M):=hz;obtain ⟨hr,hsz,S,T,Y,Z,W,X⟩:=ku cap;have R:0<=2147483648+(y:Int):=ab
 have C:2147483648+(y:Int)<=18446744073709551615:=ab
 clear hz;have Q:Hid (fd M (2147483648+(y:Int)) (B:Int)=y):=by show fd M (2147483648+(y:Int)) (B:Int)=y;simp only [fd,cap,if_true];omega
 obtain ⟨b,a,rfl,N,E⟩:=hs 0 (by have:=f.out;omega);clear E;obtain ⟨P,O,J,A,K⟩:=info_parts info5;have z:(prog.info? 5).map (·.size)=some 1:=by rw [O];simp [A]
 have u:P.bytes*M<=281474976710656:=by rw [K];omega
 have D:M<=maxLen:=by unfold maxLen;omega
 go_enter func175,ntmps175;go_wp2_with (first | (go_at_call 200;refine (lz _ _ _ _ _ _ hn R C).mono ?_;rw [Q.out];rintro e n ⟨rfl,F⟩;have G:=F.symm;subst G) | (at_make;refine wpList_make_full _ rfl (.tmp 24) (.tmp 24) 22 rfl w.heap.size 5 P (.int .u8 0) 1 underlying22 O J A .i64 .i64 _ _ M rfl rfl rfl rfl u D (H8 _) ?_;intro w1 q d) | (refine mS rfl (.tmp 26) (.tmp 27) 22 rfl 5 underlying22 z .u8 w.heap.size w.heap.size M M b a m zs _ rfl rfl q (hs.below ((S5 _ _).grown d (H8 _) wl)) f.out ?_;intro w2 o g));have l:Bw w w2:=Below.grown ((S5 _ _).grown d (H8 _) wl) g d.size (by intro k h;cases h;exact H8 _);clear q d g hs;go_loopw [30] (λi wr=>∃ j:Nat,j<=B/\i=.i (j:Int)/\wr.ownsRow w.heap.size 5 1 (.slice (some ⟨w.heap.size,0,none⟩) M M) M ((kU zs y x j).map (K0 .u8))/\Bw w wr)
  (λi _=>B-(intOf i).toNat)
 case atStart=>exact ⟨0,I2 _,rfl,o,l⟩
 case round =>
  obtain ⟨j,hj,rfl,c,p⟩:=hrel;clear o l;by_cases V:j<B
  ·have U:wr.frozen? ⟨w.heap.size,y+j,none⟩=false:=c.frozenAt (y+j);have t:=(c.stored (y+j) (.int .u8 (x/256^j%256))).1;obtain ⟨v3,hv3⟩:∃ v,wr.cell? ⟨w.heap.size,y+j,none⟩=some v:=(by rw [c.cellAt (y+j) ab];exact ⟨_,R8 (by rw [List.length_map,jA,f.out];omega)⟩);rw [qj] at t;have r:(wr.setCell ⟨w.heap.size,y+j,none⟩ (.int .u8 (x/256^j%256))).ownsRow w.heap.size 5 1 (.slice (some ⟨w.heap.size,0,none⟩) M M) M ((kU zs y x (j+1)).map (K0 .u8)):=t;have s:Bw w (wr.setCell ⟨w.heap.size,y+j,none⟩ (.int .u8 (x/256^j%256))):=p.setCell (H8 _) _;have I:0<=x/256^j:=Int.ediv_nonneg H (Int.le_of_lt (Int.pow_pos ab));clear t c;rw [<- uN] at r s I;go_wp2;go_roundw;case rel=>exact ⟨j+1,ab,by go_num,r,s⟩
   case measure=>simp [intOf];omega
  ·have:j=B:=by omega
   subst this;go_wp2;go_ret2;exact ⟨rfl,c,p⟩
theorem mx (hz:T.length=M) (hs:Sl .u8 z L T): (convert 22 9 (.slice L M m)).run prog z=.ok (.string (strOfNums T)) z:=by
 by_cases h:M=0;·subst h;have d:T=[]:=List.eq_nil_of_length_eq_zero hz;subst d;rw [run_convert_bytes_string z 22 9 5 L 0 m underlying22 underlying5 underlying9];cases L<;>simp [Conv.bytesToString,loadCells,strOfNums]<;>rfl
 ·obtain ⟨b,f,rfl,_,_⟩:=hs 0 ab;refine run_convert_bytes_arg z 22 5 underlying22 underlying5 b f M m T hz (λi l=>?_) 9 underlying9;obtain ⟨k,g,e,_,j⟩:=hs i ab;simp only [Option.some.injEq,Addr.mk.injEq,and_true] at e;obtain ⟨rfl,rfl⟩:=e;exact j
def AF.fn:AF->Nat
 | .sum=>229 | .slt=>230 | .sltu=>231 | .xor=>232 | .or=>233 | .and=>234
 | .sl=>235 | .sr=>236 | .sra=>237 | .sub=>239 | .mul=>240
 | .mulh=>241 | .mulhsu=>242 | .high=>243 | .div=>244 | .divu=>245
 | .rem=>246 | .remu=>247
def SD.fn:SD->Nat
 | .low=>217 | .sgn=>216 | .five=>238
theorem AF.calls (f:AF) (a b:Int) (g:0<=a) (a1:a<18446744073709551616) (c:0<=b) (d:b<18446744073709551616) (w:A8):D3 prog f.fn #[.u a,.u b] w λe h=>e=.returned (.u (f.v a b))/\∃ m,h=w.drewN m:=by
 cases f;·exact bp (yR a b w)
 ·exact bp (wC a b w)
 ·exact bp (Au a b w)
 ·exact bp (yS a b w)
 ·exact bp (CV a b w)
 ·exact bp (yT a b w)
 ·exact nN (xP a b c d w)
 ·exact nN (wA a b c d w)
 ·exact nN (oV a b c d w)
 ·exact bp (sJ a b w)
 ·exact bp (xO a b w)
 ·exact bp (wE a b g a1 c d w)
 ·exact bp (jq a b g a1 c d w)
 ·exact bp (nO a b g a1 c d w)
 ·exact bp (qp a b c d w)
 ·exact bp (sK a b w)
 ·exact bp (wG a b c d w)
 ·exact bp (Av a b w)
theorem SD.calls (s:SD) (x:Int) (a:0<=x) (b:x<18446744073709551616) (w:A8):D3 prog s.fn #[.u x] w λe c=>e=.returned (.u (s.v x))/\∃ m,c=w.drewN m:=by
 cases s;·exact bp (tO x a w)
 ·exact bp (pZ x w)
 ·exact nN (CU x a b w)
def AO.cells:AO->List F0
 | .d f=>[.func (.func f.fn) #[] #[],.nilFunc,.nilFunc]
 | .w f l r=>[.func (.func f.fn) #[] #[],.func (.func l.fn) #[] #[],.func (.func r.fn) #[] #[]]
def aluCells:Array Value:=(Ub.flatMap AO.cells).toArray
def eQ:Array Value:=(List.replicate 123 Value.nilFunc).toArray
theorem jM:eQ.size=123:=by kernel_rfl
theorem dL:aluCells.size=123:=by kernel_rfl
theorem jN:(prog.info? 269).bind (·.zero)=some (.agg eQ):=by kernel_rfl
theorem jO:aluCells.all (·.oneCell'):=by kernel_rfl
theorem iG:(prog.info? 269).map (·.size)=some 123:=by kernel_rfl
theorem AA:Ub.length=41:=by rfl
theorem Da (h:M<41) (j:Nat) (a:j<3):aluCells[M*3+j]?=(oG M).cells[j]?:=by
 have:=vu AO.cells 3 Ub (by intro x _;cases x<;>rfl) M (by rw [AA];exact h) j a;have e:Ub[M]'(by rw [AA];exact h)=oG M:=by simp [oG,List.getD,R8 (show M<Ub.length by rw [AA];exact h)]
 rw [e] at this;rw [<- this];simp [aluCells]
theorem Db:CB 213 #[] z (.agg aluCells):=by go_enter func213,ntmps213;apply wp_seq_k;intro c b;apply wp_region_list;refine cI rfl 269 rfl (some 0) rfl _ jN ?_;apply wpList_nil;refine b _ _ ?_;clear b c;apply wp_seq_k;intro c b;apply wp_region_lit;refine kK 42 0 42 (.p z.heap.size 0) (.agg aluCells) ba ?_;intro m f d j;have g:(z.alloc (.cells (I3 eQ).cells 269)).heap[z.heap.size]?=some (.cells eQ 269 (0,0)):=A9 _ _;refine A6 rfl 269 (.tmp 0) (.tmp 42) rfl rfl z.heap.size aluCells f d 269 eQ g (by rw [iG,dL]) (by rw [jM,dL]) jO ?_;apply wpList_nil;refine b _ _ ?_;clear b c;apply wp_ret;refine D2 (F3 results213 _ _ _ _ _ _ _ f (D1 _ _ _ _ _ _ g) underlying269 rfl (by rw [iG,dL])) j ⟨rfl,?_⟩;exact aK (bal _ _) (H8 _) _
theorem pH:D3 prog 213 #[] z λe a=>∃ T,e=.returned T/\Hid (T=.agg aluCells)/\Bw z a :=
 (Db z).mono λe a h=>⟨.agg aluCells,h.1,(rfl:I3 aluCells=.agg aluCells),h.2⟩
theorem AF.enters (f:AF):(prog.funcs[f.fn]?).map (λa=>(a.name == "runtime.NumGoroutine",a.body.isSome))=some (false,true):=by cases f<;>kernel_rfl
theorem SD.enters (s:SD):(prog.funcs[s.fn]?).map (λa=>(a.name == "runtime.NumGoroutine",a.body.isSome))=some (false,true):=by cases s<;>kernel_rfl
def ND (w:A8) (g:Nat):Prop:=g<w.heap.size/\∀ k,k<41->∀ a b c,(oG k).cells=[a,b,c]->w.cell? ⟨g,k*3,none⟩=some a/\w.cell? ⟨g,k*3+1,none⟩=some b/\w.cell? ⟨g,k*3+2,none⟩=some c
theorem Ig {t:TypeId} (h:e.heap[a]?=some (.cells aluCells t (0,0))):ND e a:=by
 refine ⟨?_,λk c f i l g=>?_⟩
 ·by_cases d:a<e.heap.size;·exact d
  ·rw [Array.getElem?_eq_none ab] at h;cases h
 ·have w:∀ j,j<3->e.cell? ⟨a,k*3+j,none⟩=(oG k).cells[j]?:=(by intro j b;rw [C5 _ _ _ _ _ _ h];exact Da k c j b);rw [g] at w;exact ⟨w 0 bc,w 1 bc,w 2 bc⟩
theorem Dd:(binOp .eql 120 (.func (.func M) #[] #[]) .nilFunc).run prog z=.ok (.bool false) z:=by kernel_rfl
theorem FJ:(binOp .eql 120 .nilFunc .nilFunc).run prog z=.ok (.bool true) z:=by kernel_rfl
theorem tR:(prog.info? 268).map (·.size)=some 3:=by kernel_rfl
theorem NE:(#[I5 (.func M) #[] #[],.func (.func m) #[] #[],.func (.func y) #[] #[]]:Array F0).all (·.oneCell'):=by simp [K1]
theorem NF:(#[I5 (.func M) #[] #[],.nilFunc,.nilFunc]:Array F0).all (·.oneCell'):=by simp [K1]
theorem Ki (hk:M<41) (a b:Int) (z:0<=a) (a1:a<18446744073709551616) (A:0<=b) (I:b<18446744073709551616) (f:AF) (l r:SD) (hr:Hid (oG M=.w f l r)) (w:A8): CB 189 #[.i ((M:Int)+22),.u a,.u b] w (.tuple #[.u (ay 32 (f.v (l.v a) (r.v b))),.bool true]):=by
 have k:A5 ((M:Int)+22-22)=M:=by unfold A5;omega
 have Q:decide ((M:Int)+22<22)=false:=by simp;omega
 have R:decide (41<=(M:Int))=false:=by simp;omega
 have C:=Dd;have J:=m0 f.enters;have K:=m0 l.enters;have L:=m0 r.enters;go_enter func189,ntmps189;go_wp2_with fail;refine (pH _).mono ?_;rintro e j ⟨T,rfl,H,u⟩;have B:(j.alloc (.cells (I3 eQ).cells 269)).heap[j.heap.size]?=some (.cells eQ 269 (0,0)):=A9 _ _;obtain ⟨c,o⟩:∃ c,c=(j.alloc (.cells (I3 eQ).cells 269)).setRow j.heap.size aluCells:=⟨_,rfl⟩;have D:Hid (ND c j.heap.size):=by show ND _ _;rw [o];exact Ig (D1 _ _ _ _ _ _ B)
 have s:Hid (c=(j.alloc (.cells (I3 eQ).cells 269)).setRow j.heap.size aluCells):=o;clear o;have y:(c.alloc (.cells #[.nilFunc,.nilFunc,.nilFunc] 268)).heap[c.heap.size]?=some (.cells #[.nilFunc,.nilFunc,.nilFunc] 268 (0,0)):=A9 _ _;obtain ⟨q,p⟩:∃ q,q=(c.alloc (.cells #[.nilFunc,.nilFunc,.nilFunc] 268)).setRow c.heap.size #[.func (.func f.fn) #[] #[],.func (.func l.fn) #[] #[],.func (.func r.fn) #[] #[]]:=⟨_,rfl⟩;have d:q.heap[c.heap.size]?=some (.cells #[.func (.func f.fn) #[] #[],.func (.func l.fn) #[] #[],.func (.func r.fn) #[] #[]] 268 (0,0)):=by rw [p];exact D1 _ _ _ _ _ _ y
 have S:q.cell? ⟨c.heap.size,0,none⟩=some (.func (.func f.fn) #[] #[]):=C5 _ _ _ _ _ _ d;have U:q.cell? ⟨c.heap.size,1,none⟩=some (.func (.func l.fn) #[] #[]):=C5 _ _ _ _ _ _ d;have e2:q.cell? ⟨c.heap.size,2,none⟩=some (.func (.func r.fn) #[] #[]):=C5 _ _ _ _ _ _ d;have t:Hid (q=(c.alloc (.cells #[.nilFunc,.nilFunc,.nilFunc] 268)).setRow c.heap.size #[.func (.func f.fn) #[] #[],.func (.func l.fn) #[] #[],.func (.func r.fn) #[] #[]]):=p;clear p d;obtain ⟨N,O,P⟩:=D.out.2 M hk _ _ _ (by rw [hr.out];rfl);go_wp2_with (first | refine cI rfl 269 rfl (some 8) rfl _ jN ?_ | (refine A6 rfl 269 (.tmp 8) (.tmp 10) rfl rfl j.heap.size aluCells rfl H.out 269 eQ B (by rw [iG,dL]) (by rw [jM,dL]) jO ?_;rw [<- s.out]) | (refine A6 rfl 268 (.tmp 9) (.tmp 21) rfl rfl c.heap.size #[.func (.func f.fn) #[] #[],.func (.func l.fn) #[] #[],.func (.func r.fn) #[] #[]] rfl rfl 268 _ y tR rfl (NE _ _ _) ?_;rw [<- t.out]));have F:Hid (∀ w:A8,D3 prog l.fn #[.u a] w λe g=>e=.returned (.u (l.v a))/\∃ m,g=w.drewN m):=SD.calls l a z a1;have HR:Hid (∀ w:A8,D3 prog r.fn #[.u b] w λe g=>e=.returned (.u (r.v b))/\∃ m,g=w.drewN m):=SD.calls r b A I;have E:Hid (∀ w:A8,D3 prog f.fn #[.u (l.v a),.u (r.v b)] w λe g=>e=.returned (.u (f.v (l.v a) (r.v b)))/\∃ m,g=w.drewN m):=AF.calls f _ _ (l.bd a z).1 (l.bd a z).2 (r.bd b A).1 (r.bd b A).2;have G:Hid (∀ (x:Int) (w:A8),D3 prog 138 #[.u x,.i 32] w λe g=>e=.returned (.u (ay 32 x))/\∃ m,g=w.drewN m):=λx w=>bp (i8 x 32 ab ab w);go_quiet (first | with_reducible refine T4 (F.out _) | with_reducible refine T4 (HR.out _) | with_reducible refine T4 (E.out _) | with_reducible refine T4 (G.out _ _))
 go_wp2_with fail;go_ret2;refine ⟨rfl,ru ?_ _⟩;rw [t.out,s.out];refine aK (T3 (aK (u.alloc u.size _) u.size _) ?_ _) ?_ _;·rw [D8];exact I1 u.size di
 ·rw [D8];exact I1 u.size di
theorem Kj (hk:M<41) (a b:Int) (A:0<=a) (a1:a<18446744073709551616) (B:0<=b) (C:b<18446744073709551616) (f:AF) (hr:Hid (oG M=.d f)) (w:A8): CB 189 #[.i ((M:Int)+22),.u a,.u b] w (.tuple #[.u (f.v a b),.bool true]):=by
 have E:A5 ((M:Int)+22-22)=M:=by unfold A5;omega
 have J:decide ((M:Int)+22<22)=false:=by simp;omega
 have K:decide (41<=(M:Int))=false:=by simp;omega
 have u:=FJ;have D:=m0 f.enters;go_enter func189,ntmps189;go_wp2_with fail;refine (pH _).mono ?_;rintro e g ⟨T,rfl,z,q⟩;have t:(g.alloc (.cells (I3 eQ).cells 269)).heap[g.heap.size]?=some (.cells eQ 269 (0,0)):=A9 _ _;obtain ⟨c,j⟩:∃ c,c=(g.alloc (.cells (I3 eQ).cells 269)).setRow g.heap.size aluCells:=⟨_,rfl⟩;have y:Hid (ND c g.heap.size):=by show ND _ _;rw [j];exact Ig (D1 _ _ _ _ _ _ t)
 have o:Hid (c=(g.alloc (.cells (I3 eQ).cells 269)).setRow g.heap.size aluCells):=j;clear j;have r:(c.alloc (.cells #[.nilFunc,.nilFunc,.nilFunc] 268)).heap[c.heap.size]?=some (.cells #[.nilFunc,.nilFunc,.nilFunc] 268 (0,0)):=A9 _ _;obtain ⟨m,l⟩:∃ m,m=(c.alloc (.cells #[.nilFunc,.nilFunc,.nilFunc] 268)).setRow c.heap.size #[.func (.func f.fn) #[] #[],.nilFunc,.nilFunc]:=⟨_,rfl⟩;have d:m.heap[c.heap.size]?=some (.cells #[.func (.func f.fn) #[] #[],.nilFunc,.nilFunc] 268 (0,0)):=by rw [l];exact D1 _ _ _ _ _ _ r
 have L:m.cell? ⟨c.heap.size,0,none⟩=some (.func (.func f.fn) #[] #[]):=C5 _ _ _ _ _ _ d;have k:m.cell? ⟨c.heap.size,1,none⟩=some .nilFunc:=C5 _ _ _ _ _ _ d;have e2:m.cell? ⟨c.heap.size,2,none⟩=some .nilFunc:=C5 _ _ _ _ _ _ d;have p:Hid (m=(c.alloc (.cells #[.nilFunc,.nilFunc,.nilFunc] 268)).setRow c.heap.size #[.func (.func f.fn) #[] #[],.nilFunc,.nilFunc]):=l;clear l d;obtain ⟨G,H,I⟩:=y.out.2 M hk _ _ _ (by rw [hr.out];rfl);go_wp2_with (first | refine cI rfl 269 rfl (some 8) rfl _ jN ?_ | (refine A6 rfl 269 (.tmp 8) (.tmp 10) rfl rfl g.heap.size aluCells rfl z.out 269 eQ t (by rw [iG,dL]) (by rw [jM,dL]) jO ?_;rw [<- o.out]) | (refine A6 rfl 268 (.tmp 9) (.tmp 21) rfl rfl c.heap.size #[.func (.func f.fn) #[] #[],.nilFunc,.nilFunc] rfl rfl 268 _ r tR rfl (NF _) ?_;rw [<- p.out]));refine (AF.calls f a b A a1 B C _).mono ?_;rintro e N ⟨rfl,nq,s⟩;subst s;go_wp2_with fail;go_ret2;refine ⟨rfl,ru ?_ _⟩;rw [p.out,o.out];refine aK (T3 (aK (q.alloc q.size _) q.size _) ?_ _) ?_ _;·rw [D8];exact I1 q.size di
 ·rw [D8];exact I1 q.size di
theorem AB (a b:Int) (m:(Lit.int .i64 j).wf) (h:zL j=false) (w:A8): CB 189 #[.i j,.u a,.u b] w (.tuple #[.u 0,.bool false]):=by
 have l:¬ (22<=j/\j<=62):=by simpa [zL] using h
 have p:=Nv m;clear m h;by_cases f:j<22;·have o:decide (j<22):=kd;clear l f;go_enter func189,ntmps189;go_wp2_with fail;refine (pH _).mono ?_;rintro e d ⟨T,rfl,g,c⟩;have op:(d.alloc (.cells (I3 eQ).cells 269)).heap[d.heap.size]?=some (.cells eQ 269 (0,0)):=A9 _ _;go_wp2_with (first | refine cI rfl 269 rfl (some 8) rfl _ jN ?_ | (refine A6 rfl 269 (.tmp 8) (.tmp 10) rfl rfl d.heap.size aluCells rfl g.out 269 eQ op (by rw [iG,dL]) (by rw [jM,dL]) jO ?_));exact a0r
 ·have o:decide (j<22)=false:=kd;have s:A5 (j-22)=j-22:=ob;have r:decide (41<=j-22):=bv;clear l f;go_enter func189,ntmps189;go_wp2_with fail;refine (pH _).mono ?_;rintro e d ⟨T,rfl,g,c⟩;have op:(d.alloc (.cells (I3 eQ).cells 269)).heap[d.heap.size]?=some (.cells eQ 269 (0,0)):=A9 _ _;go_wp2_with (first | refine cI rfl 269 rfl (some 8) rfl _ jN ?_ | (refine A6 rfl 269 (.tmp 8) (.tmp 10) rfl rfl d.heap.size aluCells rfl g.out 269 eQ op (by rw [iG,dL]) (by rw [jM,dL]) jO ?_));exact a0r
theorem tT (op a b:Int) (m:(Lit.int .i64 op).wf) (c:0<=a) (a1:a<18446744073709551616) (g:0<=b) (i:b<18446744073709551616) (w:A8):CB 189 #[.i op,.u a,.u b] w (.tuple #[.u (nD op a b),.bool (zL op)]):=by
 cases h:zL op with
 | false =>have e:nD op a b=0:=(by simp [nD,h]);rw [e];exact AB op a b m h w
 | true =>
   have o:22<=op/\op<=62:=(by simpa [zL] using h);obtain ⟨k,rfl⟩:∃ k:Nat,op=(k:Int)+22:=⟨(op-22).toNat,ab⟩;have e:nD ((k:Int)+22) a b=(oG k).v a b:=(by simp [nD,h]);rw [e];cases j:oG k with
   | d f=>exact Kj k ab a b c a1 g i f j w
   | w f l r=>exact Ki k ab a b c a1 g i f l r j w
theorem uH (hm:y<9223372036854775808):0<=C6 .and .i64 j (y:Int)/\C6 .and .i64 j (y:Int)<=y:=by
 have e:C6 .and .i64 j (y:Int)=A5 (((T5 64 j).toNat &&& y:Nat):Int):=by show IntKind.i64.wrap ((T5 64 j &&& T5 64 (y:Int)).toNat:Int)=_;rw [BitVec.toNat_and,BitVec.ofInt_natCast,BitVec.toNat_ofNat,Nat.mod_eq_of_lt (show y<2^64 by omega)];rw [IntKind.wrap_i64];unfold A5;rfl
 have h:(T5 64 j).toNat &&& y<=y:=Nat.and_le_right;rw [e];unfold A5;omega
structure Code (w0:A8) (a:Option Addr) (n:Nat) (zs:List Int):Prop where
 len:zs.length=n
 few:n<=4096
 sl:Sl .u8 w0 a zs
 bd:∀ y ∈ zs,(Lit.int .u8 y).wf
structure ma (w0 w:A8) (g:Nat) (a:Option Addr) (n cap:Nat):Prop where
 new:w0.heap.size<=g
 below:Bw w0 w
 row:∃ (i:Nat) (h:Int),i<=n/\w.heap[g]?=some (.cells #[.slice a n cap,.i (i:Int),.i h] 70 (0,0))
theorem sO (v:F0):z.grownBy (z.setCell ⟨B,Q,none⟩ v) (some B):=
 ⟨rfl,rfl,rfl,di,λk _ a=>heap_setCell_other _ _ _ _ (by intro h;exact a (by rw [h]))⟩
theorem m7 (row:Option Nat):z.grownBy (z.drewN B) row:=⟨rfl,rfl,rfl,H8 _,λ_ _ _=>rfl⟩
theorem mz (o:Obj) (row:Option Nat):z.grownBy (z.alloc o) row :=
 ⟨rfl,rfl,rfl,di,λk a _=>heap_alloc_old z o a⟩
theorem ma.grown {w':A8} (cap:ma e x a n w b) (d:x.grownBy w' none):ma e w' a n w b:=by
 obtain ⟨i,h,j,c⟩:=cap.row;have m:∀ k o,x.heap[k]?=some o->k<x.heap.size:=by
  intro k o f;by_cases l:k<x.heap.size;·exact l
  ·rw [Array.getElem?_eq_none ab] at f;cases f
 refine ⟨cap.new,?_,i,h,j,?_⟩;·exact ⟨d.os.trans cap.below.os,d.tape.trans cap.below.tape,d.output.trans cap.below.output,I1 cap.below.size d.size,λk f=>(d.block k (Nat.lt_of_lt_of_le f cap.below.size) di).trans (cap.below.block k f)⟩
 ·rw [d.block a (m _ _ c) di];exact c
theorem ma.set2 (c:ma e x a n w b) (v:Int):ma e (x.setCell ⟨a,2,none⟩ (.i v)) a n w b:=by obtain ⟨i,h,d,cap⟩:=c.row;exact ⟨c.new,c.below.setCell c.new _,i,v,d,D4 x a 2 _ _ _ cap⟩
theorem ma.set1 {g:Nat} (c:ma e x g n a w) (j:Nat) (d:j<=a):ma e (x.setCell ⟨g,1,none⟩ (.i (j:Int))) g n a w:=by obtain ⟨i,h,f,b⟩:=c.row;exact ⟨c.new,c.below.setCell c.new _,j,h,d,D4 x g 1 _ _ _ b⟩
theorem ma.dN (c:ma e x a n w b) (m:Nat):ma e (x.drewN m) a n w b:=c.grown (m7 x m none)
theorem FK (d:Code e n w k) (g:A8) (o:ma e g a n w b): D3 prog 38 #[.p a 0] g λj t=>∃ x:Int,j=.returned (.i x)/\0<=x/\x<=255/\ma e t a n w b/\g.grownBy t (some a):=by
 obtain ⟨i,h,G,c⟩:=o.row;have z:=C5 g a 2 _ _ _ c;have F:=G1 g a 2 _ _ c;simp at z;have R:∀ v,(g.setCell ⟨a,2,none⟩ v).heap[a]?=some (.cells #[.slice n w b,.i (i:Int),v] 70 (0,0)):=λv=>D4 g a 2 _ _ v c;have C:∀ v,(g.setCell ⟨a,2,none⟩ v).cell? ⟨a,0,none⟩=some (.slice n w b):=λv=>C5 _ _ _ _ _ _ (R v);have D:∀ v,(g.setCell ⟨a,2,none⟩ v).cell? ⟨a,1,none⟩=some (.i (i:Int)):=λv=>C5 _ _ _ _ _ _ (R v);have E:∀ v,(g.setCell ⟨a,2,none⟩ v).cell? ⟨a,2,none⟩=some v:=λv=>C5 _ _ _ _ _ _ (R v);have B:∀ v,(g.setCell ⟨a,2,none⟩ v).frozen? ⟨a,1,none⟩=false:=λv=>G1 _ _ _ _ _ (R v);have HR:Hid (∀ v,(g.setCell ⟨a,2,none⟩ v).heap[a]?=some (.cells #[.slice n w b,.i (i:Int),v] 70 (0,0))):=R;have l:Hid (ma e g a n w b):=o;have m:Hid (Code e n w k):=d;clear R c o d;by_cases q:i<w
 ·obtain ⟨cap,r,rfl,A,f⟩:=m.out.sl i (by rw [m.out.len];exact q);have u:∀ v,(g.setCell ⟨a,2,none⟩ v).cell? ⟨cap,r+i,none⟩=some (.int .u8 (k.getD i 0)):=λv=>((l.out.below.setCell l.out.new v).cell (by exact A)).trans f;obtain ⟨y,s⟩:∃ y,y=k.getD i 0:=⟨_,rfl⟩;rw [<- s] at u;clear f s;go_enter func38,ntmps38;go_wp2_with fail;go_quiet (fail)
  go_wp2_with fail;go_quiet (fail)
  go_wp2_with fail;go_quiet (fail)
  go_wp2_with fail;have p:A5 ((i:Int)+1)=((i+1:Nat):Int):=(by have:=m.out.few;unfold A5;omega);rw [p];go_ret;refine ⟨_,rfl,(uH _ 255 ab).1,(uH _ 255 ab).2,?_,?_⟩;·exact ((l.out.set2 _).dN _).set1 _ ab
  ·exact aY (aY (sO _ _ _ _) (m7 _ _ _)) (sO _ _ _ _)
 ·go_enter func38,ntmps38;go_wp2_with fail;go_quiet (fail)
  go_wp2_with fail;go_quiet (fail)
  go_wp2_with fail;go_ret;refine ⟨_,rfl,(uH _ 255 ab).1,(uH _ 255 ab).2,?_,?_⟩;·exact ((l.out.set2 _).dN _).dN _
  ·exact aY (aY (sO _ _ _ _) (m7 _ _ _)) (m7 _ _ _)
def Cs (b:A8) (g:Nat) (a:Option Addr) (n cap:Nat) (w w':A8):Prop:=ma b w' g a n cap/\w.grownBy w' (some g)
theorem Cs.trans {w2 w3:A8} (h:Cs e a n w b x w2) (k:Cs e a n w b w2 w3):Cs e a n w b x w3:=⟨k.1,aY h.2 k.2⟩
theorem Cs.refl (h:ma e x a n w b):Cs e a n w b x x:=⟨h,nz _ _⟩
theorem kF {zs:List Int} (cap:Code e n w zs) (g:A8) (l:ma e g a n w b):
 D3 prog 38 #[.p a 0] g λc d=>∃ x:Int,c=.returned (.i x)/\(0<=x/\x<=255)/\Hid (Cs e a n w b g d):=
 (FK cap g l).mono λc d ⟨x,f,h,i,j,k⟩=>⟨x,f,⟨h,i⟩,⟨j,k⟩⟩
theorem az (c:Code e n w k) (m:Int) (hm:0<m) (g:A8) (A:ma e g a n w b): D3 prog 14 #[.p a 0,.i m] g λo J=>∃ x:Int,o=.returned (.i x)/\(0<=x/\x<m)/\Hid (Cs e a n w b g J):=by
 have cap:Hid (Code e n w k):=c;have s:Hid (ma e g a n w b):=A;have L:decide (m<=0)=false:=by simp;omega
 have t:¬ m=0:=ab
 clear c A;by_cases d:m<=256;·have B:decide (m<=256):=lg;go_enter func14,ntmps14;go_wp2_with fail;refine (kF cap.out _ s.out).mono ?_;rintro o K ⟨x,rfl,⟨q,r⟩,C⟩;go_wp2_with fail;go_ret;refine ⟨_,rfl,?_,C⟩;exact ⟨V4 _ t,T6 _ hm⟩
 ·have B:decide (m<=256)=false:=lg;go_enter func14,ntmps14;go_wp2_with fail;refine (kF cap.out _ s.out).mono ?_;rintro o K ⟨x,rfl,⟨q,r⟩,f⟩;go_wp2_with fail;refine (kF cap.out _ f.out.1).mono ?_;rintro o M ⟨y,rfl,⟨F,G⟩,j⟩;go_wp2_with fail;refine (kF cap.out _ j.out.1).mono ?_;rintro o N ⟨z,rfl,⟨H,I⟩,l⟩;go_wp2_with fail;refine (kF cap.out _ l.out.1).mono ?_;rintro o O ⟨u,rfl,⟨D,E⟩,p⟩;go_wp2_with fail;go_ret;refine ⟨_,rfl,?_,f.out.trans (j.out.trans (l.out.trans p.out))⟩;exact ⟨V4 _ t,T6 _ hm⟩
theorem bA (cap:Code e n w k) (m:Int) (hm:0<m) (g:A8) (f:ma e g a n w b): D3 prog 15 #[.p a 0,.i m] g λd r=>∃ c:Bool,d=.returned (.bool c)/\Hid (Cs e a n w b g r):=by have l:Hid (Code e n w k):=cap;have j:Hid (ma e g a n w b):=f;clear cap f;go_enter func15,ntmps15;go_wp2_with fail;refine (az l.out m hm _ j.out).mono ?_;rintro d s ⟨x,rfl,⟨p,q⟩,o⟩;go_wp2_with fail;go_ret;exact ⟨_,rfl,o⟩
theorem Qj {zs:List Int} (d:Code z n a zs): D3 prog 12 #[.slice n a M] z λe p=>∃ g,e=.returned (.p g 0)/\Hid (ma z p g n a M):=by
 have m:Hid (Code z n a zs):=d;have s:=d.few;clear d;go_enter func12,ntmps12;go_wp2_with fail;go_loopw [3,4] (λh i wr=>∃ (k:Nat) (x:Int),k<=a/\h=.i x/\i=.i k/\Hid (Bw z wr))
  (λ_ i _=>a-(intOf i).toNat)
 case atStart=>exact ⟨0,_,I2 _,rfl,rfl,S5 _ _⟩
 case round =>
  obtain ⟨k,x,r,rfl,rfl,c⟩:=hrel;by_cases j:k<a
  ·obtain ⟨b,l,rfl,o,f⟩:=m.out.sl k (by rw [m.out.len];exact j);have q:wr.cell? ⟨b,l+k,none⟩=some (.int .u8 (zs.getD k 0)):=(c.out.cell (by exact o)).trans f;clear f;go_wp2_with fail;go_roundw;case rel=>exact ⟨k+1,_,ab,rfl,by go_num,c⟩
   case measure=>simp [intOf];omega
  ·go_wp2_with fail;go_ret;refine ⟨_,rfl,?_⟩;exact ⟨c.out.size,c.out.alloc c.out.size _,0,x,I2 _,A9 _ _⟩
