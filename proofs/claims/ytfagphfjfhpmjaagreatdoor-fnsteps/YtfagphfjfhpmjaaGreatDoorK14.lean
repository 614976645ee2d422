/- Own lemmas. -/
import Derived.Test.YtfagphfjfhpmjaaGreatDoorAut
import Derived.Test.YtfagphfjfhpmjaaGreatDoorK07
set_option maxRecDepth 100000
set_option maxHeartbeats 4000000
namespace Go.Proofs.YtfagphfjfhpmjaaGreatDoor
open Go.RowKit Tryz
open IntKind renaming u64->Uz
set_option linter.unusedVariables false
variable {a w b:Nat} {e x:World} {n:Option Addr} {g:Int} {k:List Int} {f:Value} {c:Program} {l:FuncId} {d:Array Value} {o:Ins} (v:Option Addr) (L M:Nat) (m:Bool) (P:List Int) (T:Fm) (j p r:Int) (s:List Nat) (t:Nat) (y:World) (z B:Nat)
theorem rv (h:Below a e x) (n:Nat):Below a e (x.drewN n):=⟨h.os,h.tape,h.output,h.size,h.block⟩
theorem bu (h:Calls c l d e λv a=>v=.returned f/\a=e):Calls c l d e λv a=>v=.returned f/\∃ m,a=e.drewN m :=
 h.mono λ_ _ h=>⟨h.1,0,h.2⟩
theorem nI (h:Calls c l d e λv a=>v=.returned f/\a=e.drew):Calls c l d e λv a=>v=.returned f/\∃ m,a=e.drewN m :=
 h.mono λ_ _ h=>⟨h.1,1,h.2⟩
theorem mX (h:(prog.funcs[a]?).map (λn=>(n.name == "runtime.NumGoroutine",n.body.isSome))=some (false,true)) (args:Array Value) (w:World):(callFunc a args).run prog w=.ok (.enter a args) w:=by
 cases b:prog.funcs[a]? with
 | none=>rw [b] at h;cases h
 | some n =>rw [b] at h;simp only [Option.map_some,Option.some.injEq,Prod.mk.injEq] at h;have d:n.name≠ "runtime.NumGoroutine":=(by simpa using h.1);obtain ⟨c,e⟩:=Option.isSome_iff_exists.mp h.2;simp [callFunc,b,d,e,mark]
theorem M9 (h:(Lit.int .i64 g).wf=true): -9223372036854775808<=g/\g<=9223372036854775807:=by have b:IntKind.i64.min=-9223372036854775808:=rfl;have a:IntKind.i64.max=9223372036854775807:=rfl;simp only [Lit.wf,Bool.and_eq_true,decide_eq_true_eq] at h;omega
theorem Na (a:0<=j) (b:j<18446744073709551616) (w:World):Calls prog 76 #[.u j,.i 0,.i 6] w λe c=>e=.returned (.u (sh j))/\c=w.drew:=by
 have h:=bG j 0 6 a b ab ab w;have e:dc j 0 6=sh j:=by rw [<- QY];simp [dc]
 rw [e] at h;exact h
theorem CJ (c:0<=j) (d:j<18446744073709551616) (w:World):Calls prog 286 #[.u j] w λe b=>e=.returned (.u (j%32))/\b=w.drew:=by
 have h:∀ w,Calls prog 76 #[.u j,.i 0,.i 5] w λe b=>e=.returned (.u (dc j 0 5))/\b=w.drew:=λw=>bG j 0 5 c d ab ab w;have e:dc j 0 5=j%32:=by simp [dc]
 rw [e] at h;go_enter func286,ntmps286;go_wp2_with fail;refine (h _).mono ?_;exact a0e
theorem JW (b:0<=j) (w:World):CE 250 #[.u j,.i 4] w (.u (j%4294967296)):=by have F:Hid (Uz.wrap (j*2^32)/2^32=j%4294967296):=yh j 4 ab ab b;go_enter func250,ntmps250;go_wp2_with fail;go_ret;exact ⟨by rw [<- F.out];rfl,rfl⟩
theorem tM (b:0<=j) (w:World):CE 265 #[.u j] w (.u (j%4294967296)):=by go_enter func265,ntmps265;go_wp2_with fail;refine (JW j b _).mono ?_;rintro e d ⟨rfl,rfl⟩;exact x8
theorem pU:CE 264 #[.u j] y (.u (au 32 j)):=by go_enter func264,ntmps264;go_wp2_with fail;refine (iQ j 32 ab ab _).mono ?_;rintro e d ⟨rfl,b⟩;subst b;exact x8
theorem yR:CE 277 #[.u j,.u p] y (.u (Uz.wrap (j+p))):=by go_enter func277,ntmps277;exact x8
theorem sE:CE 287 #[.u j,.u p] y (.u (Uz.wrap (j-p))):=by go_enter func287,ntmps287;exact x8
theorem xN:CE 288 #[.u j,.u p] y (.u (Uz.wrap (j*p))):=by go_enter func288,ntmps288;exact x8
theorem yS:CE 280 #[.u j,.u p] y (.u (bits .xor .u64 j p)):=by go_enter func280,ntmps280;exact x8
theorem CL:CE 281 #[.u j,.u p] y (.u (bits .or .u64 j p)):=by go_enter func281,ntmps281;exact x8
theorem yT:CE 282 #[.u j,.u p] y (.u (bits .and .u64 j p)):=by go_enter func282,ntmps282;exact x8
theorem Ao:CE 299 #[.u j,.u p] y (.u p):=by go_enter func299,ntmps299;exact x8
theorem xO (c:0<=p) (d:p<18446744073709551616) (w:World):Calls prog 283 #[.u j,.u p] w λe g=>e=.returned (.u (Uz.wrap (j*2^sh p)))/\g=w.drew:=by have f:=GB p;go_enter func283,ntmps283;go_wp2_with fail;refine (Na p c d _).mono ?_;exact a0f
theorem wH (c:0<=p) (d:p<18446744073709551616) (w:World):Calls prog 284 #[.u j,.u p] w λe g=>e=.returned (.u (j/2^sh p))/\g=w.drew:=by have f:=GB p;go_enter func284,ntmps284;go_wp2_with fail;refine (Na p c d _).mono ?_;exact a0f
theorem oR (c:0<=p) (d:p<18446744073709551616) (w:World):Calls prog 285 #[.u j,.u p] w λe g=>e=.returned (.u (Uz.wrap (wrap64 j/2^sh p)))/\g=w.drew:=by have f:=GB p;go_enter func285,ntmps285;go_wp2_with fail;refine (Na p c d _).mono ?_;exact a0f
theorem tN:CE 296 #[.u j,.u p] y (.bool (j==p)):=by go_enter func296,ntmps296;exact x8
theorem j4:CE 297 #[.u j,.u p] y (.bool (decide (wrap64 j<wrap64 p))):=by go_enter func297,ntmps297;exact x8
theorem lV:CE 298 #[.u j,.u p] y (.bool (decide (j<p))):=by go_enter func298,ntmps298;exact x8
theorem yU:CE 310 #[.bool m] y (.u (Ex m)):=by
 cases m;all_goals go_enter func310,ntmps310
 all_goals go_wp2_with fail
 all_goals go_ret
 all_goals exact ⟨rfl,rfl⟩
theorem Nb:CE 120 #[.bool m] y (.u (Ex m)):=by
 cases m;all_goals go_enter func120,ntmps120
 all_goals go_wp2_with fail
 all_goals go_ret
 all_goals exact ⟨rfl,rfl⟩
theorem wI:CE 278 #[.u j,.u p] y (.u (Ex (decide (wrap64 j<wrap64 p)))):=by go_enter func278,ntmps278;go_wp2_with fail;refine (j4 j p _).mono ?_;rintro e d ⟨rfl,rfl⟩;go_wp2_with fail;refine (yU _ _).mono ?_;exact a0e
theorem Ap:CE 279 #[.u j,.u p] y (.u (Ex (decide (j<p)))):=by go_enter func279,ntmps279;go_wp2_with fail;refine (lV j p _).mono ?_;rintro e d ⟨rfl,rfl⟩;go_wp2_with fail;refine (yU _ _).mono ?_;exact a0e
theorem JX (c:0<=j) (a1:j<18446744073709551616) (d:0<=p) (f:p<18446744073709551616) (w:World): CE 311 #[.u j,.u p] w (.tuple #[.u (kQ j p),.u (Uz.wrap (j*p))]):=by obtain ⟨r,q,b,o,t,u,v,a,e2,e3,e4,e5,e6,e7,l,m⟩:=vE j p c a1 d f;have m1:=lD j c a1;have m2:=lD p d f;go_enter func311,ntmps311;go_wp2;go_ret2;exact a08
theorem nJ (c:0<=j) (a1:j<18446744073709551616) (d:0<=p) (f:p<18446744073709551616) (w:World): CE 291 #[.u j,.u p] w (.u (kQ j p)):=by go_enter func291,ntmps291;go_wp2_with fail;refine (JX j p c a1 d f _).mono ?_;exact a0f
theorem rx (c:0<=j) (a1:j<18446744073709551616) (d:0<=p) (f:p<18446744073709551616) (w:World): CE 201 #[.u j,.u p] w (.u (kQ j p)):=by
 obtain ⟨s,r,q,b,t,u,v,a,e2,e3,e4,e5,e6,e7,o,l⟩:=vE p j d f c a1;have g:kQ p j=kQ j p:=by simp only [kQ,Int.mul_comm]
 rw [Int.mul_comm] at a e2 e3 e4;rw [Int.add_comm] at e7;rw [g] at l;clear g;have m1:=lD j c a1;have m2:=lD p d f;go_enter func201,ntmps201;exact ww
theorem jd (c:0<=j) (a1:j<18446744073709551616) (f:0<=p) (g:p<18446744073709551616) (w:World): CE 290 #[.u j,.u p] w (.u (gm j p)):=by
 by_cases h:wrap64 j<0;·have F:Hid (gm j p=Uz.wrap (kQ j p-p)):=(by show _=_;unfold gm;rw [if_pos h]);have d:decide (wrap64 j<0)=true:=el;clear h;go_enter func290,ntmps290;go_wp2_with fail;refine (nJ j p c a1 f g _).mono ?_;exact a0g
 ·have F:Hid (gm j p=kQ j p):=(by show _=_;unfold gm;rw [if_neg h]);have d:decide (wrap64 j<0)=false:=el;clear h;go_enter func290,ntmps290;go_wp2_with fail;refine (nJ j p c a1 f g _).mono ?_;exact a0g
theorem wJ (c:0<=j) (a1:j<18446744073709551616) (f:0<=p) (g:p<18446744073709551616) (w:World): CE 289 #[.u j,.u p] w (.u (mv j p)):=by
 by_cases h:wrap64 p<0;·have F:Hid (mv j p=Uz.wrap (gm j p-j)):=(by show _=_;unfold mv;rw [if_pos h]);have d:decide (wrap64 p<0)=true:=el;clear h;go_enter func289,ntmps289;go_wp2_with fail;refine (jd j p c a1 f g _).mono ?_;exact a0g
 ·have F:Hid (mv j p=gm j p):=(by show _=_;unfold mv;rw [if_neg h]);have d:decide (wrap64 p<0)=false:=el;clear h;go_enter func289,ntmps289;go_wp2_with fail;refine (jd j p c a1 f g _).mono ?_;exact a0g
theorem qj (c:0<=p) (f:p<18446744073709551616) (w:World): CE 292 #[.u j,.u p] w (.u (AF.div.v j p)):=by
 by_cases h:p=0;·have F:Hid (AF.div.v j p=18446744073709551615):=e8;have d:(p==0)=true:=el;clear h;go_enter func292,ntmps292;exact a03
 ·have F:Hid (AF.div.v j p=Uz.wrap (wrap64 ((wrap64 j).tdiv (wrap64 p)))):=e8;have d:(p==0)=false:=el;have a:¬ wrap64 p=0:=(by rw [fw c f];exact h);clear h;go_enter func292,ntmps292;exact a03
theorem wK (c:0<=p) (f:p<18446744073709551616) (w:World): CE 294 #[.u j,.u p] w (.u (AF.rem.v j p)):=by
 by_cases h:p=0;·have F:Hid (AF.rem.v j p=j):=e8;have d:(p==0)=true:=el;clear h;go_enter func294,ntmps294;exact a03
 ·have F:Hid (AF.rem.v j p=Uz.wrap ((wrap64 j).tmod (wrap64 p))):=e8;have d:(p==0)=false:=el;have a:¬ wrap64 p=0:=(by rw [fw c f];exact h);clear h;go_enter func294,ntmps294;exact a03
theorem sF: CE 293 #[.u j,.u p] y (.u (AF.divu.v j p)):=by
 by_cases h:p=0;·have F:Hid (AF.divu.v j p=18446744073709551615):=e8;have d:(p==0)=true:=el;clear h;go_enter func293,ntmps293;exact a03
 ·have F:Hid (AF.divu.v j p=Uz.wrap (j.tdiv p)):=e8;have d:(p==0)=false:=el;go_enter func293,ntmps293;exact a03
theorem Aq: CE 295 #[.u j,.u p] y (.u (AF.remu.v j p)):=by
 by_cases h:p=0;·have F:Hid (AF.remu.v j p=j):=e8;have d:(p==0)=true:=el;clear h;go_enter func295,ntmps295;exact a03
 ·have F:Hid (AF.remu.v j p=j.tmod p):=e8;have d:(p==0)=false:=el;go_enter func295,ntmps295;exact a03
def OC (op:Int):Bool:=decide (5<=op/\op<=10)
def Kt (op a b:Int):Bool :=
 if op=5 then (a==b) else if op=6 then !(a==b) else if op=7 then decide (wrap64 a<wrap64 b) else if op=8 then !decide (wrap64 a<wrap64 b)
 else if op=9 then decide (a<b) else if op=10 then !decide (a<b) else false
theorem CM (h:OC g=true):g=5\/g=6\/g=7\/g=8\/g=9\/g=10:=by
 have:5<=g/\g<=10:=by simpa [OC] using h
 omega
theorem PS (h:OC g=false) (a b:Int):Kt g a b=false:=by
 have:¬ (5<=g/\g<=10):=by simpa [OC] using h
 unfold Kt;rw [if_neg ab,if_neg ab,if_neg ab,if_neg ab,if_neg ab,if_neg ab]
theorem kL:(prog.info? 301).map (·.size)=some 3:=by kernel_rfl
theorem oS:(#[Value.func (.func 296) #[] #[],.func (.func 297) #[] #[],.func (.func 298) #[] #[]]:Array Value).all (·.oneCell')=true:=by kernel_rfl
theorem wM:CB 262 #[] y (.agg #[.func (.func 296) #[] #[],.func (.func 297) #[] #[],.func (.func 298) #[] #[]]):=by have b:(y.alloc (.cells #[.nilFunc,.nilFunc,.nilFunc] 301)).heap[y.heap.size]?=some (.cells #[.nilFunc,.nilFunc,.nilFunc] 301 (0,0)):=heap_alloc_new _ _;go_enter func262,ntmps262;go_wp2_with (refine wpList_store_rowTo rfl 301 (.tmp 0) (.tmp 4) rfl rfl y.heap.size #[.func (.func 296) #[] #[],.func (.func 297) #[] #[],.func (.func 298) #[] #[]] rfl rfl 301 _ b kL rfl oS ?_);refine bodyPost_ret (results_cell_row results262 _ _ _ _ _ _ _ rfl (setRow_heap _ _ _ _ _ _ b) underlying301 rfl kL) rfl ⟨rfl,?_⟩;exact aF (bal _ _) (Nat.le_refl _) _
theorem kM (h:OC j=true) (w:World): CB 229 #[.i j,.u p,.u r] w (.tuple #[.bool (Kt j p r),.bool true]):=by
 have G:=tN p r
 have e2:=j4 p r
 have e3:=lV p r
 obtain ⟨a,s⟩:∃ c,c=(p==r):=⟨_,rfl⟩
 obtain ⟨q,t⟩:∃ c,c=decide (wrap64 p<wrap64 r):=⟨_,rfl⟩
 obtain ⟨b,u⟩:∃ c,c=decide (p<r):=⟨_,rfl⟩
 have F:Hid (∀ j,Kt j p r=if j=5 then a else if j=6 then !a else if j=7 then q else if j=8 then !q else if j=9 then b else if j=10 then !b else false):=by
  intro j;rw [s,t,u];rfl
 have B:Hid (∀ w:World,CE 296 #[.u p,.u r] w (.bool a)):=by rw [s];exact tN p r
 have C:Hid (∀ w:World,CE 297 #[.u p,.u r] w (.bool q)):=by rw [t];exact j4 p r
 have D:Hid (∀ w:World,CE 298 #[.u p,.u r] w (.bool b)):=by rw [u];exact lV p r
 clear s t u G e2 e3
 rcases CM h with rfl|rfl|rfl|rfl|rfl|rfl
 all_goals
  go_enter func229,ntmps229
  go_wp2_with fail
  refine (wM _).mono ?_
  rintro e f ⟨rfl,y⟩
  have z:(f.alloc (.cells #[.nilFunc,.nilFunc,.nilFunc] 301)).heap[f.heap.size]?=some (.cells #[.nilFunc,.nilFunc,.nilFunc] 301 (0,0)):=heap_alloc_new _ _
  obtain ⟨op,g⟩:∃ op,op=(f.alloc (.cells #[.nilFunc,.nilFunc,.nilFunc] 301)).setRow f.heap.size #[.func (.func 296) #[] #[],.func (.func 297) #[] #[],.func (.func 298) #[] #[]]:=⟨_,rfl⟩
  have m:op.heap[f.heap.size]?=some (.cells #[.func (.func 296) #[] #[],.func (.func 297) #[] #[],.func (.func 298) #[] #[]] 301 (0,0)):=by rw [g];exact setRow_heap _ _ _ _ _ _ z
  have H:op.cell? ⟨f.heap.size,0,none⟩=some (.func (.func 296) #[] #[]):=cell_of_row _ _ _ _ _ _ m
  have I:op.cell? ⟨f.heap.size,1,none⟩=some (.func (.func 297) #[] #[]):=cell_of_row _ _ _ _ _ _ m
  have J:op.cell? ⟨f.heap.size,2,none⟩=some (.func (.func 298) #[] #[]):=cell_of_row _ _ _ _ _ _ m
  have E:Hid (Bw w op):=by rw [g];exact aF (y.alloc y.size _) y.size _
  have o:Hid (op=(f.alloc (.cells #[.nilFunc,.nilFunc,.nilFunc] 301)).setRow f.heap.size #[.func (.func 296) #[] #[],.func (.func 297) #[] #[],.func (.func 298) #[] #[]]):=g
  clear g m
  go_wp2_with (first
   | (refine wpList_store_rowTo rfl 301 (.tmp 8) (.tmp 12) rfl rfl f.heap.size #[.func (.func 296) #[] #[],.func (.func 297) #[] #[],.func (.func 298) #[] #[]] rfl rfl 301 _ z kL rfl oS ?_;rw [<- o.out])
   | (go_at_call 296;with_reducible refine (B.out _).mono ?_;rintro e A ⟨rfl,d⟩;subst d)
   | (go_at_call 297;with_reducible refine (C.out _).mono ?_;rintro e A ⟨rfl,d⟩;subst d)
   | (go_at_call 298;with_reducible refine (D.out _).mono ?_;rintro e A ⟨rfl,d⟩;subst d))
  go_ret2
  exact ⟨bh,E.out⟩
theorem yV:decide (p<=j)=!decide (j<p):=by
 by_cases h:j<p;·simp [h]
 ·simp [h];omega
theorem wO: CE 143 #[.i j,.u p,.u r] y (.tuple #[.bool (Kt j p r),.bool (OC j)]):=by
 cases h:OC j with
 | false =>rw [PS h];have b:¬ (5<=j/\j<=10):=(by simpa [OC] using h);have d5:(j==5)=false:=bv;have d6:(j==6)=false:=bv;have d7:(j==7)=false:=bv;have d8:(j==8)=false:=bv;have d9:(j==9)=false:=bv;have US:(j==10)=false:=bv;clear h b;go_enter func143,ntmps143;go_wp2_with fail;go_ret2;exact a08
 | true =>
   have o:=yV (wrap64 p) (wrap64 r);have a:=yV p r;have q:(p != r)=!(p==r):=rfl;obtain ⟨op,d⟩:∃ c,c=(p==r):=⟨_,rfl⟩;obtain ⟨l,f⟩:∃ c,c=decide (wrap64 p<wrap64 r):=⟨_,rfl⟩;obtain ⟨m,g⟩:∃ c,c=decide (p<r):=⟨_,rfl⟩;have F:Hid (∀ j,Kt j p r=if j=5 then op else if j=6 then !op else if j=7 then l else if j=8 then !l else if j=9 then m else if j=10 then !m else false):=(by intro j;rw [d,f,g];rfl);rw [<- d] at q;rw [<- f] at o;rw [<- g] at a;have t:=d.symm;have u:=f.symm;have w:=g.symm;clear d f g;rcases CM h with rfl|rfl|rfl|rfl|rfl|rfl;all_goals
    go_enter func143,ntmps143
    go_wp2_with fail
    go_ret2
    exact ⟨bh,rfl⟩
theorem Ar:∀ n k x,cD j n k=some x->k<=x/\x<k+n/\mB x j=true:=by
 intro n;induction n with
 | zero=>intro k x h;simp [cD] at h
 | succ n b =>
   intro k x h;rw [cD] at h;split at h;·rename_i a;simp at h;subst h;exact ⟨ab,ab,a⟩
   ·have:=b (k+1) x h;exact ⟨ab,ab,this.2.2⟩
theorem Nc (h:BW g=some o):g<4294967296/\∃ k,k<98/\mB k g=true/\o=qL k g:=by
 unfold BW at h;split at h
 ·rename_i c;cases a:cD g 98 0 with
  | none=>rw [a] at h;simp at h
  | some k =>rw [a] at h;simp at h;obtain ⟨d,e,b⟩:=Ar g 98 0 k a;exact ⟨c,k,ab,b,h.symm⟩
 ·simp at h
theorem ST:0<=Lh T j/\Lh T j<=31:=by have:=kH j 7 5;unfold Lh;split<;>omega
theorem Ul:0<=aV T j/\aV T j<=31:=by have:=kH j 15 5;unfold aV;split<;>omega
theorem Um:0<=bV T j/\bV T j<=31:=by have:=kH j 20 5;unfold bV;split<;>omega
theorem As (h:j%2=0):au 13 j%2=0:=by
 have e:(2:Int)^(64-13)=2251799813685248:=bc
 unfold au;exact a07
theorem At (h:j%2=0):au 21 j%2=0:=by
 have e:(2:Int)^(64-21)=8796093022208:=bc
 unfold au;exact a07
structure jN (i:Ins):Prop where
 op1:1<=i.op
 op98:i.op<=98
 rd0:0<=i.rd
 rd31:i.rd<=31
 a0:0<=i.a
 a31:i.a<=31
 b0:0<=i.b
 b31:i.b<=31
 im0 : -9223372036854775808<=i.imm
 im1:i.imm<9223372036854775808
 even:(i.op=3\/5<=i.op/\i.op<=10)->i.imm%2=0
theorem SU:∀ k,k<98->(k=2\/4<=k/\k<=9)->(ch k).fm=.b\/(ch k).fm=.j:=by
 have h:(List.range 98).all (λk=>!(decide (k=2\/4<=k/\k<=9))||(decide ((ch k).fm=.b\/(ch k).fm=.j)))=true:=ba
 intro k a e;have:=List.all_eq_true.1 h k ri;rw [decide_eq_true e] at this;simpa using this
theorem Au (h:BW g=some o):jN o:=by
 obtain ⟨j,k,f,x,rfl⟩:=Nc h;have a:=ST (ch k).fm g;have b:=Ul (ch k).fm g;have c:=Um (ch k).fm g;have d : -9223372036854775808<=nV (ch k).fm g/\nV (ch k).fm g<9223372036854775808:=by unfold nV RowKit.wrap64;omega
 refine ⟨by show (1:Int)<=(k:Int)+1;omega,by show (k:Int)+1<=98;omega,a.1,a.2,b.1,b.2,c.1,c.2,d.1,d.2,λe=>?_⟩;have e2:k=2\/4<=k/\k<=9:=by have e3:((k:Int)+1=3\/5<=(k:Int)+1/\(k:Int)+1<=10):=e;omega
 show nV (ch k).fm g%2=0;rcases SU k f e2 with q|q<;>rw [q]<;>unfold nV;·have:=As (zI .b g) (by simp only [zI];omega);show RowKit.wrap64 (au 13 (zI .b g))%2=0;unfold RowKit.wrap64;omega
 ·have:=At (zI .j g) (by simp only [zI];omega);show RowKit.wrap64 (au 21 (zI .j g))%2=0;unfold RowKit.wrap64;omega
theorem sG:CE 144 #[.u j,.u 32] y (.u (au 32 j)):=eB j 32 ab ab y
theorem sH (a:0<=j) (a1:j<18446744073709551616) (c:0<=p) (f:p<18446744073709551616) (w:World):CE 202 #[.string ⟨#[100,105,118]⟩,.u j,.u p] w (.u (AF.div.v j p)):=by
 by_cases h:p=0;·have F:Hid (AF.div.v j p=18446744073709551615):=e8;have d:(wrap64 p==0)=true:=(by simpa using (fw c f).mpr h);exact a0h
 by_cases g:p=18446744073709551615;·have F:Hid (AF.div.v j p=Uz.wrap (-j)):=(by show _=_;simp only [AF.v,if_neg h];rw [(jj c f).mpr g];exact Lc j a a1);have d:(wrap64 p==0)=false:=ps;have l:(wrap64 p == -1)=true:=(by simpa using (jj c f).mpr g);exact a0i
 ·have F:Hid (AF.div.v j p=Uz.wrap (wrap64 ((wrap64 j).tdiv (wrap64 p)))):=e8;have d:(wrap64 p==0)=false:=ps;have l:(wrap64 p == -1)=false:=(by simpa using λk=>g ((jj c f).mp k));have o:¬ wrap64 p=0:=λk=>h ((fw c f).mp k);exact a0i
theorem sI (m:0<=j) (a1:j<18446744073709551616) (c:0<=p) (f:p<18446744073709551616) (w:World):CE 202 #[.string ⟨#[114,101,109]⟩,.u j,.u p] w (.u (AF.rem.v j p)):=by
 by_cases h:p=0;·have F:Hid (AF.rem.v j p=j):=e8;have d:(wrap64 p==0)=true:=(by simpa using (fw c f).mpr h);exact a0h
 by_cases g:p=18446744073709551615;·have F:Hid (AF.rem.v j p=0):=(by show _=_;simp only [AF.v,if_neg h];rw [(jj c f).mpr g];exact Ld j);have d:(wrap64 p==0)=false:=ps;have a:(wrap64 p == -1)=true:=(by simpa using (jj c f).mpr g);exact a0i
 ·have F:Hid (AF.rem.v j p=Uz.wrap ((wrap64 j).tmod (wrap64 p))):=e8;have d:(wrap64 p==0)=false:=ps;have a:(wrap64 p == -1)=false:=(by simpa using λk=>g ((jj c f).mp k));have o:¬ wrap64 p=0:=λk=>h ((fw c f).mp k);exact a0i
theorem qk (c:0<=j) (a1:j<18446744073709551616) (f:0<=p) (g:p<18446744073709551616) (w:World):CE 202 #[.string ⟨#[100,105,118,117]⟩,.u j,.u p] w (.u (AF.divu.v j p)):=by
 by_cases h:p=0;·have F:Hid (AF.divu.v j p=18446744073709551615):=e8;have d:(p==0)=true:=el;exact a0h
 ·have F:Hid (AF.divu.v j p=Uz.wrap (j.tdiv p)):=e8;have d:(p==0)=false:=el;clear c a1 f g;go_enter func202,ntmps202;exact a03
theorem ql (c:0<=j) (a1:j<18446744073709551616) (f:0<=p) (g:p<18446744073709551616) (w:World):CE 202 #[.string ⟨#[114,101,109,117]⟩,.u j,.u p] w (.u (AF.remu.v j p)):=by
 by_cases h:p=0;·have F:Hid (AF.remu.v j p=j):=e8;have d:(p==0)=true:=el;exact a0h
 ·have F:Hid (AF.remu.v j p=j.tmod p):=e8;have d:(p==0)=false:=el;clear c a1 f g;go_enter func202,ntmps202;exact a03
abbrev O3 (a b:Int) (w:World) (s:Array UInt8) (k:Nat):Prop:=CE 145 #[.string ⟨s⟩,.u a,.u b] w (.u ((oz k).v a b))
def U4 (a b:Int):Prop:=0<=a/\a<18446744073709551616/\0<=b/\b<18446744073709551616
section
variable (a b : Int) (w : World)
theorem Vf:O3 a b w #[97,100,100,105] 0/\O3 a b w #[120,111,114,105] 3/\O3 a b w #[111,114,105] 4/\O3 a b w #[97,110,100,105] 5/\O3 a b w #[97,100,100] 13/\O3 a b w #[115,117,98] 14/\O3 a b w #[120,111,114] 18/\O3 a b w #[111,114] 21/\O3 a b w #[97,110,100] 22/\O3 a b w #[109,117,108] 28:=by
 refine ⟨?_,?_,?_,?_,?_,?_,?_,?_,?_,?_⟩<;>(
  delta O3
  go_enter func145,ntmps145
  go_wp2_with (fail)
  go_ret
  exact ⟨rfl,rfl⟩)
theorem Vg:O3 a b w #[115,108,116,105] 1/\O3 a b w #[115,108,116,105,117] 2/\O3 a b w #[115,108,116] 16/\O3 a b w #[115,108,116,117] 17:=by
 refine ⟨?_,?_,?_,?_⟩<;>(
  delta O3
  go_enter func145,ntmps145
  go_wp2_with (go_at_call 120;with_reducible refine (Nb _ _).mono ?_;rintro e c ⟨rfl,rfl⟩)
  go_ret
  exact ⟨rfl,rfl⟩)
theorem Vh (g:U4 a b):O3 a b w #[115,108,108,105] 6/\O3 a b w #[115,114,108,105] 7/\O3 a b w #[115,114,97,105] 8/\O3 a b w #[115,108,108] 15/\O3 a b w #[115,114,108] 19/\O3 a b w #[115,114,97] 20:=by
 obtain ⟨j,l,c,d⟩:=g
 have m:bits .and .u64 b 63=(sh b:Int):=by rw [<- QY];exact cI b 6 c d ab
 have f:=GB b
 refine ⟨?_,?_,?_,?_,?_,?_⟩<;>(
  delta O3
  go_enter func145,ntmps145
  go_wp2_with (fail)
  go_ret
  exact ⟨rfl,rfl⟩)
theorem Vi (l:U4 a b):O3 a b w #[97,100,100,105,119] 9/\O3 a b w #[97,100,100,119] 23/\O3 a b w #[115,117,98,119] 24/\O3 a b w #[109,117,108,119] 36/\O3 a b w #[115,108,108,105,119] 10/\O3 a b w #[115,108,108,119] 25/\O3 a b w #[115,114,108,105,119] 11/\O3 a b w #[115,114,108,119] 26/\O3 a b w #[115,114,97,105,119] 12/\O3 a b w #[115,114,97,119] 27:=by
 obtain ⟨c,d,f,g⟩:=l
 have o:bits .and .u64 b 31=(Lb b:Int):=by rw [<- Sm];exact cI b 5 f g ab
 have j:=Sn b
 have m:=lD a c d
 refine ⟨?_,?_,?_,?_,?_,?_,?_,?_,?_,?_⟩<;>(
  delta O3
  go_enter func145,ntmps145
  go_wp2_with (go_at_call 144;with_reducible refine (sG _ _).mono ?_;rintro e p ⟨rfl,rfl⟩)
  go_ret
  exact ⟨by first | (rw [TO];rfl) | (rw [TP];rfl) | (rw [TQ];rfl) | (rw [UY];rfl) | (rw [U1];rfl) | (rw [TS];rfl),rfl⟩)
theorem Vj (j:U4 a b):O3 a b w #[109,117,108,104,117] 31:=by obtain ⟨c,d,f,g⟩:=j;delta O3;go_enter func145,ntmps145;go_wp2_with (go_at_call 201;with_reducible refine (rx a b c d f g _).mono ?_;rintro e l ⟨rfl,rfl⟩);go_ret;exact a08
theorem Vk (m:U4 a b):O3 a b w #[100,105,118] 32/\O3 a b w #[100,105,118,117] 33/\O3 a b w #[114,101,109] 34/\O3 a b w #[114,101,109,117] 35:=by
 obtain ⟨f,g,j,l⟩:=m
 have c:=And.intro f g
 have d:=And.intro j l
 refine ⟨?_,?_,?_,?_⟩<;>(
  delta O3
  go_enter func145,ntmps145
  go_wp2_with (go_at_call 202;(first | with_reducible refine (sH a b c.1 c.2 d.1 d.2 _).mono ?_ | with_reducible refine (qk a b c.1 c.2 d.1 d.2 _).mono ?_ | with_reducible refine (sI a b c.1 c.2 d.1 d.2 _).mono ?_ | with_reducible refine (ql a b c.1 c.2 d.1 d.2 _).mono ?_);rintro e o ⟨rfl,rfl⟩)
  go_ret
  exact ⟨rfl,rfl⟩)
theorem Vl (f:U4 a b):O3 a b w #[100,105,118,119] 37/\O3 a b w #[114,101,109,119] 39:=by
 obtain ⟨j,l,m,o⟩:=f
 have c:=br a
 have d:=br b
 refine ⟨?_,?_⟩<;>(
  delta O3
  go_enter func145,ntmps145
  go_wp2_with (first | (go_at_call 144;with_reducible refine (sG _ _).mono ?_;rintro e g ⟨rfl,rfl⟩) | (go_at_call 202;(first | with_reducible refine (sH (au 32 a) (au 32 b) c.1 c.2 d.1 d.2 _).mono ?_ | with_reducible refine (qk (au 32 a) (au 32 b) c.1 c.2 d.1 d.2 _).mono ?_ | with_reducible refine (sI (au 32 a) (au 32 b) c.1 c.2 d.1 d.2 _).mono ?_ | with_reducible refine (ql (au 32 a) (au 32 b) c.1 c.2 d.1 d.2 _).mono ?_);rintro e g ⟨rfl,rfl⟩))
  go_ret
  exact ⟨rfl,rfl⟩)
theorem Vm (m:U4 a b):O3 a b w #[100,105,118,117,119] 38/\O3 a b w #[114,101,109,117,119] 40:=by
 obtain ⟨f,g,j,l⟩:=m
 have p:=lD a f g
 have q:=lD b j l
 have c:0<=a%4294967296/\a%4294967296<18446744073709551616:=ab
 have d:0<=b%4294967296/\b%4294967296<18446744073709551616:=ab
 refine ⟨?_,?_⟩<;>(
  delta O3
  go_enter func145,ntmps145
  go_wp2_with (first | (go_at_call 144;with_reducible refine (sG _ _).mono ?_;rintro e o ⟨rfl,rfl⟩) | (go_at_call 202;(first | with_reducible refine (sH (a%4294967296) (b%4294967296) c.1 c.2 d.1 d.2 _).mono ?_ | with_reducible refine (qk (a%4294967296) (b%4294967296) c.1 c.2 d.1 d.2 _).mono ?_ | with_reducible refine (sI (a%4294967296) (b%4294967296) c.1 c.2 d.1 d.2 _).mono ?_ | with_reducible refine (ql (a%4294967296) (b%4294967296) c.1 c.2 d.1 d.2 _).mono ?_);rintro e o ⟨rfl,rfl⟩))
  go_ret
  exact ⟨rfl,rfl⟩)
theorem Vn (u:U4 a b):O3 a b w #[109,117,108,104] 29/\O3 a b w #[109,117,108,104,115,117] 30:=by
 obtain ⟨o,p,q,r⟩:=u
 have g:Hid ((oz 29).v a b=mv a b):=rfl
 have j:Hid ((oz 30).v a b=gm a b):=rfl
 obtain ⟨y,c⟩:∃ v,v=mv a b:=⟨_,rfl⟩
 obtain ⟨z,e2⟩:∃ v,v=gm a b:=⟨_,rfl⟩
 unfold O3
 rw [g.out,j.out,<- c,<- e2]
 unfold mv gm at c
 unfold gm at e2
 clear g j
 by_cases d:wrap64 a<0<;>by_cases f:wrap64 b<0<;>(
  simp only [d,f,if_true,if_false] at c e2
  have l:Hid (y=_):=c
  have m:Hid (z=_):=e2
  clear c e2
  first | have s:decide (wrap64 a<0)=true:=decide_eq_true d | have s:decide (wrap64 a<0)=false:=decide_eq_false d
  first | have t:decide (wrap64 b<0)=true:=decide_eq_true f | have t:decide (wrap64 b<0)=false:=decide_eq_false f
  clear d f
  refine ⟨?_,?_⟩<;>(
   go_enter func145,ntmps145
   go_wp2_with (go_at_call 201;with_reducible refine (rx a b o p q r _).mono ?_;rintro e A ⟨rfl,rfl⟩)
   go_ret
   exact ⟨by first | (rw [l.out];rfl) | (rw [m.out];rfl),rfl⟩))
end
theorem Nd (hk:L<41) (s:ByteArray) (hs:s=(ch (L+21)).name) (a b:Int) (N:0<=a) (a1:a<18446744073709551616) (O:0<=b) (P:b<18446744073709551616) (w:World):CE 145 #[.string s,.u a,.u b] w (.u ((oz L).v a b)):=by
 subst hs;have c:U4 a b:=⟨N,a1,O,P⟩;obtain ⟨Q,T,U,V,i,j,o,r,t,A⟩:=Vf a b w;obtain ⟨R,S,m,n⟩:=Vg a b w;obtain ⟨W,X,Y,l,p,q⟩:=Vh a b w c;obtain ⟨Z,u,v,I,d,x,f,y,g,z⟩:=Vi a b w c;have D:=Vj a b w c;obtain ⟨E,F,G,H⟩:=Vk a b w c;obtain ⟨J,k⟩:=Vl a b w c;obtain ⟨K,M⟩:=Vm a b w c;obtain ⟨B,C⟩:=Vn a b w c;match L,hk with
 | 0,_=>exact Q
 | 1,_=>exact R
 | 2,_=>exact S
 | 3,_=>exact T
 | 4,_=>exact U
 | 5,_=>exact V
 | 6,_=>exact W
 | 7,_=>exact X
 | 8,_=>exact Y
 | 9,_=>exact Z
 | 10,_=>exact d
 | 11,_=>exact f
 | 12,_=>exact g
 | 13,_=>exact i
 | 14,_=>exact j
 | 15,_=>exact l
 | 16,_=>exact m
 | 17,_=>exact n
 | 18,_=>exact o
 | 19,_=>exact p
 | 20,_=>exact q
 | 21,_=>exact r
 | 22,_=>exact t
 | 23,_=>exact u
 | 24,_=>exact v
 | 25,_=>exact x
 | 26,_=>exact y
 | 27,_=>exact z
 | 28,_=>exact A
 | 29,_=>exact B
 | 30,_=>exact C
 | 31,_=>exact D
 | 32,_=>exact E
 | 33,_=>exact F
 | 34,_=>exact G
 | 35,_=>exact H
 | 36,_=>exact I
 | 37,_=>exact J
 | 38,_=>exact K
 | 39,_=>exact k
 | 40,_=>exact M
 | L+41,h=>exact absurd h ab
theorem tO (z:(Lit.int .i64 j).wf=true) (o:0<=p) (a1:p<18446744073709551616) (a:0<=r) (q:r<18446744073709551616) (w:World): CB 100 #[.i j,.u p,.u r] w (.tuple #[.u (nv j p r),.bool (zK j)]):=by
 cases h:zK j with
 | false =>have e:nv j p r=0:=(by simp [nv,h]);rw [e];have c:decide (22<=j/\j<=62)=false:=h;clear h e;go_enter func100,ntmps100;go_wp2_with fail;refine (ei j 22 62 _).mono ?_;rintro e A ⟨rfl,rfl⟩;rw [c];clear c;go_wp2_with fail;go_ret2;exact ⟨rfl,Below.refl _ _⟩
 | true =>have b:22<=j/\j<=62:=(by simpa [zK] using h);have c:decide (22<=j/\j<=62)=true:=h;obtain ⟨k,rfl⟩:∃ k:Nat,j=(k:Int)+22:=⟨(j-22).toNat,ab⟩;have e:nv ((k:Int)+22) p r=(oz k).v p r:=(by simp [nv,h]);rw [e];have l:jT ((k:Int)+22)=(ch (k+21)).name:=(by have t:rU ((k:Int)+22)=true:=(by simp [rU];omega);have y:((k:Int)+22-1).toNat=k+21:=ab;simp [jT,t,y]);have op:Hid (∀ w,CE 145 #[.string (jT ((k:Int)+22)),.u p,.u r] w (.u ((oz k).v p r))):=Nd k ab _ l p r o a1 a q;obtain ⟨s,m⟩:∃ s,s=jT ((k:Int)+22):=⟨_,rfl⟩;have g:Hid (∀ w,CB 146 #[.i ((k:Int)+22)] w (.string (jT ((k:Int)+22)))):=zH _ z;rw [<- m] at op g;clear h b e l m;go_enter func100,ntmps100;go_wp2_with fail;refine (ei _ 22 62 _).mono ?_;rintro e A ⟨rfl,f⟩;subst f;rw [c];clear c;go_wp2_with fail;refine (g.out _).mono ?_;rintro e B ⟨rfl,u⟩;go_wp2_with fail;refine (op.out _).mono ?_;rintro e C ⟨rfl,rfl⟩;go_wp2_with fail;go_ret2;exact ⟨rfl,u⟩
theorem xP {c:Array Oper} {rest:List Oper} {o:Oper} {a:Act} {Q:Exit->Act->World->Prop} {V:Value} {kk:IntKind} (H:Hid (∀ e:World,(Instr.index 261 f (.int kk g)).run prog e=.ok V e)) (w:o.guard=none) (x i:Operand) (k:o.op=.index 261 x i) (hx:a.eval x=f) (T:a.eval i=.int kk g) (h:wpList prog c Q rest (a.put o.dst V) e):wpList prog c Q (o::rest) a e:=by
 refine wpList_plain w λK d=>?_;have b:(execOp a.eval o).run prog e=.ok (.value V) e:=by simp [execOp,k,hx,T,H.out]
 unfold Oper.wp;rw [b,Oper.upon_value];exact d _ _ h
theorem ry:(y.alloc (.cells #[.i 0,.i 0,.i 0,.i 0,.i 0] 80)).heap[y.heap.size]?=some (.cells #[.i 0,.i 0,.i 0,.i 0,.i 0] 80 (0,0)):=heap_alloc_new _ _
theorem wP (Y:0<=j) (h1:j<18446744073709551616) (w:World): CB 167 #[.u j] w (mg j):=by
 by_cases b:j<4294967296
 ·have d1:decide (4294967295<j)=false:=by simp;omega
  have p:=λk (h:cD j 98 0=some k)=>BY j k b h
  have d:=λ(h:cD j 98 0=none)=>yC j b h
  have HH:Hid (∀ k,cD j 98 0=some k->mg j=.tuple #[(qL k j).val,.bool true]):=p
  have HM:Hid (cD j 98 0=none->mg j=.tuple #[pS.val,.bool false]):=d
  obtain ⟨V,E⟩:∃ V,V=mg j:=⟨_,rfl⟩
  rw [<- E] at HH HM ⊢
  clear p d E
  go_enter func167,ntmps167
  go_wp2_with fail
  refine (Bu _).mono ?_
  rintro e w1 ⟨T,rfl,HT,S⟩
  have hsz:w.heap.size<w1.heap.size:=by have:=S.size;simp at this;omega
  have G0:Hid (w1.heap[w.heap.size]?=some (.cells #[.i 0,.i 0,.i 0,.i 0,.i 0] 80 (0,0))):=by
   show _=_
   rw [S.block _ cp];exact ry w
  have H:Bw w w1:=(bal _ _).trans (S.mono cp)
  clear S
  go_wp2_with fail
  go_loopw [13] (λi wr=>∃ k:Nat,k<=98/\i=.i k/\Hid (cD j (98-k) k=cD j 98 0) /\
   Hid (wr.heap[w.heap.size]?=some (.cells #[.i 0,.i 0,.i 0,.i 0,.i 0] 80 (0,0)))/\Bw w wr)
   (λi _=>98-(intOf i).toNat)
  case atStart=>exact ⟨0,ab,rfl,(rfl:cD j (98-0) 0=cD j 98 0),G0,H⟩
  case round =>
   obtain ⟨k,hk,rfl,hf,G,I⟩:=hrel
   clear G0 H
   by_cases l:k<98
   ·have RO:=GD k l
    have q:=Ll k (ch k) RO j Y b
    obtain ⟨r,g⟩:∃ r,r=ch k:=⟨_,rfl⟩
    have hr:Hid (r=ch k):=g
    rw [<- g] at q
    have MB:decide (fJ k r.fm r.op r.f3 r.more j)=mB k j:=by rw [g];rfl
    rw [MB] at q
    have c:=vJ ((k:Int)+1) r.fm j Y h1
    have IM:wrap64 (au r.fm.width (qK j r.fm.pcs))=nV r.fm j:=by rw [O5 r.fm j Y b];rfl
    rw [IM] at c
    have X:Hid (Value.agg #[.i ((k:Int)+1),.i (Lh r.fm j),.i (aV r.fm j),.i (bV r.fm j),.i (nV r.fm j)]=(qL k j).val):=by
     show _=_
     rw [g];rfl
    clear g MB IM RO
    obtain ⟨W,f,o,m3,m⟩:=r
    simp only [Row.f3z] at q
    obtain ⟨z,hz⟩:∃ z:Int,z=if m3<0 then 0 else m3:=⟨_,rfl⟩
    rw [<- hz] at q
    have x:=vI ((k:Int)+1) W f o z m
    obtain ⟨MM,D⟩:∃ M,M=iR ((k:Int)+1) f:=⟨_,rfl⟩
    obtain ⟨BB,C⟩:∃ B,B=vH f o z m:=⟨_,rfl⟩
    rw [<- D,<- C] at q x
    simp only at c X
    obtain ⟨s,hs⟩:∃ s,s=f.str:=⟨_,rfl⟩
    obtain ⟨y1,N⟩:∃ y,y=Lh f j:=⟨_,rfl⟩
    obtain ⟨y2,O⟩:∃ y,y=aV f j:=⟨_,rfl⟩
    obtain ⟨y3,P⟩:∃ y,y=bV f j:=⟨_,rfl⟩
    obtain ⟨y4,Q⟩:∃ y,y=nV f j:=⟨_,rfl⟩
    rw [<- hs] at x c
    rw [<- N,<- O,<- P,<- Q] at c X
    have RF:Hid (∀ w:World,CB 224 #[.i ((k:Int)+1),.string s,.u j] w (.agg #[.i ((k:Int)+1),.i y1,.i y2,.i y3,.i y4])):=c
    have RP:Hid (∀ w:World,CB 223 #[.i ((k:Int)+1),.agg #[.string W,.string s,.u o,.u z,.u m]] w (.tuple #[.u MM,.u BB])):=x
    have IX:∀ w:World,(Instr.index 261 T (.i (k:Int))).run prog w=.ok (.agg #[.string W,.string s,.u o,.u z,.u m]) w:=by
     intro w
     rw [th HT .i64 k l _ hr w,hs,hz];rfl
    clear N O P Q c x D C hs hz hr
    have A:Hid (∀ w:World,(Instr.index 261 T (.i (k:Int))).run prog w=.ok (.agg #[.string W,.string s,.u o,.u z,.u m]) w):=IX
    clear IX HT
    go_wp2_with (refine xP A rfl _ _ rfl rfl rfl ?_)
    refine (RP.out _).mono ?_
    rintro e w2 ⟨rfl,t⟩
    clear RP A
    have L:Bw wr w2:=(bal _ _).trans (t.mono cp)
    have c1:w2.cell? ⟨wr.heap.size,1,none⟩=some (.string s):=by
     rw [t.cell cp]
     rw [cell_of_row _ _ _ _ _ _ (heap_alloc_new _ _)];rfl
    have G2:Hid (w2.heap[w.heap.size]?=some (.cells #[.i 0,.i 0,.i 0,.i 0,.i 0] 80 (0,0))):=du L G.out
    have J:=aa I L
    clear t
    cases U:mB k j with
    | true =>
      rw [U] at q
      have F:Hid (V=.tuple #[(qL k j).val,.bool true]):=HH.out k (hf.out.symm.trans (tz j k l U))
      go_wp2_with fail
      refine (RF.out _).mono ?_
      rintro e w3 ⟨rfl,K⟩
      have u:w3.heap[w.heap.size]?=some (.cells #[.i 0,.i 0,.i 0,.i 0,.i 0] 80 (0,0)):=du K G2.out
      have Z:=aa J K
      go_wp2_with (refine wpList_store_rowTo rfl 80 (.tmp 2) (.tmp 34) rfl rfl w.heap.size #[.i ((k:Int)+1),.i y1,.i y2,.i y3,.i y4] rfl rfl 80 _ u fM rfl (oB _ _ _ _ _) ?_)
      refine bodyPost_ret (gI results167 _ _ _ _ _ _ _ rfl (setRow_heap _ _ _ _ _ _ u) underlying80 rfl fM) rfl ⟨?_,?_⟩
      ·rw [F.out,<- X.out];rfl
      ·exact aF Z (Nat.le_refl _) _
    | false =>
      rw [U] at q
      have F:Hid (cD j (98-(k+1)) (k+1)=cD j 98 0):=(qM j k l U).symm.trans hf.out
      clear RF
      go_wp2_with fail
      go_roundw
      case rel=>exact ⟨k+1,ab,by go_num,F,G2,J⟩
      case measure=>simp [intOf];omega
   ·have hk2:k=98:=by omega
    subst hk2
    have F:Hid (V=.tuple #[pS.val,.bool false]):=HM.out hf.out.symm
    have u:=G.out
    go_wp2_with (refine wpList_store_rowTo rfl 80 (.tmp 2) (.tmp 36) rfl rfl w.heap.size #[.i 0,.i 0,.i 0,.i 0,.i 0] rfl rfl 80 _ u fM rfl (oB _ _ _ _ _) ?_)
    refine bodyPost_ret (gI results167 _ _ _ _ _ _ _ rfl (setRow_heap _ _ _ _ _ _ u) underlying80 rfl fM) rfl ⟨?_,?_⟩
    ·rw [F.out];rfl
    ·exact aF I (Nat.le_refl _) _
 ·have d1:decide (4294967295<j)=true:=by simp;omega
  have F:Hid (mg j=.tuple #[pS.val,.bool false]):=BX j b
  obtain ⟨V,E⟩:∃ V,V=mg j:=⟨_,rfl⟩
  rw [<- E] at F ⊢
  clear E
  go_enter func167,ntmps167
  go_wp2_with fail
  refine bodyPost_ret (gI results167 _ _ _ _ _ _ _ rfl (ry w) underlying80 rfl fM) rfl ⟨?_,?_⟩
  ·rw [F.out];rfl
  ·exact bal _ _
theorem CN (t:L<98) (c:ByteArray) (f:Fm) (o z m x:Int) (b:0<=x) (s:x<4294967296) (hx:Hid (f=.x->0<=o/\o<128/\0<=m/\m<4096)) (w:World): CB 141 #[.i L,.agg #[.string c,.string f.str,.u o,.i z,.u m],.u x] w (.bool (decide (fJ L f o z m x))):=by
 have g:bits .and .u64 x 127=x%128:=cI x 7 b ab bc
 have j:bits .and .u64 (x/4096) 7=x/4096%8:=cI (x/4096) 3 ab ab bc
 have l:bits .and .u64 (x/128) 31=x/128%32:=cI (x/128) 5 ab ab bc
 have p:bits .and .u64 (x/1048576) 31=x/1048576%32:=cI (x/1048576) 5 ab ab bc
 cases f
 case x =>
  have H:=hx.out rfl
  have q:Uz.wrap (m*1048576)=m*1048576:=by rw [IntKind.wrap_u64];omega
  have r:bits .or .u64 (m*1048576) o=m*1048576+o:=by
   rw [u64_or _ _ ab ab ab ab]
   rw [nat_join 20 _ _ ab ab];omega
  clear H
  simp only [Fm.str]
  go_enter func141,ntmps141
  go_wp2_with fail
  all_goals go_ret
  all_goals refine ⟨?_,bal _ _⟩
  all_goals (clear hx;go_tidy;show Ending.returned (Value.bool _)=Ending.returned (Value.bool _);congr 2;rw [Bool.eq_iff_iff,decide_eq_true_iff];simp only [fJ,bne_iff_ne,beq_iff_eq,bne_eq_false_iff_eq,Bool.false_eq_true,ne_eq,false_iff] at *)
  all_goals omega
 all_goals (
  simp only [Fm.str]
  go_enter func141,ntmps141
  go_wp2_with fail
  all_goals go_ret
  all_goals refine ⟨?_,bal _ _⟩
  all_goals (clear hx;go_tidy;show Ending.returned (Value.bool _)=Ending.returned (Value.bool _);congr 2;rw [Bool.eq_iff_iff,decide_eq_true_iff];simp only [fJ,bne_iff_ne,beq_iff_eq,bne_eq_false_iff_eq,Bool.false_eq_true,ne_eq,true_iff,false_iff,and_true] at *)
  all_goals omega)
theorem JY (x:Int) (C:0<=x) (D:x<4294967296) (w:World): CE 142 #[.string T.str,.u x] w (.i (nV T x)):=by
 cases T;case i =>simp only [Fm.str];go_enter func142,ntmps142;go_wp2_with fail;refine (eB (x/1048576) 12 bc bc _).mono ?_;exact a0j
 case s =>have d:Uz.wrap (x/33554432*32)=x/33554432*32:=dm;have m:bits .and .u64 (x/128) 31=x/128%32:=cI (x/128) 5 ab ab bc;have o:bits .or .u64 (x/33554432*32) (x/128%32)=x/33554432*32+x/128%32:=(by have:=mP (x/33554432*32) (x/128%32) 0 5 ab ab ab ab ab ab;simpa using this);simp only [Fm.str];go_enter func142,ntmps142;go_wp2_with fail;refine (eB (x/33554432*32+x/128%32) 12 bc bc _).mono ?_;exact a0j
 case b =>
  have d:Uz.wrap (x/2147483648*4096)=x/2147483648*4096:=dm;have m:bits .and .u64 (x/128) 1=x/128%2:=cI (x/128) 1 ab ab bc;have o:Uz.wrap (x/128%2*2048)=x/128%2*2048:=dm;have p:bits .or .u64 (x/2147483648*4096) (x/128%2*2048)=x/2147483648*4096+x/128%2*2048 :=
   mP (x/2147483648*4096) (x/128%2) 11 1 ab ab ab ab ab ab
  have q:bits .and .u64 (x/33554432) 63=x/33554432%64:=cI (x/33554432) 6 ab ab bc;have t:Uz.wrap (x/33554432%64*32)=x/33554432%64*32:=dm;have y:bits .or .u64 (x/2147483648*4096+x/128%2*2048) (x/33554432%64*32)=x/2147483648*4096+x/128%2*2048+x/33554432%64*32 :=
   mP (x/2147483648*4096+x/128%2*2048) (x/33554432%64) 5 6 ab ab ab ab ab ab
  have z:bits .and .u64 (x/256) 15=x/256%16:=cI (x/256) 4 ab ab bc;have A:Uz.wrap (x/256%16*2)=x/256%16*2:=dm;have l:bits .or .u64 (x/2147483648*4096+x/128%2*2048+x/33554432%64*32) (x/256%16*2)=x/2147483648*4096+x/128%2*2048+x/33554432%64*32+x/256%16*2 :=
   mP (x/2147483648*4096+x/128%2*2048+x/33554432%64*32) (x/256%16) 1 4 ab ab ab ab ab ab
  simp only [Fm.str];go_enter func142,ntmps142;go_wp2_with fail;refine (eB (x/2147483648*4096+x/128%2*2048+x/33554432%64*32+x/256%16*2) 13 bc bc _).mono ?_;exact a0j
 case u =>have d:Uz.wrap (x/4096*4096)=x/4096*4096:=dm;simp only [Fm.str];go_enter func142,ntmps142;go_wp2_with fail;refine (eB (x/4096*4096) 32 bc bc _).mono ?_;exact a0j
 case j =>
  have d:Uz.wrap (x/2147483648*1048576)=x/2147483648*1048576:=dm;have m:bits .and .u64 (x/4096) 255=x/4096%256:=cI (x/4096) 8 ab ab bc;have o:Uz.wrap (x/4096%256*4096)=x/4096%256*4096:=dm;have p:bits .or .u64 (x/2147483648*1048576) (x/4096%256*4096)=x/2147483648*1048576+x/4096%256*4096 :=
   mP (x/2147483648*1048576) (x/4096%256) 12 8 ab ab ab ab ab ab
  have q:bits .and .u64 (x/1048576) 1=x/1048576%2:=cI (x/1048576) 1 ab ab bc;have t:Uz.wrap (x/1048576%2*2048)=x/1048576%2*2048:=dm;have y:bits .or .u64 (x/2147483648*1048576+x/4096%256*4096) (x/1048576%2*2048)=x/2147483648*1048576+x/4096%256*4096+x/1048576%2*2048 :=
   mP (x/2147483648*1048576+x/4096%256*4096) (x/1048576%2) 11 1 ab ab ab ab ab ab
  have z:bits .and .u64 (x/2097152) 1023=x/2097152%1024:=cI (x/2097152) 10 ab ab bc;have A:Uz.wrap (x/2097152%1024*2)=x/2097152%1024*2:=dm;have l:bits .or .u64 (x/2147483648*1048576+x/4096%256*4096+x/1048576%2*2048) (x/2097152%1024*2)=x/2147483648*1048576+x/4096%256*4096+x/1048576%2*2048+x/2097152%1024*2 :=
   mP (x/2147483648*1048576+x/4096%256*4096+x/1048576%2*2048) (x/2097152%1024) 1 10 ab ab ab ab ab ab
  simp only [Fm.str];go_enter func142,ntmps142;go_wp2_with fail;refine (eB (x/2147483648*1048576+x/4096%256*4096+x/1048576%2*2048+x/2097152%1024*2) 21 bc bc _).mono ?_;exact a0j
 case h =>have d:bits .and .u64 (x/1048576) 63=x/1048576%64:=cI (x/1048576) 6 ab ab bc;have F:Hid (nV .h x=x/1048576%64):=pq (x/1048576%64) ab ab;exact a0k
 case w =>have d:bits .and .u64 (x/1048576) 31=x/1048576%32:=cI (x/1048576) 5 ab ab bc;have F:Hid (nV .w x=x/1048576%32):=pq (x/1048576%32) ab ab;exact a0k
 case a =>have d:bits .and .u64 (x/33554432) 3=x/33554432%4:=cI (x/33554432) 2 ab ab bc;have F:Hid (nV .a x=x/33554432%4):=pq (x/33554432%4) ab ab;exact a0k
 case c =>have F:Hid (nV .c x=x/1048576):=pq (x/1048576) ab ab;exact a0k
 case r =>have F:Hid (nV .r x=0):=pq (0) ab ab;exact a0k
 case x =>have F:Hid (nV .x x=0):=pq (0) ab ab;exact a0k
theorem PT {r:Row} (h:yB a r=true):r.fm=.x->0<=r.op/\r.op<128/\0<=r.more/\r.more<4096:=by intro k;simp only [yB,k,Bool.and_eq_true,decide_eq_true_eq] at h;omega
theorem oT (h0:0<=j) (h1:j<18446744073709551616) (w:World): CB 94 #[.u j] w (mg j):=by
 by_cases c:j<4294967296
 ·have d1:(j/4294967296 != 0)=false:=by simp;omega
  have HH:Hid (∀ k,cD j 98 0=some k->mg j=.tuple #[(qL k j).val,.bool true]):=λk (h:cD j 98 0=some k)=>BY j k c h
  have HM:Hid (cD j 98 0=none->mg j=.tuple #[pS.val,.bool false]):=λ(h:cD j 98 0=none)=>yC j c h
  obtain ⟨V,K⟩:∃ V,V=mg j:=⟨_,rfl⟩
  rw [<- K] at HH HM ⊢
  clear K
  go_enter func94,ntmps94
  go_wp2_with fail
  refine (ox _).mono ?_
  rintro e w1 ⟨rfl,R,hb⟩
  have hsz:w.heap.size+1<w1.heap.size:=by have:=R.out.1;simp at this;omega
  have G0:Hid (w1.heap[w.heap.size]?=some (.cells #[.i 0,.i 0,.i 0,.i 0,.i 0] 80 (0,0))):=by
   show _=_
   rw [hb.block _ cp];exact ry w
  have L:Bw w w1:=(bal _ _).trans (hb.mono cp)
  obtain ⟨g,hg⟩:∃ g,g=(w.alloc (.cells #[.i 0,.i 0,.i 0,.i 0,.i 0] 80)).heap.size:=⟨_,rfl⟩
  rw [<- hg] at R ⊢
  clear hb hg
  go_wp2_with fail
  go_loopw [5] (λi wr=>∃ k:Nat,k<=98/\i=.i k/\Hid (cD j (98-k) k=cD j 98 0)/\Hid (Bv wr g) /\
   Hid (wr.heap[w.heap.size]?=some (.cells #[.i 0,.i 0,.i 0,.i 0,.i 0] 80 (0,0)))/\Bw w wr)
   (λi _=>98-(intOf i).toNat)
  case atStart=>exact ⟨0,ab,rfl,(rfl:cD j (98-0) 0=cD j 98 0),R,G0,L⟩
  case round =>
   obtain ⟨k,hk,rfl,hf,B,G,M⟩:=hrel
   clear G0 L R
   by_cases l:k<98
   ·have W:=PT (GD k l)
    obtain ⟨r,q⟩:∃ r,r=ch k:=⟨_,rfl⟩
    obtain ⟨c0,X,c2,c3,c4⟩:=B.out.2 k l r q
    have MB:decide (fJ k r.fm r.op r.f3 r.more j)=mB k j:=by rw [q];rfl
    have U:Hid (Value.agg #[.i ((k:Int)+1),.i (Lh r.fm j),.i (aV r.fm j),.i (bV r.fm j),.i (nV r.fm j)]=(qL k j).val):=by
     show _=_
     rw [q];rfl
    rw [<- q] at W
    have d:=CN k l r.name r.fm r.op r.f3 r.more j h0 c W
    rw [MB] at d
    clear q MB W
    obtain ⟨nm,f,o,z,m⟩:=r
    simp only at c0 X c2 c3 c4 U d
    obtain ⟨s,O⟩:∃ s,s=f.str:=⟨_,rfl⟩
    rw [<- O] at X d
    obtain ⟨mb,E⟩:∃ b,b=mB k j:=⟨_,rfl⟩
    rw [<- E] at d
    have LM:Hid (∀ w:World,CB 141 #[.i k,.agg #[.string nm,.string s,.u o,.i z,.u m],.u j] w (.bool mb)):=d
    have I:Hid (mb=mB k j):=E
    have HS:Hid (s=f.str):=O
    clear d E O
    go_wp2_with fail
    refine (LM.out _).mono ?_
    rintro e x ⟨rfl,t⟩
    have D:Bw wr x:=(bal _ _).trans (t.mono cp)
    have J:x.cell? ⟨wr.heap.size,1,none⟩=some (.string s):=by
     rw [t.cell cp]
     rw [cell_of_row _ _ _ _ _ _ (heap_alloc_new _ _)];rfl
    have S:x.heap[w.heap.size]?=some (.cells #[.i 0,.i 0,.i 0,.i 0,.i 0] 80 (0,0)):=du D G.out
    have Z:Hid (Bv x g):=Bv.below B.out B.out.1 D
    have C:=aa M D
    have N:wr.heap.size<x.heap.size:=by have:=t.size;simp at this;omega
    have Y:∀ o,(x.alloc o).cell? ⟨wr.heap.size,1,none⟩=some (.string s):=λo=>(((Below.refl x.heap.size x).alloc (Nat.le_refl _) o).cell (p:=⟨wr.heap.size,1,none⟩) N).trans J
    have H:∀ o,(x.alloc o).heap[w.heap.size]?=some (.cells #[.i 0,.i 0,.i 0,.i 0,.i 0] 80 (0,0)):=λo=>du ((Below.refl x.heap.size x).alloc (Nat.le_refl _) o) S
    have u:Hid (∀ o,(x.alloc o).heap[w.heap.size]?=some (.cells #[.i 0,.i 0,.i 0,.i 0,.i 0] 80 (0,0))):=H
    have T:Hid (x.heap[w.heap.size]?=some (.cells #[.i 0,.i 0,.i 0,.i 0,.i 0] 80 (0,0))):=S
    clear S H
    clear t LM c0 X c2 c3 c4
    cases mb with
    | true =>
      have F:Hid (V=.tuple #[(qL k j).val,.bool true]):=HH.out k (hf.out.symm.trans (tz j k l I.out.symm))
      have A7:bits .and .u64 (j/128) 31=j/128%32:=cI (j/128) 5 ab ab bc
      have A15:bits .and .u64 (j/32768) 31=j/32768%32:=cI (j/32768) 5 ab ab bc
      have A20:bits .and .u64 (j/1048576) 31=j/1048576%32:=cI (j/1048576) 5 ab ab bc
      have O:=HS.out
      subst O
      have A:=JY f j h0 c
      obtain ⟨y4,P⟩:∃ y,y=nV f j:=⟨_,rfl⟩
      rw [<- P] at A U
      have LI:Hid (∀ w:World,CE 142 #[.string f.str,.u j] w (.i y4)):=A
      clear A P HS
      cases f
      all_goals (
       simp only [Fm.str] at J Y LI ⊢
       go_wp2_with fail
       refine (LI.out _).mono ?_
       rintro e w3 ⟨rfl,hw3⟩
       have hw4:=hw3.symm
       subst hw4
       go_wp2_with (refine wpList_store_rowTo rfl 80 (.tmp 2) (.tmp 82) rfl rfl w.heap.size _ rfl rfl 80 _ (u.out _) fM rfl (oB _ _ _ _ _) ?_)
       refine bodyPost_ret (gI results94 _ _ _ _ _ _ _ rfl (setRow_heap _ _ _ _ _ _ (u.out _)) underlying80 rfl fM) rfl ⟨?_,?_⟩
       ·rw [F.out,<- U.out];rfl
       ·exact aF (C.alloc C.size _) (Nat.le_refl _) _)
    | false =>
      have F:Hid (cD j (98-(k+1)) (k+1)=cD j 98 0):=(qM j k l I.out.symm).symm.trans hf.out
      go_wp2_with fail
      go_roundw
      case rel=>exact ⟨k+1,ab,by go_num,F,Z,T,C⟩
      case measure=>simp [intOf];omega
   ·have hk2:k=98:=by omega
    subst hk2
    have F:Hid (V=.tuple #[pS.val,.bool false]):=HM.out hf.out.symm
    have G3:=G.out
    go_wp2_with (refine wpList_store_rowTo rfl 80 (.tmp 2) (.tmp 83) rfl rfl w.heap.size #[.i 0,.i 0,.i 0,.i 0,.i 0] rfl rfl 80 _ G3 fM rfl (oB _ _ _ _ _) ?_)
    refine bodyPost_ret (gI results94 _ _ _ _ _ _ _ rfl (setRow_heap _ _ _ _ _ _ G3) underlying80 rfl fM) rfl ⟨?_,?_⟩
    ·rw [F.out];rfl
    ·exact aF M (Nat.le_refl _) _
 ·have d1:(j/4294967296 != 0)=true:=by simp;omega
  have F:Hid (mg j=.tuple #[pS.val,.bool false]):=BX j c
  obtain ⟨V,K⟩:∃ V,V=mg j:=⟨_,rfl⟩
  rw [<- K] at F ⊢
  clear K
  go_enter func94,ntmps94
  go_wp2_with fail
  refine bodyPost_ret (gI results94 _ _ _ _ _ _ _ rfl (ry w) underlying80 rfl fM) rfl ⟨?_,?_⟩
  ·rw [F.out];rfl
  ·exact bal _ _
theorem Un (h:U j) (i:Nat):ap j i=if bt j i=true then 1 else 0:=by
 unfold ap;have d:=kI j h i 1;have b:bits .and .u64 (j/2^i) 1=dc j i 1:=by have:=ix j i 1 h.1 h.2 ab;rw [<- this];rfl
 rw [b];have c:=kH j i 1;have a:=kI j h i 1 0 ab;rw [Nat.zero_add] at a;simp only [Nat.lt_add_one,decide_true,Bool.true_and] at a;rw [<- a];have e2:dc j i 1=0\/dc j i 1=1:=by
  have:(2:Int)^1=2:=bc
  omega
 rcases e2 with e|e;·rw [e];rfl
 ·rw [e];rfl
theorem Hi (h:U j) (i:Nat):(ap j i==1)=bt j i:=by rw [Un j h i];cases bt j i<;>rfl
theorem rA (h:U j) (i:Nat):(ap j i==0)=!bt j i:=by rw [Un j h i];cases bt j i<;>rfl
theorem nK:bt 0 L=false:=by unfold bt;simp
theorem Fv:U 0:=⟨ab,ab⟩
theorem oU (c:∀ i,i<64->bt p i=s.contains i) (d:∀ i ∈ s,i<64):(bits .and .u64 j p==0)=s.all (λi=>!bt j i):=by
 rw [Bool.eq_iff_iff,beq_iff_eq,List.all_eq_true];constructor
 ·intro h i a;have b:=aw j p i;rw [h,nK,c i (d i a)] at b;have:s.contains i=true:=by simpa using a
  rw [this,Bool.and_true] at b;rw [<- b];rfl
 ·intro h;refine bF _ _ (ah _ _ _) Fv λi a=>?_;rw [aw,nK,c i a];cases f:s.contains i with
  | false=>rw [Bool.and_false]
  | true =>have:=h i kd;rw [Bool.and_true];simpa using this
theorem Rd (f:U p) (c:∀ i,i<64->bt p i=s.contains i) (d:∀ i ∈ s,i<64):(bits .and .u64 j p==p)=s.all (λi=>bt j i):=by
 rw [Bool.eq_iff_iff,beq_iff_eq,List.all_eq_true];constructor
 ·intro h i a;have b:=aw j p i;rw [h,c i (d i a)] at b;have:s.contains i=true:=by simpa using a
  rw [this,Bool.and_true] at b;exact b.symm
 ·intro h;refine bF _ _ (ah _ _ _) f λi a=>?_;rw [aw,c i a];cases g:s.contains i with
  | false=>rw [Bool.and_false]
  | true =>rw [h i v8];rfl
theorem Re (he:U j) (c:∀ i,i<64->bt p i=s.contains i) (d:∀ i ∈ s,i<64):(bits .or .u64 j p==j)=s.all (λi=>bt j i):=by
 rw [Bool.eq_iff_iff,beq_iff_eq,List.all_eq_true];constructor
 ·intro h i a;have b:=cE j p i;rw [h,c i (d i a)] at b;have:s.contains i=true:=by simpa using a
  rw [this,Bool.or_true] at b;exact b
 ·intro h;refine bF _ _ (ah _ _ _) he λi a=>?_;rw [cE,c i a];cases f:s.contains i with
  | false=>rw [Bool.or_false]
  | true=>rw [h i kd];rfl
theorem m1:(bits .and .u64 j 1==0)=!bt j 0:=by rw [oU j 1 [0] cb bc];simp
theorem m2:(bits .and .u64 j 2==0)=!bt j 1:=by rw [oU j 2 [1] cb bc];simp
theorem m4:(bits .and .u64 j 4==0)=!bt j 2:=by rw [oU j 4 [2] cb bc];simp
theorem m8:(bits .and .u64 j 8==0)=!bt j 3:=by rw [oU j 8 [3] cb bc];simp
theorem VY:(bits .and .u64 j 16==0)=!bt j 4:=by rw [oU j 16 [4] cb bc];simp
theorem VZ:(bits .and .u64 j 10==0)=(!bt j 1&&!bt j 3):=by rw [oU j 10 [1,3] cb bc];simp
theorem Vo:(bits .and .u64 j 208==0)=(!bt j 4&&(!bt j 6&&!bt j 7)):=by rw [oU j 208 [4,6,7] cb bc];simp
theorem V0:(bits .and .u64 j 262144==0)=!bt j 18:=by rw [oU j 262144 [18] cb bc];simp
theorem V7:(bits .and .u64 j 524288==0)=!bt j 19:=by rw [oU j 524288 [19] cb bc];simp
theorem Wh:(bits .and .u64 j 131072==0)=!bt j 17:=by rw [oU j 131072 [17] cb bc];simp
theorem m6:(bits .and .u64 j 6==4)=(!bt j 1&&bt j 2):=by
 have c:∀ i,i<64->bt 6 i=[1,2].contains i/\bt 4 i=[2].contains i:=cb
 rw [Bool.eq_iff_iff,beq_iff_eq,Bool.and_eq_true];constructor;·intro h;have a:=aw j 6 1;have b:=aw j 6 2;rw [h,(c 1 ab).1,(c 1 ab).2] at a;rw [h,(c 2 ab).1,(c 2 ab).2] at b;have f:false=(bt j 1&&true):=a;have g:true=(bt j 2&&true):=b;rw [Bool.and_true] at f g;rw [<- f,<- g];exact a08
 ·rintro ⟨m,n⟩;have d:bt j 1=false:=(by simpa using m);refine bF _ _ (ah _ _ _) ⟨ab,ab⟩ λi e=>?_;rw [aw,(c i e).1,(c i e).2];by_cases k:i=1;·subst k;rw [d];rfl
  ·by_cases l:i=2;·subst l;rw [n];rfl
   ·simp [k,l]
theorem Wi (he:U j):(bits .and .u64 j 18428729675200069632==0)=(j/18014398509481984==0):=by
 have f:∀ i,i<64->bt 18428729675200069632 i=decide (54<=i):=cb
 have c:(18014398509481984:Int)=2^54:=bc
 rw [c,Bool.eq_iff_iff,beq_iff_eq,beq_iff_eq];constructor
 ·intro h;refine bF _ _ (mj j he 54) Fv λi g=>?_;rw [jA j he,nK];by_cases d:64<=i+54;·exact uB _ _ d
  ·have a:=aw j 18428729675200069632 (i+54);rw [h,nK,f _ ab] at a;simpa using a.symm
 ·intro h;refine bF _ _ (ah _ _ _) Fv λi g=>?_;rw [aw,nK,f i g];by_cases b:54<=i;·have a:=jA j he 54 (i-54);rw [h,nK,Nat.sub_add_cancel b] at a;rw [<- a];rfl
  ·simp [b]
def PV (e:Int):Bool:=(bits .and .u64 e 1==0)||(bits .and .u64 e 6==4)||(bits .and .u64 e 18428729675200069632 != 0)
theorem SV (he:U j):PV j=pL j:=by unfold PV pL;rw [rA j he,Hi j he,m6,bne,bne,Wi j he]
theorem PW (he:U j):(bits .and .u64 j 10 != 0)=!mz j:=by unfold mz;rw [rA j he,rA j he,bne,VZ]
theorem PY (he:U j) (lv:Nat):(((lv:Int)==0)||(bits .and .u64 j 208 != 0))=jk j lv:=by
 unfold jk;have c:(16:Int)=2^4:=bc
 have a:=Hi j he 4;unfold ap at a;rw [<- c] at a;have b:(bits .and .u64 (j/64) 3==0)=(!bt j 6&&!bt j 7):=by rw [oU (j/64) 3 [0,1] cb bc];have d:(64:Int)=2^6:=bc;simp only [List.all_cons,List.all_nil,Bool.and_true];rw [d,jA j he,jA j he]
 rw [bne,bne,Vo,a,b];cases ((lv:Int)==0)<;>cases bt j 4<;>cases bt j 6<;>cases bt j 7<;>rfl
theorem wQ (he:U j):dc j 10 44=ew j:=by rw [<- ix j 10 44 he.1 he.2 ab];rfl
theorem P1:U (ew j):=ah _ _ _
theorem Nf (he:U j) (lv:Nat) (h:lv<=2):(dc j 10 (9*lv) != 0)=mA j lv:=by
 unfold mA Je;have c:=P1 j;have a:=ix (ew j) 0 (9*lv) c.1 c.2 ab;rw [show ew j/2^0=ew j from cp] at a;rw [a,<- wQ j he];congr 1;refine bF _ _ (qE _ _ _ ab) (qE _ _ _ ab) λi d=>?_;rw [kI j he _ _ _ ab,kI _ (qE _ _ _ ab) _ _ _ ab,kI j he _ _ _ ab];by_cases b:i<9*lv;·simp [b,show i<44 from ab]
 ·simp [b]
def oV (x k e:Int):Bool:=if k=1 then (bits .and .u64 e 8 != 0) else if k=2 then ((bits .and .u64 e 2 != 0)||((bits .and .u64 x 524288 != 0)&&(bits .and .u64 e 8 != 0))) else (bits .and .u64 e 4 != 0)
theorem Ng (he:U p) (hx:U (P.getD 0 0)) (b:1<=j) (c:j<=3):oV (P.getD 0 0) j p=!gJ P j p:=by
 unfold oV gJ;rw [rA p he,rA p he,rA p he,rA _ hx];simp only [bne,m8,m2,m4,V7];have a:j=1\/j=2\/j=3:=ab
 rcases a with rfl|rfl|rfl;·cases bt p 3<;>rfl
 ·cases bt p 1<;>cases bt p 3<;>cases bt (P.getD 0 0) 19<;>rfl
 ·cases bt p 2<;>rfl
def CO (x p k e:Int):Bool:=if (bits .and .u64 e 16==0)=true then (p==1) else ((p==0)||((k != 1)&&(bits .and .u64 x 262144 != 0)))
theorem Nh (he:U r) (hx:U (P.getD 0 0)) (a:j=0\/j=1):CO (P.getD 0 0) j p r=!gK P j p r:=by
 unfold CO gK;rw [rA r he,Hi r he,rA _ hx];simp only [bne,VY,V0];rcases a with rfl|rfl;·cases bt r 4<;>rfl
 ·cases bt r 4<;>cases bt (P.getD 0 0) 18<;>cases (p==1)<;>rfl
def oW (k:Int):Int:=if k=3 then 192 else 64
theorem Hj:bits .or .u64 j (oW p)=cF j p:=by
 unfold oW cF;by_cases h:p=3;·subst h;have a:∀ i,i<64->bt 192 i=(bt 64 i||bt 128 i):=cb;rw [if_pos rfl,if_pos bc];refine bF _ _ (ah _ _ _) (ah _ _ _) λi b=>?_;rw [cE,cE,cE,a i b,Bool.or_assoc]
 ·have:(p==3)=false:=by simpa using h
  rw [if_neg h,this];rfl
theorem Hk (he:U j):(bits .and .u64 j (oW p)==oW p)=!(cF j p != j):=by
 rw [<- Hj,bne,Bool.not_not];unfold oW;by_cases h:p=3;·rw [if_pos h,Rd j 192 [6,7] ⟨ab,ab⟩ cb bc,Re j 192 [6,7] he cb bc]
 ·rw [if_neg h,Rd j 64 [6] ⟨ab,ab⟩ cb bc,Re j 64 [6] he cb bc]
theorem P3 (he:U j) (hv:U p) (lv:Nat) (h:lv<=2) (e:mA j lv=false):bits .or .u64 (Uz.wrap (dc j 10 44*4096)) (dc p 0 (12+9*lv))=gE j p lv:=by
 rw [<- Nf j he lv h] at e;have d:dc j 10 (9*lv)=0:=by simpa using e
 unfold gE;rw [<- wQ j he];have b:∀ i,i<64->bt (Je (12+9*lv)) i=decide (i<12+9*lv):=by
  have:lv=0\/lv=1\/lv=2:=ab
  rcases this with rfl|rfl|rfl;·decide +kernel
  ·decide +kernel
  ·decide +kernel
 have a:(4096:Int)=2^12:=bc
 refine bF _ _ (ah _ _ _) (ah _ _ _) λi k=>?_;rw [cE,cE,ay _ _ _ k,aw,b i k,kI p hv _ _ _ ab,Nat.add_zero,a,nu _ (qE _ _ _ ab)];by_cases c:i<12+9*lv
 ·simp only [c,decide_true,Bool.true_and,Bool.and_true,Bool.not_true,Bool.and_false,Bool.false_or];by_cases f:12<=i;·have g:=kI j he 10 (9*lv) (i-12) ab;rw [d,nK] at g;rw [kI j he _ _ _ ab];have l:decide (i-12<9*lv)=true:=bv;rw [l,Bool.true_and] at g;rw [<- g];simp
  ·simp [f]
 ·simp [c]
theorem SW (h:U (P.getD 15 0)):Uz.wrap (dc (P.getD 15 0) 0 44*4096)=kW P:=by rw [<- ix _ 0 44 h.1 h.2 ab];unfold kW;rw [show P.getD 15 0/2^0=P.getD 15 0 from cp];rfl
theorem SX (hv:U p) (lv:Nat):Uz.wrap (j+Uz.wrap (8*dc p (12+9*lv) 9))=bK j p lv:=by rw [<- ix _ (12+9*lv) 9 hv.1 hv.2 ab];rfl
theorem P4 (h:U j):(dc j 60 4==0)=(j/1152921504606846976==0):=by
 have b:(1152921504606846976:Int)=2^60:=bc
 have e:dc j 60 4=j/2^60:=by unfold dc;have a:(2:Int)^4=16:=bc;have e6:(2:Int)^60=1152921504606846976:=bc;rw [a,e6];have:=h.1;have:=h.2;omega
 rw [e,b]
theorem Hm (b:bn 22 P 1=true) (hx:gB L j 8=true) (g:1<=p) (h:p<=3):vG 22 P 1 j 8 p=aB P 1 j (bo j 8) p 4 0:=by
 unfold vG;obtain ⟨_,_,c,d,_,_,i,x⟩:=kl hx;have e:bo j 8=j+7:=by unfold bo;rw [IntKind.wrap_u64,IntKind.wrap_u64,IntKind.wrap_u64];omega
 have a:decide (bo j 8<j)=false:=by rw [e];simp;omega
 have f:decide (1<=p/\p<=3)=true:=by simp;omega
 rw [b,a,f];rfl
theorem CP (zs:List Int) (x:Int) (w:World) (hz:zs.length=L) (hn:L<=1048576) (hs:Sl .u8 w v zs) (y:gB L (2147483648+(t:Int)) (z:Int)=true) (H:0<=x) (hx1:x<=18446744073709551615): Calls prog 214 #[.slice v L M,.u (2147483648+(t:Int)),.i (z:Int),.u x] w λe cap=>e=.returned (.tuple #[.slice (some ⟨w.heap.size,0,none⟩) L L,.bool true]) /\ cap.ownsRow w.heap.size 5 1 (.slice (some ⟨w.heap.size,0,none⟩) L L) L ((km zs t x z).map (Value.int .u8))/\Bw w cap:=by
 have B:Hid (zs.length=L):=hz;obtain ⟨hr,hsz,S,T,Y,Z,W,X⟩:=kl y;have R:0<=2147483648+(t:Int):=ab
 have C:2147483648+(t:Int)<=18446744073709551615:=ab
 clear hz;have Q:Hid (fh L (2147483648+(t:Int)) (z:Int)=t):=by show fh L (2147483648+(t:Int)) (z:Int)=t;simp only [fh,y,if_true];omega
 obtain ⟨b,n,rfl,N,E⟩:=hs 0 (by have:=B.out;omega);clear E;obtain ⟨P,O,J,A,K⟩:=info_parts info5;have m:(prog.info? 5).map (·.size)=some 1:=by rw [O];simp [A]
 have u:P.bytes*L<=281474976710656:=by rw [K];omega
 have D:L<=maxLen:=by unfold maxLen;omega
 go_enter func214,ntmps214;go_wp2_with (first | (go_at_call 248;refine (lj _ _ _ _ _ _ hn R C).mono ?_;rw [Q.out];rintro e cap ⟨rfl,F⟩;have G:=F.symm;subst G) | (at_make;refine wpList_make_full _ rfl (.tmp 24) (.tmp 24) 24 rfl w.heap.size 5 P (.int .u8 0) 1 underlying24 O J A .i64 .i64 _ _ L rfl rfl rfl rfl u D (Nat.le_refl _) ?_;intro w1 q d) | (refine mM rfl (.tmp 26) (.tmp 27) 24 rfl 5 underlying24 m .u8 w.heap.size w.heap.size L L b n M zs _ rfl rfl q (hs.below ((Below.refl _ _).grown d (Nat.le_refl _) (by intro k h;cases h))) B.out ?_;intro w2 o g));have l:Bw w w2:=Below.grown ((Below.refl _ _).grown d (Nat.le_refl _) (by intro k h;cases h)) g d.size (by intro k h;cases h;exact Nat.le_refl _);clear q d g hs;go_loopw [30] (λi wr=>∃ j:Nat,j<=z/\i=.i (j:Int)/\wr.ownsRow w.heap.size 5 1 (.slice (some ⟨w.heap.size,0,none⟩) L L) L ((km zs t x j).map (Value.int .u8))/\Bw w wr)
  (λi _=>z-(intOf i).toNat)
 case atStart=>exact ⟨0,Nat.zero_le _,rfl,o,l⟩
 case round =>
  obtain ⟨j,hj,rfl,c,p⟩:=hrel;clear o l;by_cases V:j<z
  ·have U:wr.frozen? ⟨w.heap.size,t+j,none⟩=false:=c.frozenAt (t+j);have f:=(c.stored (t+j) (.int .u8 (x/256^j%256))).1;obtain ⟨v3,hv3⟩:∃ a,wr.cell? ⟨w.heap.size,t+j,none⟩=some a:=(by rw [c.cellAt (t+j) ab];exact ⟨_,List.getElem?_eq_getElem (by rw [List.length_map,jq,B.out];omega)⟩);rw [ns] at f;have r:(wr.setCell ⟨w.heap.size,t+j,none⟩ (.int .u8 (x/256^j%256))).ownsRow w.heap.size 5 1 (.slice (some ⟨w.heap.size,0,none⟩) L L) L ((km zs t x (j+1)).map (Value.int .u8)):=f;have s:Bw w (wr.setCell ⟨w.heap.size,t+j,none⟩ (.int .u8 (x/256^j%256))):=p.setCell (Nat.le_refl _) _;have I:0<=x/256^j:=Int.ediv_nonneg H (Int.le_of_lt (Int.pow_pos ab));clear f c;rw [<- uP] at r s I;go_wp2;go_roundw;case rel=>exact ⟨j+1,ab,by go_num,r,s⟩
   case measure=>simp [intOf];omega
  ·have:j=z:=by omega
   subst this;go_wp2;go_ret2;exact ⟨rfl,c,p⟩
theorem pF (hz:P.length=L) (hs:Sl .u8 y v P): (convert 24 9 (.slice v L M)).run prog y=.ok (.string (strOfNums P)) y:=by
 by_cases h:L=0;·subst h;have d:P=[]:=List.eq_nil_of_length_eq_zero hz;subst d;rw [run_convert_bytes_string y 24 9 5 v 0 M underlying24 underlying5 underlying9];cases v<;>simp [Conv.bytesToString,loadCells,strOfNums]<;>rfl
 ·obtain ⟨b,f,rfl,_,_⟩:=hs 0 ab;refine run_convert_bytes_arg y 24 5 underlying24 underlying5 b f L M P hz (λi l=>?_) 9 underlying9;obtain ⟨k,g,e,_,j⟩:=hs i ab;simp only [Option.some.injEq,Addr.mk.injEq,and_true] at e;obtain ⟨rfl,rfl⟩:=e;exact j
def AF.fn:AF->Nat
 | .sum=>277 | .slt=>278 | .sltu=>279 | .xor=>280 | .or=>281 | .and=>282
 | .sl=>283 | .sr=>284 | .sra=>285 | .sub=>287 | .mul=>288
 | .mulh=>289 | .mulhsu=>290 | .high=>291 | .div=>292 | .divu=>293
 | .rem=>294 | .remu=>295
def SD.fn:SD->Nat
 | .low=>265 | .sgn=>264 | .five=>286
theorem AF.calls (f:AF) (a b:Int) (g:0<=a) (a1:a<18446744073709551616) (c:0<=b) (d:b<18446744073709551616) (w:World):Calls prog f.fn #[.u a,.u b] w λe h=>e=.returned (.u (f.v a b))/\∃ m,h=w.drewN m:=by
 cases f;·exact bu (yR a b w)
 ·exact bu (wI a b w)
 ·exact bu (Ap a b w)
 ·exact bu (yS a b w)
 ·exact bu (CL a b w)
 ·exact bu (yT a b w)
 ·exact nI (xO a b c d w)
 ·exact nI (wH a b c d w)
 ·exact nI (oR a b c d w)
 ·exact bu (sE a b w)
 ·exact bu (xN a b w)
 ·exact bu (wJ a b g a1 c d w)
 ·exact bu (jd a b g a1 c d w)
 ·exact bu (nJ a b g a1 c d w)
 ·exact bu (qj a b c d w)
 ·exact bu (sF a b w)
 ·exact bu (wK a b c d w)
 ·exact bu (Aq a b w)
theorem SD.calls (s:SD) (x:Int) (a:0<=x) (b:x<18446744073709551616) (w:World):Calls prog s.fn #[.u x] w λe c=>e=.returned (.u (s.v x))/\∃ m,c=w.drewN m:=by
 cases s;·exact bu (tM x a w)
 ·exact bu (pU x w)
 ·exact nI (CJ x a b w)
def AO.cells:AO->List Value
 | .d f=>[.func (.func f.fn) #[] #[],.nilFunc,.nilFunc]
 | .w f l r=>[.func (.func f.fn) #[] #[],.func (.func l.fn) #[] #[],.func (.func r.fn) #[] #[]]
def aluCells:Array Value:=(TD.flatMap AO.cells).toArray
def eR:Array Value:=(List.replicate 123 Value.nilFunc).toArray
theorem jH:eR.size=123:=by kernel_rfl
theorem dO:aluCells.size=123:=by kernel_rfl
theorem jI:(prog.info? 297).bind (·.zero)=some (.agg eR):=by kernel_rfl
theorem jJ:aluCells.all (·.oneCell')=true:=by kernel_rfl
theorem iz:(prog.info? 297).map (·.size)=some 123:=by kernel_rfl
theorem Av:TD.length=41:=by rfl
theorem CQ (h:L<41) (j:Nat) (a:j<3):aluCells[L*3+j]?=(oz L).cells[j]?:=by
 have:=vz AO.cells 3 TD (by intro x _;cases x<;>rfl) L (by rw [Av];exact h) j a;have e:TD[L]'(by rw [Av];exact h)=oz L:=by simp [oz,List.getD,List.getElem?_eq_getElem (show L<TD.length by rw [Av];exact h)]
 rw [e] at this;rw [<- this];simp [aluCells]
theorem CR:CB 261 #[] y (.agg aluCells):=by go_enter func261,ntmps261;apply wp_seq_k;intro c b;apply wp_region_list;refine cO rfl 297 rfl (some 0) rfl _ jI ?_;apply wpList_nil;refine b _ _ ?_;clear b c;apply wp_seq_k;intro c b;apply wp_region_lit;refine kG 42 0 42 (.p y.heap.size 0) (.agg aluCells) ba ?_;intro m f d j;have g:(y.alloc (.cells (Value.agg eR).cells 297)).heap[y.heap.size]?=some (.cells eR 297 (0,0)):=heap_alloc_new _ _;refine wpList_store_rowTo rfl 297 (.tmp 0) (.tmp 42) rfl rfl y.heap.size aluCells f d 297 eR g (by rw [iz,dO]) (by rw [jH,dO]) jJ ?_;apply wpList_nil;refine b _ _ ?_;clear b c;apply wp_ret;refine bodyPost_ret (results_cell_row results261 _ _ _ _ _ _ _ f (setRow_heap _ _ _ _ _ _ g) underlying297 rfl (by rw [iz,dO])) j ⟨rfl,?_⟩;exact aF (bal _ _) (Nat.le_refl _) _
theorem pG:Calls prog 261 #[] y λe a=>∃ T,e=.returned T/\Hid (T=.agg aluCells)/\Bw y a :=
 (CR y).mono λe a h=>⟨.agg aluCells,h.1,(rfl:Value.agg aluCells=.agg aluCells),h.2⟩
theorem AF.enters (f:AF):(prog.funcs[f.fn]?).map (λa=>(a.name == "runtime.NumGoroutine",a.body.isSome))=some (false,true):=by cases f<;>kernel_rfl
theorem SD.enters (s:SD):(prog.funcs[s.fn]?).map (λa=>(a.name == "runtime.NumGoroutine",a.body.isSome))=some (false,true):=by cases s<;>kernel_rfl
def Ni (w:World) (g:Nat):Prop:=g<w.heap.size/\∀ k,k<41->∀ a b c,(oz k).cells=[a,b,c]->w.cell? ⟨g,k*3,none⟩=some a/\w.cell? ⟨g,k*3+1,none⟩=some b/\w.cell? ⟨g,k*3+2,none⟩=some c
theorem Ho {t:TypeId} (h:e.heap[a]?=some (.cells aluCells t (0,0))):Ni e a:=by
 refine ⟨?_,λk c f i l g=>?_⟩
 ·by_cases d:a<e.heap.size;·exact d
  ·rw [Array.getElem?_eq_none ab] at h;cases h
 ·have w:∀ j,j<3->e.cell? ⟨a,k*3+j,none⟩=(oz k).cells[j]?:=(by intro j b;rw [cell_of_row _ _ _ _ _ _ h];exact CQ k c j b);rw [g] at w;exact ⟨w 0 bc,w 1 bc,w 2 bc⟩
theorem CS:(binOp .eql 151 (.func (.func L) #[] #[]) .nilFunc).run prog y=.ok (.bool false) y:=by kernel_rfl
theorem Fw:(binOp .eql 151 .nilFunc .nilFunc).run prog y=.ok (.bool true) y:=by kernel_rfl
theorem tP:(prog.info? 296).map (·.size)=some 3:=by kernel_rfl
theorem Nj:(#[Value.func (.func L) #[] #[],.func (.func M) #[] #[],.func (.func t) #[] #[]]:Array Value).all (·.oneCell')=true:=by simp [Value.oneCell']
theorem Nk:(#[Value.func (.func L) #[] #[],.nilFunc,.nilFunc]:Array Value).all (·.oneCell')=true:=by simp [Value.oneCell']
theorem JZ (hk:L<41) (a b:Int) (z:0<=a) (a1:a<18446744073709551616) (A:0<=b) (I:b<18446744073709551616) (f:AF) (l r:SD) (hr:Hid (oz L=.w f l r)) (w:World): CB 228 #[.i ((L:Int)+22),.u a,.u b] w (.tuple #[.u (au 32 (f.v (l.v a) (r.v b))),.bool true]):=by
 have M:wrap64 ((L:Int)+22-22)=L:=by unfold wrap64;omega
 have Q:decide ((L:Int)+22<22)=false:=by simp;omega
 have R:decide (41<=(L:Int))=false:=by simp;omega
 have C:=CS;have J:=mX f.enters;have K:=mX l.enters;have k:=mX r.enters;go_enter func228,ntmps228;go_wp2_with fail;refine (pG _).mono ?_;rintro e j ⟨T,rfl,H,u⟩;have B:(j.alloc (.cells (Value.agg eR).cells 297)).heap[j.heap.size]?=some (.cells eR 297 (0,0)):=heap_alloc_new _ _;obtain ⟨c,o⟩:∃ c,c=(j.alloc (.cells (Value.agg eR).cells 297)).setRow j.heap.size aluCells:=⟨_,rfl⟩;have D:Hid (Ni c j.heap.size):=by show Ni _ _;rw [o];exact Ho (setRow_heap _ _ _ _ _ _ B)
 have s:Hid (c=(j.alloc (.cells (Value.agg eR).cells 297)).setRow j.heap.size aluCells):=o;clear o;have y:(c.alloc (.cells #[.nilFunc,.nilFunc,.nilFunc] 296)).heap[c.heap.size]?=some (.cells #[.nilFunc,.nilFunc,.nilFunc] 296 (0,0)):=heap_alloc_new _ _;obtain ⟨q,p⟩:∃ q,q=(c.alloc (.cells #[.nilFunc,.nilFunc,.nilFunc] 296)).setRow c.heap.size #[.func (.func f.fn) #[] #[],.func (.func l.fn) #[] #[],.func (.func r.fn) #[] #[]]:=⟨_,rfl⟩;have d:q.heap[c.heap.size]?=some (.cells #[.func (.func f.fn) #[] #[],.func (.func l.fn) #[] #[],.func (.func r.fn) #[] #[]] 296 (0,0)):=by rw [p];exact setRow_heap _ _ _ _ _ _ y
 have S:q.cell? ⟨c.heap.size,0,none⟩=some (.func (.func f.fn) #[] #[]):=cell_of_row _ _ _ _ _ _ d;have U:q.cell? ⟨c.heap.size,1,none⟩=some (.func (.func l.fn) #[] #[]):=cell_of_row _ _ _ _ _ _ d;have e2:q.cell? ⟨c.heap.size,2,none⟩=some (.func (.func r.fn) #[] #[]):=cell_of_row _ _ _ _ _ _ d;have t:Hid (q=(c.alloc (.cells #[.nilFunc,.nilFunc,.nilFunc] 296)).setRow c.heap.size #[.func (.func f.fn) #[] #[],.func (.func l.fn) #[] #[],.func (.func r.fn) #[] #[]]):=p;clear p d;obtain ⟨N,O,P⟩:=D.out.2 L hk _ _ _ (by rw [hr.out];rfl);go_wp2_with (first | refine cO rfl 297 rfl (some 8) rfl _ jI ?_ | (refine wpList_store_rowTo rfl 297 (.tmp 8) (.tmp 10) rfl rfl j.heap.size aluCells rfl H.out 297 eR B (by rw [iz,dO]) (by rw [jH,dO]) jJ ?_;rw [<- s.out]) | (refine wpList_store_rowTo rfl 296 (.tmp 9) (.tmp 21) rfl rfl c.heap.size #[.func (.func f.fn) #[] #[],.func (.func l.fn) #[] #[],.func (.func r.fn) #[] #[]] rfl rfl 296 _ y tP rfl (Nj _ _ _) ?_;rw [<- t.out]));have F:Hid (∀ w:World,Calls prog l.fn #[.u a] w λe g=>e=.returned (.u (l.v a))/\∃ m,g=w.drewN m):=SD.calls l a z a1;have HR:Hid (∀ w:World,Calls prog r.fn #[.u b] w λe g=>e=.returned (.u (r.v b))/\∃ m,g=w.drewN m):=SD.calls r b A I;have E:Hid (∀ w:World,Calls prog f.fn #[.u (l.v a),.u (r.v b)] w λe g=>e=.returned (.u (f.v (l.v a) (r.v b)))/\∃ m,g=w.drewN m):=AF.calls f _ _ (l.bd a z).1 (l.bd a z).2 (r.bd b A).1 (r.bd b A).2;have G:Hid (∀ (x:Int) (w:World),Calls prog 153 #[.u x,.i 32] w λe g=>e=.returned (.u (au 32 x))/\∃ m,g=w.drewN m):=λx w=>bu (iQ x 32 ab ab w);go_quiet (first | with_reducible refine Calls.quiet_of (F.out _) | with_reducible refine Calls.quiet_of (HR.out _) | with_reducible refine Calls.quiet_of (E.out _) | with_reducible refine Calls.quiet_of (G.out _ _))
 go_wp2_with fail;go_ret2;refine ⟨rfl,rv ?_ _⟩;rw [t.out,s.out];refine aF (Below.alloc (aF (u.alloc u.size _) u.size _) ?_ _) ?_ _;·rw [setRow_size];exact Nat.le_trans u.size cp
 ·rw [setRow_size];exact Nat.le_trans u.size cp
theorem J0 (hk:L<41) (a b:Int) (A:0<=a) (a1:a<18446744073709551616) (B:0<=b) (C:b<18446744073709551616) (f:AF) (hr:Hid (oz L=.d f)) (w:World): CB 228 #[.i ((L:Int)+22),.u a,.u b] w (.tuple #[.u (f.v a b),.bool true]):=by
 have E:wrap64 ((L:Int)+22-22)=L:=by unfold wrap64;omega
 have J:decide ((L:Int)+22<22)=false:=by simp;omega
 have K:decide (41<=(L:Int))=false:=by simp;omega
 have u:=Fw;have D:=mX f.enters;go_enter func228,ntmps228;go_wp2_with fail;refine (pG _).mono ?_;rintro e g ⟨T,rfl,z,q⟩;have t:(g.alloc (.cells (Value.agg eR).cells 297)).heap[g.heap.size]?=some (.cells eR 297 (0,0)):=heap_alloc_new _ _;obtain ⟨c,j⟩:∃ c,c=(g.alloc (.cells (Value.agg eR).cells 297)).setRow g.heap.size aluCells:=⟨_,rfl⟩;have y:Hid (Ni c g.heap.size):=by show Ni _ _;rw [j];exact Ho (setRow_heap _ _ _ _ _ _ t)
 have o:Hid (c=(g.alloc (.cells (Value.agg eR).cells 297)).setRow g.heap.size aluCells):=j;clear j;have r:(c.alloc (.cells #[.nilFunc,.nilFunc,.nilFunc] 296)).heap[c.heap.size]?=some (.cells #[.nilFunc,.nilFunc,.nilFunc] 296 (0,0)):=heap_alloc_new _ _;obtain ⟨m,l⟩:∃ m,m=(c.alloc (.cells #[.nilFunc,.nilFunc,.nilFunc] 296)).setRow c.heap.size #[.func (.func f.fn) #[] #[],.nilFunc,.nilFunc]:=⟨_,rfl⟩;have d:m.heap[c.heap.size]?=some (.cells #[.func (.func f.fn) #[] #[],.nilFunc,.nilFunc] 296 (0,0)):=by rw [l];exact setRow_heap _ _ _ _ _ _ r
 have k:m.cell? ⟨c.heap.size,0,none⟩=some (.func (.func f.fn) #[] #[]):=cell_of_row _ _ _ _ _ _ d;have M:m.cell? ⟨c.heap.size,1,none⟩=some .nilFunc:=cell_of_row _ _ _ _ _ _ d;have e2:m.cell? ⟨c.heap.size,2,none⟩=some .nilFunc:=cell_of_row _ _ _ _ _ _ d;have p:Hid (m=(c.alloc (.cells #[.nilFunc,.nilFunc,.nilFunc] 296)).setRow c.heap.size #[.func (.func f.fn) #[] #[],.nilFunc,.nilFunc]):=l;clear l d;obtain ⟨G,H,I⟩:=y.out.2 L hk _ _ _ (by rw [hr.out];rfl);go_wp2_with (first | refine cO rfl 297 rfl (some 8) rfl _ jI ?_ | (refine wpList_store_rowTo rfl 297 (.tmp 8) (.tmp 10) rfl rfl g.heap.size aluCells rfl z.out 297 eR t (by rw [iz,dO]) (by rw [jH,dO]) jJ ?_;rw [<- o.out]) | (refine wpList_store_rowTo rfl 296 (.tmp 9) (.tmp 21) rfl rfl c.heap.size #[.func (.func f.fn) #[] #[],.nilFunc,.nilFunc] rfl rfl 296 _ r tP rfl (Nk _) ?_;rw [<- p.out]));refine (AF.calls f a b A a1 B C _).mono ?_;rintro e N ⟨rfl,nq,s⟩;subst s;go_wp2_with fail;go_ret2;refine ⟨rfl,rv ?_ _⟩;rw [p.out,o.out];refine aF (Below.alloc (aF (q.alloc q.size _) q.size _) ?_ _) ?_ _;·rw [setRow_size];exact Nat.le_trans q.size cp
 ·rw [setRow_size];exact Nat.le_trans q.size cp
theorem Aw (m:(Lit.int .i64 j).wf=true) (h:zK j=false) (w:World): CB 228 #[.i j,.u p,.u r] w (.tuple #[.u 0,.bool false]):=by
 have l:¬ (22<=j/\j<=62):=by simpa [zK] using h
 have a:=M9 m;clear m h;by_cases f:j<22;·have o:decide (j<22)=true:=kd;clear l f;go_enter func228,ntmps228;go_wp2_with fail;refine (pG _).mono ?_;rintro e d ⟨T,rfl,g,c⟩;have op:(d.alloc (.cells (Value.agg eR).cells 297)).heap[d.heap.size]?=some (.cells eR 297 (0,0)):=heap_alloc_new _ _;go_wp2_with (first | refine cO rfl 297 rfl (some 8) rfl _ jI ?_ | (refine wpList_store_rowTo rfl 297 (.tmp 8) (.tmp 10) rfl rfl d.heap.size aluCells rfl g.out 297 eR op (by rw [iz,dO]) (by rw [jH,dO]) jJ ?_));exact a0l
 ·have o:decide (j<22)=false:=kd;have s:wrap64 (j-22)=j-22:=ka;have b:decide (41<=j-22)=true:=bv;clear l f;go_enter func228,ntmps228;go_wp2_with fail;refine (pG _).mono ?_;rintro e d ⟨T,rfl,g,c⟩;have op:(d.alloc (.cells (Value.agg eR).cells 297)).heap[d.heap.size]?=some (.cells eR 297 (0,0)):=heap_alloc_new _ _;go_wp2_with (first | refine cO rfl 297 rfl (some 8) rfl _ jI ?_ | (refine wpList_store_rowTo rfl 297 (.tmp 8) (.tmp 10) rfl rfl d.heap.size aluCells rfl g.out 297 eR op (by rw [iz,dO]) (by rw [jH,dO]) jJ ?_));exact a0l
theorem tQ (op a b:Int) (m:(Lit.int .i64 op).wf=true) (c:0<=a) (a1:a<18446744073709551616) (g:0<=b) (i:b<18446744073709551616) (w:World):CB 228 #[.i op,.u a,.u b] w (.tuple #[.u (nv op a b),.bool (zK op)]):=by
 cases h:zK op with
 | false =>have e:nv op a b=0:=(by simp [nv,h]);rw [e];exact Aw op a b m h w
 | true =>
   have o:22<=op/\op<=62:=(by simpa [zK] using h);obtain ⟨k,rfl⟩:∃ k:Nat,op=(k:Int)+22:=⟨(op-22).toNat,ab⟩;have e:nv ((k:Int)+22) a b=(oz k).v a b:=(by simp [nv,h]);rw [e];cases j:oz k with
   | d f=>exact J0 k ab a b c a1 g i f j w
   | w f l r=>exact JZ k ab a b c a1 g i f l r j w
theorem uI (hm:t<9223372036854775808):0<=bits .and .i64 j (t:Int)/\bits .and .i64 j (t:Int)<=t:=by
 have e:bits .and .i64 j (t:Int)=wrap64 (((BitVec.ofInt 64 j).toNat &&& t:Nat):Int):=by show IntKind.i64.wrap ((BitVec.ofInt 64 j &&& BitVec.ofInt 64 (t:Int)).toNat:Int)=_;rw [BitVec.toNat_and,BitVec.ofInt_natCast,BitVec.toNat_ofNat,Nat.mod_eq_of_lt (show t<2^64 by omega)];rw [IntKind.wrap_i64];unfold wrap64;rfl
 have h:(BitVec.ofInt 64 j).toNat &&& t<=t:=Nat.and_le_right;rw [e];unfold wrap64;omega
structure Code (w0:World) (a:Option Addr) (n:Nat) (zs:List Int):Prop where
 len:zs.length=n
 few:n<=4096
 sl:Sl .u8 w0 a zs
 bd:∀ y ∈ zs,(Lit.int .u8 y).wf=true
structure lq (w0 w:World) (g:Nat) (a:Option Addr) (n cap:Nat):Prop where
 new:w0.heap.size<=g
 below:Bw w0 w
 row:∃ (i:Nat) (h:Int),i<=n/\w.heap[g]?=some (.cells #[.slice a n cap,.i (i:Int),.i h] 142 (0,0))
theorem sJ (v:Value):y.grownBy (y.setCell ⟨z,B,none⟩ v) (some z):=
 ⟨rfl,rfl,rfl,cp,λk _ a=>heap_setCell_other _ _ _ _ (by intro h;exact a (by rw [h]))⟩
theorem mY (row:Option Nat):y.grownBy (y.drewN z) row:=⟨rfl,rfl,rfl,Nat.le_refl _,λ_ _ _=>rfl⟩
theorem mq (o:Obj) (row:Option Nat):y.grownBy (y.alloc o) row :=
 ⟨rfl,rfl,rfl,cp,λk a _=>heap_alloc_old y o a⟩
theorem lq.grown {w':World} (cap:lq e x a n w b) (d:x.grownBy w' none):lq e w' a n w b:=by
 obtain ⟨i,h,j,c⟩:=cap.row;have m:∀ k o,x.heap[k]?=some o->k<x.heap.size:=by
  intro k o f;by_cases l:k<x.heap.size;·exact l
  ·rw [Array.getElem?_eq_none ab] at f;cases f
 refine ⟨cap.new,?_,i,h,j,?_⟩;·exact ⟨d.os.trans cap.below.os,d.tape.trans cap.below.tape,d.output.trans cap.below.output,Nat.le_trans cap.below.size d.size,λk f=>(d.block k (Nat.lt_of_lt_of_le f cap.below.size) cp).trans (cap.below.block k f)⟩
 ·rw [d.block a (m _ _ c) cp];exact c
theorem lq.set2 (c:lq e x a n w b) (v:Int):lq e (x.setCell ⟨a,2,none⟩ (.i v)) a n w b:=by obtain ⟨i,h,d,cap⟩:=c.row;exact ⟨c.new,c.below.setCell c.new _,i,v,d,heap_setCell_same x a 2 _ _ _ cap⟩
theorem lq.set1 {g:Nat} (c:lq e x g n a w) (j:Nat) (d:j<=a):lq e (x.setCell ⟨g,1,none⟩ (.i (j:Int))) g n a w:=by obtain ⟨i,h,f,b⟩:=c.row;exact ⟨c.new,c.below.setCell c.new _,j,h,d,heap_setCell_same x g 1 _ _ _ b⟩
theorem lq.dN (c:lq e x a n w b) (m:Nat):lq e (x.drewN m) a n w b:=c.grown (mY x m none)
theorem Fx (d:Code e n w k) (g:World) (o:lq e g a n w b): Calls prog 117 #[.p a 0] g λj t=>∃ x:Int,j=.returned (.i x)/\0<=x/\x<=255/\lq e t a n w b/\g.grownBy t (some a):=by
 obtain ⟨i,h,G,c⟩:=o.row;have z:=cell_of_row g a 2 _ _ _ c;have F:=frozen_of_row g a 2 _ _ c;simp at z;have R:∀ v,(g.setCell ⟨a,2,none⟩ v).heap[a]?=some (.cells #[.slice n w b,.i (i:Int),v] 142 (0,0)):=λv=>heap_setCell_same g a 2 _ _ v c;have C:∀ v,(g.setCell ⟨a,2,none⟩ v).cell? ⟨a,0,none⟩=some (.slice n w b):=λv=>cell_of_row _ _ _ _ _ _ (R v);have D:∀ v,(g.setCell ⟨a,2,none⟩ v).cell? ⟨a,1,none⟩=some (.i (i:Int)):=λv=>cell_of_row _ _ _ _ _ _ (R v);have E:∀ v,(g.setCell ⟨a,2,none⟩ v).cell? ⟨a,2,none⟩=some v:=λv=>cell_of_row _ _ _ _ _ _ (R v);have B:∀ v,(g.setCell ⟨a,2,none⟩ v).frozen? ⟨a,1,none⟩=false:=λv=>frozen_of_row _ _ _ _ _ (R v);have HR:Hid (∀ v,(g.setCell ⟨a,2,none⟩ v).heap[a]?=some (.cells #[.slice n w b,.i (i:Int),v] 142 (0,0))):=R;have l:Hid (lq e g a n w b):=o;have m:Hid (Code e n w k):=d;clear R c o d;by_cases q:i<w
 ·obtain ⟨cap,r,rfl,A,f⟩:=m.out.sl i (by rw [m.out.len];exact q);have u:∀ v,(g.setCell ⟨a,2,none⟩ v).cell? ⟨cap,r+i,none⟩=some (.int .u8 (k.getD i 0)):=λv=>((l.out.below.setCell l.out.new v).cell (by exact A)).trans f;obtain ⟨y,s⟩:∃ y,y=k.getD i 0:=⟨_,rfl⟩;rw [<- s] at u;clear f s;go_enter func117,ntmps117;go_wp2_with fail;go_quiet (fail)
  go_wp2_with fail;go_quiet (fail)
  go_wp2_with fail;go_quiet (fail)
  go_wp2_with fail;have p:wrap64 ((i:Int)+1)=((i+1:Nat):Int):=(by have:=m.out.few;unfold wrap64;omega);rw [p];go_ret;refine ⟨_,rfl,(uI _ 255 ab).1,(uI _ 255 ab).2,?_,?_⟩;·exact ((l.out.set2 _).dN _).set1 _ ab
  ·exact aW (aW (sJ _ _ _ _) (mY _ _ _)) (sJ _ _ _ _)
 ·go_enter func117,ntmps117;go_wp2_with fail;go_quiet (fail)
  go_wp2_with fail;go_quiet (fail)
  go_wp2_with fail;go_ret;refine ⟨_,rfl,(uI _ 255 ab).1,(uI _ 255 ab).2,?_,?_⟩;·exact ((l.out.set2 _).dN _).dN _
  ·exact aW (aW (sJ _ _ _ _) (mY _ _ _)) (mY _ _ _)
def Cs (b:World) (g:Nat) (a:Option Addr) (n cap:Nat) (w w':World):Prop:=lq b w' g a n cap/\w.grownBy w' (some g)
theorem Cs.trans {w2 w3:World} (h:Cs e a n w b x w2) (k:Cs e a n w b w2 w3):Cs e a n w b x w3:=⟨k.1,aW h.2 k.2⟩
theorem Cs.refl (h:lq e x a n w b):Cs e a n w b x x:=⟨h,lw _ _⟩
theorem kA {zs:List Int} (cap:Code e n w zs) (g:World) (l:lq e g a n w b):
 Calls prog 117 #[.p a 0] g λc d=>∃ x:Int,c=.returned (.i x)/\(0<=x/\x<=255)/\Hid (Cs e a n w b g d):=
 (Fx cap g l).mono λc d ⟨x,f,h,i,j,k⟩=>⟨x,f,⟨h,i⟩,⟨j,k⟩⟩
theorem aA (c:Code e n w k) (m:Int) (hm:0<m) (g:World) (A:lq e g a n w b): Calls prog 65 #[.p a 0,.i m] g λo J=>∃ x:Int,o=.returned (.i x)/\(0<=x/\x<m)/\Hid (Cs e a n w b g J):=by
 have cap:Hid (Code e n w k):=c;have s:Hid (lq e g a n w b):=A;have L:decide (m<=0)=false:=by simp;omega
 have t:¬ m=0:=ab
 clear c A;by_cases d:m<=256;·have B:decide (m<=256)=true:=kp;go_enter func65,ntmps65;go_wp2_with fail;refine (kA cap.out _ s.out).mono ?_;rintro o K ⟨x,rfl,⟨q,r⟩,C⟩;go_wp2_with fail;go_ret;refine ⟨_,rfl,?_,C⟩;exact ⟨Int.emod_nonneg _ t,Int.emod_lt_of_pos _ hm⟩
 ·have B:decide (m<=256)=false:=kp;go_enter func65,ntmps65;go_wp2_with fail;refine (kA cap.out _ s.out).mono ?_;rintro o K ⟨x,rfl,⟨q,r⟩,f⟩;go_wp2_with fail;refine (kA cap.out _ f.out.1).mono ?_;rintro o M ⟨y,rfl,⟨F,G⟩,j⟩;go_wp2_with fail;refine (kA cap.out _ j.out.1).mono ?_;rintro o N ⟨z,rfl,⟨H,I⟩,l⟩;go_wp2_with fail;refine (kA cap.out _ l.out.1).mono ?_;rintro o O ⟨u,rfl,⟨D,E⟩,p⟩;go_wp2_with fail;go_ret;refine ⟨_,rfl,?_,f.out.trans (j.out.trans (l.out.trans p.out))⟩;exact ⟨Int.emod_nonneg _ t,Int.emod_lt_of_pos _ hm⟩
theorem bH (cap:Code e n w k) (m:Int) (hm:0<m) (g:World) (f:lq e g a n w b): Calls prog 66 #[.p a 0,.i m] g λd r=>∃ c:Bool,d=.returned (.bool c)/\Hid (Cs e a n w b g r):=by have l:Hid (Code e n w k):=cap;have j:Hid (lq e g a n w b):=f;clear cap f;go_enter func66,ntmps66;go_wp2_with fail;refine (aA l.out m hm _ j.out).mono ?_;rintro d s ⟨x,rfl,⟨p,q⟩,o⟩;go_wp2_with fail;go_ret;exact ⟨_,rfl,o⟩
theorem Hp (d:Code y n a k): Calls prog 63 #[.slice n a L] y λe p=>∃ g,e=.returned (.p g 0)/\Hid (lq y p g n a L):=by
 have m:Hid (Code y n a k):=d;have s:=d.few;clear d;go_enter func63,ntmps63;go_wp2_with fail;go_loopw [3,4] (λh i wr=>∃ (zs:Nat) (x:Int),zs<=a/\h=.i x/\i=.i zs/\Hid (Bw y wr))
  (λ_ i _=>a-(intOf i).toNat)
 case atStart=>exact ⟨0,_,Nat.zero_le _,rfl,rfl,Below.refl _ _⟩
 case round =>
  obtain ⟨zs,x,r,rfl,rfl,c⟩:=hrel;by_cases j:zs<a
  ·obtain ⟨b,l,rfl,o,f⟩:=m.out.sl zs (by rw [m.out.len];exact j);have q:wr.cell? ⟨b,l+zs,none⟩=some (.int .u8 (k.getD zs 0)):=(c.out.cell (by exact o)).trans f;clear f;go_wp2_with fail;go_roundw;case rel=>exact ⟨zs+1,_,ab,rfl,by go_num,c⟩
   case measure=>simp [intOf];omega
  ·go_wp2_with fail;go_ret;refine ⟨_,rfl,?_⟩;exact ⟨c.out.size,c.out.alloc c.out.size _,0,x,Nat.zero_le _,heap_alloc_new _ _⟩
end Go.Proofs.YtfagphfjfhpmjaaGreatDoor
