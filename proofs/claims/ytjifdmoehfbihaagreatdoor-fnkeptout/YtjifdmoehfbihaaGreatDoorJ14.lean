/- Own lemmas. -/
import Derived.Test.YtjifdmoehfbihaaGreatDoorAuj
import Derived.Test.YtjifdmoehfbihaaGreatDoorJ07
set_option maxRecDepth 100000
set_option maxHeartbeats 4000000
namespace Go.Proofs.YtjifdmoehfbihaaGreatDoor
open Go.RowKit Tryz
open IntKind renaming u64->Uz
set_option linter.unusedVariables false
variable {a w b:Nat} {e x:World} {n:Option Addr} {g:Int} {k:List Int} {f:Value} {c:Program} {l:FuncId} {d:Array Value} {o:Ins} (L:Option Addr) (M m:Nat) (P:Bool) (T:List Int) (jj:Fm) (p r s:Int) (t:List Nat) (y:Nat) (z:World) (B Q:Nat)
theorem rt (h:Below a e x) (n:Nat):Below a e (x.drewN n):=⟨h.os,h.tape,h.output,h.size,h.block⟩
theorem bx (h:Calls c l d e λv a=>v=.returned f/\a=e):Calls c l d e λv a=>v=.returned f/\∃ m,a=e.drewN m :=
 h.mono λ_ _ h=>⟨h.1,0,h.2⟩
theorem nM (h:Calls c l d e λv a=>v=.returned f/\a=e.drew):Calls c l d e λv a=>v=.returned f/\∃ m,a=e.drewN m :=
 h.mono λ_ _ h=>⟨h.1,1,h.2⟩
theorem m7 (h:(prog.funcs[a]?).map (λn=>(n.name == "runtime.NumGoroutine",n.body.isSome))=some (false,true)) (args:Array Value) (w:World):(callFunc a args).run prog w=.ok (.enter a args) w:=by
 cases b:prog.funcs[a]? with
 | none=>rw [b] at h;cases h
 | some n =>rw [b] at h;simp only [Option.map_some,Option.some.injEq,Prod.mk.injEq] at h;have d:n.name≠ "runtime.NumGoroutine":=(by simpa using h.1);obtain ⟨c,e⟩:=Option.isSome_iff_exists.mp h.2;simp [callFunc,b,d,e,mark]
theorem Nw (h:(Lit.int .i64 g).wf=true): -9223372036854775808<=g/\g<=9223372036854775807:=by have b:IntKind.i64.min=-9223372036854775808:=rfl;have a:IntKind.i64.max=9223372036854775807:=rfl;simp only [Lit.wf,Bool.and_eq_true,decide_eq_true_eq] at h;omega
theorem Nx (a:0<=p) (b:p<18446744073709551616) (w:World):Calls prog 66 #[.u p,.i 0,.i 6] w λe c=>e=.returned (.u (sh p))/\c=w.drew:=by
 have h:=bF p 0 6 a b ab ab w;have e:dg p 0 6=sh p:=by rw [<- RZ];simp [dg]
 rw [e] at h;exact h
theorem CU (c:0<=p) (d:p<18446744073709551616) (w:World):Calls prog 264 #[.u p] w λe b=>e=.returned (.u (p%32))/\b=w.drew:=by
 have h:∀ w,Calls prog 66 #[.u p,.i 0,.i 5] w λe b=>e=.returned (.u (dg p 0 5))/\b=w.drew:=λw=>bF p 0 5 c d ab ab w;have e:dg p 0 5=p%32:=by simp [dg]
 rw [e] at h;go_enter func264,ntmps264;go_wp2_with fail;refine (h _).mono ?_;exact a0d
theorem Kb (b:0<=p) (w:World):CE 228 #[.u p,.i 4] w (.u (p%4294967296)):=by have F:Hid (Uz.wrap (p*2^32)/2^32=p%4294967296):=yt p 4 ab ab b;go_enter func228,ntmps228;go_wp2_with fail;go_ret;exact ⟨by rw [<- F.out];rfl,rfl⟩
theorem tR (b:0<=p) (w:World):CE 243 #[.u p] w (.u (p%4294967296)):=by go_enter func243,ntmps243;go_wp2_with fail;refine (Kb p b _).mono ?_;rintro e d ⟨rfl,rfl⟩;exact x7
theorem pW:CE 242 #[.u p] z (.u (au 32 p)):=by go_enter func242,ntmps242;go_wp2_with fail;refine (iX p 32 ab ab _).mono ?_;rintro e d ⟨rfl,b⟩;subst b;exact x7
theorem zd:CE 255 #[.u p,.u r] z (.u (Uz.wrap (p+r))):=by go_enter func255,ntmps255;exact x7
theorem sJ:CE 265 #[.u p,.u r] z (.u (Uz.wrap (p-r))):=by go_enter func265,ntmps265;exact x7
theorem xW:CE 266 #[.u p,.u r] z (.u (Uz.wrap (p*r))):=by go_enter func266,ntmps266;exact x7
theorem ze:CE 258 #[.u p,.u r] z (.u (bits .xor .u64 p r)):=by go_enter func258,ntmps258;exact x7
theorem CV:CE 259 #[.u p,.u r] z (.u (bits .or .u64 p r)):=by go_enter func259,ntmps259;exact x7
theorem zf:CE 260 #[.u p,.u r] z (.u (bits .and .u64 p r)):=by go_enter func260,ntmps260;exact x7
theorem Av:CE 277 #[.u p,.u r] z (.u r):=by go_enter func277,ntmps277;exact x7
theorem xX (c:0<=r) (d:r<18446744073709551616) (w:World):Calls prog 261 #[.u p,.u r] w λe g=>e=.returned (.u (Uz.wrap (p*2^sh r)))/\g=w.drew:=by have f:=GO r;go_enter func261,ntmps261;go_wp2_with fail;refine (Nx r c d _).mono ?_;exact a0e
theorem wY (c:0<=r) (d:r<18446744073709551616) (w:World):Calls prog 262 #[.u p,.u r] w λe g=>e=.returned (.u (p/2^sh r))/\g=w.drew:=by have f:=GO r;go_enter func262,ntmps262;go_wp2_with fail;refine (Nx r c d _).mono ?_;exact a0e
theorem oV (c:0<=r) (d:r<18446744073709551616) (w:World):Calls prog 263 #[.u p,.u r] w λe g=>e=.returned (.u (Uz.wrap (wrap64 p/2^sh r)))/\g=w.drew:=by have f:=GO r;go_enter func263,ntmps263;go_wp2_with fail;refine (Nx r c d _).mono ?_;exact a0e
theorem tT:CE 274 #[.u p,.u r] z (.bool (p==r)):=by go_enter func274,ntmps274;exact x7
theorem j8:CE 275 #[.u p,.u r] z (.bool (decide (wrap64 p<wrap64 r))):=by go_enter func275,ntmps275;exact x7
theorem lW:CE 276 #[.u p,.u r] z (.bool (decide (p<r))):=by go_enter func276,ntmps276;exact x7
theorem zg:CE 286 #[.bool P] z (.u (EL P)):=by
 cases P;all_goals go_enter func286,ntmps286
 all_goals go_wp2_with fail
 all_goals go_ret
 all_goals exact ⟨rfl,rfl⟩
theorem Ny:CE 104 #[.bool P] z (.u (EL P)):=by
 cases P;all_goals go_enter func104,ntmps104
 all_goals go_wp2_with fail
 all_goals go_ret
 all_goals exact ⟨rfl,rfl⟩
theorem wZ:CE 256 #[.u p,.u r] z (.u (EL (decide (wrap64 p<wrap64 r)))):=by go_enter func256,ntmps256;go_wp2_with fail;refine (j8 p r _).mono ?_;rintro e d ⟨rfl,rfl⟩;go_wp2_with fail;refine (zg _ _).mono ?_;exact a0d
theorem Aw:CE 257 #[.u p,.u r] z (.u (EL (decide (p<r)))):=by go_enter func257,ntmps257;go_wp2_with fail;refine (lW p r _).mono ?_;rintro e d ⟨rfl,rfl⟩;go_wp2_with fail;refine (zg _ _).mono ?_;exact a0d
theorem Kc (c:0<=p) (a1:p<18446744073709551616) (d:0<=r) (f:r<18446744073709551616) (w:World): CE 287 #[.u p,.u r] w (.tuple #[.u (kT p r),.u (Uz.wrap (p*r))]):=by obtain ⟨b,q,a,o,t,u,v,j,e2,e3,e4,e5,e6,e7,l,m⟩:=vJ p r c a1 d f;have m1:=lG p c a1;have m2:=lG r d f;go_enter func287,ntmps287;go_wp2;go_ret2;exact a07
theorem nN (c:0<=p) (a1:p<18446744073709551616) (d:0<=r) (f:r<18446744073709551616) (w:World): CE 269 #[.u p,.u r] w (.u (kT p r)):=by go_enter func269,ntmps269;go_wp2_with fail;refine (Kc p r c a1 d f _).mono ?_;exact a0e
theorem ru (c:0<=p) (a1:p<18446744073709551616) (d:0<=r) (f:r<18446744073709551616) (w:World): CE 181 #[.u p,.u r] w (.u (kT p r)):=by
 obtain ⟨s,b,q,a,t,u,v,j,e2,e3,e4,e5,e6,e7,o,l⟩:=vJ r p d f c a1;have g:kT r p=kT p r:=by simp only [kT,Int.mul_comm]
 rw [Int.mul_comm] at j e2 e3 e4;rw [Int.add_comm] at e7;rw [g] at l;clear g;have m1:=lG p c a1;have m2:=lG r d f;go_enter func181,ntmps181;exact wl
theorem jm (c:0<=p) (a1:p<18446744073709551616) (f:0<=r) (g:r<18446744073709551616) (w:World): CE 268 #[.u p,.u r] w (.u (gv p r)):=by
 by_cases h:wrap64 p<0;·have F:Hid (gv p r=Uz.wrap (kT p r-r)):=(by show _=_;unfold gv;rw [if_pos h]);have d:decide (wrap64 p<0)=true:=eo;clear h;go_enter func268,ntmps268;go_wp2_with fail;refine (nN p r c a1 f g _).mono ?_;exact a0f
 ·have F:Hid (gv p r=kT p r):=(by show _=_;unfold gv;rw [if_neg h]);have d:decide (wrap64 p<0)=false:=eo;clear h;go_enter func268,ntmps268;go_wp2_with fail;refine (nN p r c a1 f g _).mono ?_;exact a0f
theorem xa (c:0<=p) (a1:p<18446744073709551616) (f:0<=r) (g:r<18446744073709551616) (w:World): CE 267 #[.u p,.u r] w (.u (mA p r)):=by
 by_cases h:wrap64 r<0;·have F:Hid (mA p r=Uz.wrap (gv p r-p)):=(by show _=_;unfold mA;rw [if_pos h]);have d:decide (wrap64 r<0)=true:=eo;clear h;go_enter func267,ntmps267;go_wp2_with fail;refine (jm p r c a1 f g _).mono ?_;exact a0f
 ·have F:Hid (mA p r=gv p r):=(by show _=_;unfold mA;rw [if_neg h]);have d:decide (wrap64 r<0)=false:=eo;clear h;go_enter func267,ntmps267;go_wp2_with fail;refine (jm p r c a1 f g _).mono ?_;exact a0f
theorem qk (c:0<=r) (f:r<18446744073709551616) (w:World): CE 270 #[.u p,.u r] w (.u (AF.div.v p r)):=by
 by_cases h:r=0;·have F:Hid (AF.div.v p r=18446744073709551615):=ep;have d:(r==0)=true:=eo;clear h;go_enter func270,ntmps270;exact a02
 ·have F:Hid (AF.div.v p r=Uz.wrap (wrap64 ((wrap64 p).tdiv (wrap64 r)))):=ep;have d:(r==0)=false:=eo;have j:¬ wrap64 r=0:=(by rw [fz c f];exact h);clear h;go_enter func270,ntmps270;exact a02
theorem xb (c:0<=r) (f:r<18446744073709551616) (w:World): CE 272 #[.u p,.u r] w (.u (AF.rem.v p r)):=by
 by_cases h:r=0;·have F:Hid (AF.rem.v p r=p):=ep;have d:(r==0)=true:=eo;clear h;go_enter func272,ntmps272;exact a02
 ·have F:Hid (AF.rem.v p r=Uz.wrap ((wrap64 p).tmod (wrap64 r))):=ep;have d:(r==0)=false:=eo;have j:¬ wrap64 r=0:=(by rw [fz c f];exact h);clear h;go_enter func272,ntmps272;exact a02
theorem sK: CE 271 #[.u p,.u r] z (.u (AF.divu.v p r)):=by
 by_cases h:r=0;·have F:Hid (AF.divu.v p r=18446744073709551615):=ep;have d:(r==0)=true:=eo;clear h;go_enter func271,ntmps271;exact a02
 ·have F:Hid (AF.divu.v p r=Uz.wrap (p.tdiv r)):=ep;have d:(r==0)=false:=eo;go_enter func271,ntmps271;exact a02
theorem Ax: CE 273 #[.u p,.u r] z (.u (AF.remu.v p r)):=by
 by_cases h:r=0;·have F:Hid (AF.remu.v p r=p):=ep;have d:(r==0)=true:=eo;clear h;go_enter func273,ntmps273;exact a02
 ·have F:Hid (AF.remu.v p r=p.tmod r):=ep;have d:(r==0)=false:=eo;go_enter func273,ntmps273;exact a02
def Pc (op:Int):Bool:=decide (5<=op/\op<=10)
def KO (op a b:Int):Bool :=
 if op=5 then (a==b) else if op=6 then !(a==b) else if op=7 then decide (wrap64 a<wrap64 b) else if op=8 then !decide (wrap64 a<wrap64 b)
 else if op=9 then decide (a<b) else if op=10 then !decide (a<b) else false
theorem CW (h:Pc g=true):g=5\/g=6\/g=7\/g=8\/g=9\/g=10:=by
 have:5<=g/\g<=10:=by simpa [Pc] using h
 omega
theorem Qv (h:Pc g=false) (a b:Int):KO g a b=false:=by
 have:¬ (5<=g/\g<=10):=by simpa [Pc] using h
 unfold KO;rw [if_neg ab,if_neg ab,if_neg ab,if_neg ab,if_neg ab,if_neg ab]
theorem kP:(prog.info? 273).map (·.size)=some 3:=by kernel_rfl
theorem oW:(#[Value.func (.func 274) #[] #[],.func (.func 275) #[] #[],.func (.func 276) #[] #[]]:Array Value).all (·.oneCell')=true:=by kernel_rfl
theorem xc:CB 240 #[] z (.agg #[.func (.func 274) #[] #[],.func (.func 275) #[] #[],.func (.func 276) #[] #[]]):=by have b:(z.alloc (.cells #[.nilFunc,.nilFunc,.nilFunc] 273)).heap[z.heap.size]?=some (.cells #[.nilFunc,.nilFunc,.nilFunc] 273 (0,0)):=heap_alloc_new _ _;go_enter func240,ntmps240;go_wp2_with (refine wpList_store_rowTo rfl 273 (.tmp 0) (.tmp 4) rfl rfl z.heap.size #[.func (.func 274) #[] #[],.func (.func 275) #[] #[],.func (.func 276) #[] #[]] rfl rfl 273 _ b kP rfl oW ?_);refine bodyPost_ret (results_cell_row results240 _ _ _ _ _ _ _ rfl (setRow_heap _ _ _ _ _ _ b) underlying273 rfl kP) rfl ⟨rfl,?_⟩;exact aI (bal _ _) (Nat.le_refl _) _
theorem kQ (h:Pc p=true) (w:World): CB 209 #[.i p,.u r,.u s] w (.tuple #[.bool (KO p r s),.bool true]):=by
 have G:=tT r s
 have e2:=j8 r s
 have e3:=lW r s
 obtain ⟨op,b⟩:∃ c,c=(r==s):=⟨_,rfl⟩
 obtain ⟨q,t⟩:∃ c,c=decide (wrap64 r<wrap64 s):=⟨_,rfl⟩
 obtain ⟨a,u⟩:∃ c,c=decide (r<s):=⟨_,rfl⟩
 have F:Hid (∀ p,KO p r s=if p=5 then op else if p=6 then !op else if p=7 then q else if p=8 then !q else if p=9 then a else if p=10 then !a else false):=by
  intro p;rw [b,t,u];rfl
 have B:Hid (∀ w:World,CE 274 #[.u r,.u s] w (.bool op)):=by rw [b];exact tT r s
 have C:Hid (∀ w:World,CE 275 #[.u r,.u s] w (.bool q)):=by rw [t];exact j8 r s
 have D:Hid (∀ w:World,CE 276 #[.u r,.u s] w (.bool a)):=by rw [u];exact lW r s
 clear b t u G e2 e3
 rcases CW h with rfl|rfl|rfl|rfl|rfl|rfl
 all_goals
  go_enter func209,ntmps209
  go_wp2_with fail
  refine (xc _).mono ?_
  rintro e f ⟨rfl,y⟩
  have z:(f.alloc (.cells #[.nilFunc,.nilFunc,.nilFunc] 273)).heap[f.heap.size]?=some (.cells #[.nilFunc,.nilFunc,.nilFunc] 273 (0,0)):=heap_alloc_new _ _
  obtain ⟨j,g⟩:∃ j,j=(f.alloc (.cells #[.nilFunc,.nilFunc,.nilFunc] 273)).setRow f.heap.size #[.func (.func 274) #[] #[],.func (.func 275) #[] #[],.func (.func 276) #[] #[]]:=⟨_,rfl⟩
  have m:j.heap[f.heap.size]?=some (.cells #[.func (.func 274) #[] #[],.func (.func 275) #[] #[],.func (.func 276) #[] #[]] 273 (0,0)):=by rw [g];exact setRow_heap _ _ _ _ _ _ z
  have H:j.cell? ⟨f.heap.size,0,none⟩=some (.func (.func 274) #[] #[]):=cell_of_row _ _ _ _ _ _ m
  have I:j.cell? ⟨f.heap.size,1,none⟩=some (.func (.func 275) #[] #[]):=cell_of_row _ _ _ _ _ _ m
  have J:j.cell? ⟨f.heap.size,2,none⟩=some (.func (.func 276) #[] #[]):=cell_of_row _ _ _ _ _ _ m
  have E:Hid (Bw w j):=by rw [g];exact aI (y.alloc y.size _) y.size _
  have o:Hid (j=(f.alloc (.cells #[.nilFunc,.nilFunc,.nilFunc] 273)).setRow f.heap.size #[.func (.func 274) #[] #[],.func (.func 275) #[] #[],.func (.func 276) #[] #[]]):=g
  clear g m
  go_wp2_with (first
   | (refine wpList_store_rowTo rfl 273 (.tmp 8) (.tmp 12) rfl rfl f.heap.size #[.func (.func 274) #[] #[],.func (.func 275) #[] #[],.func (.func 276) #[] #[]] rfl rfl 273 _ z kP rfl oW ?_;rw [<- o.out])
   | (go_at_call 274;with_reducible refine (B.out _).mono ?_;rintro e A ⟨rfl,d⟩;subst d)
   | (go_at_call 275;with_reducible refine (C.out _).mono ?_;rintro e A ⟨rfl,d⟩;subst d)
   | (go_at_call 276;with_reducible refine (D.out _).mono ?_;rintro e A ⟨rfl,d⟩;subst d))
  go_ret2
  exact ⟨bh,E.out⟩
theorem zh:decide (r<=p)=!decide (p<r):=by
 by_cases h:p<r;·simp [h]
 ·simp [h];omega
theorem xd: CE 126 #[.i p,.u r,.u s] z (.tuple #[.bool (KO p r s),.bool (Pc p)]):=by
 cases h:Pc p with
 | false =>rw [Qv h];have a:¬ (5<=p/\p<=10):=(by simpa [Pc] using h);have d5:(p==5)=false:=bv;have d6:(p==6)=false:=bv;have d7:(p==7)=false:=bv;have d8:(p==8)=false:=bv;have d9:(p==9)=false:=bv;have VL:(p==10)=false:=bv;clear h a;go_enter func126,ntmps126;go_wp2_with fail;go_ret2;exact a07
 | true =>
   have o:=zh (wrap64 r) (wrap64 s);have op:=zh r s;have q:(r != s)=!(r==s):=rfl;obtain ⟨j,d⟩:∃ c,c=(r==s):=⟨_,rfl⟩;obtain ⟨l,f⟩:∃ c,c=decide (wrap64 r<wrap64 s):=⟨_,rfl⟩;obtain ⟨m,g⟩:∃ c,c=decide (r<s):=⟨_,rfl⟩;have F:Hid (∀ p,KO p r s=if p=5 then j else if p=6 then !j else if p=7 then l else if p=8 then !l else if p=9 then m else if p=10 then !m else false):=(by intro p;rw [d,f,g];rfl);rw [<- d] at q;rw [<- f] at o;rw [<- g] at op;have t:=d.symm;have u:=f.symm;have y:=g.symm;clear d f g;rcases CW h with rfl|rfl|rfl|rfl|rfl|rfl;all_goals
    go_enter func126,ntmps126
    go_wp2_with fail
    go_ret2
    exact ⟨bh,rfl⟩
theorem Ay:∀ n k j,cD p n k=some j->k<=j/\j<k+n/\mE j p=true:=by
 intro n;induction n with
 | zero=>intro k j h;simp [cD] at h
 | succ n b =>
   intro k j h;rw [cD] at h;split at h;·rename_i a;simp at h;subst h;exact ⟨ab,ab,a⟩
   ·have:=b (k+1) j h;exact ⟨ab,ab,this.2.2⟩
theorem Nz (h:Ca g=some o):g<4294967296/\∃ k,k<98/\mE k g=true/\o=qJ k g:=by
 unfold Ca at h;split at h
 ·rename_i c;cases a:cD g 98 0 with
  | none=>rw [a] at h;simp at h
  | some k =>rw [a] at h;simp at h;obtain ⟨d,e,b⟩:=Ay g 98 0 k a;exact ⟨c,k,ab,b,h.symm⟩
 ·simp at h
theorem TH:0<=LK jj p/\LK jj p<=31:=by have:=kL p 7 5;unfold LK;split<;>omega
theorem Va:0<=aV jj p/\aV jj p<=31:=by have:=kL p 15 5;unfold aV;split<;>omega
theorem Vb:0<=bV jj p/\bV jj p<=31:=by have:=kL p 20 5;unfold bV;split<;>omega
theorem Az (h:p%2=0):au 13 p%2=0:=by
 have e:(2:Int)^(64-13)=2251799813685248:=bc
 unfold au;exact a06
theorem AA (h:p%2=0):au 21 p%2=0:=by
 have e:(2:Int)^(64-21)=8796093022208:=bc
 unfold au;exact a06
structure jS (i:Ins):Prop where
 op1:1<=i.op
 op98:i.op<=98
 rd0:0<=i.rd
 rd31:i.rd<=31
 a0:0<=i.a
 a31:i.a<=31
 b0:0<=i.b
 b31:i.b<=31
 im0 : -9223372036854775808<=i.imm
 im1:i.imm<9223372036854775808
 even:(i.op=3\/5<=i.op/\i.op<=10)->i.imm%2=0
theorem TI:∀ k,k<98->(k=2\/4<=k/\k<=9)->(cj k).fm=.b\/(cj k).fm=.j:=by
 have h:(List.range 98).all (λk=>!(decide (k=2\/4<=k/\k<=9))||(decide ((cj k).fm=.b\/(cj k).fm=.j)))=true:=ba
 intro k a e;have:=List.all_eq_true.1 h k oi;rw [decide_eq_true e] at this;simpa using this
theorem AB (h:Ca g=some o):jS o:=by
 obtain ⟨j,k,f,x,rfl⟩:=Nz h;have a:=TH (cj k).fm g;have b:=Va (cj k).fm g;have c:=Vb (cj k).fm g;have d : -9223372036854775808<=nX (cj k).fm g/\nX (cj k).fm g<9223372036854775808:=by unfold nX RowKit.wrap64;omega
 refine ⟨by show (1:Int)<=(k:Int)+1;omega,by show (k:Int)+1<=98;omega,a.1,a.2,b.1,b.2,c.1,c.2,d.1,d.2,λe=>?_⟩;have e2:k=2\/4<=k/\k<=9:=by have e3:((k:Int)+1=3\/5<=(k:Int)+1/\(k:Int)+1<=10):=e;omega
 show nX (cj k).fm g%2=0;rcases TI k f e2 with q|q<;>rw [q]<;>unfold nX;·have:=Az (zR .b g) (by simp only [zR];omega);show RowKit.wrap64 (au 13 (zR .b g))%2=0;unfold RowKit.wrap64;omega
 ·have:=AA (zR .j g) (by simp only [zR];omega);show RowKit.wrap64 (au 21 (zR .j g))%2=0;unfold RowKit.wrap64;omega
theorem sL:CE 127 #[.u p,.u 32] z (.u (au 32 p)):=eE p 32 ab ab z
theorem sN (j:0<=p) (a1:p<18446744073709551616) (c:0<=r) (f:r<18446744073709551616) (w:World):CE 182 #[.string ⟨#[100,105,118]⟩,.u p,.u r] w (.u (AF.div.v p r)):=by
 by_cases h:r=0;·have F:Hid (AF.div.v p r=18446744073709551615):=ep;have d:(wrap64 r==0)=true:=(by simpa using (fz c f).mpr h);exact a0g
 by_cases g:r=18446744073709551615;·have F:Hid (AF.div.v p r=Uz.wrap (-p)):=(by show _=_;simp only [AF.v,if_neg h];rw [(js c f).mpr g];exact LA p j a1);have d:(wrap64 r==0)=false:=qh;have l:(wrap64 r == -1)=true:=(by simpa using (js c f).mpr g);exact a0h
 ·have F:Hid (AF.div.v p r=Uz.wrap (wrap64 ((wrap64 p).tdiv (wrap64 r)))):=ep;have d:(wrap64 r==0)=false:=qh;have l:(wrap64 r == -1)=false:=(by simpa using λk=>g ((js c f).mp k));have o:¬ wrap64 r=0:=λk=>h ((fz c f).mp k);exact a0h
theorem sO (m:0<=p) (a1:p<18446744073709551616) (c:0<=r) (f:r<18446744073709551616) (w:World):CE 182 #[.string ⟨#[114,101,109]⟩,.u p,.u r] w (.u (AF.rem.v p r)):=by
 by_cases h:r=0;·have F:Hid (AF.rem.v p r=p):=ep;have d:(wrap64 r==0)=true:=(by simpa using (fz c f).mpr h);exact a0g
 by_cases g:r=18446744073709551615;·have F:Hid (AF.rem.v p r=0):=(by show _=_;simp only [AF.v,if_neg h];rw [(js c f).mpr g];exact LC p);have d:(wrap64 r==0)=false:=qh;have j:(wrap64 r == -1)=true:=(by simpa using (js c f).mpr g);exact a0h
 ·have F:Hid (AF.rem.v p r=Uz.wrap ((wrap64 p).tmod (wrap64 r))):=ep;have d:(wrap64 r==0)=false:=qh;have j:(wrap64 r == -1)=false:=(by simpa using λk=>g ((js c f).mp k));have o:¬ wrap64 r=0:=λk=>h ((fz c f).mp k);exact a0h
theorem ql (c:0<=p) (a1:p<18446744073709551616) (f:0<=r) (g:r<18446744073709551616) (w:World):CE 182 #[.string ⟨#[100,105,118,117]⟩,.u p,.u r] w (.u (AF.divu.v p r)):=by
 by_cases h:r=0;·have F:Hid (AF.divu.v p r=18446744073709551615):=ep;have d:(r==0)=true:=eo;exact a0g
 ·have F:Hid (AF.divu.v p r=Uz.wrap (p.tdiv r)):=ep;have d:(r==0)=false:=eo;clear c a1 f g;go_enter func182,ntmps182;exact a02
theorem qm (c:0<=p) (a1:p<18446744073709551616) (f:0<=r) (g:r<18446744073709551616) (w:World):CE 182 #[.string ⟨#[114,101,109,117]⟩,.u p,.u r] w (.u (AF.remu.v p r)):=by
 by_cases h:r=0;·have F:Hid (AF.remu.v p r=p):=ep;have d:(r==0)=true:=eo;exact a0g
 ·have F:Hid (AF.remu.v p r=p.tmod r):=ep;have d:(r==0)=false:=eo;clear c a1 f g;go_enter func182,ntmps182;exact a02
abbrev O3 (a b:Int) (w:World) (s:Array UInt8) (k:Nat):Prop:=CE 128 #[.string ⟨s⟩,.u a,.u b] w (.u ((oD k).v a b))
def U4 (a b:Int):Prop:=0<=a/\a<18446744073709551616/\0<=b/\b<18446744073709551616
section
variable (a b : Int) (w : World)
theorem V7:O3 a b w #[97,100,100,105] 0/\O3 a b w #[120,111,114,105] 3/\O3 a b w #[111,114,105] 4/\O3 a b w #[97,110,100,105] 5/\O3 a b w #[97,100,100] 13/\O3 a b w #[115,117,98] 14/\O3 a b w #[120,111,114] 18/\O3 a b w #[111,114] 21/\O3 a b w #[97,110,100] 22/\O3 a b w #[109,117,108] 28:=by
 refine ⟨?_,?_,?_,?_,?_,?_,?_,?_,?_,?_⟩<;>(
  delta O3
  go_enter func128,ntmps128
  go_wp2_with (fail)
  go_ret
  exact ⟨rfl,rfl⟩)
theorem Wd:O3 a b w #[115,108,116,105] 1/\O3 a b w #[115,108,116,105,117] 2/\O3 a b w #[115,108,116] 16/\O3 a b w #[115,108,116,117] 17:=by
 refine ⟨?_,?_,?_,?_⟩<;>(
  delta O3
  go_enter func128,ntmps128
  go_wp2_with (go_at_call 104;with_reducible refine (Ny _ _).mono ?_;rintro e c ⟨rfl,rfl⟩)
  go_ret
  exact ⟨rfl,rfl⟩)
theorem Wi (g:U4 a b):O3 a b w #[115,108,108,105] 6/\O3 a b w #[115,114,108,105] 7/\O3 a b w #[115,114,97,105] 8/\O3 a b w #[115,108,108] 15/\O3 a b w #[115,114,108] 19/\O3 a b w #[115,114,97] 20:=by
 obtain ⟨j,l,c,d⟩:=g
 have m:bits .and .u64 b 63=(sh b:Int):=by rw [<- RZ];exact cK b 6 c d ab
 have f:=GO b
 refine ⟨?_,?_,?_,?_,?_,?_⟩<;>(
  delta O3
  go_enter func128,ntmps128
  go_wp2_with (fail)
  go_ret
  exact ⟨rfl,rfl⟩)
theorem Wj (l:U4 a b):O3 a b w #[97,100,100,105,119] 9/\O3 a b w #[97,100,100,119] 23/\O3 a b w #[115,117,98,119] 24/\O3 a b w #[109,117,108,119] 36/\O3 a b w #[115,108,108,105,119] 10/\O3 a b w #[115,108,108,119] 25/\O3 a b w #[115,114,108,105,119] 11/\O3 a b w #[115,114,108,119] 26/\O3 a b w #[115,114,97,105,119] 12/\O3 a b w #[115,114,97,119] 27:=by
 obtain ⟨c,d,f,g⟩:=l
 have o:bits .and .u64 b 31=(Lz b:Int):=by rw [<- Tf];exact cK b 5 f g ab
 have j:=Tg b
 have m:=lG a c d
 refine ⟨?_,?_,?_,?_,?_,?_,?_,?_,?_,?_⟩<;>(
  delta O3
  go_enter func128,ntmps128
  go_wp2_with (go_at_call 127;with_reducible refine (sL _ _).mono ?_;rintro e p ⟨rfl,rfl⟩)
  go_ret
  exact ⟨by first | (rw [UD];rfl) | (rw [UF];rfl) | (rw [UG];rfl) | (rw [VQ];rfl) | (rw [VR];rfl) | (rw [UH];rfl),rfl⟩)
theorem Wl (j:U4 a b):O3 a b w #[109,117,108,104,117] 31:=by obtain ⟨c,d,f,g⟩:=j;delta O3;go_enter func128,ntmps128;go_wp2_with (go_at_call 181;with_reducible refine (ru a b c d f g _).mono ?_;rintro e l ⟨rfl,rfl⟩);go_ret;exact a07
theorem Wm (m:U4 a b):O3 a b w #[100,105,118] 32/\O3 a b w #[100,105,118,117] 33/\O3 a b w #[114,101,109] 34/\O3 a b w #[114,101,109,117] 35:=by
 obtain ⟨f,g,j,l⟩:=m
 have c:=And.intro f g
 have d:=And.intro j l
 refine ⟨?_,?_,?_,?_⟩<;>(
  delta O3
  go_enter func128,ntmps128
  go_wp2_with (go_at_call 182;(first | with_reducible refine (sN a b c.1 c.2 d.1 d.2 _).mono ?_ | with_reducible refine (ql a b c.1 c.2 d.1 d.2 _).mono ?_ | with_reducible refine (sO a b c.1 c.2 d.1 d.2 _).mono ?_ | with_reducible refine (qm a b c.1 c.2 d.1 d.2 _).mono ?_);rintro e o ⟨rfl,rfl⟩)
  go_ret
  exact ⟨rfl,rfl⟩)
theorem Wn (f:U4 a b):O3 a b w #[100,105,118,119] 37/\O3 a b w #[114,101,109,119] 39:=by
 obtain ⟨j,l,m,o⟩:=f
 have c:=bu a
 have d:=bu b
 refine ⟨?_,?_⟩<;>(
  delta O3
  go_enter func128,ntmps128
  go_wp2_with (first | (go_at_call 127;with_reducible refine (sL _ _).mono ?_;rintro e g ⟨rfl,rfl⟩) | (go_at_call 182;(first | with_reducible refine (sN (au 32 a) (au 32 b) c.1 c.2 d.1 d.2 _).mono ?_ | with_reducible refine (ql (au 32 a) (au 32 b) c.1 c.2 d.1 d.2 _).mono ?_ | with_reducible refine (sO (au 32 a) (au 32 b) c.1 c.2 d.1 d.2 _).mono ?_ | with_reducible refine (qm (au 32 a) (au 32 b) c.1 c.2 d.1 d.2 _).mono ?_);rintro e g ⟨rfl,rfl⟩))
  go_ret
  exact ⟨rfl,rfl⟩)
theorem Wo (m:U4 a b):O3 a b w #[100,105,118,117,119] 38/\O3 a b w #[114,101,109,117,119] 40:=by
 obtain ⟨f,g,j,l⟩:=m
 have p:=lG a f g
 have q:=lG b j l
 have c:0<=a%4294967296/\a%4294967296<18446744073709551616:=ab
 have d:0<=b%4294967296/\b%4294967296<18446744073709551616:=ab
 refine ⟨?_,?_⟩<;>(
  delta O3
  go_enter func128,ntmps128
  go_wp2_with (first | (go_at_call 127;with_reducible refine (sL _ _).mono ?_;rintro e o ⟨rfl,rfl⟩) | (go_at_call 182;(first | with_reducible refine (sN (a%4294967296) (b%4294967296) c.1 c.2 d.1 d.2 _).mono ?_ | with_reducible refine (ql (a%4294967296) (b%4294967296) c.1 c.2 d.1 d.2 _).mono ?_ | with_reducible refine (sO (a%4294967296) (b%4294967296) c.1 c.2 d.1 d.2 _).mono ?_ | with_reducible refine (qm (a%4294967296) (b%4294967296) c.1 c.2 d.1 d.2 _).mono ?_);rintro e o ⟨rfl,rfl⟩))
  go_ret
  exact ⟨rfl,rfl⟩)
theorem Wp (u:U4 a b):O3 a b w #[109,117,108,104] 29/\O3 a b w #[109,117,108,104,115,117] 30:=by
 obtain ⟨o,p,q,r⟩:=u
 have g:Hid ((oD 29).v a b=mA a b):=rfl
 have j:Hid ((oD 30).v a b=gv a b):=rfl
 obtain ⟨y,c⟩:∃ v,v=mA a b:=⟨_,rfl⟩
 obtain ⟨z,e2⟩:∃ v,v=gv a b:=⟨_,rfl⟩
 unfold O3
 rw [g.out,j.out,<- c,<- e2]
 unfold mA gv at c
 unfold gv at e2
 clear g j
 by_cases d:wrap64 a<0<;>by_cases f:wrap64 b<0<;>(
  simp only [d,f,if_true,if_false] at c e2
  have l:Hid (y=_):=c
  have m:Hid (z=_):=e2
  clear c e2
  first | have s:decide (wrap64 a<0)=true:=decide_eq_true d | have s:decide (wrap64 a<0)=false:=decide_eq_false d
  first | have t:decide (wrap64 b<0)=true:=decide_eq_true f | have t:decide (wrap64 b<0)=false:=decide_eq_false f
  clear d f
  refine ⟨?_,?_⟩<;>(
   go_enter func128,ntmps128
   go_wp2_with (go_at_call 181;with_reducible refine (ru a b o p q r _).mono ?_;rintro e A ⟨rfl,rfl⟩)
   go_ret
   exact ⟨by first | (rw [l.out];rfl) | (rw [m.out];rfl),rfl⟩))
end
theorem NA (hk:M<41) (s:ByteArray) (hs:s=(cj (M+21)).name) (a b:Int) (N:0<=a) (a1:a<18446744073709551616) (O:0<=b) (P:b<18446744073709551616) (w:World):CE 128 #[.string s,.u a,.u b] w (.u ((oD M).v a b)):=by
 subst hs;have c:U4 a b:=⟨N,a1,O,P⟩;obtain ⟨Q,T,U,V,i,j,o,r,t,A⟩:=V7 a b w;obtain ⟨R,S,m,n⟩:=Wd a b w;obtain ⟨W,X,Y,l,p,q⟩:=Wi a b w c;obtain ⟨Z,u,v,I,d,x,f,y,g,z⟩:=Wj a b w c;have D:=Wl a b w c;obtain ⟨E,F,G,H⟩:=Wm a b w c;obtain ⟨J,L⟩:=Wn a b w c;obtain ⟨K,k⟩:=Wo a b w c;obtain ⟨B,C⟩:=Wp a b w c;match M,hk with
 | 0,_=>exact Q
 | 1,_=>exact R
 | 2,_=>exact S
 | 3,_=>exact T
 | 4,_=>exact U
 | 5,_=>exact V
 | 6,_=>exact W
 | 7,_=>exact X
 | 8,_=>exact Y
 | 9,_=>exact Z
 | 10,_=>exact d
 | 11,_=>exact f
 | 12,_=>exact g
 | 13,_=>exact i
 | 14,_=>exact j
 | 15,_=>exact l
 | 16,_=>exact m
 | 17,_=>exact n
 | 18,_=>exact o
 | 19,_=>exact p
 | 20,_=>exact q
 | 21,_=>exact r
 | 22,_=>exact t
 | 23,_=>exact u
 | 24,_=>exact v
 | 25,_=>exact x
 | 26,_=>exact y
 | 27,_=>exact z
 | 28,_=>exact A
 | 29,_=>exact B
 | 30,_=>exact C
 | 31,_=>exact D
 | 32,_=>exact E
 | 33,_=>exact F
 | 34,_=>exact G
 | 35,_=>exact H
 | 36,_=>exact I
 | 37,_=>exact J
 | 38,_=>exact K
 | 39,_=>exact L
 | 40,_=>exact k
 | M+41,h=>exact absurd h ab
theorem tU (z:(Lit.int .i64 p).wf=true) (o:0<=r) (a1:r<18446744073709551616) (op:0<=s) (q:s<18446744073709551616) (w:World): CB 84 #[.i p,.u r,.u s] w (.tuple #[.u (nC p r s),.bool (zT p)]):=by
 cases h:zT p with
 | false =>have e:nC p r s=0:=(by simp [nC,h]);rw [e];have c:decide (22<=p/\p<=62)=false:=h;clear h e;go_enter func84,ntmps84;go_wp2_with fail;refine (ew p 22 62 _).mono ?_;rintro e A ⟨rfl,rfl⟩;rw [c];clear c;go_wp2_with fail;go_ret2;exact ⟨rfl,Below.refl _ _⟩
 | true =>have a:22<=p/\p<=62:=(by simpa [zT] using h);have c:decide (22<=p/\p<=62)=true:=h;obtain ⟨k,rfl⟩:∃ k:Nat,p=(k:Int)+22:=⟨(p-22).toNat,ab⟩;have e:nC ((k:Int)+22) r s=(oD k).v r s:=(by simp [nC,h]);rw [e];have l:jY ((k:Int)+22)=(cj (k+21)).name:=(by have t:rW ((k:Int)+22)=true:=(by simp [rW];omega);have y:((k:Int)+22-1).toNat=k+21:=ab;simp [jY,t,y]);have j:Hid (∀ w,CE 128 #[.string (jY ((k:Int)+22)),.u r,.u s] w (.u ((oD k).v r s))):=NA k ab _ l r s o a1 op q;obtain ⟨b,m⟩:∃ b,b=jY ((k:Int)+22):=⟨_,rfl⟩;have g:Hid (∀ w,CB 129 #[.i ((k:Int)+22)] w (.string (jY ((k:Int)+22)))):=zQ _ z;rw [<- m] at j g;clear h a e l m;go_enter func84,ntmps84;go_wp2_with fail;refine (ew _ 22 62 _).mono ?_;rintro e A ⟨rfl,f⟩;subst f;rw [c];clear c;go_wp2_with fail;refine (g.out _).mono ?_;rintro e B ⟨rfl,u⟩;go_wp2_with fail;refine (j.out _).mono ?_;rintro e C ⟨rfl,rfl⟩;go_wp2_with fail;go_ret2;exact ⟨rfl,u⟩
theorem xY {c:Array Oper} {rest:List Oper} {o:Oper} {a:Act} {Q:Exit->Act->World->Prop} {V:Value} {kk:IntKind} (H:Hid (∀ e:World,(Instr.index 233 f (.int kk g)).run prog e=.ok V e)) (w:o.guard=none) (x i:Operand) (k:o.op=.index 233 x i) (hx:a.eval x=f) (T:a.eval i=.int kk g) (h:wpList prog c Q rest (a.put o.dst V) e):wpList prog c Q (o::rest) a e:=by
 refine wpList_plain w λK d=>?_;have b:(execOp a.eval o).run prog e=.ok (.value V) e:=by simp [execOp,k,hx,T,H.out]
 unfold Oper.wp;rw [b,Oper.upon_value];exact d _ _ h
theorem rv:(z.alloc (.cells #[.i 0,.i 0,.i 0,.i 0,.i 0] 69)).heap[z.heap.size]?=some (.cells #[.i 0,.i 0,.i 0,.i 0,.i 0] 69 (0,0)):=heap_alloc_new _ _
theorem xe (Y:0<=p) (h1:p<18446744073709551616) (w:World): CB 150 #[.u p] w (me p):=by
 by_cases b:p<4294967296
 ·have d1:decide (4294967295<p)=false:=by simp;omega
  have x:=λk (h:cD p 98 0=some k)=>Cc p k b h
  have d:=λ(h:cD p 98 0=none)=>yL p b h
  have HH:Hid (∀ k,cD p 98 0=some k->me p=.tuple #[(qJ k p).val,.bool true]):=x
  have HM:Hid (cD p 98 0=none->me p=.tuple #[pU.val,.bool false]):=d
  obtain ⟨V,E⟩:∃ V,V=me p:=⟨_,rfl⟩
  rw [<- E] at HH HM ⊢
  clear x d E
  go_enter func150,ntmps150
  go_wp2_with fail
  refine (BJ _).mono ?_
  rintro e w1 ⟨T,rfl,HT,S⟩
  have hsz:w.heap.size<w1.heap.size:=by have:=S.size;simp at this;omega
  have G0:Hid (w1.heap[w.heap.size]?=some (.cells #[.i 0,.i 0,.i 0,.i 0,.i 0] 69 (0,0))):=by
   show _=_
   rw [S.block _ cp];exact rv w
  have H:Bw w w1:=(bal _ _).trans (S.mono cp)
  clear S
  go_wp2_with fail
  go_loopw [13] (λi wr=>∃ k:Nat,k<=98/\i=.i k/\Hid (cD p (98-k) k=cD p 98 0) /\
   Hid (wr.heap[w.heap.size]?=some (.cells #[.i 0,.i 0,.i 0,.i 0,.i 0] 69 (0,0)))/\Bw w wr)
   (λi _=>98-(intOf i).toNat)
  case atStart=>exact ⟨0,ab,rfl,(rfl:cD p (98-0) 0=cD p 98 0),G0,H⟩
  case round =>
   obtain ⟨k,hk,rfl,hf,G,I⟩:=hrel
   clear G0 H
   by_cases l:k<98
   ·have RO:=GQ k l
    have q:=LP k (cj k) RO p Y b
    obtain ⟨r,g⟩:∃ r,r=cj k:=⟨_,rfl⟩
    have hr:Hid (r=cj k):=g
    rw [<- g] at q
    have MB:decide (fQ k r.fm r.op r.f3 r.more p)=mE k p:=by rw [g];rfl
    rw [MB] at q
    have c:=vQ ((k:Int)+1) r.fm p Y h1
    have IM:wrap64 (au r.fm.width (qI p r.fm.pcs))=nX r.fm p:=by rw [PJ r.fm p Y b];rfl
    rw [IM] at c
    have X:Hid (Value.agg #[.i ((k:Int)+1),.i (LK r.fm p),.i (aV r.fm p),.i (bV r.fm p),.i (nX r.fm p)]=(qJ k p).val):=by
     show _=_
     rw [g];rfl
    clear g MB IM RO
    obtain ⟨W,f,o,m3,m⟩:=r
    simp only [Row.f3z] at q
    obtain ⟨z,hz⟩:∃ z:Int,z=if m3<0 then 0 else m3:=⟨_,rfl⟩
    rw [<- hz] at q
    have j:=vP ((k:Int)+1) W f o z m
    obtain ⟨MM,D⟩:∃ M,M=iY ((k:Int)+1) f:=⟨_,rfl⟩
    obtain ⟨BB,C⟩:∃ B,B=vO f o z m:=⟨_,rfl⟩
    rw [<- D,<- C] at q j
    simp only at c X
    obtain ⟨s,hs⟩:∃ s,s=f.str:=⟨_,rfl⟩
    obtain ⟨y1,N⟩:∃ y,y=LK f p:=⟨_,rfl⟩
    obtain ⟨y2,O⟩:∃ y,y=aV f p:=⟨_,rfl⟩
    obtain ⟨y3,P⟩:∃ y,y=bV f p:=⟨_,rfl⟩
    obtain ⟨y4,Q⟩:∃ y,y=nX f p:=⟨_,rfl⟩
    rw [<- hs] at j c
    rw [<- N,<- O,<- P,<- Q] at c X
    have RF:Hid (∀ w:World,CB 204 #[.i ((k:Int)+1),.string s,.u p] w (.agg #[.i ((k:Int)+1),.i y1,.i y2,.i y3,.i y4])):=c
    have RP:Hid (∀ w:World,CB 203 #[.i ((k:Int)+1),.agg #[.string W,.string s,.u o,.u z,.u m]] w (.tuple #[.u MM,.u BB])):=j
    have IX:∀ w:World,(Instr.index 233 T (.i (k:Int))).run prog w=.ok (.agg #[.string W,.string s,.u o,.u z,.u m]) w:=by
     intro w
     rw [tA HT .i64 k l _ hr w,hs,hz];rfl
    clear N O P Q c j D C hs hz hr
    have A:Hid (∀ w:World,(Instr.index 233 T (.i (k:Int))).run prog w=.ok (.agg #[.string W,.string s,.u o,.u z,.u m]) w):=IX
    clear IX HT
    go_wp2_with (refine xY A rfl _ _ rfl rfl rfl ?_)
    refine (RP.out _).mono ?_
    rintro e w2 ⟨rfl,t⟩
    clear RP A
    have L:Bw wr w2:=(bal _ _).trans (t.mono cp)
    have c1:w2.cell? ⟨wr.heap.size,1,none⟩=some (.string s):=by
     rw [t.cell cp]
     rw [cell_of_row _ _ _ _ _ _ (heap_alloc_new _ _)];rfl
    have G2:Hid (w2.heap[w.heap.size]?=some (.cells #[.i 0,.i 0,.i 0,.i 0,.i 0] 69 (0,0))):=dB L G.out
    have J:=aa I L
    clear t
    cases U:mE k p with
    | true =>
      rw [U] at q
      have F:Hid (V=.tuple #[(qJ k p).val,.bool true]):=HH.out k (hf.out.symm.trans (tF p k l U))
      go_wp2_with fail
      refine (RF.out _).mono ?_
      rintro e w3 ⟨rfl,K⟩
      have u:w3.heap[w.heap.size]?=some (.cells #[.i 0,.i 0,.i 0,.i 0,.i 0] 69 (0,0)):=dB K G2.out
      have Z:=aa J K
      go_wp2_with (refine wpList_store_rowTo rfl 69 (.tmp 2) (.tmp 34) rfl rfl w.heap.size #[.i ((k:Int)+1),.i y1,.i y2,.i y3,.i y4] rfl rfl 69 _ u fU rfl (oF _ _ _ _ _) ?_)
      refine bodyPost_ret (gM results150 _ _ _ _ _ _ _ rfl (setRow_heap _ _ _ _ _ _ u) underlying69 rfl fU) rfl ⟨?_,?_⟩
      ·rw [F.out,<- X.out];rfl
      ·exact aI Z (Nat.le_refl _) _
    | false =>
      rw [U] at q
      have F:Hid (cD p (98-(k+1)) (k+1)=cD p 98 0):=(qK p k l U).symm.trans hf.out
      clear RF
      go_wp2_with fail
      go_roundw
      case rel=>exact ⟨k+1,ab,by go_num,F,G2,J⟩
      case measure=>simp [intOf];omega
   ·have hk2:k=98:=by omega
    subst hk2
    have F:Hid (V=.tuple #[pU.val,.bool false]):=HM.out hf.out.symm
    have u:=G.out
    go_wp2_with (refine wpList_store_rowTo rfl 69 (.tmp 2) (.tmp 36) rfl rfl w.heap.size #[.i 0,.i 0,.i 0,.i 0,.i 0] rfl rfl 69 _ u fU rfl (oF _ _ _ _ _) ?_)
    refine bodyPost_ret (gM results150 _ _ _ _ _ _ _ rfl (setRow_heap _ _ _ _ _ _ u) underlying69 rfl fU) rfl ⟨?_,?_⟩
    ·rw [F.out];rfl
    ·exact aI I (Nat.le_refl _) _
 ·have d1:decide (4294967295<p)=true:=by simp;omega
  have F:Hid (me p=.tuple #[pU.val,.bool false]):=Cb p b
  obtain ⟨V,E⟩:∃ V,V=me p:=⟨_,rfl⟩
  rw [<- E] at F ⊢
  clear E
  go_enter func150,ntmps150
  go_wp2_with fail
  refine bodyPost_ret (gM results150 _ _ _ _ _ _ _ rfl (rv w) underlying69 rfl fU) rfl ⟨?_,?_⟩
  ·rw [F.out];rfl
  ·exact bal _ _
theorem CY (t:M<98) (c:ByteArray) (f:Fm) (o z m x:Int) (b:0<=x) (s:x<4294967296) (hx:Hid (f=.x->0<=o/\o<128/\0<=m/\m<4096)) (w:World): CB 124 #[.i M,.agg #[.string c,.string f.str,.u o,.i z,.u m],.u x] w (.bool (decide (fQ M f o z m x))):=by
 have g:bits .and .u64 x 127=x%128:=cK x 7 b ab bc
 have j:bits .and .u64 (x/4096) 7=x/4096%8:=cK (x/4096) 3 ab ab bc
 have l:bits .and .u64 (x/128) 31=x/128%32:=cK (x/128) 5 ab ab bc
 have p:bits .and .u64 (x/1048576) 31=x/1048576%32:=cK (x/1048576) 5 ab ab bc
 cases f
 case x =>
  have H:=hx.out rfl
  have q:Uz.wrap (m*1048576)=m*1048576:=by rw [IntKind.wrap_u64];omega
  have r:bits .or .u64 (m*1048576) o=m*1048576+o:=by
   rw [u64_or _ _ ab ab ab ab]
   rw [nat_join 20 _ _ ab ab];omega
  clear H
  simp only [Fm.str]
  go_enter func124,ntmps124
  go_wp2_with fail
  all_goals go_ret
  all_goals refine ⟨?_,bal _ _⟩
  all_goals (clear hx;go_tidy;show Ending.returned (Value.bool _)=Ending.returned (Value.bool _);congr 2;rw [Bool.eq_iff_iff,decide_eq_true_iff];simp only [fQ,bne_iff_ne,beq_iff_eq,bne_eq_false_iff_eq,Bool.false_eq_true,ne_eq,false_iff] at *)
  all_goals omega
 all_goals (
  simp only [Fm.str]
  go_enter func124,ntmps124
  go_wp2_with fail
  all_goals go_ret
  all_goals refine ⟨?_,bal _ _⟩
  all_goals (clear hx;go_tidy;show Ending.returned (Value.bool _)=Ending.returned (Value.bool _);congr 2;rw [Bool.eq_iff_iff,decide_eq_true_iff];simp only [fQ,bne_iff_ne,beq_iff_eq,bne_eq_false_iff_eq,Bool.false_eq_true,ne_eq,true_iff,false_iff,and_true] at *)
  all_goals omega)
theorem Kd (f:Fm) (x:Int) (C:0<=x) (D:x<4294967296) (w:World):CE 125 #[.string f.str,.u x] w (.i (nX f x)):=by
 cases f;case i =>simp only [Fm.str];go_enter func125,ntmps125;go_wp2_with fail;refine (eE (x/1048576) 12 bc bc _).mono ?_;exact a0i
 case s =>have d:Uz.wrap (x/33554432*32)=x/33554432*32:=dm;have m:bits .and .u64 (x/128) 31=x/128%32:=cK (x/128) 5 ab ab bc;have o:bits .or .u64 (x/33554432*32) (x/128%32)=x/33554432*32+x/128%32:=(by have:=mS (x/33554432*32) (x/128%32) 0 5 ab ab ab ab ab ab;simpa using this);simp only [Fm.str];go_enter func125,ntmps125;go_wp2_with fail;refine (eE (x/33554432*32+x/128%32) 12 bc bc _).mono ?_;exact a0i
 case b =>
  have d:Uz.wrap (x/2147483648*4096)=x/2147483648*4096:=dm;have m:bits .and .u64 (x/128) 1=x/128%2:=cK (x/128) 1 ab ab bc;have o:Uz.wrap (x/128%2*2048)=x/128%2*2048:=dm;have p:bits .or .u64 (x/2147483648*4096) (x/128%2*2048)=x/2147483648*4096+x/128%2*2048 :=
   mS (x/2147483648*4096) (x/128%2) 11 1 ab ab ab ab ab ab
  have q:bits .and .u64 (x/33554432) 63=x/33554432%64:=cK (x/33554432) 6 ab ab bc;have t:Uz.wrap (x/33554432%64*32)=x/33554432%64*32:=dm;have y:bits .or .u64 (x/2147483648*4096+x/128%2*2048) (x/33554432%64*32)=x/2147483648*4096+x/128%2*2048+x/33554432%64*32 :=
   mS (x/2147483648*4096+x/128%2*2048) (x/33554432%64) 5 6 ab ab ab ab ab ab
  have z:bits .and .u64 (x/256) 15=x/256%16:=cK (x/256) 4 ab ab bc;have A:Uz.wrap (x/256%16*2)=x/256%16*2:=dm;have l:bits .or .u64 (x/2147483648*4096+x/128%2*2048+x/33554432%64*32) (x/256%16*2)=x/2147483648*4096+x/128%2*2048+x/33554432%64*32+x/256%16*2 :=
   mS (x/2147483648*4096+x/128%2*2048+x/33554432%64*32) (x/256%16) 1 4 ab ab ab ab ab ab
  simp only [Fm.str];go_enter func125,ntmps125;go_wp2_with fail;refine (eE (x/2147483648*4096+x/128%2*2048+x/33554432%64*32+x/256%16*2) 13 bc bc _).mono ?_;exact a0i
 case u =>have d:Uz.wrap (x/4096*4096)=x/4096*4096:=dm;simp only [Fm.str];go_enter func125,ntmps125;go_wp2_with fail;refine (eE (x/4096*4096) 32 bc bc _).mono ?_;exact a0i
 case j =>
  have d:Uz.wrap (x/2147483648*1048576)=x/2147483648*1048576:=dm;have m:bits .and .u64 (x/4096) 255=x/4096%256:=cK (x/4096) 8 ab ab bc;have o:Uz.wrap (x/4096%256*4096)=x/4096%256*4096:=dm;have p:bits .or .u64 (x/2147483648*1048576) (x/4096%256*4096)=x/2147483648*1048576+x/4096%256*4096 :=
   mS (x/2147483648*1048576) (x/4096%256) 12 8 ab ab ab ab ab ab
  have q:bits .and .u64 (x/1048576) 1=x/1048576%2:=cK (x/1048576) 1 ab ab bc;have t:Uz.wrap (x/1048576%2*2048)=x/1048576%2*2048:=dm;have y:bits .or .u64 (x/2147483648*1048576+x/4096%256*4096) (x/1048576%2*2048)=x/2147483648*1048576+x/4096%256*4096+x/1048576%2*2048 :=
   mS (x/2147483648*1048576+x/4096%256*4096) (x/1048576%2) 11 1 ab ab ab ab ab ab
  have z:bits .and .u64 (x/2097152) 1023=x/2097152%1024:=cK (x/2097152) 10 ab ab bc;have A:Uz.wrap (x/2097152%1024*2)=x/2097152%1024*2:=dm;have l:bits .or .u64 (x/2147483648*1048576+x/4096%256*4096+x/1048576%2*2048) (x/2097152%1024*2)=x/2147483648*1048576+x/4096%256*4096+x/1048576%2*2048+x/2097152%1024*2 :=
   mS (x/2147483648*1048576+x/4096%256*4096+x/1048576%2*2048) (x/2097152%1024) 1 10 ab ab ab ab ab ab
  simp only [Fm.str];go_enter func125,ntmps125;go_wp2_with fail;refine (eE (x/2147483648*1048576+x/4096%256*4096+x/1048576%2*2048+x/2097152%1024*2) 21 bc bc _).mono ?_;exact a0i
 case h =>have d:bits .and .u64 (x/1048576) 63=x/1048576%64:=cK (x/1048576) 6 ab ab bc;have F:Hid (nX .h x=x/1048576%64):=pu (x/1048576%64) ab ab;exact a0j
 case w =>have d:bits .and .u64 (x/1048576) 31=x/1048576%32:=cK (x/1048576) 5 ab ab bc;have F:Hid (nX .w x=x/1048576%32):=pu (x/1048576%32) ab ab;exact a0j
 case a =>have d:bits .and .u64 (x/33554432) 3=x/33554432%4:=cK (x/33554432) 2 ab ab bc;have F:Hid (nX .a x=x/33554432%4):=pu (x/33554432%4) ab ab;exact a0j
 case c =>have F:Hid (nX .c x=x/1048576):=pu (x/1048576) ab ab;exact a0j
 case r =>have F:Hid (nX .r x=0):=pu (0) ab ab;exact a0j
 case x =>have F:Hid (nX .x x=0):=pu (0) ab ab;exact a0j
theorem Qw {r:Row} (h:yK a r=true):r.fm=.x->0<=r.op/\r.op<128/\0<=r.more/\r.more<4096:=by intro k;simp only [yK,k,Bool.and_eq_true,decide_eq_true_eq] at h;omega
theorem oX (x:Int) (h0:0<=x) (h1:x<18446744073709551616) (w:World):CB 78 #[.u x] w (me x):=by
 by_cases c:x<4294967296
 ·have d1:(x/4294967296 != 0)=false:=by simp;omega
  have HH:Hid (∀ k,cD x 98 0=some k->me x=.tuple #[(qJ k x).val,.bool true]):=λk (h:cD x 98 0=some k)=>Cc x k c h
  have HM:Hid (cD x 98 0=none->me x=.tuple #[pU.val,.bool false]):=λ(h:cD x 98 0=none)=>yL x c h
  obtain ⟨V,K⟩:∃ V,V=me x:=⟨_,rfl⟩
  rw [<- K] at HH HM ⊢
  clear K
  go_enter func78,ntmps78
  go_wp2_with fail
  refine (oA _).mono ?_
  rintro e w1 ⟨rfl,R,hb⟩
  have hsz:w.heap.size+1<w1.heap.size:=by have:=R.out.1;simp at this;omega
  have G0:Hid (w1.heap[w.heap.size]?=some (.cells #[.i 0,.i 0,.i 0,.i 0,.i 0] 69 (0,0))):=by
   show _=_
   rw [hb.block _ cp];exact rv w
  have L:Bw w w1:=(bal _ _).trans (hb.mono cp)
  obtain ⟨g,hg⟩:∃ g,g=(w.alloc (.cells #[.i 0,.i 0,.i 0,.i 0,.i 0] 69)).heap.size:=⟨_,rfl⟩
  rw [<- hg] at R ⊢
  clear hb hg
  go_wp2_with fail
  go_loopw [5] (λi wr=>∃ k:Nat,k<=98/\i=.i k/\Hid (cD x (98-k) k=cD x 98 0)/\Hid (BK wr g) /\
   Hid (wr.heap[w.heap.size]?=some (.cells #[.i 0,.i 0,.i 0,.i 0,.i 0] 69 (0,0)))/\Bw w wr)
   (λi _=>98-(intOf i).toNat)
  case atStart=>exact ⟨0,ab,rfl,(rfl:cD x (98-0) 0=cD x 98 0),R,G0,L⟩
  case round =>
   obtain ⟨k,hk,rfl,hf,B,G,M⟩:=hrel
   clear G0 L R
   by_cases l:k<98
   ·have W:=Qw (GQ k l)
    obtain ⟨r,q⟩:∃ r,r=cj k:=⟨_,rfl⟩
    obtain ⟨c0,X,c2,c3,c4⟩:=B.out.2 k l r q
    have MB:decide (fQ k r.fm r.op r.f3 r.more x)=mE k x:=by rw [q];rfl
    have U:Hid (Value.agg #[.i ((k:Int)+1),.i (LK r.fm x),.i (aV r.fm x),.i (bV r.fm x),.i (nX r.fm x)]=(qJ k x).val):=by
     show _=_
     rw [q];rfl
    rw [<- q] at W
    have d:=CY k l r.name r.fm r.op r.f3 r.more x h0 c W
    rw [MB] at d
    clear q MB W
    obtain ⟨nm,f,o,z,m⟩:=r
    simp only at c0 X c2 c3 c4 U d
    obtain ⟨s,O⟩:∃ s,s=f.str:=⟨_,rfl⟩
    rw [<- O] at X d
    obtain ⟨mb,E⟩:∃ b,b=mE k x:=⟨_,rfl⟩
    rw [<- E] at d
    have LM:Hid (∀ w:World,CB 124 #[.i k,.agg #[.string nm,.string s,.u o,.i z,.u m],.u x] w (.bool mb)):=d
    have I:Hid (mb=mE k x):=E
    have HS:Hid (s=f.str):=O
    clear d E O
    go_wp2_with fail
    refine (LM.out _).mono ?_
    rintro e j ⟨rfl,t⟩
    have D:Bw wr j:=(bal _ _).trans (t.mono cp)
    have J:j.cell? ⟨wr.heap.size,1,none⟩=some (.string s):=by
     rw [t.cell cp]
     rw [cell_of_row _ _ _ _ _ _ (heap_alloc_new _ _)];rfl
    have S:j.heap[w.heap.size]?=some (.cells #[.i 0,.i 0,.i 0,.i 0,.i 0] 69 (0,0)):=dB D G.out
    have Z:Hid (BK j g):=BK.below B.out B.out.1 D
    have C:=aa M D
    have N:wr.heap.size<j.heap.size:=by have:=t.size;simp at this;omega
    have Y:∀ o,(j.alloc o).cell? ⟨wr.heap.size,1,none⟩=some (.string s):=λo=>(((Below.refl j.heap.size j).alloc (Nat.le_refl _) o).cell (p:=⟨wr.heap.size,1,none⟩) N).trans J
    have H:∀ o,(j.alloc o).heap[w.heap.size]?=some (.cells #[.i 0,.i 0,.i 0,.i 0,.i 0] 69 (0,0)):=λo=>dB ((Below.refl j.heap.size j).alloc (Nat.le_refl _) o) S
    have u:Hid (∀ o,(j.alloc o).heap[w.heap.size]?=some (.cells #[.i 0,.i 0,.i 0,.i 0,.i 0] 69 (0,0))):=H
    have T:Hid (j.heap[w.heap.size]?=some (.cells #[.i 0,.i 0,.i 0,.i 0,.i 0] 69 (0,0))):=S
    clear S H
    clear t LM c0 X c2 c3 c4
    cases mb with
    | true =>
      have F:Hid (V=.tuple #[(qJ k x).val,.bool true]):=HH.out k (hf.out.symm.trans (tF x k l I.out.symm))
      have A7:bits .and .u64 (x/128) 31=x/128%32:=cK (x/128) 5 ab ab bc
      have A15:bits .and .u64 (x/32768) 31=x/32768%32:=cK (x/32768) 5 ab ab bc
      have A20:bits .and .u64 (x/1048576) 31=x/1048576%32:=cK (x/1048576) 5 ab ab bc
      have O:=HS.out
      subst O
      have A:=Kd f x h0 c
      obtain ⟨y4,P⟩:∃ y,y=nX f x:=⟨_,rfl⟩
      rw [<- P] at A U
      have LI:Hid (∀ w:World,CE 125 #[.string f.str,.u x] w (.i y4)):=A
      clear A P HS
      cases f
      all_goals (
       simp only [Fm.str] at J Y LI ⊢
       go_wp2_with fail
       refine (LI.out _).mono ?_
       rintro e w3 ⟨rfl,hw3⟩
       have hw4:=hw3.symm
       subst hw4
       go_wp2_with (refine wpList_store_rowTo rfl 69 (.tmp 2) (.tmp 82) rfl rfl w.heap.size _ rfl rfl 69 _ (u.out _) fU rfl (oF _ _ _ _ _) ?_)
       refine bodyPost_ret (gM results78 _ _ _ _ _ _ _ rfl (setRow_heap _ _ _ _ _ _ (u.out _)) underlying69 rfl fU) rfl ⟨?_,?_⟩
       ·rw [F.out,<- U.out];rfl
       ·exact aI (C.alloc C.size _) (Nat.le_refl _) _)
    | false =>
      have F:Hid (cD x (98-(k+1)) (k+1)=cD x 98 0):=(qK x k l I.out.symm).symm.trans hf.out
      go_wp2_with fail
      go_roundw
      case rel=>exact ⟨k+1,ab,by go_num,F,Z,T,C⟩
      case measure=>simp [intOf];omega
   ·have hk2:k=98:=by omega
    subst hk2
    have F:Hid (V=.tuple #[pU.val,.bool false]):=HM.out hf.out.symm
    have G3:=G.out
    go_wp2_with (refine wpList_store_rowTo rfl 69 (.tmp 2) (.tmp 83) rfl rfl w.heap.size #[.i 0,.i 0,.i 0,.i 0,.i 0] rfl rfl 69 _ G3 fU rfl (oF _ _ _ _ _) ?_)
    refine bodyPost_ret (gM results78 _ _ _ _ _ _ _ rfl (setRow_heap _ _ _ _ _ _ G3) underlying69 rfl fU) rfl ⟨?_,?_⟩
    ·rw [F.out];rfl
    ·exact aI M (Nat.le_refl _) _
 ·have d1:(x/4294967296 != 0)=true:=by simp;omega
  have F:Hid (me x=.tuple #[pU.val,.bool false]):=Cb x c
  obtain ⟨V,K⟩:∃ V,V=me x:=⟨_,rfl⟩
  rw [<- K] at F ⊢
  clear K
  go_enter func78,ntmps78
  go_wp2_with fail
  refine bodyPost_ret (gM results78 _ _ _ _ _ _ _ rfl (rv w) underlying69 rfl fU) rfl ⟨?_,?_⟩
  ·rw [F.out];rfl
  ·exact bal _ _
theorem Vc (h:U p) (i:Nat):ap p i=if bt p i=true then 1 else 0:=by
 unfold ap;have d:=kM p h i 1;have b:bits .and .u64 (p/2^i) 1=dg p i 1:=by have:=iE p i 1 h.1 h.2 ab;rw [<- this];rfl
 rw [b];have c:=kL p i 1;have a:=kM p h i 1 0 ab;rw [Nat.zero_add] at a;simp only [Nat.lt_add_one,decide_true,Bool.true_and] at a;rw [<- a];have e2:dg p i 1=0\/dg p i 1=1:=by
  have:(2:Int)^1=2:=bc
  omega
 rcases e2 with e|e;·rw [e];rfl
 ·rw [e];rfl
theorem H7 (h:U p) (i:Nat):(ap p i==1)=bt p i:=by rw [Vc p h i];cases bt p i<;>rfl
theorem rx (h:U p) (i:Nat):(ap p i==0)=!bt p i:=by rw [Vc p h i];cases bt p i<;>rfl
theorem nO:bt 0 M=false:=by unfold bt;simp
theorem FJ:U 0:=⟨ab,ab⟩
theorem oY (c:∀ i,i<64->bt r i=t.contains i) (d:∀ i ∈ t,i<64):(bits .and .u64 p r==0)=t.all (λi=>!bt p i):=by
 rw [Bool.eq_iff_iff,beq_iff_eq,List.all_eq_true];constructor
 ·intro h i a;have b:=az p r i;rw [h,nO,c i (d i a)] at b;have:t.contains i=true:=by simpa using a
  rw [this,Bool.and_true] at b;rw [<- b];rfl
 ·intro h;refine bA _ _ (ah _ _ _) FJ λi a=>?_;rw [az,nO,c i a];cases f:t.contains i with
  | false=>rw [Bool.and_false]
  | true =>have:=h i i3;rw [Bool.and_true];simpa using this
theorem Sj (f:U r) (c:∀ i,i<64->bt r i=t.contains i) (d:∀ i ∈ t,i<64):(bits .and .u64 p r==r)=t.all (λi=>bt p i):=by
 rw [Bool.eq_iff_iff,beq_iff_eq,List.all_eq_true];constructor
 ·intro h i a;have b:=az p r i;rw [h,c i (d i a)] at b;have:t.contains i=true:=by simpa using a
  rw [this,Bool.and_true] at b;exact b.symm
 ·intro h;refine bA _ _ (ah _ _ _) f λi a=>?_;rw [az,c i a];cases g:t.contains i with
  | false=>rw [Bool.and_false]
  | true =>rw [h i v8];rfl
theorem Sk (he:U p) (c:∀ i,i<64->bt r i=t.contains i) (d:∀ i ∈ t,i<64):(bits .or .u64 p r==p)=t.all (λi=>bt p i):=by
 rw [Bool.eq_iff_iff,beq_iff_eq,List.all_eq_true];constructor
 ·intro h i a;have b:=cC p r i;rw [h,c i (d i a)] at b;have:t.contains i=true:=by simpa using a
  rw [this,Bool.or_true] at b;exact b
 ·intro h;refine bA _ _ (ah _ _ _) he λi a=>?_;rw [cC,c i a];cases f:t.contains i with
  | false=>rw [Bool.or_false]
  | true=>rw [h i i3];rfl
theorem m1:(bits .and .u64 p 1==0)=!bt p 0:=by rw [oY p 1 [0] cb bc];simp
theorem m2:(bits .and .u64 p 2==0)=!bt p 1:=by rw [oY p 2 [1] cb bc];simp
theorem m4:(bits .and .u64 p 4==0)=!bt p 2:=by rw [oY p 4 [2] cb bc];simp
theorem m8:(bits .and .u64 p 8==0)=!bt p 3:=by rw [oY p 8 [3] cb bc];simp
theorem WX:(bits .and .u64 p 16==0)=!bt p 4:=by rw [oY p 16 [4] cb bc];simp
theorem WY:(bits .and .u64 p 10==0)=(!bt p 1&&!bt p 3):=by rw [oY p 10 [1,3] cb bc];simp
theorem Wq:(bits .and .u64 p 208==0)=(!bt p 4&&(!bt p 6&&!bt p 7)):=by rw [oY p 208 [4,6,7] cb bc];simp
theorem WZ:(bits .and .u64 p 262144==0)=!bt p 18:=by rw [oY p 262144 [18] cb bc];simp
theorem Xa:(bits .and .u64 p 524288==0)=!bt p 19:=by rw [oY p 524288 [19] cb bc];simp
theorem Xb:(bits .and .u64 p 131072==0)=!bt p 17:=by rw [oY p 131072 [17] cb bc];simp
theorem m6:(bits .and .u64 p 6==4)=(!bt p 1&&bt p 2):=by
 have c:∀ i,i<64->bt 6 i=[1,2].contains i/\bt 4 i=[2].contains i:=cb
 rw [Bool.eq_iff_iff,beq_iff_eq,Bool.and_eq_true];constructor;·intro h;have a:=az p 6 1;have b:=az p 6 2;rw [h,(c 1 ab).1,(c 1 ab).2] at a;rw [h,(c 2 ab).1,(c 2 ab).2] at b;have f:false=(bt p 1&&true):=a;have g:true=(bt p 2&&true):=b;rw [Bool.and_true] at f g;rw [<- f,<- g];exact a07
 ·rintro ⟨m,n⟩;have d:bt p 1=false:=(by simpa using m);refine bA _ _ (ah _ _ _) ⟨ab,ab⟩ λi j=>?_;rw [az,(c i j).1,(c i j).2];by_cases k:i=1;·subst k;rw [d];rfl
  ·by_cases l:i=2;·subst l;rw [n];rfl
   ·simp [k,l]
theorem Xc (he:U p):(bits .and .u64 p 18428729675200069632==0)=(p/18014398509481984==0):=by
 have f:∀ i,i<64->bt 18428729675200069632 i=decide (54<=i):=cb
 have c:(18014398509481984:Int)=2^54:=bc
 rw [c,Bool.eq_iff_iff,beq_iff_eq,beq_iff_eq];constructor
 ·intro h;refine bA _ _ (mj p he 54) FJ λi g=>?_;rw [jD p he,nO];by_cases d:64<=i+54;·exact uG _ _ d
  ·have a:=az p 18428729675200069632 (i+54);rw [h,nO,f _ ab] at a;simpa using a.symm
 ·intro h;refine bA _ _ (ah _ _ _) FJ λi g=>?_;rw [az,nO,f i g];by_cases b:54<=i;·have a:=jD p he 54 (i-54);rw [h,nO,Nat.sub_add_cancel b] at a;rw [<- a];rfl
  ·simp [b]
def Qx (e:Int):Bool:=(bits .and .u64 e 1==0)||(bits .and .u64 e 6==4)||(bits .and .u64 e 18428729675200069632 != 0)
theorem TJ (he:U p):Qx p=pL p:=by unfold Qx pL;rw [rx p he,H7 p he,m6,bne,bne,Xc p he]
theorem Qy (he:U p):(bits .and .u64 p 10 != 0)=!mC p:=by unfold mC;rw [rx p he,rx p he,bne,WY]
theorem Qz (he:U p) (lv:Nat):(((lv:Int)==0)||(bits .and .u64 p 208 != 0))=jt p lv:=by
 unfold jt;have c:(16:Int)=2^4:=bc
 have a:=H7 p he 4;unfold ap at a;rw [<- c] at a;have b:(bits .and .u64 (p/64) 3==0)=(!bt p 6&&!bt p 7):=by rw [oY (p/64) 3 [0,1] cb bc];have d:(64:Int)=2^6:=bc;simp only [List.all_cons,List.all_nil,Bool.and_true];rw [d,jD p he,jD p he]
 rw [bne,bne,Wq,a,b];cases ((lv:Int)==0)<;>cases bt p 4<;>cases bt p 6<;>cases bt p 7<;>rfl
theorem xf (he:U p):dg p 10 44=eB p:=by rw [<- iE p 10 44 he.1 he.2 ab];rfl
theorem QA:U (eB p):=ah _ _ _
theorem NB (he:U p) (lv:Nat) (h:lv<=2):(dg p 10 (9*lv) != 0)=mD p lv:=by
 unfold mD Jw;have c:=QA p;have a:=iE (eB p) 0 (9*lv) c.1 c.2 ab;rw [show eB p/2^0=eB p from cp] at a;rw [a,<- xf p he];congr 1;refine bA _ _ (qE _ _ _ ab) (qE _ _ _ ab) λi d=>?_;rw [kM p he _ _ _ ab,kM _ (qE _ _ _ ab) _ _ _ ab,kM p he _ _ _ ab];by_cases b:i<9*lv;·simp [b,show i<44 from ab]
 ·simp [b]
def oZ (x k e:Int):Bool:=if k=1 then (bits .and .u64 e 8 != 0) else if k=2 then ((bits .and .u64 e 2 != 0)||((bits .and .u64 x 524288 != 0)&&(bits .and .u64 e 8 != 0))) else (bits .and .u64 e 4 != 0)
theorem NC (he:U r) (hx:U (T.getD 0 0)) (b:1<=p) (c:p<=3):oZ (T.getD 0 0) p r=!gO T p r:=by
 unfold oZ gO;rw [rx r he,rx r he,rx r he,rx _ hx];simp only [bne,m8,m2,m4,Xa];have a:p=1\/p=2\/p=3:=ab
 rcases a with rfl|rfl|rfl;·cases bt r 3<;>rfl
 ·cases bt r 1<;>cases bt r 3<;>cases bt (T.getD 0 0) 19<;>rfl
 ·cases bt r 2<;>rfl
def CZ (x p k e:Int):Bool:=if (bits .and .u64 e 16==0)=true then (p==1) else ((p==0)||((k != 1)&&(bits .and .u64 x 262144 != 0)))
theorem ND (he:U s) (hx:U (T.getD 0 0)) (a:p=0\/p=1):CZ (T.getD 0 0) p r s=!gQ T p r s:=by
 unfold CZ gQ;rw [rx s he,H7 s he,rx _ hx];simp only [bne,WX,WZ];rcases a with rfl|rfl;·cases bt s 4<;>rfl
 ·cases bt s 4<;>cases bt (T.getD 0 0) 18<;>cases (r==1)<;>rfl
def o0 (k:Int):Int:=if k=3 then 192 else 64
theorem H9:bits .or .u64 p (o0 r)=cn p r:=by
 unfold o0 cn;by_cases h:r=3;·subst h;have a:∀ i,i<64->bt 192 i=(bt 64 i||bt 128 i):=cb;rw [if_pos rfl,if_pos bc];refine bA _ _ (ah _ _ _) (ah _ _ _) λi b=>?_;rw [cC,cC,cC,a i b,Bool.or_assoc]
 ·have:(r==3)=false:=by simpa using h
  rw [if_neg h,this];rfl
theorem Ia (he:U p):(bits .and .u64 p (o0 r)==o0 r)=!(cn p r != p):=by
 rw [<- H9,bne,Bool.not_not];unfold o0;by_cases h:r=3;·rw [if_pos h,Sj p 192 [6,7] ⟨ab,ab⟩ cb bc,Sk p 192 [6,7] he cb bc]
 ·rw [if_neg h,Sj p 64 [6] ⟨ab,ab⟩ cb bc,Sk p 64 [6] he cb bc]
theorem QB (he:U p) (hv:U r) (lv:Nat) (h:lv<=2) (j:mD p lv=false):bits .or .u64 (Uz.wrap (dg p 10 44*4096)) (dg r 0 (12+9*lv))=gH p r lv:=by
 rw [<- NB p he lv h] at j;have d:dg p 10 (9*lv)=0:=by simpa using j
 unfold gH;rw [<- xf p he];have b:∀ i,i<64->bt (Jw (12+9*lv)) i=decide (i<12+9*lv):=by
  have:lv=0\/lv=1\/lv=2:=ab
  rcases this with rfl|rfl|rfl;·decide +kernel
  ·decide +kernel
  ·decide +kernel
 have a:(4096:Int)=2^12:=bc
 refine bA _ _ (ah _ _ _) (ah _ _ _) λi k=>?_;rw [cC,cC,aA _ _ _ k,az,b i k,kM r hv _ _ _ ab,Nat.add_zero,a,nB _ (qE _ _ _ ab)];by_cases c:i<12+9*lv
 ·simp only [c,decide_true,Bool.true_and,Bool.and_true,Bool.not_true,Bool.and_false,Bool.false_or];by_cases f:12<=i;·have g:=kM p he 10 (9*lv) (i-12) ab;rw [d,nO] at g;rw [kM p he _ _ _ ab];have l:decide (i-12<9*lv)=true:=bv;rw [l,Bool.true_and] at g;rw [<- g];simp
  ·simp [f]
 ·simp [c]
theorem TK (h:U (T.getD 15 0)):Uz.wrap (dg (T.getD 15 0) 0 44*4096)=kY T:=by rw [<- iE _ 0 44 h.1 h.2 ab];unfold kY;rw [show T.getD 15 0/2^0=T.getD 15 0 from cp];rfl
theorem TM (hv:U r) (lv:Nat):Uz.wrap (p+Uz.wrap (8*dg r (12+9*lv) 9))=bK p r lv:=by rw [<- iE _ (12+9*lv) 9 hv.1 hv.2 ab];rfl
theorem QD (h:U p):(dg p 60 4==0)=(p/1152921504606846976==0):=by
 have b:(1152921504606846976:Int)=2^60:=bc
 have e:dg p 60 4=p/2^60:=by unfold dg;have a:(2:Int)^4=16:=bc;have e6:(2:Int)^60=1152921504606846976:=bc;rw [a,e6];have:=h.1;have:=h.2;omega
 rw [e,b]
theorem Ib (b:bj 22 T 1=true) (hx:gi M p 8=true) (g:1<=r) (h:r<=3):vM 22 T 1 p 8 r=ay T 1 p (aU p 8) r 4 0:=by
 unfold vM;obtain ⟨_,_,c,d,_,_,i,j⟩:=iR hx;have e:aU p 8=p+7:=by unfold aU;rw [IntKind.wrap_u64,IntKind.wrap_u64,IntKind.wrap_u64];omega
 have a:decide (aU p 8<p)=false:=by rw [e];simp;omega
 have f:decide (1<=r/\r<=3)=true:=by simp;omega
 rw [b,a,f];rfl
theorem C9 (zs:List Int) (x:Int) (w:World) (hz:zs.length=M) (hn:M<=1048576) (hs:Sl .u8 w L zs) (cap:gi M (2147483648+(y:Int)) (B:Int)=true) (H:0<=x) (hx1:x<=18446744073709551615): Calls prog 194 #[.slice L M m,.u (2147483648+(y:Int)),.i (B:Int),.u x] w λe n=>e=.returned (.tuple #[.slice (some ⟨w.heap.size,0,none⟩) M M,.bool true]) /\ n.ownsRow w.heap.size 5 1 (.slice (some ⟨w.heap.size,0,none⟩) M M) M ((jT zs y x B).map (Value.int .u8))/\Bw w n:=by
 have f:Hid (zs.length=M):=hz;obtain ⟨hr,hsz,S,T,Y,Z,W,X⟩:=iR cap;have R:0<=2147483648+(y:Int):=ab
 have C:2147483648+(y:Int)<=18446744073709551615:=ab
 clear hz;have Q:Hid (fi M (2147483648+(y:Int)) (B:Int)=y):=by show fi M (2147483648+(y:Int)) (B:Int)=y;simp only [fi,cap,if_true];omega
 obtain ⟨b,a,rfl,N,E⟩:=hs 0 (by have:=f.out;omega);clear E;obtain ⟨P,O,J,A,K⟩:=info_parts info5;have z:(prog.info? 5).map (·.size)=some 1:=by rw [O];simp [A]
 have u:P.bytes*M<=281474976710656:=by rw [K];omega
 have D:M<=maxLen:=by unfold maxLen;omega
 go_enter func194,ntmps194;go_wp2_with (first | (go_at_call 226;refine (lq _ _ _ _ _ _ hn R C).mono ?_;rw [Q.out];rintro e n ⟨rfl,F⟩;have G:=F.symm;subst G) | (at_make;refine wpList_make_full _ rfl (.tmp 24) (.tmp 24) 24 rfl w.heap.size 5 P (.int .u8 0) 1 underlying24 O J A .i64 .i64 _ _ M rfl rfl rfl rfl u D (Nat.le_refl _) ?_;intro w1 q d) | (refine mO rfl (.tmp 26) (.tmp 27) 24 rfl 5 underlying24 z .u8 w.heap.size w.heap.size M M b a m zs _ rfl rfl q (hs.below ((Below.refl _ _).grown d (Nat.le_refl _) tk)) f.out ?_;intro w2 o g));have l:Bw w w2:=Below.grown ((Below.refl _ _).grown d (Nat.le_refl _) tk) g d.size (by intro k h;cases h;exact Nat.le_refl _);clear q d g hs;go_loopw [30] (λi wr=>∃ j:Nat,j<=B/\i=.i (j:Int)/\wr.ownsRow w.heap.size 5 1 (.slice (some ⟨w.heap.size,0,none⟩) M M) M ((jT zs y x j).map (Value.int .u8))/\Bw w wr)
  (λi _=>B-(intOf i).toNat)
 case atStart=>exact ⟨0,Nat.zero_le _,rfl,o,l⟩
 case round =>
  obtain ⟨j,hj,rfl,c,p⟩:=hrel;clear o l;by_cases V:j<B
  ·have U:wr.frozen? ⟨w.heap.size,y+j,none⟩=false:=c.frozenAt (y+j);have t:=(c.stored (y+j) (.int .u8 (x/256^j%256))).1;obtain ⟨v3,hv3⟩:∃ v,wr.cell? ⟨w.heap.size,y+j,none⟩=some v:=(by rw [c.cellAt (y+j) ab];exact ⟨_,List.getElem?_eq_getElem (by rw [List.length_map,jc,f.out];omega)⟩);rw [nv] at t;have r:(wr.setCell ⟨w.heap.size,y+j,none⟩ (.int .u8 (x/256^j%256))).ownsRow w.heap.size 5 1 (.slice (some ⟨w.heap.size,0,none⟩) M M) M ((jT zs y x (j+1)).map (Value.int .u8)):=t;have s:Bw w (wr.setCell ⟨w.heap.size,y+j,none⟩ (.int .u8 (x/256^j%256))):=p.setCell (Nat.le_refl _) _;have I:0<=x/256^j:=Int.ediv_nonneg H (Int.le_of_lt (Int.pow_pos ab));clear t c;rw [<- uU] at r s I;go_wp2;go_roundw;case rel=>exact ⟨j+1,ab,by go_num,r,s⟩
   case measure=>simp [intOf];omega
  ·have:j=B:=by omega
   subst this;go_wp2;go_ret2;exact ⟨rfl,c,p⟩
theorem mr (hz:T.length=M) (hs:Sl .u8 z L T): (convert 24 9 (.slice L M m)).run prog z=.ok (.string (strOfNums T)) z:=by
 by_cases h:M=0;·subst h;have d:T=[]:=List.eq_nil_of_length_eq_zero hz;subst d;rw [run_convert_bytes_string z 24 9 5 L 0 m underlying24 underlying5 underlying9];cases L<;>simp [Conv.bytesToString,loadCells,strOfNums]<;>rfl
 ·obtain ⟨b,f,rfl,_,_⟩:=hs 0 ab;refine run_convert_bytes_arg z 24 5 underlying24 underlying5 b f M m T hz (λi l=>?_) 9 underlying9;obtain ⟨k,g,e,_,j⟩:=hs i ab;simp only [Option.some.injEq,Addr.mk.injEq,and_true] at e;obtain ⟨rfl,rfl⟩:=e;exact j
def AF.fn:AF->Nat
 | .sum=>255 | .slt=>256 | .sltu=>257 | .xor=>258 | .or=>259 | .and=>260
 | .sl=>261 | .sr=>262 | .sra=>263 | .sub=>265 | .mul=>266
 | .mulh=>267 | .mulhsu=>268 | .high=>269 | .div=>270 | .divu=>271
 | .rem=>272 | .remu=>273
def SD.fn:SD->Nat
 | .low=>243 | .sgn=>242 | .five=>264
theorem AF.calls (f:AF) (a b:Int) (g:0<=a) (a1:a<18446744073709551616) (c:0<=b) (d:b<18446744073709551616) (w:World):Calls prog f.fn #[.u a,.u b] w λe h=>e=.returned (.u (f.v a b))/\∃ m,h=w.drewN m:=by
 cases f;·exact bx (zd a b w)
 ·exact bx (wZ a b w)
 ·exact bx (Aw a b w)
 ·exact bx (ze a b w)
 ·exact bx (CV a b w)
 ·exact bx (zf a b w)
 ·exact nM (xX a b c d w)
 ·exact nM (wY a b c d w)
 ·exact nM (oV a b c d w)
 ·exact bx (sJ a b w)
 ·exact bx (xW a b w)
 ·exact bx (xa a b g a1 c d w)
 ·exact bx (jm a b g a1 c d w)
 ·exact bx (nN a b g a1 c d w)
 ·exact bx (qk a b c d w)
 ·exact bx (sK a b w)
 ·exact bx (xb a b c d w)
 ·exact bx (Ax a b w)
theorem SD.calls (s:SD) (x:Int) (a:0<=x) (b:x<18446744073709551616) (w:World):Calls prog s.fn #[.u x] w λe c=>e=.returned (.u (s.v x))/\∃ m,c=w.drewN m:=by
 cases s;·exact bx (tR x a w)
 ·exact bx (pW x w)
 ·exact nM (CU x a b w)
def AO.cells:AO->List Value
 | .d f=>[.func (.func f.fn) #[] #[],.nilFunc,.nilFunc]
 | .w f l r=>[.func (.func f.fn) #[] #[],.func (.func l.fn) #[] #[],.func (.func r.fn) #[] #[]]
def aluCells:Array Value:=(Us.flatMap AO.cells).toArray
def eZ:Array Value:=(List.replicate 123 Value.nilFunc).toArray
theorem jK:eZ.size=123:=by kernel_rfl
theorem dL:aluCells.size=123:=by kernel_rfl
theorem jL:(prog.info? 269).bind (·.zero)=some (.agg eZ):=by kernel_rfl
theorem jM:aluCells.all (·.oneCell')=true:=by kernel_rfl
theorem iG:(prog.info? 269).map (·.size)=some 123:=by kernel_rfl
theorem AD:Us.length=41:=by rfl
theorem Da (h:M<41) (j:Nat) (a:j<3):aluCells[M*3+j]?=(oD M).cells[j]?:=by
 have:=vE AO.cells 3 Us (by intro x _;cases x<;>rfl) M (by rw [AD];exact h) j a;have e:Us[M]'(by rw [AD];exact h)=oD M:=by simp [oD,List.getD,List.getElem?_eq_getElem (show M<Us.length by rw [AD];exact h)]
 rw [e] at this;rw [<- this];simp [aluCells]
theorem Db:CB 239 #[] z (.agg aluCells):=by go_enter func239,ntmps239;apply wp_seq_k;intro c b;apply wp_region_list;refine cT rfl 269 rfl (some 0) rfl _ jL ?_;apply wpList_nil;refine b _ _ ?_;clear b c;apply wp_seq_k;intro c b;apply wp_region_lit;refine kK 42 0 42 (.p z.heap.size 0) (.agg aluCells) ba ?_;intro m f d j;have g:(z.alloc (.cells (Value.agg eZ).cells 269)).heap[z.heap.size]?=some (.cells eZ 269 (0,0)):=heap_alloc_new _ _;refine wpList_store_rowTo rfl 269 (.tmp 0) (.tmp 42) rfl rfl z.heap.size aluCells f d 269 eZ g (by rw [iG,dL]) (by rw [jK,dL]) jM ?_;apply wpList_nil;refine b _ _ ?_;clear b c;apply wp_ret;refine bodyPost_ret (results_cell_row results239 _ _ _ _ _ _ _ f (setRow_heap _ _ _ _ _ _ g) underlying269 rfl (by rw [iG,dL])) j ⟨rfl,?_⟩;exact aI (bal _ _) (Nat.le_refl _) _
theorem pH:Calls prog 239 #[] z λe a=>∃ T,e=.returned T/\Hid (T=.agg aluCells)/\Bw z a :=
 (Db z).mono λe a h=>⟨.agg aluCells,h.1,(rfl:Value.agg aluCells=.agg aluCells),h.2⟩
theorem AF.enters (f:AF):(prog.funcs[f.fn]?).map (λa=>(a.name == "runtime.NumGoroutine",a.body.isSome))=some (false,true):=by cases f<;>kernel_rfl
theorem SD.enters (s:SD):(prog.funcs[s.fn]?).map (λa=>(a.name == "runtime.NumGoroutine",a.body.isSome))=some (false,true):=by cases s<;>kernel_rfl
def NE (w:World) (g:Nat):Prop:=g<w.heap.size/\∀ k,k<41->∀ a b c,(oD k).cells=[a,b,c]->w.cell? ⟨g,k*3,none⟩=some a/\w.cell? ⟨g,k*3+1,none⟩=some b/\w.cell? ⟨g,k*3+2,none⟩=some c
theorem Ic {t:TypeId} (h:e.heap[a]?=some (.cells aluCells t (0,0))):NE e a:=by
 refine ⟨?_,λk c f i l g=>?_⟩
 ·by_cases d:a<e.heap.size;·exact d
  ·rw [Array.getElem?_eq_none ab] at h;cases h
 ·have w:∀ j,j<3->e.cell? ⟨a,k*3+j,none⟩=(oD k).cells[j]?:=(by intro j b;rw [cell_of_row _ _ _ _ _ _ h];exact Da k c j b);rw [g] at w;exact ⟨w 0 bc,w 1 bc,w 2 bc⟩
theorem Dd:(binOp .eql 129 (.func (.func M) #[] #[]) .nilFunc).run prog z=.ok (.bool false) z:=by kernel_rfl
theorem FK:(binOp .eql 129 .nilFunc .nilFunc).run prog z=.ok (.bool true) z:=by kernel_rfl
theorem tV:(prog.info? 268).map (·.size)=some 3:=by kernel_rfl
theorem NF:(#[Value.func (.func M) #[] #[],.func (.func m) #[] #[],.func (.func y) #[] #[]]:Array Value).all (·.oneCell')=true:=by simp [Value.oneCell']
theorem NG:(#[Value.func (.func M) #[] #[],.nilFunc,.nilFunc]:Array Value).all (·.oneCell')=true:=by simp [Value.oneCell']
theorem Ke (hk:M<41) (a b:Int) (z:0<=a) (a1:a<18446744073709551616) (A:0<=b) (I:b<18446744073709551616) (f:AF) (l r:SD) (hr:Hid (oD M=.w f l r)) (w:World): CB 208 #[.i ((M:Int)+22),.u a,.u b] w (.tuple #[.u (au 32 (f.v (l.v a) (r.v b))),.bool true]):=by
 have k:wrap64 ((M:Int)+22-22)=M:=by unfold wrap64;omega
 have Q:decide ((M:Int)+22<22)=false:=by simp;omega
 have R:decide (41<=(M:Int))=false:=by simp;omega
 have C:=Dd;have J:=m7 f.enters;have K:=m7 l.enters;have L:=m7 r.enters;go_enter func208,ntmps208;go_wp2_with fail;refine (pH _).mono ?_;rintro e j ⟨T,rfl,H,u⟩;have B:(j.alloc (.cells (Value.agg eZ).cells 269)).heap[j.heap.size]?=some (.cells eZ 269 (0,0)):=heap_alloc_new _ _;obtain ⟨c,o⟩:∃ c,c=(j.alloc (.cells (Value.agg eZ).cells 269)).setRow j.heap.size aluCells:=⟨_,rfl⟩;have D:Hid (NE c j.heap.size):=by show NE _ _;rw [o];exact Ic (setRow_heap _ _ _ _ _ _ B)
 have s:Hid (c=(j.alloc (.cells (Value.agg eZ).cells 269)).setRow j.heap.size aluCells):=o;clear o;have y:(c.alloc (.cells #[.nilFunc,.nilFunc,.nilFunc] 268)).heap[c.heap.size]?=some (.cells #[.nilFunc,.nilFunc,.nilFunc] 268 (0,0)):=heap_alloc_new _ _;obtain ⟨q,p⟩:∃ q,q=(c.alloc (.cells #[.nilFunc,.nilFunc,.nilFunc] 268)).setRow c.heap.size #[.func (.func f.fn) #[] #[],.func (.func l.fn) #[] #[],.func (.func r.fn) #[] #[]]:=⟨_,rfl⟩;have d:q.heap[c.heap.size]?=some (.cells #[.func (.func f.fn) #[] #[],.func (.func l.fn) #[] #[],.func (.func r.fn) #[] #[]] 268 (0,0)):=by rw [p];exact setRow_heap _ _ _ _ _ _ y
 have S:q.cell? ⟨c.heap.size,0,none⟩=some (.func (.func f.fn) #[] #[]):=cell_of_row _ _ _ _ _ _ d;have U:q.cell? ⟨c.heap.size,1,none⟩=some (.func (.func l.fn) #[] #[]):=cell_of_row _ _ _ _ _ _ d;have e2:q.cell? ⟨c.heap.size,2,none⟩=some (.func (.func r.fn) #[] #[]):=cell_of_row _ _ _ _ _ _ d;have t:Hid (q=(c.alloc (.cells #[.nilFunc,.nilFunc,.nilFunc] 268)).setRow c.heap.size #[.func (.func f.fn) #[] #[],.func (.func l.fn) #[] #[],.func (.func r.fn) #[] #[]]):=p;clear p d;obtain ⟨N,O,P⟩:=D.out.2 M hk _ _ _ (by rw [hr.out];rfl);go_wp2_with (first | refine cT rfl 269 rfl (some 8) rfl _ jL ?_ | (refine wpList_store_rowTo rfl 269 (.tmp 8) (.tmp 10) rfl rfl j.heap.size aluCells rfl H.out 269 eZ B (by rw [iG,dL]) (by rw [jK,dL]) jM ?_;rw [<- s.out]) | (refine wpList_store_rowTo rfl 268 (.tmp 9) (.tmp 21) rfl rfl c.heap.size #[.func (.func f.fn) #[] #[],.func (.func l.fn) #[] #[],.func (.func r.fn) #[] #[]] rfl rfl 268 _ y tV rfl (NF _ _ _) ?_;rw [<- t.out]));have F:Hid (∀ w:World,Calls prog l.fn #[.u a] w λe g=>e=.returned (.u (l.v a))/\∃ m,g=w.drewN m):=SD.calls l a z a1;have HR:Hid (∀ w:World,Calls prog r.fn #[.u b] w λe g=>e=.returned (.u (r.v b))/\∃ m,g=w.drewN m):=SD.calls r b A I;have E:Hid (∀ w:World,Calls prog f.fn #[.u (l.v a),.u (r.v b)] w λe g=>e=.returned (.u (f.v (l.v a) (r.v b)))/\∃ m,g=w.drewN m):=AF.calls f _ _ (l.bd a z).1 (l.bd a z).2 (r.bd b A).1 (r.bd b A).2;have G:Hid (∀ (x:Int) (w:World),Calls prog 136 #[.u x,.i 32] w λe g=>e=.returned (.u (au 32 x))/\∃ m,g=w.drewN m):=λx w=>bx (iX x 32 ab ab w);go_quiet (first | with_reducible refine Calls.quiet_of (F.out _) | with_reducible refine Calls.quiet_of (HR.out _) | with_reducible refine Calls.quiet_of (E.out _) | with_reducible refine Calls.quiet_of (G.out _ _))
 go_wp2_with fail;go_ret2;refine ⟨rfl,rt ?_ _⟩;rw [t.out,s.out];refine aI (Below.alloc (aI (u.alloc u.size _) u.size _) ?_ _) ?_ _;·rw [setRow_size];exact Nat.le_trans u.size cp
 ·rw [setRow_size];exact Nat.le_trans u.size cp
theorem Kf (hk:M<41) (a b:Int) (A:0<=a) (a1:a<18446744073709551616) (B:0<=b) (C:b<18446744073709551616) (f:AF) (hr:Hid (oD M=.d f)) (w:World): CB 208 #[.i ((M:Int)+22),.u a,.u b] w (.tuple #[.u (f.v a b),.bool true]):=by
 have E:wrap64 ((M:Int)+22-22)=M:=by unfold wrap64;omega
 have J:decide ((M:Int)+22<22)=false:=by simp;omega
 have K:decide (41<=(M:Int))=false:=by simp;omega
 have u:=FK;have D:=m7 f.enters;go_enter func208,ntmps208;go_wp2_with fail;refine (pH _).mono ?_;rintro e g ⟨T,rfl,z,q⟩;have t:(g.alloc (.cells (Value.agg eZ).cells 269)).heap[g.heap.size]?=some (.cells eZ 269 (0,0)):=heap_alloc_new _ _;obtain ⟨c,j⟩:∃ c,c=(g.alloc (.cells (Value.agg eZ).cells 269)).setRow g.heap.size aluCells:=⟨_,rfl⟩;have y:Hid (NE c g.heap.size):=by show NE _ _;rw [j];exact Ic (setRow_heap _ _ _ _ _ _ t)
 have o:Hid (c=(g.alloc (.cells (Value.agg eZ).cells 269)).setRow g.heap.size aluCells):=j;clear j;have r:(c.alloc (.cells #[.nilFunc,.nilFunc,.nilFunc] 268)).heap[c.heap.size]?=some (.cells #[.nilFunc,.nilFunc,.nilFunc] 268 (0,0)):=heap_alloc_new _ _;obtain ⟨m,l⟩:∃ m,m=(c.alloc (.cells #[.nilFunc,.nilFunc,.nilFunc] 268)).setRow c.heap.size #[.func (.func f.fn) #[] #[],.nilFunc,.nilFunc]:=⟨_,rfl⟩;have d:m.heap[c.heap.size]?=some (.cells #[.func (.func f.fn) #[] #[],.nilFunc,.nilFunc] 268 (0,0)):=by rw [l];exact setRow_heap _ _ _ _ _ _ r
 have L:m.cell? ⟨c.heap.size,0,none⟩=some (.func (.func f.fn) #[] #[]):=cell_of_row _ _ _ _ _ _ d;have k:m.cell? ⟨c.heap.size,1,none⟩=some .nilFunc:=cell_of_row _ _ _ _ _ _ d;have e2:m.cell? ⟨c.heap.size,2,none⟩=some .nilFunc:=cell_of_row _ _ _ _ _ _ d;have p:Hid (m=(c.alloc (.cells #[.nilFunc,.nilFunc,.nilFunc] 268)).setRow c.heap.size #[.func (.func f.fn) #[] #[],.nilFunc,.nilFunc]):=l;clear l d;obtain ⟨G,H,I⟩:=y.out.2 M hk _ _ _ (by rw [hr.out];rfl);go_wp2_with (first | refine cT rfl 269 rfl (some 8) rfl _ jL ?_ | (refine wpList_store_rowTo rfl 269 (.tmp 8) (.tmp 10) rfl rfl g.heap.size aluCells rfl z.out 269 eZ t (by rw [iG,dL]) (by rw [jK,dL]) jM ?_;rw [<- o.out]) | (refine wpList_store_rowTo rfl 268 (.tmp 9) (.tmp 21) rfl rfl c.heap.size #[.func (.func f.fn) #[] #[],.nilFunc,.nilFunc] rfl rfl 268 _ r tV rfl (NG _) ?_;rw [<- p.out]));refine (AF.calls f a b A a1 B C _).mono ?_;rintro e N ⟨rfl,nq,s⟩;subst s;go_wp2_with fail;go_ret2;refine ⟨rfl,rt ?_ _⟩;rw [p.out,o.out];refine aI (Below.alloc (aI (q.alloc q.size _) q.size _) ?_ _) ?_ _;·rw [setRow_size];exact Nat.le_trans q.size cp
 ·rw [setRow_size];exact Nat.le_trans q.size cp
theorem AE (m:(Lit.int .i64 p).wf=true) (h:zT p=false) (w:World): CB 208 #[.i p,.u r,.u s] w (.tuple #[.u 0,.bool false]):=by
 have l:¬ (22<=p/\p<=62):=by simpa [zT] using h
 have op:=Nw m;clear m h;by_cases f:p<22;·have o:decide (p<22)=true:=i3;clear l f;go_enter func208,ntmps208;go_wp2_with fail;refine (pH _).mono ?_;rintro e d ⟨T,rfl,g,c⟩;have j:(d.alloc (.cells (Value.agg eZ).cells 269)).heap[d.heap.size]?=some (.cells eZ 269 (0,0)):=heap_alloc_new _ _;go_wp2_with (first | refine cT rfl 269 rfl (some 8) rfl _ jL ?_ | (refine wpList_store_rowTo rfl 269 (.tmp 8) (.tmp 10) rfl rfl d.heap.size aluCells rfl g.out 269 eZ j (by rw [iG,dL]) (by rw [jK,dL]) jM ?_));exact a0k
 ·have o:decide (p<22)=false:=i3;have b:wrap64 (p-22)=p-22:=l0;have a:decide (41<=p-22)=true:=bv;clear l f;go_enter func208,ntmps208;go_wp2_with fail;refine (pH _).mono ?_;rintro e d ⟨T,rfl,g,c⟩;have j:(d.alloc (.cells (Value.agg eZ).cells 269)).heap[d.heap.size]?=some (.cells eZ 269 (0,0)):=heap_alloc_new _ _;go_wp2_with (first | refine cT rfl 269 rfl (some 8) rfl _ jL ?_ | (refine wpList_store_rowTo rfl 269 (.tmp 8) (.tmp 10) rfl rfl d.heap.size aluCells rfl g.out 269 eZ j (by rw [iG,dL]) (by rw [jK,dL]) jM ?_));exact a0k
theorem tW (m:(Lit.int .i64 p).wf=true) (c:0<=r) (a1:r<18446744073709551616) (g:0<=s) (i:s<18446744073709551616) (w:World): CB 208 #[.i p,.u r,.u s] w (.tuple #[.u (nC p r s),.bool (zT p)]):=by
 cases h:zT p with
 | false =>have e:nC p r s=0:=(by simp [nC,h]);rw [e];exact AE p r s m h w
 | true =>
   have o:22<=p/\p<=62:=(by simpa [zT] using h);obtain ⟨k,rfl⟩:∃ k:Nat,p=(k:Int)+22:=⟨(p-22).toNat,ab⟩;have e:nC ((k:Int)+22) r s=(oD k).v r s:=(by simp [nC,h]);rw [e];cases j:oD k with
   | d f=>exact Kf k ab r s c a1 g i f j w
   | w f l a=>exact Ke k ab r s c a1 g i f l a j w
theorem uN (hm:y<9223372036854775808):0<=bits .and .i64 p (y:Int)/\bits .and .i64 p (y:Int)<=y:=by
 have e:bits .and .i64 p (y:Int)=wrap64 (((BitVec.ofInt 64 p).toNat &&& y:Nat):Int):=by show IntKind.i64.wrap ((BitVec.ofInt 64 p &&& BitVec.ofInt 64 (y:Int)).toNat:Int)=_;rw [BitVec.toNat_and,BitVec.ofInt_natCast,BitVec.toNat_ofNat,Nat.mod_eq_of_lt (show y<2^64 by omega)];rw [IntKind.wrap_i64];unfold wrap64;rfl
 have h:(BitVec.ofInt 64 p).toNat &&& y<=y:=Nat.and_le_right;rw [e];unfold wrap64;omega
structure Code (w0:World) (a:Option Addr) (n:Nat) (zs:List Int):Prop where
 len:zs.length=n
 few:n<=4096
 sl:Sl .u8 w0 a zs
 bd:∀ y ∈ zs,(Lit.int .u8 y).wf=true
structure lu (w0 w:World) (g:Nat) (a:Option Addr) (n cap:Nat):Prop where
 new:w0.heap.size<=g
 below:Bw w0 w
 row:∃ (i:Nat) (h:Int),i<=n/\w.heap[g]?=some (.cells #[.slice a n cap,.i (i:Int),.i h] 120 (0,0))
theorem sS (v:Value):z.grownBy (z.setCell ⟨B,Q,none⟩ v) (some B):=
 ⟨rfl,rfl,rfl,cp,λk _ a=>heap_setCell_other _ _ _ _ (by intro h;exact a (by rw [h]))⟩
theorem m9 (row:Option Nat):z.grownBy (z.drewN B) row:=⟨rfl,rfl,rfl,Nat.le_refl _,λ_ _ _=>rfl⟩
theorem mt (o:Obj) (row:Option Nat):z.grownBy (z.alloc o) row :=
 ⟨rfl,rfl,rfl,cp,λk a _=>heap_alloc_old z o a⟩
theorem lu.grown {w':World} (cap:lu e x a n w b) (d:x.grownBy w' none):lu e w' a n w b:=by
 obtain ⟨i,h,j,c⟩:=cap.row;have m:∀ k o,x.heap[k]?=some o->k<x.heap.size:=by
  intro k o f;by_cases l:k<x.heap.size;·exact l
  ·rw [Array.getElem?_eq_none ab] at f;cases f
 refine ⟨cap.new,?_,i,h,j,?_⟩;·exact ⟨d.os.trans cap.below.os,d.tape.trans cap.below.tape,d.output.trans cap.below.output,Nat.le_trans cap.below.size d.size,λk f=>(d.block k (Nat.lt_of_lt_of_le f cap.below.size) cp).trans (cap.below.block k f)⟩
 ·rw [d.block a (m _ _ c) cp];exact c
theorem lu.set2 (c:lu e x a n w b) (v:Int):lu e (x.setCell ⟨a,2,none⟩ (.i v)) a n w b:=by obtain ⟨i,h,d,cap⟩:=c.row;exact ⟨c.new,c.below.setCell c.new _,i,v,d,heap_setCell_same x a 2 _ _ _ cap⟩
theorem lu.set1 {g:Nat} (c:lu e x g n a w) (j:Nat) (d:j<=a):lu e (x.setCell ⟨g,1,none⟩ (.i (j:Int))) g n a w:=by obtain ⟨i,h,f,b⟩:=c.row;exact ⟨c.new,c.below.setCell c.new _,j,h,d,heap_setCell_same x g 1 _ _ _ b⟩
theorem lu.dN (c:lu e x a n w b) (m:Nat):lu e (x.drewN m) a n w b:=c.grown (m9 x m none)
theorem FL (d:Code e n w k) (g:World) (o:lu e g a n w b): Calls prog 101 #[.p a 0] g λj t=>∃ x:Int,j=.returned (.i x)/\0<=x/\x<=255/\lu e t a n w b/\g.grownBy t (some a):=by
 obtain ⟨i,h,G,c⟩:=o.row;have z:=cell_of_row g a 2 _ _ _ c;have F:=frozen_of_row g a 2 _ _ c;simp at z;have R:∀ v,(g.setCell ⟨a,2,none⟩ v).heap[a]?=some (.cells #[.slice n w b,.i (i:Int),v] 120 (0,0)):=λv=>heap_setCell_same g a 2 _ _ v c;have C:∀ v,(g.setCell ⟨a,2,none⟩ v).cell? ⟨a,0,none⟩=some (.slice n w b):=λv=>cell_of_row _ _ _ _ _ _ (R v);have D:∀ v,(g.setCell ⟨a,2,none⟩ v).cell? ⟨a,1,none⟩=some (.i (i:Int)):=λv=>cell_of_row _ _ _ _ _ _ (R v);have E:∀ v,(g.setCell ⟨a,2,none⟩ v).cell? ⟨a,2,none⟩=some v:=λv=>cell_of_row _ _ _ _ _ _ (R v);have B:∀ v,(g.setCell ⟨a,2,none⟩ v).frozen? ⟨a,1,none⟩=false:=λv=>frozen_of_row _ _ _ _ _ (R v);have HR:Hid (∀ v,(g.setCell ⟨a,2,none⟩ v).heap[a]?=some (.cells #[.slice n w b,.i (i:Int),v] 120 (0,0))):=R;have l:Hid (lu e g a n w b):=o;have m:Hid (Code e n w k):=d;clear R c o d;by_cases q:i<w
 ·obtain ⟨cap,r,rfl,A,f⟩:=m.out.sl i (by rw [m.out.len];exact q);have u:∀ v,(g.setCell ⟨a,2,none⟩ v).cell? ⟨cap,r+i,none⟩=some (.int .u8 (k.getD i 0)):=λv=>((l.out.below.setCell l.out.new v).cell (by exact A)).trans f;obtain ⟨y,s⟩:∃ y,y=k.getD i 0:=⟨_,rfl⟩;rw [<- s] at u;clear f s;go_enter func101,ntmps101;go_wp2_with fail;go_quiet (fail)
  go_wp2_with fail;go_quiet (fail)
  go_wp2_with fail;go_quiet (fail)
  go_wp2_with fail;have p:wrap64 ((i:Int)+1)=((i+1:Nat):Int):=(by have:=m.out.few;unfold wrap64;omega);rw [p];go_ret;refine ⟨_,rfl,(uN _ 255 ab).1,(uN _ 255 ab).2,?_,?_⟩;·exact ((l.out.set2 _).dN _).set1 _ ab
  ·exact aZ (aZ (sS _ _ _ _) (m9 _ _ _)) (sS _ _ _ _)
 ·go_enter func101,ntmps101;go_wp2_with fail;go_quiet (fail)
  go_wp2_with fail;go_quiet (fail)
  go_wp2_with fail;go_ret;refine ⟨_,rfl,(uN _ 255 ab).1,(uN _ 255 ab).2,?_,?_⟩;·exact ((l.out.set2 _).dN _).dN _
  ·exact aZ (aZ (sS _ _ _ _) (m9 _ _ _)) (m9 _ _ _)
def Cs (b:World) (g:Nat) (a:Option Addr) (n cap:Nat) (w w':World):Prop:=lu b w' g a n cap/\w.grownBy w' (some g)
theorem Cs.trans {w2 w3:World} (h:Cs e a n w b x w2) (k:Cs e a n w b w2 w3):Cs e a n w b x w3:=⟨k.1,aZ h.2 k.2⟩
theorem Cs.refl (h:lu e x a n w b):Cs e a n w b x x:=⟨h,ny _ _⟩
theorem kF {zs:List Int} (cap:Code e n w zs) (g:World) (l:lu e g a n w b):
 Calls prog 101 #[.p a 0] g λc d=>∃ x:Int,c=.returned (.i x)/\(0<=x/\x<=255)/\Hid (Cs e a n w b g d):=
 (FL cap g l).mono λc d ⟨x,f,h,i,j,k⟩=>⟨x,f,⟨h,i⟩,⟨j,k⟩⟩
theorem aB (c:Code e n w k) (m:Int) (hm:0<m) (g:World) (A:lu e g a n w b): Calls prog 55 #[.p a 0,.i m] g λo J=>∃ x:Int,o=.returned (.i x)/\(0<=x/\x<m)/\Hid (Cs e a n w b g J):=by
 have cap:Hid (Code e n w k):=c;have s:Hid (lu e g a n w b):=A;have L:decide (m<=0)=false:=by simp;omega
 have t:¬ m=0:=ab
 clear c A;by_cases d:m<=256;·have B:decide (m<=256)=true:=kc;go_enter func55,ntmps55;go_wp2_with fail;refine (kF cap.out _ s.out).mono ?_;rintro o K ⟨x,rfl,⟨q,r⟩,C⟩;go_wp2_with fail;go_ret;refine ⟨_,rfl,?_,C⟩;exact ⟨Int.emod_nonneg _ t,Int.emod_lt_of_pos _ hm⟩
 ·have B:decide (m<=256)=false:=kc;go_enter func55,ntmps55;go_wp2_with fail;refine (kF cap.out _ s.out).mono ?_;rintro o K ⟨x,rfl,⟨q,r⟩,f⟩;go_wp2_with fail;refine (kF cap.out _ f.out.1).mono ?_;rintro o M ⟨y,rfl,⟨F,G⟩,j⟩;go_wp2_with fail;refine (kF cap.out _ j.out.1).mono ?_;rintro o N ⟨z,rfl,⟨H,I⟩,l⟩;go_wp2_with fail;refine (kF cap.out _ l.out.1).mono ?_;rintro o O ⟨u,rfl,⟨D,E⟩,p⟩;go_wp2_with fail;go_ret;refine ⟨_,rfl,?_,f.out.trans (j.out.trans (l.out.trans p.out))⟩;exact ⟨Int.emod_nonneg _ t,Int.emod_lt_of_pos _ hm⟩
theorem bG (cap:Code e n w k) (m:Int) (hm:0<m) (g:World) (f:lu e g a n w b): Calls prog 56 #[.p a 0,.i m] g λd r=>∃ c:Bool,d=.returned (.bool c)/\Hid (Cs e a n w b g r):=by have l:Hid (Code e n w k):=cap;have j:Hid (lu e g a n w b):=f;clear cap f;go_enter func56,ntmps56;go_wp2_with fail;refine (aB l.out m hm _ j.out).mono ?_;rintro d s ⟨x,rfl,⟨p,q⟩,o⟩;go_wp2_with fail;go_ret;exact ⟨_,rfl,o⟩
theorem Ie (d:Code z n a k): Calls prog 53 #[.slice n a M] z λe p=>∃ g,e=.returned (.p g 0)/\Hid (lu z p g n a M):=by
 have m:Hid (Code z n a k):=d;have s:=d.few;clear d;go_enter func53,ntmps53;go_wp2_with fail;go_loopw [3,4] (λh i wr=>∃ (zs:Nat) (x:Int),zs<=a/\h=.i x/\i=.i zs/\Hid (Bw z wr))
  (λ_ i _=>a-(intOf i).toNat)
 case atStart=>exact ⟨0,_,Nat.zero_le _,rfl,rfl,Below.refl _ _⟩
 case round =>
  obtain ⟨zs,x,r,rfl,rfl,c⟩:=hrel;by_cases j:zs<a
  ·obtain ⟨b,l,rfl,o,f⟩:=m.out.sl zs (by rw [m.out.len];exact j);have q:wr.cell? ⟨b,l+zs,none⟩=some (.int .u8 (k.getD zs 0)):=(c.out.cell (by exact o)).trans f;clear f;go_wp2_with fail;go_roundw;case rel=>exact ⟨zs+1,_,ab,rfl,by go_num,c⟩
   case measure=>simp [intOf];omega
  ·go_wp2_with fail;go_ret;refine ⟨_,rfl,?_⟩;exact ⟨c.out.size,c.out.alloc c.out.size _,0,x,Nat.zero_le _,heap_alloc_new _ _⟩
end Go.Proofs.YtjifdmoehfbihaaGreatDoor
