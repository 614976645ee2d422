/- Own lemmas. -/
import Derived.Test.YtjifdmoehfbihaaGreatDoorAut
import Derived.Test.YtjifdmoehfbihaaGreatDoorK25
set_option maxRecDepth 100000
set_option maxHeartbeats 4000000
namespace Go.Proofs.YtjifdmoehfbihaaGreatDoor
open Go.RowKit Tryz
open IntKind renaming u64->Uz
set_option linter.unusedVariables false
theorem qN (a b:Int) (c:0<=a) (d:a<18446744073709551616) (f:0<=b) (g:b<18446744073709551616) (w:World):CE 278 #[.u a,.u b] w (.u (MF.smin.v a b)):=by
 have l:=jJ c d;have m:=jJ f g;go_enter func278,ntmps278;go_wp2_with fail;·go_ret;exact ⟨qh,rfl⟩
 ·go_ret;exact ⟨kr,rfl⟩
theorem pY (a b:Int) (c:0<=a) (d:a<18446744073709551616) (f:0<=b) (g:b<18446744073709551616) (w:World):CE 279 #[.u a,.u b] w (.u (MF.smax.v a b)):=by
 have l:=jJ c d;have m:=jJ f g;go_enter func279,ntmps279;go_wp2_with fail;·go_ret;exact ⟨qh,rfl⟩
 ·go_ret;exact ⟨kr,rfl⟩
theorem uF (a b:Int) (c:0<=a) (d:a<18446744073709551616) (f:0<=b) (g:b<18446744073709551616) (w:World):CE 280 #[.u a,.u b] w (.u (MF.umin.v a b)):=by
 have l:=jJ c d;have m:=jJ f g;go_enter func280,ntmps280;go_wp2_with fail;·go_ret;exact ⟨qh,rfl⟩
 ·go_ret;exact ⟨kr,rfl⟩
theorem sg (a b:Int) (c:0<=a) (d:a<18446744073709551616) (f:0<=b) (g:b<18446744073709551616) (w:World):CE 281 #[.u a,.u b] w (.u (MF.umax.v a b)):=by
 have l:=jJ c d;have m:=jJ f g;go_enter func281,ntmps281;go_wp2_with fail;·go_ret;exact ⟨qh,rfl⟩
 ·go_ret;exact ⟨kr,rfl⟩
def MF.fn:MF->Nat
 | .second=>277
 | .sum=>255
 | .xor=>258
 | .and=>260
 | .or=>259
 | .smin=>278
 | .smax=>279
 | .umin=>280
 | .umax=>281
theorem MF.calls (f:MF) (a b:Int) (c:0<=a) (d:a<18446744073709551616) (g:0<=b) (h:b<18446744073709551616) (w:World):Calls prog f.fn #[.u a,.u b] w λe i=>e=.returned (.u (f.v a b))/\∃ m,i=w.drewN m:=by
 cases f;·exact aT (xF a b w)
 ·exact aT (vU a b w)
 ·exact aT (vV a b w)
 ·exact aT (vX a b w)
 ·exact aT (zF a b w)
 ·exact aT (qN a b c d g h w)
 ·exact aT (pY a b c d g h w)
 ·exact aT (uF a b c d g h w)
 ·exact aT (sg a b c d g h w)
theorem MF.enters (f:MF):(prog.funcs[f.fn]?).map (λa=>(a.name == "runtime.NumGoroutine",a.body.isSome))=some (false,true):=by cases f<;>kernel_rfl
def amoCells:Array Value:=(L9.map λf=>Value.func (.func f.fn) #[] #[]).toArray
def dC:Array Value:=(List.replicate 9 Value.nilFunc).toArray
theorem gS:dC.size=9:=by kernel_rfl
theorem cD:amoCells.size=9:=by kernel_rfl
theorem gT:(prog.info? 277).bind (·.zero)=some (.agg dC):=by kernel_rfl
theorem gU:amoCells.all (·.oneCell')=true:=by kernel_rfl
theorem ge:(prog.info? 277).map (·.size)=some 9:=by kernel_rfl
theorem rL (k:Nat) (h:k<9):amoCells[k]?=some (.func (.func (lE k).fn) #[] #[]):=by
 match k,h with
 | 0,_=>rfl
 | 1,_=>rfl
 | 2,_=>rfl
 | 3,_=>rfl
 | 4,_=>rfl
 | 5,_=>rfl
 | 6,_=>rfl
 | 7,_=>rfl
 | 8,_=>rfl
 | k+9,h=>exact absurd h al
theorem AN (w:World):CB 241 #[] w (.agg amoCells):=by go_enter func241,ntmps241;apply wp_seq_k;intro c b;apply wp_region_list;refine cy rfl 277 rfl (some 0) rfl _ gT ?_;apply wpList_nil;refine b _ _ ?_;clear b c;apply wp_seq_k;intro c b;apply wp_region_lit;refine jM 10 0 10 (.p w.heap.size 0) (.agg amoCells) a3 ?_;intro m f d j;have g:(w.alloc (.cells (Value.agg dC).cells 277)).heap[w.heap.size]?=some (.cells dC 277 (0,0)):=heap_alloc_new _ _;refine wpList_store_rowTo rfl 277 (.tmp 0) (.tmp 10) rfl rfl w.heap.size amoCells f d 277 dC g (by rw [ge,cD]) (by rw [gS,cD]) gU ?_;apply wpList_nil;refine b _ _ ?_;clear b c;apply wp_ret;refine bodyPost_ret (results_cell_row results241 _ _ _ _ _ _ _ f (setRow_heap _ _ _ _ _ _ g) underlying277 rfl (by rw [ge,cD])) j ⟨rfl,?_⟩;exact aD (bal _ _) (Nat.le_refl _) _
theorem mh (w:World):Calls prog 241 #[] w λe a=>∃ T,e=.returned T/\Hid (T=.agg amoCells)/\Bw w a :=
 (AN w).mono λe a h=>⟨.agg amoCells,h.1,(rfl:Value.agg amoCells=.agg amoCells),h.2⟩
theorem yr (k:Nat) (hk:k<9) (a b:Int) (r:0<=a) (s:a<18446744073709551616) (t:0<=b) (u:b<18446744073709551616) (f:MF) (z:Hid (lE k=f)) (w:World):CB 214 #[.i ((k:Int)+76),.u a,.u b] w (.tuple #[.u (f.v a b),.bool true]):=by
 have A:wrap64 ((k:Int)+76-76)=k:=by unfold wrap64;omega
 have D:decide (76<=(k:Int)+76)=true:=by simp;omega
 have E:decide ((k:Int)<9)=true:=by simp;omega
 have y:=lP f.enters;go_enter func214,ntmps214;go_wp2_with fail;refine (mh _).mono ?_;rintro e d ⟨T,rfl,q,l⟩;have o:(d.alloc (.cells (Value.agg dC).cells 277)).heap[d.heap.size]?=some (.cells dC 277 (0,0)):=heap_alloc_new _ _;obtain ⟨g,c⟩:∃ g,g=(d.alloc (.cells (Value.agg dC).cells 277)).setRow d.heap.size amoCells:=⟨_,rfl⟩;have HR:Hid (g.heap[d.heap.size]?=some (.cells amoCells 277 (0,0))):=by show _=_;rw [c];exact setRow_heap _ _ _ _ _ _ o
 have p:Hid (Bw w g):=by show Below _ _ _;rw [c];exact aD (l.alloc l.size _) l.size _
 have j:Hid (g=(d.alloc (.cells (Value.agg dC).cells 277)).setRow d.heap.size amoCells):=c;clear c;have C:g.cell? ⟨d.heap.size,k,none⟩=some (.func (.func f.fn) #[] #[]):=by rw [cell_of_row _ _ _ _ _ _ HR.out,rL k hk,z.out]
 go_wp2_with (first | refine cy rfl 277 rfl (some 8) rfl _ gT ?_ | (refine wpList_store_rowTo rfl 277 (.tmp 8) (.tmp 10) rfl rfl d.heap.size amoCells rfl q.out 277 dC o (by rw [ge,cD]) (by rw [gS,cD]) gU ?_;rw [<- j.out]));refine (MF.calls f a b r s t u _).mono ?_;rintro e F ⟨rfl,nq,m⟩;subst m;go_wp2_with fail;go_ret2;exact ⟨rfl,pn p.out _⟩
theorem AP (k:Nat) (hk:k<9) (a b:Int) (C:0<=a) (D:a<18446744073709551616) (E:0<=b) (F:b<18446744073709551616) (f:MF) (A:Hid (lE k=f)) (w:World):CB 214 #[.i ((k:Int)+65),.u a,.u b] w (.tuple #[.u (f.v (aq 32 a) (aq 32 b)%4294967296),.bool true]):=by
 have B:wrap64 ((k:Int)+65-65)=k:=by unfold wrap64;omega
 have H:decide (76<=(k:Int)+65)=false:=by simp;omega
 have I:decide (65<=(k:Int)+65)=true:=by simp;omega
 have J:decide ((k:Int)<9)=true:=by simp;omega
 have K:0<=(k:Int)/\(k:Int)<((9:Nat):Int):=al
 have z:=lP f.enters;go_enter func214,ntmps214;go_wp2_with fail;refine (mh _).mono ?_;rintro e d ⟨T,rfl,u,o⟩;have q:(d.alloc (.cells (Value.agg dC).cells 277)).heap[d.heap.size]?=some (.cells dC 277 (0,0)):=heap_alloc_new _ _;obtain ⟨g,c⟩:∃ g,g=(d.alloc (.cells (Value.agg dC).cells 277)).setRow d.heap.size amoCells:=⟨_,rfl⟩;have HR:Hid (g.heap[d.heap.size]?=some (.cells amoCells 277 (0,0))):=by show _=_;rw [c];exact setRow_heap _ _ _ _ _ _ q
 have r:Hid (Bw w g):=by show Below _ _ _;rw [c];exact aD (o.alloc o.size _) o.size _
 have l:Hid (g=(d.alloc (.cells (Value.agg dC).cells 277)).setRow d.heap.size amoCells):=c;clear c;have G:g.cell? ⟨d.heap.size,k,none⟩=some (.func (.func f.fn) #[] #[]):=by rw [cell_of_row _ _ _ _ _ _ HR.out,rL k hk,A.out]
 go_wp2_with (first | refine cy rfl 277 rfl (some 8) rfl _ gT ?_ | (refine wpList_store_rowTo rfl 277 (.tmp 8) (.tmp 10) rfl rfl d.heap.size amoCells rfl u.out 277 dC q (by rw [ge,cD]) (by rw [gS,cD]) gU ?_;rw [<- l.out]));have y:0<=f.v (aq 32 a) (aq 32 b):=f.pos (aS a).1 (aS a).2 (aS b).1 (aS b).2;have t:Hid (∀ (x:Int) (w:World),Calls prog 242 #[.u x] w λe j=>e=.returned (.u (aq 32 x))/\∃ m,j=w.drewN m):=λx w=>aT (oB x w);have s:Hid (∀ w:World,Calls prog f.fn #[.u (aq 32 a),.u (aq 32 b)] w λe j=>e=.returned (.u (f.v (aq 32 a) (aq 32 b)))/\∃ m,j=w.drewN m):=MF.calls f _ _ (aS a).1 (aS a).2 (aS b).1 (aS b).2;go_quiet (first | with_reducible refine Calls.quiet_of (t.out _ _) | with_reducible refine Calls.quiet_of (s.out _))
 go_wp2_with fail;refine (rn _ y _).mono ?_;rintro e L ⟨rfl,p⟩;subst p;go_wp2_with fail;go_ret2;exact ⟨rfl,pn r.out _⟩
theorem yt (op a b:Int) (p:(Lit.int .i64 op).wf=true) (h:qC op=false) (w:World):CB 214 #[.i op,.u a,.u b] w (.tuple #[.u 0,.bool false]):=by
 have l:¬ (65<=op/\op<=73)/\¬ (76<=op/\op<=84):=by simpa [qC] using h
 have r:=Ix p;clear p h;by_cases j:op<65;·have m:decide (76<=op)=false:=a7;have u:decide (65<=op)=false:=a7;clear j l;go_enter func214,ntmps214;go_wp2_with fail;refine (mh _).mono ?_;rintro e d ⟨T,rfl,f,c⟩;have g:(d.alloc (.cells (Value.agg dC).cells 277)).heap[d.heap.size]?=some (.cells dC 277 (0,0)):=heap_alloc_new _ _;go_wp2_with (first | refine cy rfl 277 rfl (some 8) rfl _ gT ?_ | (refine wpList_store_rowTo rfl 277 (.tmp 8) (.tmp 10) rfl rfl d.heap.size amoCells rfl f.out 277 dC g (by rw [ge,cD]) (by rw [gS,cD]) gU ?_));exact a0x
 ·have t:decide (65<=op)=true:=a7;have A:wrap64 (op-65)=op-65:=la;have y:decide (op-65<9)=false:=a7;by_cases o:op<76;·have m:decide (76<=op)=false:=a7;clear j l o;go_enter func214,ntmps214;go_wp2_with fail;refine (mh _).mono ?_;rintro e d ⟨T,rfl,f,c⟩;have g:(d.alloc (.cells (Value.agg dC).cells 277)).heap[d.heap.size]?=some (.cells dC 277 (0,0)):=heap_alloc_new _ _;go_wp2_with (first | refine cy rfl 277 rfl (some 8) rfl _ gT ?_ | (refine wpList_store_rowTo rfl 277 (.tmp 8) (.tmp 10) rfl rfl d.heap.size amoCells rfl f.out 277 dC g (by rw [ge,cD]) (by rw [gS,cD]) gU ?_));go_ret2;exact ⟨rfl,aD (c.alloc c.size _) c.size _⟩
  ·have m:decide (76<=op)=true:=a7;have q:wrap64 (op-76)=op-76:=la;have z:decide (op-76<9)=false:=a7;clear j l o;go_enter func214,ntmps214;go_wp2_with fail;refine (mh _).mono ?_;rintro e d ⟨T,rfl,f,c⟩;have g:(d.alloc (.cells (Value.agg dC).cells 277)).heap[d.heap.size]?=some (.cells dC 277 (0,0)):=heap_alloc_new _ _;go_wp2_with (first | refine cy rfl 277 rfl (some 8) rfl _ gT ?_ | (refine wpList_store_rowTo rfl 277 (.tmp 8) (.tmp 10) rfl rfl d.heap.size amoCells rfl f.out 277 dC g (by rw [ge,cD]) (by rw [gS,cD]) gU ?_));exact a0x
theorem AQ (op a b:Int) (j:(Lit.int .i64 op).wf=true) (d:0<=a) (f:a<18446744073709551616) (g:0<=b) (i:b<18446744073709551616) (w:World):CB 214 #[.i op,.u a,.u b] w (.tuple #[.u (iu op a b),.bool (qC op)]):=by
 cases h:qC op with
 | false=>rw [Ao h];exact yt op a b j h w
 | true =>
   obtain ⟨k,c,rfl|rfl⟩:=wG h;·rw [An c];exact yr k c a b d f g i _ (rfl:lE k=lE k) w
   ·rw [En c];exact AP k c a b d f g i _ (rfl:lE k=lE k) w
def uG (A B s:Int) (a b:Bool):Nat->Int
 | 0=>B | 1=>s | 2=>bits .xor .u64 A B | 3=>bits .and .u64 A B | 4=>bits .or .u64 A B
 | 5=>if a=true then A else B | 6=>if a=true then B else A | 7=>if b=true then A else B | _=>if b=true then B else A
theorem wU (n:Nat) (o d a b A B s x y:Int) (g h:Bool) (hn:n=64/\o=76/\d=18446744073709551615\/n=32/\o=65/\d=4294967295) (t:bits .and .u64 a d=A) (u:bits .and .u64 b d=B) (hs:bits .and .u64 (Uz.wrap (A+B)) d=s) (hx:aq n A=x) (hy:aq n B=y) (hl:decide (IntKind.i64.wrap x<IntKind.i64.wrap y)=g) (j:decide (A<B)=h) (k:Nat) (hk:k<9) (w:World):CE 130 #[.i ((k:Int)+o),.u a,.u b] w (.tuple #[.u (uG A B s g h k),.bool true]):=by
 have l:=λW (_:W=w)=>il ((k:Int)+o) 76 84 W;have m:=λW (_:W=w)=>il ((k:Int)+o) 65 73 W;obtain ⟨V,i⟩:∃ V,V=uG A B s g h k:=⟨_,rfl⟩;rw [<- i];have p:∀ W,W=w->CE 127 #[.u A,.u n] W (.u x):=λW _=>hx ▸ dL A n al al W;have q:∀ W,W=w->CE 127 #[.u B,.u n] W (.u y):=λW _=>hy ▸ dL B n al al W;clear hx hy;have r:k=0\/k=1\/k=2\/k=3\/k=4\/k=5\/k=6\/k=7\/k=8:=al
 refine cn (S:=λx=>x=w) (args:=[.i ((k:Int)+o),.u a,.u b]) [] func130 ?_;show Wg _ _ _ _ _ _ w;rcases hn with ⟨rfl,rfl,rfl⟩ | ⟨rfl,rfl,rfl⟩<;>rcases r with rfl | rfl | rfl | rfl | rfl | rfl | rfl | rfl | rfl<;>cases g<;>cases h <;>
  exact hC (R:=[]) trivial {eq:=[(29,ei .u64 t),(32,ei .u64 u),(41,au hl),(52,ei .u64 hs),(82,au j),(87,au j)],cv:=[(14,mt l),(19,mt m),(35,mt p),(39,mt q)]} 300 λc hk=>⟨_,results_tmp2 rfl _ _ _,by rw [hk.slot (v:=.u V) (by rw [i];kernel_rfl),hk.slot (v:=.bool true) a3],rfl⟩
theorem AR (op a b:Int) (d:0<=a) (f:a<18446744073709551616) (g:0<=b) (j:b<18446744073709551616) (w:World):CE 130 #[.i op,.u a,.u b] w (.tuple #[.u (iu op a b),.bool (qC op)]):=by
 cases h:qC op with
 | false =>rw [Ao h];have m:¬ (65<=op/\op<=73)/\¬ (76<=op/\op<=84):=(by simpa [qC] using h);have r:decide (76<=op/\op<=84)=false:=(by simpa using m.2);have s:decide (65<=op/\op<=73)=false:=(by simpa using m.1);clear h m;go_enter func130,ntmps130;go_wp2_with (go_at_call 51;with_reducible refine (il _ _ _ _).mono ?_;rintro e t ⟨rfl,rfl⟩);go_ret2;exact a0h
 | true =>
   obtain ⟨k,c,rfl | rfl⟩:=wG h;all_goals have l:∀ z,IntKind.i64.wrap z=wrap64 z:=λz=>by rw [IntKind.wrap_i64];unfold wrap64;omega
   ·rw [An c];have e:(lE k).v a b=uG a b (Uz.wrap (a+b)) (decide (wrap64 a<wrap64 b)) (decide (a<b)) k:=by
     match k,c with
     | 0,_ | 1,_ | 2,_ | 3,_ | 4,_=>rfl
     | 5,_=>simpa [uG,lE,L9] using Eo d f g j
     | 6,_ | 8,_=>simp [uG,lE,L9,MF.v]
     | 7,_=>simpa [uG,lE,L9] using Ep a b
    rw [e];have o:0<=Uz.wrap (a+b)/\Uz.wrap (a+b)<18446744073709551616:=bv;exact wU 64 76 18446744073709551615 a b a b _ a b _ _ (.inl ⟨rfl,rfl,rfl⟩) (ug d f) (ug g j) (ug o.1 o.2) (uf d f) (uf g j) (by rw [l,l]) rfl k c w
   ·rw [En c];have e:(lE k).v (aq 32 a) (aq 32 b)%4294967296=uG (a%4294967296) (b%4294967296) ((a+b)%4294967296) (decide (wrap64 (aq 32 a)<wrap64 (aq 32 b))) (decide (a%4294967296<b%4294967296)) k:=by
     match k,c with
     | 0,_=>exact C4 a b
     | 1,_=>exact ((Mc a b).trans (jm _)).trans (by show _=(a+b)%4294967296;omega)
     | 2,_=>exact Jz a b
     | 3,_=>exact JA a b
     | 4,_=>exact Md a b
     | 5,_=>simpa [uG,lE,L9] using JB a b
     | 6,_=>simpa [uG,lE,L9] using JC a b
     | 7,_=>simpa [uG,lE,L9] using JD a b
     | 8,_=>simpa [uG,lE,L9] using JE a b
    rw [e];have p:=ky ((a%4294967296)+(b%4294967296)) al al;exact wU 32 65 4294967295 a b _ _ _ _ _ _ _ (.inr ⟨rfl,rfl,rfl⟩) (ky a d f) (ky b g j) (by rw [IntKind.wrap_u64,Int.emod_eq_of_lt al al,p];omega) (nS a) (nS b) (by rw [l,l]) rfl k c w
def cq:Bool->Array Value
 | true=>#[.i 3,.i 4,.i 6,.i 7,.i 8,.i 3,.i 7,.i 11,.i 2]
 | false=>#[.i 1,.i 10,.i 12,.i 13,.i 14,.i 1,.i 5,.i 8,.i 1]
theorem wV:(prog.info? 168).map (·.size)=some 9:=by kernel_rfl
theorem jV (w:World):CB 145 #[] w (.agg (cq true)):=by go_enter func145,ntmps145;go_wp2_with fail;exact bodyPost_ret (results_cell_row results145 _ _ _ _ _ _ _ rfl (heap_alloc_new _ _) underlying168 rfl wV) rfl ⟨rfl,bal _ _⟩
theorem iG (w:World):CB 147 #[] w (.agg (cq false)):=by go_enter func147,ntmps147;go_wp2_with fail;exact bodyPost_ret (results_cell_row results147 _ _ _ _ _ _ _ rfl (heap_alloc_new _ _) underlying168 rfl wV) rfl ⟨rfl,bal _ _⟩
theorem Ko (x:Int):IntKind.i64.wrap x=wrap64 x:=by rw [IntKind.wrap_i64];unfold wrap64;omega
theorem yu (s:Int) (h:U s) (k n:Nat) (hk:k<64) (hn:n<64) (W:World):CB 66 #[.u s,.i k,.i n] W (.u (cI s k n)):=(bn s k n h.1 h.2 hk hn W).mono λe a k=>⟨k.1,k.2 ▸ (Below.refl _ _).drew⟩
theorem AS (c:Bool) (s r:Int) (h:U s) (hr:IntKind.i64.wrap (cI s (if c=true then 11 else 8) (if c=true then 2 else 1))=r) (w:World):CB 251 #[.agg (cq c),.u s] w (.i r):=by have a:=λW (_:Bw w W)=>yu s h (if c=true then 11 else 8) (if c=true then 2 else 1) (by cases c<;>decide) (by cases c<;>decide) W;refine cn (S:=Bs w [(cq c,168)]) (args:=[.agg (cq c),.u s]) [(cq c,168)] func251 ?_;cases c<;>exact bm (t:=4) (v:=.i r) Bs.eng {cv:=[(10,gB a)],eq:=[(11,ei .i64 hr)]} 60 (Bs.start _ _) λW h=>⟨rfl,h.2⟩
theorem wX (c:Bool) (s:Int) (w:World):CB 233 #[.agg (cq c),.u s] w (.u (bits .andNot .u64 s (if c=true then 6280 else 290))):=by refine cn (S:=Bs w [(cq c,168)]) (args:=[.agg (cq c),.u s]) [(cq c,168)] func233 ?_;cases c<;>exact bm (t:=4) (v:=.u (bits .andNot .u64 s _)) Bs.eng {} 60 (Bs.start _ _) λW h=>⟨rfl,h.2⟩
theorem uH (s:Int) (h:U s) (w:World):CB 251 #[.agg (cq true),.u s] w (.i (cP s true)):=AS true s _ h (by rw [J0 s h];exact Ko _) w
theorem AT (s:Int) (h:U s) (w:World):CB 251 #[.agg (cq false),.u s] w (.i (cP s false)):=AS false s _ h (by rw [Ay s h];exact Ko _) w
theorem qO (c:Bool) (s p r:Int) (h:U s) (d:Uz.wrap p=p) (hr:bits .or .u64 (bits .or .u64 (bits .andNot .u64 s (if c=true then 6280 else 290)) (Uz.wrap (cI s (if c=true then 3 else 1) 1*(if c=true then 128 else 32)))) (Uz.wrap (p*(if c=true then 2048 else 256)))=r) (w:World):CB 198 #[.agg (cq c),.u s,.i p] w (.u r):=by have a:=λW (_:Bw w W)=>yu s h (if c=true then 3 else 1) 1 (by cases c<;>decide) a5 W;have b:=λW (_:Bw w W)=>wX c s W;refine cn (S:=Bs w [(cq c,168)]) (args:=[.agg (cq c),.u s,.i p]) [(cq c,168)] func198 ?_;generalize cI s (if c=true then 3 else 1) 1=y at *;cases c<;>exact bm (t:=6) (v:=.u r) Bs.eng {cv:=[(11,gB a),(14,gB b)],eq:=[(21,ei .u64 d),(25,ei .u64 hr)]} 90 (Bs.start _ _) λW h=>⟨rfl,h.2⟩
theorem GV (s:Int) (p:Int) (a:bI p=true) (h:U s) (w:World):CB 198 #[.agg (cq true),.u s,.i p] w (.u (lH s p)):=by
 have b:p=0\/p=1\/p=3:=by simpa [bI,or_assoc] using a
 exact qO true s p _ h bv (Ml s p h).symm w
theorem Dm (s:Int) (h:U s) (w:World):CB 198 #[.agg (cq false),.u s,.i 0] w (.u (kQ s ((0:Int)==1))):=qO false s 0 _ h a5 (JY s h).symm w
theorem Dn (s:Int) (h:U s) (w:World):CB 198 #[.agg (cq false),.u s,.i 1] w (.u (kQ s ((1:Int)==1))):=qO false s 1 _ h a5 (JZ s h).symm w
theorem Do (c d:Bool) (s o x r:Int) (h:U s) (g:∀ W,CB 251 #[.agg (cq c),.u s] W (.i o)) (hd:(o != 3)=d) (hx:bits .or .u64 (bits .or .u64 (bits .andNot .u64 s (if c=true then 6280 else 290)) (Uz.wrap (cI s (if c=true then 7 else 5) 1*(if c=true then 8 else 2)))) (if c=true then 128 else 32)=x) (hr:(if d=true then bits .andNot .u64 x 131072 else x)=r) (w:World):CB 282 #[.agg (cq c),.u s] w (.u r):=by
 have b:=λW (_:Bw w W)=>yu s h (if c=true then 7 else 5) 1 (by cases c<;>decide) a5 W
 have f:=λW (_:Bw w W)=>wX c s W
 refine cn (S:=Bs w [(cq c,168)]) (args:=[.agg (cq c),.u s]) [(cq c,168)] func282 ?_
 generalize cI s (if c=true then 7 else 5) 1=y at *
 cases c<;>cases d<;>(
  subst hr
  exact bm (t:=4) (v:=.u (if _=true then bits .andNot .u64 x 131072 else x)) Bs.eng {cv:=[(10,gB b),(13,gB f),(25,gB λW _=>g W)],eq:=[(22,ei .u64 hx),(26,au hd)]} 120 (Bs.start _ _) λW h=>⟨rfl,h.2⟩)
theorem OP (s:Int) (h:U s) (w:World):CB 282 #[.agg (cq true),.u s] w (.u (cF s true)):=by
 cases d:(cP s true != 3) with
 | true=>exact Do true true s _ _ _ h (uH s h) d rfl (GA s h d).symm w
 | false=>exact Do true false s _ _ _ h (uH s h) d rfl (GB s h d).symm w
theorem OQ (s:Int) (h:U s) (w:World):CB 282 #[.agg (cq false),.u s] w (.u (cF s false)):=Do false true s _ _ _ h (AT s h) (GC s h) rfl (J1 s h).symm w
theorem uI (k:Nat) (h:k<6):dS.drop k=dS.getD k 0::dS.drop (k+1):=by
 have e:k=0\/k=1\/k=2\/k=3\/k=4\/k=5:=al
 rcases e with rfl|rfl|rfl|rfl|rfl|rfl<;>rfl
theorem AU (k:Nat):dS.getD k 0<64:=by
 by_cases h:k<6;·have e:k=0\/k=1\/k=2\/k=3\/k=4\/k=5:=al;rcases e with rfl|rfl|rfl|rfl|rfl|rfl<;>decide
 ·have:dS.getD k 0=0:=by simp [dS,List.getD,List.getElem?_eq_none (show [11,3,7,9,1,5].length<=k by simp;omega)]
  omega
theorem wY (x:Int) (k:Nat) (h:k<6) (a:fF x (dS.drop k)=cO x) (hb:(ap x (dS.getD k 0)==1)=true):cO x=(dS.getD k 0:Nat):=by rw [<- a,uI k h,fF,hb]
theorem AV (x:Int) (k:Nat) (h:k<6) (a:fF x (dS.drop k)=cO x) (hb:(ap x (dS.getD k 0)==1)=false):fF x (dS.drop (k+1))=cO x:=by rw [<- a,uI k h,fF,hb]
def gv:Array Value:=#[.i 11,.i 3,.i 7,.i 9,.i 1,.i 5]
theorem GW (k:Nat) (h:k<6):gv[k]?=some (.i (dS.getD k 0:Nat)):=by
 have e:k=0\/k=1\/k=2\/k=3\/k=4\/k=5:=al
 rcases e with rfl|rfl|rfl|rfl|rfl|rfl<;>rfl
theorem AW (x:Int) (w:World):CB 112 #[.u x] w (.i (cO x)):=by
 go_enter func112,ntmps112;go_wp2_with fail;have p:Bw w (w.alloc (Obj.cells #[.i 11,.i 3,.i 7,.i 9,.i 1,.i 5] 2)):=bal _ _;have u:Hid (∀ k,k<6->(w.alloc (Obj.cells #[.i 11,.i 3,.i 7,.i 9,.i 1,.i 5] 2)).cell? ⟨w.heap.size,k,none⟩=some (.i (dS.getD k 0:Nat))):=λk s=>(cell_of_row _ _ _ _ _ _ (heap_alloc_new _ _)).trans (GW k s);generalize w.alloc (Obj.cells #[.i 11,.i 3,.i 7,.i 9,.i 1,.i 5] 2)=B at *;go_loopw [4] (λi wr=>∃ k:Nat,k<=6/\i=.i k/\Hid (fF x (dS.drop k)=cO x)/\wr=B)
  (λi _=>6-(intOf i).toNat)
 case atStart=>exact ⟨0,al,rfl,(rfl:fF x (dS.drop 0)=cO x),rfl⟩
 case round =>
  obtain ⟨k,s,rfl,j,rfl⟩:=hrel;by_cases c:k<6
  ·have E:=u.out k c;have b:Hid ((ap x (dS.getD k 0)==1)=true->Hid (cO x=(dS.getD k 0:Nat))):=λh=>wY x k c j.out h;have l:Hid ((ap x (dS.getD k 0)==1)=false->Hid (fF x (dS.drop (k+1))=cO x)):=λh=>AV x k c j.out h;have t:=AU k;generalize dS.getD k 0=r at *;have q:Hid (∀ w,CE 111 #[.u x,.u r] w (.u (ap x r))):=λw=>gq x r t w;have G:Uz.wrap (r:Int)=r:=bv;have D:decide ((k:Int)<6)=true:=a7;have z:(0:Int)<=(k:Int):=al;have A:(k:Int)<6:=al;clear t j;generalize ap x r=y at *;cases d:(y==1) with
   | true =>have F:=b.out d;clear b l;go_wp2_with fail;refine (q.out _).mono ?_;rintro e C ⟨rfl,f⟩;have g:=f.symm;subst g;go_wp2_with fail;go_ret;exact ⟨a6,p⟩
   | false =>
     have F:=l.out d;clear b l;go_wp2_with fail;refine (q.out _).mono ?_;rintro e C ⟨rfl,f⟩;have g:=f.symm;subst g;go_wp2_with fail;go_roundw;case rel=>exact ⟨k+1,al,by go_num,F,trivial⟩
     case measure=>simp [intOf];omega
  ·have m:k=6:=al;subst m;have F:Hid (cO x=-1):=j.out.symm;go_wp2_with fail;go_ret;exact ⟨a6,p⟩
theorem Dp:(prog.info? 223).map (·.size)=some 6:=by kernel_rfl
theorem Dq (w:World):CB 195 #[] w (.agg gv):=by go_enter func195,ntmps195;go_wp2_with fail;exact bodyPost_ret (results_cell_row results195 _ _ _ _ _ _ _ rfl (heap_alloc_new _ _) underlying223 rfl Dp) rfl ⟨rfl,bal _ _⟩
theorem Dr (w:World) (k:Nat) (hk:k<6):(Instr.index 223 (.agg gv) (.i (k:Int))).run prog w=.ok (.i (dS.getD k 0:Nat)) w:=by
 have a:(Instr.index 223 (.agg gv) (.i 0)).run prog w=.ok (.i 11) w:=a3
 have b:(Instr.index 223 (.agg gv) (.i 1)).run prog w=.ok (.i 3) w:=a3
 have c:(Instr.index 223 (.agg gv) (.i 2)).run prog w=.ok (.i 7) w:=a3
 have d:(Instr.index 223 (.agg gv) (.i 3)).run prog w=.ok (.i 9) w:=a3
 have f:(Instr.index 223 (.agg gv) (.i 4)).run prog w=.ok (.i 1) w:=a3
 have g:(Instr.index 223 (.agg gv) (.i 5)).run prog w=.ok (.i 5) w:=a3
 have e:k=0\/k=1\/k=2\/k=3\/k=4\/k=5:=al
 rcases e with rfl|rfl|rfl|rfl|rfl|rfl;·exact a
 ·exact b
 ·exact c
 ·exact d
 ·exact f
 ·exact g
theorem AX (x:Int) (h:U x) (w:World):CB 144 #[.u x] w (.i (cO x)):=by
 have m:Hid (U x):=h;clear h;go_enter func144,ntmps144;go_wp2_with fail;refine (Dq _).mono ?_;rintro e D ⟨rfl,u⟩;go_wp2_with fail;have s:=Dr;generalize Value.agg gv=T at *;go_loopw [6] (λi wr=>∃ k:Nat,k<=6/\i=.i k/\Hid (fF x (dS.drop k)=cO x)/\Bw w wr)
  (λi _=>6-(intOf i).toNat)
 case atStart=>exact ⟨0,al,rfl,(rfl:fF x (dS.drop 0)=cO x),u⟩
 case round =>
  obtain ⟨k,B,rfl,l,b⟩:=hrel;by_cases f:k<6
  ·have C:∀ w,_:=λw=>s w k f;have c:Hid ((ap x (dS.getD k 0)==1)=true->Hid (cO x=(dS.getD k 0:Nat))):=λh=>wY x k f l.out h;have j:Hid ((ap x (dS.getD k 0)==1)=false->Hid (fF x (dS.drop (k+1))=cO x)):=λh=>AV x k f l.out h;have t:=AU k;rw [dB _ _ m.out] at c j;have q:Hid (∀ w,Calls prog 66 #[.u x,.i (dS.getD k 0:Nat),.i 1] w λe p=>e=.returned (.u (cI x (dS.getD k 0) 1))/\p=w.drew):=λw=>bn x (dS.getD k 0) 1 m.out.1 m.out.2 t al w;generalize cI x (dS.getD k 0) 1=y at *;generalize dS.getD k 0=r at *;have A:decide ((k:Int)<6)=true:=a7;clear t l s;cases d:(y==1) with
   | true =>have F:=c.out d;clear c j;go_wp2_with fail;refine (q.out _).mono ?_;rintro e z ⟨rfl,g⟩;subst g;go_wp2_with fail;go_ret;exact ⟨a6,b.drew⟩
   | false =>
     have F:=j.out d;clear c j;go_wp2_with fail;refine (q.out _).mono ?_;rintro e z ⟨rfl,g⟩;subst g;go_wp2_with fail;go_roundw;case rel=>exact ⟨k+1,al,by go_num,F,b.drew⟩
     case measure=>simp [intOf];omega
  ·have o:k=6:=al;subst o;have F:Hid (cO x=-1):=l.out.symm;go_wp2_with fail;go_ret;exact ⟨a6,b⟩
def Kp (m:Bool) (s p:Int):Bool:=match m with
 | true=>decide (p<3)||((p==3)&&(cI s 3 1==1))
 | false=>decide (p<1)||((p==1)&&(cI s 1 1==1))
theorem EH (c:Bool) (s p:Int) (h:U s) (w:World):CB 146 #[.agg (cq c),.u s,.i p] w (.bool (decide (p<if c=true then 3 else 1)||((p==if c=true then 3 else 1)&&(cI s (if c=true then 3 else 1) 1==1)))):=by have a:=λW (_:Bw w W)=>yu s h (if c=true then 3 else 1) 1 (by cases c<;>decide) a5 W;refine cn (S:=Bs w [(cq c,168)]) (args:=[.agg (cq c),.u s,.i p]) [(cq c,168)] func146 ?_;generalize cI s (if c=true then 3 else 1) 1=y at *;cases b:decide (p<if c=true then 3 else 1)<;>cases d:(p==if c=true then 3 else 1)<;>cases f:(y==1)<;>cases c<;>exact bm (t:=6) (v:=.bool (_||(_&&_))) Bs.eng {cv:=[(20,gB a)],eq:=[(10,au b),(15,au d),(21,au f)]} 90 (Bs.start _ _) λW h=>⟨rfl,h.2⟩
theorem MN (s p:Int) (h:U s) (w:World):CB 146 #[.agg (cq true),.u s,.i p] w (.bool (Kp true s p)):=EH true s p h w
theorem MO (s p:Int) (h:U s) (w:World):CB 146 #[.agg (cq false),.u s,.i p] w (.bool (Kp false s p)):=EH false s p h w
theorem vy (k:Nat) (hk:k<16) (i:Bool) (w:World):CE 197 #[.i k,.bool i] w (.u (fS k i)):=by
 have c:Uz.wrap (k:Int)=k:=by rw [IntKind.wrap_u64];omega
 clear hk;cases i with
 | true =>have F:Hid (fS k true=bits .or .u64 k 9223372036854775808):=(rfl:fS k true=_);generalize fS k true=r at *;go_enter func197,ntmps197;exact a0a
 | false =>have F:Hid (fS k false=k):=(rfl:fS k false=_);generalize fS k false=r at *;go_enter func197,ntmps197;exact a0a
theorem vz (to:Int) (k:Nat) (hk:k<16) (i:Bool) (w:World):CE 199 #[.u to,.i k,.bool i] w (.u (dG to k (i&&(bits .and .u64 to 1==1)))):=by
 have c:Uz.wrap (k:Int)=k:=by rw [IntKind.wrap_u64];omega
 clear hk;cases i with
 | true =>
   cases d:(bits .and .u64 to 1 != 0) with
   | true =>have F:Hid (dG to k (true&&(bits .and .u64 to 1==1))=Uz.wrap (bits .andNot .u64 to 1+Uz.wrap (4*k))):=(by show _=_;rw [<- Ex,d];rfl);generalize dG to k (true&&(bits .and .u64 to 1==1))=r at *;exact a0y
   | false =>have F:Hid (dG to k (true&&(bits .and .u64 to 1==1))=bits .andNot .u64 to 1):=(by show _=_;rw [<- Ex,d];rfl);generalize dG to k (true&&(bits .and .u64 to 1==1))=r at *;exact a0y
 | false =>have F:Hid (dG to k (false&&(bits .and .u64 to 1==1))=bits .andNot .u64 to 1):=(rfl:dG to k false=_);generalize dG to k (false&&(bits .and .u64 to 1==1))=r at *;exact a0y
theorem vA (b f cap:Nat) (l:List Int) (p:Int) (k:Nat) (hk:k<16) (i:Bool) (w:World) (A:w.cell? ⟨b,f+1,none⟩=some (.u (l.getD 1 0))) (B:w.cell? ⟨b,f+2,none⟩=some (.u (l.getD 2 0))) (o:U (l.getD 1 0)) (q:U (l.getD 2 0)):CB 196 #[.slice (some ⟨b,f,none⟩) 22 cap,.i p,.i k,.bool i] w (.bool (cK l p k i)):=by
 have F:Hid (cK l p k i=(!(p==3)&&(ap (match i with | true=>l.getD 2 0 | false=>l.getD 1 0) k==1))):=(rfl:cK l p k i=_);cases d:(p==3) with
 | true =>
   have g:Hid (cK l p k i=false):=(by show _=_;rw [F.out,d];rfl);have u:(p != 3)=false:=(by simp [bne,d]);clear F;generalize cK l p k i=r at *;generalize l.getD 1 0=s at *;generalize l.getD 2 0=t at *;cases i <;>
   ·go_enter func196,ntmps196;go_wp2_with fail;go_ret;exact ⟨d8,Below.refl _ _⟩
 | false =>
   have u:(p != 3)=true:=(by simp [bne,d]);rw [d] at F;cases i with
   | true =>have g:Hid (cK l p k true=(cI (l.getD 2 0) k 1==1)):=(by show _=_;rw [F.out];show (ap (l.getD 2 0) k==1)=_;rw [dB _ _ q]);have m:Hid (∀ w,Calls prog 66 #[.u (l.getD 2 0),.i k,.i 1] w λe j=>e=.returned (.u (cI (l.getD 2 0) k 1))/\j=w.drew):=λw=>bn _ k 1 q.1 q.2 al al w;clear F;generalize cK l p k true=r at *;generalize cI (l.getD 2 0) k 1=y at *;generalize l.getD 1 0=s at *;generalize l.getD 2 0=t at *;go_enter func196,ntmps196;go_wp2_with fail;refine (m.out _).mono ?_;rintro e z ⟨rfl,c⟩;subst c;go_wp2_with fail;go_ret;exact ⟨d8,(Below.refl _ _).drew⟩
   | false =>have g:Hid (cK l p k false=(cI (l.getD 1 0) k 1==1)):=(by show _=_;rw [F.out];show (ap (l.getD 1 0) k==1)=_;rw [dB _ _ o]);have m:Hid (∀ w,Calls prog 66 #[.u (l.getD 1 0),.i k,.i 1] w λe j=>e=.returned (.u (cI (l.getD 1 0) k 1))/\j=w.drew):=λw=>bn _ k 1 o.1 o.2 al al w;clear F;generalize cK l p k false=r at *;generalize cI (l.getD 1 0) k 1=y at *;generalize l.getD 1 0=s at *;generalize l.getD 2 0=t at *;go_enter func196,ntmps196;go_wp2_with fail;refine (m.out _).mono ?_;rintro e z ⟨rfl,c⟩;subst c;go_wp2_with fail;go_ret;exact ⟨d8,(Below.refl _ _).drew⟩
theorem wZ {w:World} {b a:Nat} {l:List Int} (h:Sl .u64 w (some ⟨b,a,none⟩) l) (k:Nat) (hk:k<l.length):b<w.heap.size/\w.cell? ⟨b,a+k,none⟩=some (.u (l.getD k 0)):=by obtain ⟨g,c,e,d,f⟩:=h k hk;simp only [Option.some.injEq,Addr.mk.injEq,and_true] at e;obtain ⟨rfl,rfl⟩:=e;exact ⟨d,f⟩
theorem vB (b a cap:Nat) (l:List Int) (p:Int) (s:bI p=true) (w:World) (hz:l.length=22) (hs:Sl .u64 w (some ⟨b,a,none⟩) l):CB 73 #[.slice (some ⟨b,a,none⟩) 22 cap,.i p] w (.i (fp l p)):=by
 obtain ⟨V,d⟩:∃ V,V=fp l p:=⟨_,rfl⟩;rw [<- d];unfold fp DE yN yO jC at d;have c:∀ j,j<22->∀ W,Bs w [] W->W.cell? ⟨b,a+j,none⟩=some (.u (l.getD j 0)):=λj u W h=>(h.2.cell (by exact (wZ hs 0 al).1)).trans (wZ hs j al).2;have g:=λx W (_:Bw w W)=>AW x W;have k:=λ(i:Nat) (r:i<64) W (_:Bw w W)=>gq (l.getD 0 0) i r W;refine cn (S:=Bs w []) (args:=[.slice (some ⟨b,a,none⟩) 22 cap,.i p]) [] func73 ?_;have f:p=0\/p=1\/p=3:=by simpa [bI,or_assoc] using s
 cases m:decide (cO (bits .andNot .u64 (bits .and .u64 (l.getD 9 0) (l.getD 3 0)) (l.getD 2 0))>=0)<;>cases n:(ap (l.getD 0 0) 1==1)<;>cases o:(ap (l.getD 0 0) 3==1)<;>rw [m,n,o] at d<;>rcases f with rfl|rfl|rfl <;>
  exact bm (t:=4) (v:=.i V) Bs.eng {eq:=[(21,au o),(30,au m),(42,au n)],ov:=[(9,kR ⟨b,a+9,none⟩ _ underlying22 rfl (c 9 al)),(12,kR ⟨b,a+3,none⟩ _ underlying22 rfl (c 3 al)),(19,kR ⟨b,a+0,none⟩ _ underlying22 rfl (c 0 al)),(40,kR ⟨b,a+0,none⟩ _ underlying22 rfl (c 0 al)),(26,kR ⟨b,a+2,none⟩ _ underlying22 rfl (c 2 al)),(48,kR ⟨b,a+2,none⟩ _ underlying22 rfl (c 2 al))],cv:=[(20,mj (k 3 al)),(41,mj (k 1 al)),(28,gB (g (bits .andNot .u64 (bits .and .u64 (l.getD 9 0) (l.getD 3 0)) (l.getD 2 0)))),(50,gB (g (bits .and .u64 (bits .and .u64 (l.getD 9 0) (l.getD 3 0)) (l.getD 2 0))))]} 120 (Bs.start _ _) (hv:=by subst d;kernel_rfl) (he:=by subst d;kernel_rfl) (λq h=>⟨rfl,h.2⟩)
structure Lq (w:World) (g:Nat) (c:Bool) (W:World):Prop where
 row:W.heap[g]?=some (.cells (cq c) 168 (0,0))
 bel:Bw w W
 lo:w.heap.size<=g
structure Lv (w:World) (g h:Nat) (c:Bool) (vs:List Int) (W:World):Prop where
 q:Lq w g c W
 own:W.ownsRow h 22 1 (.slice (some ⟨h,0,none⟩) 22 22) 22 (vs.map (Value.int .u64))
 lo:g<h
section
variable {w W W' : World} {g h : Nat} {c : Bool} {vs : List Int}
theorem Lq.below (p:Lq w g c W) (k:Bw W W'):Lq w g c W':=⟨an k p.row,aa p.bel k,p.lo⟩
theorem Lv.below (p:Lv w g h c vs W) (k:Bw W W'):Lv w g h c vs W':=⟨p.q.below k,dF p.own k,p.lo⟩
theorem Lq.eng {P:Program} {fn:Func} {dr:Bool} {Rs:Ending->World->Prop}:pd P (Lq w g c) (Lq w g c) [⟨g,cq c,[]⟩] dr (bodyPost P fn Rs):=
 ⟨λ_ p=>p,λW p r a=>by rw [List.mem_singleton.1 a];exact ⟨_,_,p.row⟩,λ_ W p=>p.below (Below.refl _ _).drew,dA⟩
theorem Lv.eng {P:Program} {fn:Func} {dr:Bool} {Rs:Ending->World->Prop}:pd P (Lq w g c) (Lv w g h c vs) [⟨g,cq c,[]⟩] dr (bodyPost P fn Rs):=
 ⟨λ_ p=>p.q,(Lq.eng (P:=P) (fn:=fn) (dr:=dr) (Rs:=Rs)).rows,λ_ W p=>p.below (Below.refl _ _).drew,dA⟩
theorem Lv.put (p:Lv w g h c vs W) (j:Nat) (x:Int):Lv w g h c (vs.set j x) (W.setCell ⟨h,j,none⟩ (.u x)):=by have d:=p.lo;have b:=p.q.lo;have a:=(p.own.stored j (.u x)).1;rw [iH] at a;exact ⟨⟨(Below.heap_setCell W ⟨h,j,none⟩ _ g a9).trans p.q.row,p.q.bel.setCell (p:=⟨h,j,none⟩) a9 _,p.q.lo⟩,a,p.lo⟩
theorem Lv.run (p:Lv w g h c vs W) (j:Nat) (b:j<22) (x:Int):(do Instr.storeAt 22 (.p h j) (.u x);pure Next.skip:Sem Next).run prog W=.ok .skip (W.setCell ⟨h,j,none⟩ (.u x)):=by have a:=p.own.1;exact mv ⟨(p.own.cellAt j al).trans (List.getElem?_eq_getElem al),p.own.frozenAt j⟩ a3 rfl
theorem Kq (W:World):∃ W',(do pure (.value (<- Instr.makeSlice 23 (.i 22) (.i 22))):Sem Next).run prog W=.ok (.value (.slice (some ⟨W.heap.size,0,none⟩) 22 22)) W'/\(∃ l,W'.ownsRow W.heap.size 22 1 (.slice (some ⟨W.heap.size,0,none⟩) 22 22) 22 l)/\Bw W W':=by obtain ⟨j,f,c,d,e⟩:=info_parts yS;obtain ⟨W',i,h,a⟩:=run_make_full (P:=prog) W W.heap.size 23 22 j (.u 0) 1 underlying23 f c d .i64 .i64 22 (by rw [e];omega) i5 (Nat.le_refl _);have b:(Instr.makeSlice 23 (.i 22) (.i 22)).run prog W=.ok (.slice (some ⟨W.heap.size,0,none⟩) 22 22) W':=i;exact ⟨W',by simp [b],⟨_,h⟩,a.os,a.tape,a.output,a.size,λk g=>a.block k g bc⟩
def PT (T t:TypeId) (v u:Value):Sem Next:=execOp (λx=>match x with | .tmp 0=>v | _=>u) {dst:=none,op:=.call {callee:=.builtin .copy,args:=#[.tmp 0,.tmp 1],argTypes:=#[T,T]},type:=t,pos:= "",after:=#[],guard:=none}
theorem Ks {b a cap:Nat} {l:List Int} {ys:List Value} (x:W.ownsRow h 22 1 (.slice (some ⟨h,0,none⟩) 22 22) 22 ys) (hs:Sl .u64 W (some ⟨b,a,none⟩) l) (hz:l.length=22) (ty:TypeId):∃ W',(PT 23 ty (.slice (some ⟨h,0,none⟩) 22 22) (.slice (some ⟨b,a,none⟩) 22 cap)).run prog W=.ok (.value (.i 22)) W'/\W'.ownsRow h 22 1 (.slice (some ⟨h,0,none⟩) 22 22) 22 (l.map (Value.int .u64))/\W.grownBy W' (some h):=by
 obtain ⟨D,s,z,q,A⟩:=info_parts yS
 have c:(l.map (Value.int .u64)).length=22:=by rw [List.length_map,hz]
 rcases x.2 with ⟨v,_⟩|⟨C,B,e,y,f,r,m,g,w,o⟩
 ·cases v
 ·cases y
  have t:=run_copy_row (P:=prog) W 23 23 ty 22 h 0 22 22 ⟨b,a,none⟩ 22 cap e 22 (l.map (Value.int .u64)) underlying23 (by rw [s];simp [q]) r (by rw [c];rfl) (λj u d=>by
   have k:j<l.length:=by
    rcases Nat.lt_or_ge j l.length with h|h
    ·exact h
    ·rw [List.getElem?_eq_none dn] at d;cases d
   have p:u=.u (l.getD j 0):=by
    simp [List.getElem?_eq_getElem k] at d
    simp [List.getD,List.getElem?_eq_getElem k,d]
   rw [EY,p];exact (wZ hs j k).2) (by rw [c];omega) (ints_oneCell _ _)
  rw [c] at t
  refine ⟨_,by unfold PT execOp;simp only [resolve,invoke,builtin,Sem.run_bind,Sem.run_pure,Result.andThen_ok,List.map_toArray,List.map_cons,List.map_nil,t];rfl,⟨by rw [c],.inr ⟨h,22,_,rfl,f,setRow_heap W h _ _ _ _ r,m,g,?_,?_⟩⟩,⟨rfl,rfl,rfl,by simp [World.setRow],λi s n=>setRow_other W h i _ (by intro h;apply n;rw [h])⟩⟩
  ·simp [hz];omega
  ·simp [hz]
end
theorem Nx {w a W2 W3:World} {g:Nat} {c:Bool} {l:List Int} (q:Lq w g c W2) (b:g<a.heap.size) (k:W2.grownBy W3 (some a.heap.size)) (o:W3.ownsRow a.heap.size 22 1 (.slice (some ⟨a.heap.size,0,none⟩) 22 22) 22 (l.map (Value.int .u64))) (d:w.heap.size<=a.heap.size):Lv w g a.heap.size c l W3 :=
 ⟨⟨(k.block g (Array.getElem?_eq_some_iff.1 q.row).1 a7).trans q.row,Below.grown q.bel k q.bel.size (λj e=>by cases e;exact d),q.lo⟩,o,b⟩
abbrev rM:Array Value:=#[.i 0,.i 0,.i 0,.i 0,.i 0,.i 0,.i 0,.i 0,.i 0]
theorem vC (a:Option Addr) (n cap:Nat) (l:List Int) (p:Int) (m:Bool) (w:World) (hz:l.length=n) (hs:Sl .u64 w a l) (hl:∀ j,U (l.getD j 0)):Calls prog 249 #[.slice a n cap,.i p,.bool m] w λe r=>∃ (u:Option Addr) (c:Nat), e=.returned (.tuple #[.slice u (jf n l p m).length c,.i (pT n l p m),.u (pU n l p m),.bool (kI n l p m)]) /\ r.ownsRow w.heap.size 22 1 (.slice u (jf n l p m).length c) (jf n l p m).length ((jf n l p m).map (Value.int .u64))/\Bw w r:=by
 have y:=λ(g:Nat) W (q:Lq w g m W)=>eI a n cap l p W hz (hs.below q.bel) hl
 have fin:∀ (g:Nat) (W:World),Lq w g m W->Wg prog (Lq w g m) (bodyPost prog Tryz.f249 λe r=>∃ (u:Option Addr) (c:Nat),e=.returned (.tuple #[.slice u (jf n l p m).length c,.i (pT n l p m),.u (pU n l p m),.bool (kI n l p m)])/\r.ownsRow w.heap.size 22 1 (.slice u (jf n l p m).length c) (jf n l p m).length ((jf n l p m).map (Value.int .u64))/\Bw w r) Tryz.f249.ntmps [.code (aG 3 (bD Tryz.f249))] [(0,.slice a n cap,0),(1,.i p,0),(10,.p g 0,1)] W:=λg W q=>by
  have y:=y g
  have no:kI n l p m=false->∀ W,Lq w g m W->∃ (u:Option Addr) (c:Nat),Ending.returned (.tuple #[.slice none 0 0,.i 0,.u 0,.bool false])=.returned (.tuple #[.slice u (jf n l p m).length c,.i (pT n l p m),.u (pU n l p m),.bool (kI n l p m)])/\W.ownsRow w.heap.size 22 1 (.slice u (jf n l p m).length c) (jf n l p m).length ((jf n l p m).map (Value.int .u64))/\Bw w W:=λe W q=>by
   unfold jf pT pU
   rw [e]
   exact ⟨none,0,rfl,lW _ _,q.bel⟩
  cases i:aQ n l p with
  | false =>
    rw [i] at y
    exact lm Lq.eng {cv:=[(18,lq (λq k=>q.below k) y)]} 60 (dr:=true) q λW b q f=>⟨_,kG rfl _ _ _,by rw [f.slot (v:=.slice none 0 0) a3,f.slot (v:=.i 0) a3,f.slot (v:=.u 0) a3,f.slot (v:=.bool false) a3];exact no (by simp [kI,i]) W q⟩
  | true =>
    obtain ⟨rfl,hp⟩:=fU i
    have I:p=0\/p=1\/p=3:=by simpa [bI,or_assoc] using hp
    obtain ⟨b,o,rfl,C,_⟩:=hs 0 al
    have H:∀ j,j<22->∀ W,Lq w g m W->W.cell? ⟨b,o+j,none⟩=some (.u (l.getD j 0)):=λj hj W q=>(q.bel.cell (by exact C)).trans (wZ hs j al).2
    rw [i] at y
    have B:kI 22 l p m=!decide (p<if m=true then 3 else 1):=by
     unfold kI
     rw [i]
     rcases I with rfl|rfl|rfl<;>cases m<;>rfl
    cases x:kI 22 l p m with
    | false =>
      have d:decide (p<if m=true then 3 else 1)=true:=by rw [x] at B;simpa using B.symm
      cases m<;>exact lm Lq.eng {cv:=[(18,lq (λq k=>q.below k) y)],eq:=[(24,au d)]} 60 (dr:=true) q λW b q f=>⟨_,kG rfl _ _ _,by rw [f.slot (v:=.slice none 0 0) a3,f.slot (v:=.i 0) a3,f.slot (v:=.u 0) a3,f.slot (v:=.bool false) a3];have:=no x W q;rw [x] at this;exact this⟩
    | true =>
      have d:decide (p<if m=true then 3 else 1)=false:=by rw [x] at B;simpa using B.symm
      have X:jf 22 l p m=l.set 0 (cF (l.getD 0 0) m):=by unfold jf;rw [x]
      have Y:pT 22 l p m=cP (l.getD 0 0) m:=by unfold pT;rw [x]
      have V:pU 22 l p m=dR l m:=by unfold pU;rw [x]
      have ez:(l.set 0 (cF (l.getD 0 0) m)).length=22:=by simp [hz]
      rw [X,Y,V,ez]
      have N:∀ W,CB 251 #[.agg (cq m),.u (l.getD 0 0)] W (.i (cP (l.getD 0 0) m)):=λW=>by cases m;exact AT _ (hl 0) W;exact uH _ (hl 0) W
      have O:∀ W,CB 282 #[.agg (cq m),.u (l.getD 0 0)] W (.u (cF (l.getD 0 0) m)):=λW=>by cases m;exact OQ _ (hl 0) W;exact OP _ (hl 0) W
      have P:=H 0 al
      have Q:∀ W,Lq w g m W->W.cell? ⟨b,o+(if m=true then 6 else 12),none⟩=some (.u (dR l m)):=λW q=>by cases m;exact H 12 al W q;exact H 6 al W q
      generalize cP (l.getD 0 0) m=vp at N ⊢
      generalize cF (l.getD 0 0) m=vs at O ⊢
      generalize dR l m=va at Q ⊢
      clear no X Y V B x
      cases m<;>(
       refine af Lq.eng {cv:=[(18,lq (λq k=>q.below k) y)],eq:=[(24,au d)]} 60 (dr:=true) q λG L=>?_
       obtain ⟨s,J,⟨ys,o2⟩,A⟩:=Kq G
       refine iQ 0 J ?_
       have Z:=L.below A
       have g1:=(Array.getElem?_eq_some_iff.1 L.row).1
       refine cW (R:=[]) trivial {} 6 ?_
       obtain ⟨W3,K,o3,g3⟩:=Ks (cap:=cap) o2 (hs.below Z.bel) hz 3
       refine iQ 0 K ?_
       have v3:=Nx Z g1 g3 o3 L.bel.size
       generalize G.heap.size=h at v3 ⊢
       refine af Lv.eng {cv:=[(34,lq (λq k=>q.below k) λW _=>N W),(40,lq (λq k=>q.below k) λW _=>O W)],ov:=[(33,kR ⟨b,o+0,none⟩ _ underlying22 rfl P),(39,kR ⟨b,o+0,none⟩ _ underlying22 rfl P)]} 99 (dr:=true) v3 λW4 M=>?_
       refine bM (M.run 0 al vs) (hS:=λ_=>(M.put 0 vs).q) ?_
       exact lm Lv.eng {ov:=[(48,kR _ _ underlying22 rfl Q)]} 99 (dr:=true) (M.put 0 vs) λW c v f=>⟨_,kG rfl _ _ _,some ⟨h,0,none⟩,22,by rw [f.slot (v:=.slice (some ⟨h,0,none⟩) 22 22) a3,f.slot (v:=.i vp) a3,f.slot (v:=.u va) a3,f.slot (v:=.bool true) a3],dp v.own (by have:=v.lo;have:=v.q.lo;omega),v.q.bel⟩)
 refine cn (S:=Bs w []) (args:=[.slice a n cap,.i p,.bool m]) [] func249 ?_
 refine aW Bs.eng {} 9 (Bs.start w []) (λW _=>iG W) ?_
 rintro G e s E ⟨rfl,A⟩
 refine ⟨_,0,rfl,gp a3,?_⟩
 refine iQ 1 (gF (T:=168) (z:=.agg rM) a3 s) ?_
 refine bM (bj (g:=s.heap.size) (t:=168) (ty:=168) (old:=rM) (cells:=cq false) (heap_alloc_new _ _) a3 rfl a3) ?_
 have F:Lq w s.heap.size false ((s.alloc (.cells (Value.agg rM).cells 168)).setRow s.heap.size (cq false)):=⟨setRow_heap _ _ _ _ _ _ (heap_alloc_new _ _),aD ((E.below A).2.alloc (E.below A).2.size _) (E.below A).2.size _,(E.below A).2.size⟩
 generalize s.heap.size=g at F ⊢
 generalize (s.alloc (.cells (Value.agg rM).cells 168)).setRow g (cq false)=W3 at F ⊢
 refine aR (Lq w g false) ?_
 cases m with
 | false =>
   refine af Lq.eng {} 8 (dr:=false) F λW q=>?_
   exact aE _ _ (fin g W q)
 | true =>
   refine aW Lq.eng {} 20 (dr:=false) F (λW _=>jV W) ?_
   rintro W4 e W5 q4 ⟨rfl,b5⟩
   refine ⟨_,0,rfl,gp a3,?_⟩
   have D:=q4.below b5
   refine bM (bj (g:=g) (t:=168) (ty:=168) (old:=cq false) (cells:=cq true) D.row a3 rfl a3) ?_
   have q6:Lq w g true (W5.setRow g (cq true)):=⟨setRow_heap _ _ _ _ _ _ D.row,aD D.bel D.lo _,D.lo⟩
   refine aR (Lq w g true) ?_
   refine af Lq.eng {} 1 (dr:=false) q6 λW q=>?_
   exact aE _ _ (fin g W q)
end Go.Proofs.YtjifdmoehfbihaaGreatDoor
