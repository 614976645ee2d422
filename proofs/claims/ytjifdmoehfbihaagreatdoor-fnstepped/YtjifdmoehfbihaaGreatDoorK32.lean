/- Own lemmas. -/
import Derived.Test.YtjifdmoehfbihaaGreatDoorAut
import Derived.Test.YtjifdmoehfbihaaGreatDoorK26
set_option maxRecDepth 100000
set_option maxHeartbeats 4000000
namespace Go.Proofs.YtjifdmoehfbihaaGreatDoor
open Go.RowKit Tryz
open IntKind renaming u64->Uz
set_option linter.unusedVariables false
theorem rO (a b:Int) (c:0<=a) (a1:a<18446744073709551616) (d:0<=b) (f:b<18446744073709551616) (w:World):CE 278 #[.u a,.u b] w (.u (MF.smin.v a b)):=by
 have j:=kg c a1;have l:=kg d f;go_enter func278,ntmps278;go_wp2_with fail;·go_ret;exact ⟨oi,rfl⟩
 ·go_ret;exact ⟨ln,rfl⟩
theorem qM (a b:Int) (c:0<=a) (a1:a<18446744073709551616) (d:0<=b) (f:b<18446744073709551616) (w:World):CE 279 #[.u a,.u b] w (.u (MF.smax.v a b)):=by
 have j:=kg c a1;have l:=kg d f;go_enter func279,ntmps279;go_wp2_with fail;·go_ret;exact ⟨oi,rfl⟩
 ·go_ret;exact ⟨ln,rfl⟩
theorem vQ (a b:Int) (c:0<=a) (a1:a<18446744073709551616) (d:0<=b) (f:b<18446744073709551616) (w:World):CE 280 #[.u a,.u b] w (.u (MF.umin.v a b)):=by
 have j:=kg c a1;have l:=kg d f;go_enter func280,ntmps280;go_wp2_with fail;·go_ret;exact ⟨oi,rfl⟩
 ·go_ret;exact ⟨ln,rfl⟩
theorem tC (a b:Int) (c:0<=a) (a1:a<18446744073709551616) (d:0<=b) (f:b<18446744073709551616) (w:World):CE 281 #[.u a,.u b] w (.u (MF.umax.v a b)):=by
 have j:=kg c a1;have l:=kg d f;go_enter func281,ntmps281;go_wp2_with fail;·go_ret;exact ⟨oi,rfl⟩
 ·go_ret;exact ⟨ln,rfl⟩
def MF.fn:MF->Nat
 | .second=>277
 | .sum=>255
 | .xor=>258
 | .and=>260
 | .or=>259
 | .smin=>278
 | .smax=>279
 | .umin=>280
 | .umax=>281
theorem MF.calls (f:MF) (a b:Int) (c:0<=a) (a1:a<18446744073709551616) (d:0<=b) (g:b<18446744073709551616) (w:World):Calls prog f.fn #[.u a,.u b] w λe h=>e=.returned (.u (f.v a b))/\∃ m,h=w.drewN m:=by
 cases f;·exact bj (yV a b w)
 ·exact bj (xF a b w)
 ·exact bj (xG a b w)
 ·exact bj (xH a b w)
 ·exact bj (AR a b w)
 ·exact bj (rO a b c a1 d g w)
 ·exact bj (qM a b c a1 d g w)
 ·exact bj (vQ a b c a1 d g w)
 ·exact bj (tC a b c a1 d g w)
theorem MF.enters (f:MF):(prog.funcs[f.fn]?).map (λa=>(a.name == "runtime.NumGoroutine",a.body.isSome))=some (false,true):=by cases f<;>kernel_rfl
def amoCells:Array Value:=(OH.map λf=>Value.func (.func f.fn) #[] #[]).toArray
def dJ:Array Value:=(List.replicate 9 Value.nilFunc).toArray
theorem ij:dJ.size=9:=by kernel_rfl
theorem cI:amoCells.size=9:=by kernel_rfl
theorem ik:(prog.info? 277).bind (·.zero)=some (.agg dJ):=by kernel_rfl
theorem il:amoCells.all (·.oneCell')=true:=by kernel_rfl
theorem gD:(prog.info? 277).map (·.size)=some 9:=by kernel_rfl
theorem sR (k:Nat) (h:k<9):amoCells[k]?=some (.func (.func (mi k).fn) #[] #[]):=by
 match k,h with
 | 0,_=>rfl
 | 1,_=>rfl
 | 2,_=>rfl
 | 3,_=>rfl
 | 4,_=>rfl
 | 5,_=>rfl
 | 6,_=>rfl
 | 7,_=>rfl
 | 8,_=>rfl
 | k+9,h=>exact absurd h ab
theorem Cc (w:World):CB 241 #[] w (.agg amoCells):=by go_enter func241,ntmps241;apply wp_seq_k;intro c b;apply wp_region_list;refine cG rfl 277 rfl (some 0) rfl _ ik ?_;apply wpList_nil;refine b _ _ ?_;clear b c;apply wp_seq_k;intro c b;apply wp_region_lit;refine km 10 0 10 (.p w.heap.size 0) (.agg amoCells) al ?_;intro m f d j;have g:(w.alloc (.cells (Value.agg dJ).cells 277)).heap[w.heap.size]?=some (.cells dJ 277 (0,0)):=heap_alloc_new _ _;refine wpList_store_rowTo rfl 277 (.tmp 0) (.tmp 10) rfl rfl w.heap.size amoCells f d 277 dJ g (by rw [gD,cI]) (by rw [ij,cI]) il ?_;apply wpList_nil;refine b _ _ ?_;clear b c;apply wp_ret;refine bodyPost_ret (results_cell_row results241 _ _ _ _ _ _ _ f (setRow_heap _ _ _ _ _ _ g) underlying277 rfl (by rw [gD,cI])) j ⟨rfl,?_⟩;exact aE (bal _ _) (Nat.le_refl _) _
theorem mH (w:World):Calls prog 241 #[] w λe a=>∃ T,e=.returned T/\Hid (T=.agg amoCells)/\Bw w a :=
 (Cc w).mono λe a h=>⟨.agg amoCells,h.1,(rfl:Value.agg amoCells=.agg amoCells),h.2⟩
theorem zG (k:Nat) (hk:k<9) (a b:Int) (r:0<=a) (a1:a<18446744073709551616) (s:0<=b) (t:b<18446744073709551616) (f:MF) (y:Hid (mi k=f)) (w:World):CB 214 #[.i ((k:Int)+76),.u a,.u b] w (.tuple #[.u (f.v a b),.bool true]):=by
 have z:wrap64 ((k:Int)+76-76)=k:=by unfold wrap64;omega
 have C:decide (76<=(k:Int)+76)=true:=by simp;omega
 have D:decide ((k:Int)<9)=true:=by simp;omega
 have u:=mx f.enters;go_enter func214,ntmps214;go_wp2_with fail;refine (mH _).mono ?_;rintro e d ⟨T,rfl,q,l⟩;have o:(d.alloc (.cells (Value.agg dJ).cells 277)).heap[d.heap.size]?=some (.cells dJ 277 (0,0)):=heap_alloc_new _ _;obtain ⟨g,c⟩:∃ g,g=(d.alloc (.cells (Value.agg dJ).cells 277)).setRow d.heap.size amoCells:=⟨_,rfl⟩;have HR:Hid (g.heap[d.heap.size]?=some (.cells amoCells 277 (0,0))):=by show _=_;rw [c];exact setRow_heap _ _ _ _ _ _ o
 have p:Hid (Bw w g):=by show Below _ _ _;rw [c];exact aE (l.alloc l.size _) l.size _
 have j:Hid (g=(d.alloc (.cells (Value.agg dJ).cells 277)).setRow d.heap.size amoCells):=c;clear c;have B:g.cell? ⟨d.heap.size,k,none⟩=some (.func (.func f.fn) #[] #[]):=by rw [cell_of_row _ _ _ _ _ _ HR.out,sR k hk,y.out]
 go_wp2_with (first | refine cG rfl 277 rfl (some 8) rfl _ ik ?_ | (refine wpList_store_rowTo rfl 277 (.tmp 8) (.tmp 10) rfl rfl d.heap.size amoCells rfl q.out 277 dJ o (by rw [gD,cI]) (by rw [ij,cI]) il ?_;rw [<- j.out]));refine (MF.calls f a b r a1 s t _).mono ?_;rintro e E ⟨rfl,nq,m⟩;subst m;go_wp2_with fail;go_ret2;exact ⟨rfl,pY p.out _⟩
theorem Cd (k:Nat) (hk:k<9) (a b:Int) (C:0<=a) (a1:a<18446744073709551616) (D:0<=b) (E:b<18446744073709551616) (f:MF) (A:Hid (mi k=f)) (w:World):CB 214 #[.i ((k:Int)+65),.u a,.u b] w (.tuple #[.u (f.v (ap 32 a) (ap 32 b)%4294967296),.bool true]):=by
 have B:wrap64 ((k:Int)+65-65)=k:=by unfold wrap64;omega
 have G:decide (76<=(k:Int)+65)=false:=by simp;omega
 have H:decide (65<=(k:Int)+65)=true:=by simp;omega
 have I:decide ((k:Int)<9)=true:=by simp;omega
 have d4:0<=(k:Int)/\(k:Int)<((9:Nat):Int):=ab
 have z:=mx f.enters;go_enter func214,ntmps214;go_wp2_with fail;refine (mH _).mono ?_;rintro e d ⟨T,rfl,u,o⟩;have q:(d.alloc (.cells (Value.agg dJ).cells 277)).heap[d.heap.size]?=some (.cells dJ 277 (0,0)):=heap_alloc_new _ _;obtain ⟨g,c⟩:∃ g,g=(d.alloc (.cells (Value.agg dJ).cells 277)).setRow d.heap.size amoCells:=⟨_,rfl⟩;have HR:Hid (g.heap[d.heap.size]?=some (.cells amoCells 277 (0,0))):=by show _=_;rw [c];exact setRow_heap _ _ _ _ _ _ q
 have r:Hid (Bw w g):=by show Below _ _ _;rw [c];exact aE (o.alloc o.size _) o.size _
 have l:Hid (g=(d.alloc (.cells (Value.agg dJ).cells 277)).setRow d.heap.size amoCells):=c;clear c;have F:g.cell? ⟨d.heap.size,k,none⟩=some (.func (.func f.fn) #[] #[]):=by rw [cell_of_row _ _ _ _ _ _ HR.out,sR k hk,A.out]
 go_wp2_with (first | refine cG rfl 277 rfl (some 8) rfl _ ik ?_ | (refine wpList_store_rowTo rfl 277 (.tmp 8) (.tmp 10) rfl rfl d.heap.size amoCells rfl u.out 277 dJ q (by rw [gD,cI]) (by rw [ij,cI]) il ?_;rw [<- l.out]));have y:0<=f.v (ap 32 a) (ap 32 b):=f.pos (bf a).1 (bf a).2 (bf b).1 (bf b).2;have t:Hid (∀ (x:Int) (w:World),Calls prog 242 #[.u x] w λe j=>e=.returned (.u (ap 32 x))/\∃ m,j=w.drewN m):=λx w=>bj (pg x w);have s:Hid (∀ w:World,Calls prog f.fn #[.u (ap 32 a),.u (ap 32 b)] w λe j=>e=.returned (.u (f.v (ap 32 a) (ap 32 b)))/\∃ m,j=w.drewN m):=MF.calls f _ _ (bf a).1 (bf a).2 (bf b).1 (bf b).2;go_quiet (first | with_reducible refine Calls.quiet_of (t.out _ _) | with_reducible refine Calls.quiet_of (s.out _))
 go_wp2_with fail;refine (sp _ y _).mono ?_;rintro e J ⟨rfl,p⟩;subst p;go_wp2_with fail;go_ret2;exact ⟨rfl,pY r.out _⟩
theorem zH (op a b:Int) (p:(Lit.int .i64 op).wf=true) (h:rE op=false) (w:World):CB 214 #[.i op,.u a,.u b] w (.tuple #[.u 0,.bool false]):=by
 have l:¬ (65<=op/\op<=73)/\¬ (76<=op/\op<=84):=by simpa [rE] using h
 have r:=Kf p;clear p h;by_cases j:op<65;·have m:decide (76<=op)=false:=bh;have u:decide (65<=op)=false:=bh;clear j l;go_enter func214,ntmps214;go_wp2_with fail;refine (mH _).mono ?_;rintro e d ⟨T,rfl,f,c⟩;have g:(d.alloc (.cells (Value.agg dJ).cells 277)).heap[d.heap.size]?=some (.cells dJ 277 (0,0)):=heap_alloc_new _ _;go_wp2_with (first | refine cG rfl 277 rfl (some 8) rfl _ ik ?_ | (refine wpList_store_rowTo rfl 277 (.tmp 8) (.tmp 10) rfl rfl d.heap.size amoCells rfl f.out 277 dJ g (by rw [gD,cI]) (by rw [ij,cI]) il ?_));exact a0h
 ·have t:decide (65<=op)=true:=bh;have z:wrap64 (op-65)=op-65:=lr;have y:decide (op-65<9)=false:=bh;by_cases o:op<76;·have m:decide (76<=op)=false:=bh;clear j l o;go_enter func214,ntmps214;go_wp2_with fail;refine (mH _).mono ?_;rintro e d ⟨T,rfl,f,c⟩;have g:(d.alloc (.cells (Value.agg dJ).cells 277)).heap[d.heap.size]?=some (.cells dJ 277 (0,0)):=heap_alloc_new _ _;go_wp2_with (first | refine cG rfl 277 rfl (some 8) rfl _ ik ?_ | (refine wpList_store_rowTo rfl 277 (.tmp 8) (.tmp 10) rfl rfl d.heap.size amoCells rfl f.out 277 dJ g (by rw [gD,cI]) (by rw [ij,cI]) il ?_));go_ret2;exact ⟨rfl,aE (c.alloc c.size _) c.size _⟩
  ·have m:decide (76<=op)=true:=bh;have q:wrap64 (op-76)=op-76:=lr;have d4:decide (op-76<9)=false:=bh;clear j l o;go_enter func214,ntmps214;go_wp2_with fail;refine (mH _).mono ?_;rintro e d ⟨T,rfl,f,c⟩;have g:(d.alloc (.cells (Value.agg dJ).cells 277)).heap[d.heap.size]?=some (.cells dJ 277 (0,0)):=heap_alloc_new _ _;go_wp2_with (first | refine cG rfl 277 rfl (some 8) rfl _ ik ?_ | (refine wpList_store_rowTo rfl 277 (.tmp 8) (.tmp 10) rfl rfl d.heap.size amoCells rfl f.out 277 dJ g (by rw [gD,cI]) (by rw [ij,cI]) il ?_));exact a0h
theorem Ce (op a b:Int) (i:(Lit.int .i64 op).wf=true) (d:0<=a) (a1:a<18446744073709551616) (f:0<=b) (g:b<18446744073709551616) (w:World):CB 214 #[.i op,.u a,.u b] w (.tuple #[.u (iI op a b),.bool (rE op)]):=by
 cases h:rE op with
 | false=>rw [BG h];exact zH op a b i h w
 | true =>
   obtain ⟨k,c,rfl|rfl⟩:=yb h;·rw [BF c];exact zG k c a b d a1 f g _ (rfl:mi k=mi k) w
   ·rw [Gj c];exact Cd k c a b d a1 f g _ (rfl:mi k=mi k) w
def vS (A B s:Int) (a b:Bool):Nat->Int
 | 0=>B | 1=>s | 2=>bits .xor .u64 A B | 3=>bits .and .u64 A B | 4=>bits .or .u64 A B
 | 5=>if a=true then A else B | 6=>if a=true then B else A | 7=>if b=true then A else B | _=>if b=true then B else A
theorem yk (n:Nat) (o d a b A B s x y:Int) (g h:Bool) (hn:n=64/\o=76/\d=18446744073709551615\/n=32/\o=65/\d=4294967295) (t:bits .and .u64 a d=A) (u:bits .and .u64 b d=B) (hs:bits .and .u64 (Uz.wrap (A+B)) d=s) (hx:ap n A=x) (hy:ap n B=y) (hl:decide (IntKind.i64.wrap x<IntKind.i64.wrap y)=g) (j:decide (A<B)=h) (k:Nat) (hk:k<9) (w:World):CE 130 #[.i ((k:Int)+o),.u a,.u b] w (.tuple #[.u (vS A B s g h k),.bool true]):=by
 have l:=λW (_:W=w)=>eu ((k:Int)+o) 76 84 W;have m:=λW (_:W=w)=>eu ((k:Int)+o) 65 73 W;obtain ⟨V,i⟩:∃ V,V=vS A B s g h k:=⟨_,rfl⟩;rw [<- i];have p:∀ W,W=w->CE 127 #[.u A,.u n] W (.u x):=λW _=>hx ▸ dV A n ab ab W;have q:∀ W,W=w->CE 127 #[.u B,.u n] W (.u y):=λW _=>hy ▸ dV B n ab ab W;clear hx hy;have r:k=0\/k=1\/k=2\/k=3\/k=4\/k=5\/k=6\/k=7\/k=8:=ab
 refine bz (S:=λx=>x=w) (args:=[.i ((k:Int)+o),.u a,.u b]) [] func130 ?_;show Wg _ _ _ _ _ _ w;rcases hn with ⟨rfl,rfl,rfl⟩ | ⟨rfl,rfl,rfl⟩<;>rcases r with rfl | rfl | rfl | rfl | rfl | rfl | rfl | rfl | rfl<;>cases g<;>cases h <;>
  exact fP (R:=[]) trivial {eq:=[(29,dI .u64 t),(32,dI .u64 u),(41,aj hl),(52,dI .u64 hs),(82,aj j),(87,aj j)],cv:=[(14,jS l),(19,jS m),(35,jS p),(39,jS q)]} 300 λc hk=>⟨_,results_tmp2 rfl _ _ _,by rw [hk.slot (v:=.u V) (by rw [i];kernel_rfl),hk.slot (v:=.bool true) al],rfl⟩
theorem Cf (op a b:Int) (d:0<=a) (a1:a<18446744073709551616) (f:0<=b) (g:b<18446744073709551616) (w:World):CE 130 #[.i op,.u a,.u b] w (.tuple #[.u (iI op a b),.bool (rE op)]):=by
 cases h:rE op with
 | false =>rw [BG h];have l:¬ (65<=op/\op<=73)/\¬ (76<=op/\op<=84):=(by simpa [rE] using h);have q:decide (76<=op/\op<=84)=false:=(by simpa using l.2);have r:decide (65<=op/\op<=73)=false:=(by simpa using l.1);clear h l;go_enter func130,ntmps130;go_wp2_with (go_at_call 51;with_reducible refine (eu _ _ _ _).mono ?_;rintro e s ⟨rfl,rfl⟩);go_ret2;exact a06
 | true =>
   obtain ⟨k,c,rfl | rfl⟩:=yb h;all_goals have j:∀ z,IntKind.i64.wrap z=wrap64 z:=λz=>by rw [IntKind.wrap_i64];unfold wrap64;omega
   ·rw [BF c];have e:(mi k).v a b=vS a b (Uz.wrap (a+b)) (decide (wrap64 a<wrap64 b)) (decide (a<b)) k:=by
     match k,c with
     | 0,_ | 1,_ | 2,_ | 3,_ | 4,_=>rfl
     | 5,_=>simpa [vS,mi,OH] using Gk d a1 f g
     | 6,_ | 8,_=>simp [vS,mi,OH,MF.v]
     | 7,_=>simpa [vS,mi,OH] using Gl a b
    rw [e];have m:0<=Uz.wrap (a+b)/\Uz.wrap (a+b)<18446744073709551616:=di;exact yk 64 76 18446744073709551615 a b a b _ a b _ _ (.inl ⟨rfl,rfl,rfl⟩) (vy d a1) (vy f g) (vy m.1 m.2) (vu d a1) (vu f g) (by rw [j,j]) rfl k c w
   ·rw [Gj c];have e:(mi k).v (ap 32 a) (ap 32 b)%4294967296=vS (a%4294967296) (b%4294967296) ((a+b)%4294967296) (decide (wrap64 (ap 32 a)<wrap64 (ap 32 b))) (decide (a%4294967296<b%4294967296)) k:=by
     match k,c with
     | 0,_=>exact En a b
     | 1,_=>exact ((OK a b).trans (jH _)).trans (by show _=(a+b)%4294967296;omega)
     | 2,_=>exact Lo a b
     | 3,_=>exact Lp a b
     | 4,_=>exact OL a b
     | 5,_=>simpa [vS,mi,OH] using Lr a b
     | 6,_=>simpa [vS,mi,OH] using Ls a b
     | 7,_=>simpa [vS,mi,OH] using Lt a b
     | 8,_=>simpa [vS,mi,OH] using Lu a b
    rw [e];have o:=kY ((a%4294967296)+(b%4294967296)) ab ab;exact yk 32 65 4294967295 a b _ _ _ _ _ _ _ (.inr ⟨rfl,rfl,rfl⟩) (kY a d a1) (kY b f g) (by rw [IntKind.wrap_u64,Int.emod_eq_of_lt ab ab,o];omega) (ou a) (ou b) (by rw [j,j]) rfl k c w
def cD:Bool->Array Value
 | true=>#[.i 3,.i 4,.i 6,.i 7,.i 8,.i 3,.i 7,.i 11,.i 2]
 | false=>#[.i 1,.i 10,.i 12,.i 13,.i 14,.i 1,.i 5,.i 8,.i 1]
theorem ym:(prog.info? 168).map (·.size)=some 9:=by kernel_rfl
theorem kz (w:World):CB 145 #[] w (.agg (cD true)):=by go_enter func145,ntmps145;go_wp2_with fail;exact bodyPost_ret (results_cell_row results145 _ _ _ _ _ _ _ rfl (heap_alloc_new _ _) underlying168 rfl ym) rfl ⟨rfl,bal _ _⟩
theorem iV (w:World):CB 147 #[] w (.agg (cD false)):=by go_enter func147,ntmps147;go_wp2_with fail;exact bodyPost_ret (results_cell_row results147 _ _ _ _ _ _ _ rfl (heap_alloc_new _ _) underlying168 rfl ym) rfl ⟨rfl,bal _ _⟩
theorem Mu (x:Int):IntKind.i64.wrap x=wrap64 x:=by rw [IntKind.wrap_i64];unfold wrap64;omega
theorem zI (s:Int) (h:U s) (k n:Nat) (hk:k<64) (hn:n<64) (W:World):CB 66 #[.u s,.i k,.i n] W (.u (cQ s k n)):=(bu s k n h.1 h.2 hk hn W).mono λe a k=>⟨k.1,k.2 ▸ (Below.refl _ _).drew⟩
theorem Cg (c:Bool) (s r:Int) (h:U s) (hr:IntKind.i64.wrap (cQ s (if c=true then 11 else 8) (if c=true then 2 else 1))=r) (w:World):CB 251 #[.agg (cD c),.u s] w (.i r):=by have a:=λW (_:Bw w W)=>zI s h (if c=true then 11 else 8) (if c=true then 2 else 1) (by cases c<;>decide) (by cases c<;>decide) W;refine bz (S:=Bs w [(cD c,168)]) (args:=[.agg (cD c),.u s]) [(cD c,168)] func251 ?_;cases c<;>exact aY (t:=4) (v:=.i r) Bs.eng {cv:=[(10,fW a)],eq:=[(11,dI .i64 hr)]} 60 (Bs.start _ _) λW h=>⟨rfl,h.2⟩
theorem yo (c:Bool) (s:Int) (w:World):CB 233 #[.agg (cD c),.u s] w (.u (bits .andNot .u64 s (if c=true then 6280 else 290))):=by refine bz (S:=Bs w [(cD c,168)]) (args:=[.agg (cD c),.u s]) [(cD c,168)] func233 ?_;cases c<;>exact aY (t:=4) (v:=.u (bits .andNot .u64 s _)) Bs.eng {} 60 (Bs.start _ _) λW h=>⟨rfl,h.2⟩
theorem vT (s:Int) (h:U s) (w:World):CB 251 #[.agg (cD true),.u s] w (.i (cW s true)):=Cg true s _ h (by rw [LX s h];exact Mu _) w
theorem Ch (s:Int) (h:U s) (w:World):CB 251 #[.agg (cD false),.u s] w (.i (cW s false)):=Cg false s _ h (by rw [BP s h];exact Mu _) w
theorem rP (c:Bool) (s p r:Int) (h:U s) (d:Uz.wrap p=p) (hr:bits .or .u64 (bits .or .u64 (bits .andNot .u64 s (if c=true then 6280 else 290)) (Uz.wrap (cQ s (if c=true then 3 else 1) 1*(if c=true then 128 else 32)))) (Uz.wrap (p*(if c=true then 2048 else 256)))=r) (w:World):CB 198 #[.agg (cD c),.u s,.i p] w (.u r):=by have a:=λW (_:Bw w W)=>zI s h (if c=true then 3 else 1) 1 (by cases c<;>decide) bb W;have b:=λW (_:Bw w W)=>yo c s W;refine bz (S:=Bs w [(cD c,168)]) (args:=[.agg (cD c),.u s,.i p]) [(cD c,168)] func198 ?_;generalize cQ s (if c=true then 3 else 1) 1=y at *;cases c<;>exact aY (t:=6) (v:=.u r) Bs.eng {cv:=[(11,fW a),(14,fW b)],eq:=[(21,dI .u64 d),(25,dI .u64 hr)]} 90 (Bs.start _ _) λW h=>⟨rfl,h.2⟩
theorem Js (s:Int) (p:Int) (a:bC p=true) (h:U s) (w:World):CB 198 #[.agg (cD true),.u s,.i p] w (.u (lP s p)):=by
 have b:p=0\/p=1\/p=3:=by simpa [bC,or_assoc] using a
 exact rP true s p _ h di (OU s p h).symm w
theorem EH (s:Int) (h:U s) (w:World):CB 198 #[.agg (cD false),.u s,.i 0] w (.u (kR s ((0:Int)==1))):=rP false s 0 _ h bb (LV s h).symm w
theorem EI (s:Int) (h:U s) (w:World):CB 198 #[.agg (cD false),.u s,.i 1] w (.u (kR s ((1:Int)==1))):=rP false s 1 _ h bb (LW s h).symm w
theorem EJ (c d:Bool) (s o x r:Int) (h:U s) (g:∀ W,CB 251 #[.agg (cD c),.u s] W (.i o)) (hd:(o != 3)=d) (hx:bits .or .u64 (bits .or .u64 (bits .andNot .u64 s (if c=true then 6280 else 290)) (Uz.wrap (cQ s (if c=true then 7 else 5) 1*(if c=true then 8 else 2)))) (if c=true then 128 else 32)=x) (hr:(if d=true then bits .andNot .u64 x 131072 else x)=r) (w:World):CB 282 #[.agg (cD c),.u s] w (.u r):=by
 have b:=λW (_:Bw w W)=>zI s h (if c=true then 7 else 5) 1 (by cases c<;>decide) bb W
 have f:=λW (_:Bw w W)=>yo c s W
 refine bz (S:=Bs w [(cD c,168)]) (args:=[.agg (cD c),.u s]) [(cD c,168)] func282 ?_
 generalize cQ s (if c=true then 7 else 5) 1=y at *
 cases c<;>cases d<;>(
  subst hr
  exact aY (t:=4) (v:=.u (if _=true then bits .andNot .u64 x 131072 else x)) Bs.eng {cv:=[(10,fW b),(13,fW f),(25,fW λW _=>g W)],eq:=[(22,dI .u64 hx),(26,aj hd)]} 120 (Bs.start _ _) λW h=>⟨rfl,h.2⟩)
theorem R9 (s:Int) (h:U s) (w:World):CB 282 #[.agg (cD true),.u s] w (.u (cL s true)):=by
 cases d:(cW s true != 3) with
 | true=>exact EJ true true s _ _ _ h (vT s h) d rfl (I8 s h d).symm w
 | false=>exact EJ true false s _ _ _ h (vT s h) d rfl (I9 s h d).symm w
theorem Sb (s:Int) (h:U s) (w:World):CB 282 #[.agg (cD false),.u s] w (.u (cL s false)):=EJ false true s _ _ _ h (Ch s h) (Ja s h) rfl (LY s h).symm w
theorem vU (k:Nat) (h:k<6):ei.drop k=ei.getD k 0::ei.drop (k+1):=by
 have e:k=0\/k=1\/k=2\/k=3\/k=4\/k=5:=ab
 rcases e with rfl|rfl|rfl|rfl|rfl|rfl<;>rfl
theorem Ci (k:Nat):ei.getD k 0<64:=by
 by_cases h:k<6;·have e:k=0\/k=1\/k=2\/k=3\/k=4\/k=5:=ab;rcases e with rfl|rfl|rfl|rfl|rfl|rfl<;>decide
 ·have:ei.getD k 0=0:=by simp [ei,List.getD,List.getElem?_eq_none (show [11,3,7,9,1,5].length<=k by simp;omega)]
  omega
theorem yp (x:Int) (k:Nat) (h:k<6) (a:fV x (ei.drop k)=dc x) (hb:(ak x (ei.getD k 0)==1)=true):dc x=(ei.getD k 0:Nat):=by rw [<- a,vU k h,fV,hb]
theorem Cj (x:Int) (k:Nat) (h:k<6) (a:fV x (ei.drop k)=dc x) (hb:(ak x (ei.getD k 0)==1)=false):fV x (ei.drop (k+1))=dc x:=by rw [<- a,vU k h,fV,hb]
def gM:Array Value:=#[.i 11,.i 3,.i 7,.i 9,.i 1,.i 5]
theorem Jt (k:Nat) (h:k<6):gM[k]?=some (.i (ei.getD k 0:Nat)):=by
 have e:k=0\/k=1\/k=2\/k=3\/k=4\/k=5:=ab
 rcases e with rfl|rfl|rfl|rfl|rfl|rfl<;>rfl
theorem Ck (x:Int) (w:World):CB 112 #[.u x] w (.i (dc x)):=by
 go_enter func112,ntmps112;go_wp2_with fail;have p:Bw w (w.alloc (Obj.cells #[.i 11,.i 3,.i 7,.i 9,.i 1,.i 5] 2)):=bal _ _;have u:Hid (∀ k,k<6->(w.alloc (Obj.cells #[.i 11,.i 3,.i 7,.i 9,.i 1,.i 5] 2)).cell? ⟨w.heap.size,k,none⟩=some (.i (ei.getD k 0:Nat))):=λk s=>(cell_of_row _ _ _ _ _ _ (heap_alloc_new _ _)).trans (Jt k s);generalize w.alloc (Obj.cells #[.i 11,.i 3,.i 7,.i 9,.i 1,.i 5] 2)=B at *;go_loopw [4] (λi wr=>∃ k:Nat,k<=6/\i=.i k/\Hid (fV x (ei.drop k)=dc x)/\wr=B)
  (λi _=>6-(intOf i).toNat)
 case atStart=>exact ⟨0,ab,rfl,(rfl:fV x (ei.drop 0)=dc x),rfl⟩
 case round =>
  obtain ⟨k,s,rfl,j,rfl⟩:=hrel;by_cases c:k<6
  ·have E:=u.out k c;have b:Hid ((ak x (ei.getD k 0)==1)=true->Hid (dc x=(ei.getD k 0:Nat))):=λh=>yp x k c j.out h;have l:Hid ((ak x (ei.getD k 0)==1)=false->Hid (fV x (ei.drop (k+1))=dc x)):=λh=>Cj x k c j.out h;have t:=Ci k;generalize ei.getD k 0=r at *;have q:Hid (∀ w,CE 111 #[.u x,.u r] w (.u (ak x r))):=λw=>gH x r t w;have G:Uz.wrap (r:Int)=r:=di;have D:decide ((k:Int)<6)=true:=bh;have z:(0:Int)<=(k:Int):=ab;have A:(k:Int)<6:=ab;clear t j;generalize ak x r=y at *;cases d:(y==1) with
   | true =>have F:=b.out d;clear b l;go_wp2_with fail;refine (q.out _).mono ?_;rintro e C ⟨rfl,f⟩;have g:=f.symm;subst g;go_wp2_with fail;go_ret;exact ⟨bc,p⟩
   | false =>
     have F:=l.out d;clear b l;go_wp2_with fail;refine (q.out _).mono ?_;rintro e C ⟨rfl,f⟩;have g:=f.symm;subst g;go_wp2_with fail;go_roundw;case rel=>exact ⟨k+1,ab,by go_num,F,trivial⟩
     case measure=>simp [intOf];omega
  ·have m:k=6:=ab;subst m;have F:Hid (dc x=-1):=j.out.symm;go_wp2_with fail;go_ret;exact ⟨bc,p⟩
theorem EK:(prog.info? 223).map (·.size)=some 6:=by kernel_rfl
theorem EL (w:World):CB 195 #[] w (.agg gM):=by go_enter func195,ntmps195;go_wp2_with fail;exact bodyPost_ret (results_cell_row results195 _ _ _ _ _ _ _ rfl (heap_alloc_new _ _) underlying223 rfl EK) rfl ⟨rfl,bal _ _⟩
theorem EM (w:World) (k:Nat) (hk:k<6):(Instr.index 223 (.agg gM) (.i (k:Int))).run prog w=.ok (.i (ei.getD k 0:Nat)) w:=by
 have a:(Instr.index 223 (.agg gM) (.i 0)).run prog w=.ok (.i 11) w:=al
 have b:(Instr.index 223 (.agg gM) (.i 1)).run prog w=.ok (.i 3) w:=al
 have c:(Instr.index 223 (.agg gM) (.i 2)).run prog w=.ok (.i 7) w:=al
 have d:(Instr.index 223 (.agg gM) (.i 3)).run prog w=.ok (.i 9) w:=al
 have f:(Instr.index 223 (.agg gM) (.i 4)).run prog w=.ok (.i 1) w:=al
 have g:(Instr.index 223 (.agg gM) (.i 5)).run prog w=.ok (.i 5) w:=al
 have e:k=0\/k=1\/k=2\/k=3\/k=4\/k=5:=ab
 rcases e with rfl|rfl|rfl|rfl|rfl|rfl;·exact a
 ·exact b
 ·exact c
 ·exact d
 ·exact f
 ·exact g
theorem Cl (x:Int) (h:U x) (w:World):CB 144 #[.u x] w (.i (dc x)):=by
 have m:Hid (U x):=h;clear h;go_enter func144,ntmps144;go_wp2_with fail;refine (EL _).mono ?_;rintro e D ⟨rfl,u⟩;go_wp2_with fail;have s:=EM;generalize Value.agg gM=T at *;go_loopw [6] (λi wr=>∃ k:Nat,k<=6/\i=.i k/\Hid (fV x (ei.drop k)=dc x)/\Bw w wr)
  (λi _=>6-(intOf i).toNat)
 case atStart=>exact ⟨0,ab,rfl,(rfl:fV x (ei.drop 0)=dc x),u⟩
 case round =>
  obtain ⟨k,B,rfl,l,b⟩:=hrel;by_cases f:k<6
  ·have C:∀ w,_:=λw=>s w k f;have c:Hid ((ak x (ei.getD k 0)==1)=true->Hid (dc x=(ei.getD k 0:Nat))):=λh=>yp x k f l.out h;have j:Hid ((ak x (ei.getD k 0)==1)=false->Hid (fV x (ei.drop (k+1))=dc x)):=λh=>Cj x k f l.out h;have t:=Ci k;rw [dG _ _ m.out] at c j;have q:Hid (∀ w,Calls prog 66 #[.u x,.i (ei.getD k 0:Nat),.i 1] w λe p=>e=.returned (.u (cQ x (ei.getD k 0) 1))/\p=w.drew):=λw=>bu x (ei.getD k 0) 1 m.out.1 m.out.2 t ab w;generalize cQ x (ei.getD k 0) 1=y at *;generalize ei.getD k 0=r at *;have A:decide ((k:Int)<6)=true:=bh;clear t l s;cases d:(y==1) with
   | true =>have F:=c.out d;clear c j;go_wp2_with fail;refine (q.out _).mono ?_;rintro e z ⟨rfl,g⟩;subst g;go_wp2_with fail;go_ret;exact ⟨bc,b.drew⟩
   | false =>
     have F:=j.out d;clear c j;go_wp2_with fail;refine (q.out _).mono ?_;rintro e z ⟨rfl,g⟩;subst g;go_wp2_with fail;go_roundw;case rel=>exact ⟨k+1,ab,by go_num,F,b.drew⟩
     case measure=>simp [intOf];omega
  ·have o:k=6:=ab;subst o;have F:Hid (dc x=-1):=l.out.symm;go_wp2_with fail;go_ret;exact ⟨bc,b⟩
def Mv (m:Bool) (s p:Int):Bool:=match m with
 | true=>decide (p<3)||((p==3)&&(cQ s 3 1==1))
 | false=>decide (p<1)||((p==1)&&(cQ s 1 1==1))
theorem GC (c:Bool) (s p:Int) (h:U s) (w:World):CB 146 #[.agg (cD c),.u s,.i p] w (.bool (decide (p<if c=true then 3 else 1)||((p==if c=true then 3 else 1)&&(cQ s (if c=true then 3 else 1) 1==1)))):=by have a:=λW (_:Bw w W)=>zI s h (if c=true then 3 else 1) 1 (by cases c<;>decide) bb W;refine bz (S:=Bs w [(cD c,168)]) (args:=[.agg (cD c),.u s,.i p]) [(cD c,168)] func146 ?_;generalize cQ s (if c=true then 3 else 1) 1=y at *;cases b:decide (p<if c=true then 3 else 1)<;>cases d:(p==if c=true then 3 else 1)<;>cases f:(y==1)<;>cases c<;>exact aY (t:=6) (v:=.bool (_||(_&&_))) Bs.eng {cv:=[(20,fW a)],eq:=[(10,aj b),(15,aj d),(21,aj f)]} 90 (Bs.start _ _) λW h=>⟨rfl,h.2⟩
theorem Pl (s p:Int) (h:U s) (w:World):CB 146 #[.agg (cD true),.u s,.i p] w (.bool (Mv true s p)):=GC true s p h w
theorem Pm (s p:Int) (h:U s) (w:World):CB 146 #[.agg (cD false),.u s,.i p] w (.bool (Mv false s p)):=GC false s p h w
theorem xg (k:Nat) (hk:k<16) (i:Bool) (w:World):CE 197 #[.i k,.bool i] w (.u (gq k i)):=by
 have c:Uz.wrap (k:Int)=k:=by rw [IntKind.wrap_u64];omega
 clear hk;cases i with
 | true =>have F:Hid (gq k true=bits .or .u64 k 9223372036854775808):=(rfl:gq k true=_);generalize gq k true=r at *;go_enter func197,ntmps197;exact yn
 | false =>have F:Hid (gq k false=k):=(rfl:gq k false=_);generalize gq k false=r at *;go_enter func197,ntmps197;exact yn
theorem xh (to:Int) (k:Nat) (hk:k<16) (i:Bool) (w:World):CE 199 #[.u to,.i k,.bool i] w (.u (dO to k (i&&(bits .and .u64 to 1==1)))):=by
 have c:Uz.wrap (k:Int)=k:=by rw [IntKind.wrap_u64];omega
 clear hk;cases i with
 | true =>
   cases d:(bits .and .u64 to 1 != 0) with
   | true =>have F:Hid (dO to k (true&&(bits .and .u64 to 1==1))=Uz.wrap (bits .andNot .u64 to 1+Uz.wrap (4*k))):=(by show _=_;rw [<- Gs,d];rfl);generalize dO to k (true&&(bits .and .u64 to 1==1))=r at *;exact a0i
   | false =>have F:Hid (dO to k (true&&(bits .and .u64 to 1==1))=bits .andNot .u64 to 1):=(by show _=_;rw [<- Gs,d];rfl);generalize dO to k (true&&(bits .and .u64 to 1==1))=r at *;exact a0i
 | false =>have F:Hid (dO to k (false&&(bits .and .u64 to 1==1))=bits .andNot .u64 to 1):=(rfl:dO to k false=_);generalize dO to k (false&&(bits .and .u64 to 1==1))=r at *;exact a0i
theorem xi (b f cap:Nat) (l:List Int) (p:Int) (k:Nat) (hk:k<16) (i:Bool) (w:World) (c1:w.cell? ⟨b,f+1,none⟩=some (.u (l.getD 1 0))) (c2:w.cell? ⟨b,f+2,none⟩=some (.u (l.getD 2 0))) (o:U (l.getD 1 0)) (q:U (l.getD 2 0)):CB 196 #[.slice (some ⟨b,f,none⟩) 22 cap,.i p,.i k,.bool i] w (.bool (cE l p k i)):=by
 have F:Hid (cE l p k i=(!(p==3)&&(ak (match i with | true=>l.getD 2 0 | false=>l.getD 1 0) k==1))):=(rfl:cE l p k i=_);cases d:(p==3) with
 | true =>
   have g:Hid (cE l p k i=false):=(by show _=_;rw [F.out,d];rfl);have u:(p != 3)=false:=(by simp [bne,d]);clear F;generalize cE l p k i=r at *;generalize l.getD 1 0=s at *;generalize l.getD 2 0=t at *;cases i <;>
   ·go_enter func196,ntmps196;go_wp2_with fail;go_ret;exact ⟨by rw [g.out];rfl,Below.refl _ _⟩
 | false =>
   have u:(p != 3)=true:=(by simp [bne,d]);rw [d] at F;cases i with
   | true =>have g:Hid (cE l p k true=(cQ (l.getD 2 0) k 1==1)):=(by show _=_;rw [F.out];show (ak (l.getD 2 0) k==1)=_;rw [dG _ _ q]);have m:Hid (∀ w,Calls prog 66 #[.u (l.getD 2 0),.i k,.i 1] w λe j=>e=.returned (.u (cQ (l.getD 2 0) k 1))/\j=w.drew):=λw=>bu _ k 1 q.1 q.2 ab ab w;clear F;generalize cE l p k true=r at *;generalize cQ (l.getD 2 0) k 1=y at *;generalize l.getD 1 0=s at *;generalize l.getD 2 0=t at *;go_enter func196,ntmps196;go_wp2_with fail;refine (m.out _).mono ?_;rintro e z ⟨rfl,c⟩;subst c;go_wp2_with fail;go_ret;exact ⟨by rw [g.out];rfl,(Below.refl _ _).drew⟩
   | false =>have g:Hid (cE l p k false=(cQ (l.getD 1 0) k 1==1)):=(by show _=_;rw [F.out];show (ak (l.getD 1 0) k==1)=_;rw [dG _ _ o]);have m:Hid (∀ w,Calls prog 66 #[.u (l.getD 1 0),.i k,.i 1] w λe j=>e=.returned (.u (cQ (l.getD 1 0) k 1))/\j=w.drew):=λw=>bu _ k 1 o.1 o.2 ab ab w;clear F;generalize cE l p k false=r at *;generalize cQ (l.getD 1 0) k 1=y at *;generalize l.getD 1 0=s at *;generalize l.getD 2 0=t at *;go_enter func196,ntmps196;go_wp2_with fail;refine (m.out _).mono ?_;rintro e z ⟨rfl,c⟩;subst c;go_wp2_with fail;go_ret;exact ⟨by rw [g.out];rfl,(Below.refl _ _).drew⟩
theorem yq {w:World} {b a:Nat} {l:List Int} (h:Sl .u64 w (some ⟨b,a,none⟩) l) (k:Nat) (hk:k<l.length):b<w.heap.size/\w.cell? ⟨b,a+k,none⟩=some (.u (l.getD k 0)):=by obtain ⟨g,c,e,d,f⟩:=h k hk;simp only [Option.some.injEq,Addr.mk.injEq,and_true] at e;obtain ⟨rfl,rfl⟩:=e;exact ⟨d,f⟩
theorem xj (b a cap:Nat) (l:List Int) (p:Int) (s:bC p=true) (w:World) (hz:l.length=22) (hs:Sl .u64 w (some ⟨b,a,none⟩) l):CB 73 #[.slice (some ⟨b,a,none⟩) 22 cap,.i p] w (.i (fG l p)):=by
 obtain ⟨V,d⟩:∃ V,V=fG l p:=⟨_,rfl⟩;rw [<- d];unfold fG Ff Ai Aj j4 at d;have c:∀ j,j<22->∀ W,Bs w [] W->W.cell? ⟨b,a+j,none⟩=some (.u (l.getD j 0)):=λj u W h=>(h.2.cell (by exact (yq hs 0 ab).1)).trans (yq hs j ab).2;have g:=λx W (_:Bw w W)=>Ck x W;have k:=λ(i:Nat) (r:i<64) W (_:Bw w W)=>gH (l.getD 0 0) i r W;refine bz (S:=Bs w []) (args:=[.slice (some ⟨b,a,none⟩) 22 cap,.i p]) [] func73 ?_;have f:p=0\/p=1\/p=3:=by simpa [bC,or_assoc] using s
 cases m:decide (dc (bits .andNot .u64 (bits .and .u64 (l.getD 9 0) (l.getD 3 0)) (l.getD 2 0))>=0)<;>cases n:(ak (l.getD 0 0) 1==1)<;>cases o:(ak (l.getD 0 0) 3==1)<;>rw [m,n,o] at d<;>rcases f with rfl|rfl|rfl <;>
  exact aY (t:=4) (v:=.i V) Bs.eng {eq:=[(21,aj o),(30,aj m),(42,aj n)],ov:=[(9,iR ⟨b,a+9,none⟩ _ underlying22 rfl (c 9 ab)),(12,iR ⟨b,a+3,none⟩ _ underlying22 rfl (c 3 ab)),(19,iR ⟨b,a+0,none⟩ _ underlying22 rfl (c 0 ab)),(40,iR ⟨b,a+0,none⟩ _ underlying22 rfl (c 0 ab)),(26,iR ⟨b,a+2,none⟩ _ underlying22 rfl (c 2 ab)),(48,iR ⟨b,a+2,none⟩ _ underlying22 rfl (c 2 ab))],cv:=[(20,mM (k 3 ab)),(41,mM (k 1 ab)),(28,fW (g (bits .andNot .u64 (bits .and .u64 (l.getD 9 0) (l.getD 3 0)) (l.getD 2 0)))),(50,fW (g (bits .and .u64 (bits .and .u64 (l.getD 9 0) (l.getD 3 0)) (l.getD 2 0))))]} 120 (Bs.start _ _) (hv:=by subst d;kernel_rfl) (he:=by subst d;kernel_rfl) (λq h=>⟨rfl,h.2⟩)
structure Lq (w:World) (g:Nat) (c:Bool) (W:World):Prop where
 row:W.heap[g]?=some (.cells (cD c) 168 (0,0))
 bel:Bw w W
 lo:w.heap.size<=g
structure Lv (w:World) (g h:Nat) (c:Bool) (vs:List Int) (W:World):Prop where
 q:Lq w g c W
 own:W.ownsRow h 22 1 (.slice (some ⟨h,0,none⟩) 22 22) 22 (vs.map (Value.int .u64))
 lo:g<h
section
variable {w W W' : World} {g h : Nat} {c : Bool} {vs : List Int}
theorem Lq.below (p:Lq w g c W) (k:Bw W W'):Lq w g c W':=⟨bA k p.row,aa p.bel k,p.lo⟩
theorem Lv.below (p:Lv w g h c vs W) (k:Bw W W'):Lv w g h c vs W':=⟨p.q.below k,eB p.own k,p.lo⟩
theorem Lq.eng {P:Program} {fn:Func} {dr:Bool} {Rs:Ending->World->Prop}:nE P (Lq w g c) (Lq w g c) [⟨g,cD c,[]⟩] dr (bodyPost P fn Rs):=
 ⟨λ_ p=>p,λW p r a=>by rw [List.mem_singleton.1 a];exact ⟨_,_,p.row⟩,λ_ W p=>p.below (Below.refl _ _).drew,ct⟩
theorem Lv.eng {P:Program} {fn:Func} {dr:Bool} {Rs:Ending->World->Prop}:nE P (Lq w g c) (Lv w g h c vs) [⟨g,cD c,[]⟩] dr (bodyPost P fn Rs):=
 ⟨λ_ p=>p.q,(Lq.eng (P:=P) (fn:=fn) (dr:=dr) (Rs:=Rs)).rows,λ_ W p=>p.below (Below.refl _ _).drew,ct⟩
theorem Lv.put (p:Lv w g h c vs W) (j:Nat) (x:Int):Lv w g h c (vs.set j x) (W.setCell ⟨h,j,none⟩ (.u x)):=by have d:=p.lo;have b:=p.q.lo;have a:=(p.own.stored j (.u x)).1;rw [j5] at a;exact ⟨⟨(Below.heap_setCell W ⟨h,j,none⟩ _ g cb).trans p.q.row,p.q.bel.setCell (p:=⟨h,j,none⟩) cb _,p.q.lo⟩,a,p.lo⟩
theorem Lv.run (p:Lv w g h c vs W) (j:Nat) (b:j<22) (x:Int):(do Instr.storeAt 22 (.p h j) (.u x);pure Next.skip:Sem Next).run prog W=.ok .skip (W.setCell ⟨h,j,none⟩ (.u x)):=by have a:=p.own.1;exact jh ⟨(p.own.cellAt j ab).trans (List.getElem?_eq_getElem ab),p.own.frozenAt j⟩ al rfl
theorem Mw (W:World):∃ W',(do pure (.value (<- Instr.makeSlice 23 (.i 22) (.i 22))):Sem Next).run prog W=.ok (.value (.slice (some ⟨W.heap.size,0,none⟩) 22 22)) W'/\(∃ l,W'.ownsRow W.heap.size 22 1 (.slice (some ⟨W.heap.size,0,none⟩) 22 22) 22 l)/\Bw W W':=by obtain ⟨j,f,c,d,e⟩:=info_parts An;obtain ⟨W',i,h,a⟩:=run_make_full (P:=prog) W W.heap.size 23 22 j (.u 0) 1 underlying23 f c d .i64 .i64 22 (by rw [e];omega) et (Nat.le_refl _);have b:(Instr.makeSlice 23 (.i 22) (.i 22)).run prog W=.ok (.slice (some ⟨W.heap.size,0,none⟩) 22 22) W':=i;exact ⟨W',by simp [b],⟨_,h⟩,a.os,a.tape,a.output,a.size,λk g=>a.block k g cp⟩
def Ts (T t:TypeId) (v u:Value):Sem Next:=execOp (λx=>match x with | .tmp 0=>v | _=>u) {dst:=none,op:=.call {callee:=.builtin .copy,args:=#[.tmp 0,.tmp 1],argTypes:=#[T,T]},type:=t,pos:= "",after:=#[],guard:=none}
theorem Mx {b a cap:Nat} {l:List Int} {ys:List Value} (x:W.ownsRow h 22 1 (.slice (some ⟨h,0,none⟩) 22 22) 22 ys) (hs:Sl .u64 W (some ⟨b,a,none⟩) l) (hz:l.length=22) (ty:TypeId):∃ W',(Ts 23 ty (.slice (some ⟨h,0,none⟩) 22 22) (.slice (some ⟨b,a,none⟩) 22 cap)).run prog W=.ok (.value (.i 22)) W'/\W'.ownsRow h 22 1 (.slice (some ⟨h,0,none⟩) 22 22) 22 (l.map (Value.int .u64))/\W.grownBy W' (some h):=by
 obtain ⟨D,s,z,q,A⟩:=info_parts An
 have c:(l.map (Value.int .u64)).length=22:=by rw [List.length_map,hz]
 rcases x.2 with ⟨v,_⟩|⟨C,B,e,y,f,r,m,g,w,o⟩
 ·cases v
 ·cases y
  have t:=run_copy_row (P:=prog) W 23 23 ty 22 h 0 22 22 ⟨b,a,none⟩ 22 cap e 22 (l.map (Value.int .u64)) underlying23 (by rw [s];simp [q]) r (by rw [c];rfl) (λj u d=>by
   have k:j<l.length:=by
    rcases Nat.lt_or_ge j l.length with h|h
    ·exact h
    ·rw [List.getElem?_eq_none ej] at d;cases d
   have p:u=.u (l.getD j 0):=by
    simp [List.getElem?_eq_getElem k] at d
    simp [List.getD,List.getElem?_eq_getElem k,d]
   rw [yz,p];exact (yq hs j k).2) (by rw [c];omega) (ints_oneCell _ _)
  rw [c] at t
  refine ⟨_,by unfold Ts execOp;simp only [resolve,invoke,builtin,Sem.run_bind,Sem.run_pure,Result.andThen_ok,List.map_toArray,List.map_cons,List.map_nil,t];rfl,⟨by rw [c],.inr ⟨h,22,_,rfl,f,setRow_heap W h _ _ _ _ r,m,g,?_,?_⟩⟩,⟨rfl,rfl,rfl,by simp [World.setRow],λi s n=>setRow_other W h i _ (by intro h;apply n;rw [h])⟩⟩
  ·simp [hz];omega
  ·simp [hz]
end
theorem Qn {w a W2 W3:World} {g:Nat} {c:Bool} {l:List Int} (q:Lq w g c W2) (b:g<a.heap.size) (k:W2.grownBy W3 (some a.heap.size)) (o:W3.ownsRow a.heap.size 22 1 (.slice (some ⟨a.heap.size,0,none⟩) 22 22) 22 (l.map (Value.int .u64))) (d:w.heap.size<=a.heap.size):Lv w g a.heap.size c l W3 :=
 ⟨⟨(k.block g (Array.getElem?_eq_some_iff.1 q.row).1 bh).trans q.row,Below.grown q.bel k q.bel.size (λj e=>by cases e;exact d),q.lo⟩,o,b⟩
abbrev sS:Array Value:=#[.i 0,.i 0,.i 0,.i 0,.i 0,.i 0,.i 0,.i 0,.i 0]
theorem xk (a:Option Addr) (n cap:Nat) (l:List Int) (p:Int) (m:Bool) (w:World) (hz:l.length=n) (hs:Sl .u64 w a l) (hl:∀ j,U (l.getD j 0)):Calls prog 249 #[.slice a n cap,.i p,.bool m] w λe r=>∃ (u:Option Addr) (c:Nat), e=.returned (.tuple #[.slice u (jz n l p m).length c,.i (qH n l p m),.u (qI n l p m),.bool (lD n l p m)]) /\ r.ownsRow w.heap.size 22 1 (.slice u (jz n l p m).length c) (jz n l p m).length ((jz n l p m).map (Value.int .u64))/\Bw w r:=by
 have y:=λ(g:Nat) W (q:Lq w g m W)=>fh a n cap l p W hz (hs.below q.bel) hl
 have fin:∀ (g:Nat) (W:World),Lq w g m W->Wg prog (Lq w g m) (bodyPost prog Tryz.f249 λe r=>∃ (u:Option Addr) (c:Nat),e=.returned (.tuple #[.slice u (jz n l p m).length c,.i (qH n l p m),.u (qI n l p m),.bool (lD n l p m)])/\r.ownsRow w.heap.size 22 1 (.slice u (jz n l p m).length c) (jz n l p m).length ((jz n l p m).map (Value.int .u64))/\Bw w r) Tryz.f249.ntmps [.code (az 3 (aW Tryz.f249))] [(0,.slice a n cap,0),(1,.i p,0),(10,.p g 0,1)] W:=λg W q=>by
  have y:=y g
  have no:lD n l p m=false->∀ W,Lq w g m W->∃ (u:Option Addr) (c:Nat),Ending.returned (.tuple #[.slice none 0 0,.i 0,.u 0,.bool false])=.returned (.tuple #[.slice u (jz n l p m).length c,.i (qH n l p m),.u (qI n l p m),.bool (lD n l p m)])/\W.ownsRow w.heap.size 22 1 (.slice u (jz n l p m).length c) (jz n l p m).length ((jz n l p m).map (Value.int .u64))/\Bw w W:=λe W q=>by
   unfold jz qH qI
   rw [e]
   exact ⟨none,0,rfl,qy _ _,q.bel⟩
  cases i:aX n l p with
  | false =>
    rw [i] at y
    exact kV Lq.eng {cv:=[(18,jy (λq k=>q.below k) y)]} 60 (dr:=true) q λW b q f=>⟨_,lB rfl _ _ _,by rw [f.slot (v:=.slice none 0 0) al,f.slot (v:=.i 0) al,f.slot (v:=.u 0) al,f.slot (v:=.bool false) al];exact no (by simp [lD,i]) W q⟩
  | true =>
    obtain ⟨rfl,hp⟩:=gu i
    have I:p=0\/p=1\/p=3:=by simpa [bC,or_assoc] using hp
    obtain ⟨b,o,rfl,C,_⟩:=hs 0 ab
    have H:∀ j,j<22->∀ W,Lq w g m W->W.cell? ⟨b,o+j,none⟩=some (.u (l.getD j 0)):=λj hj W q=>(q.bel.cell (by exact C)).trans (yq hs j ab).2
    rw [i] at y
    have B:lD 22 l p m=!decide (p<if m=true then 3 else 1):=by
     unfold lD
     rw [i]
     rcases I with rfl|rfl|rfl<;>cases m<;>rfl
    cases x:lD 22 l p m with
    | false =>
      have d:decide (p<if m=true then 3 else 1)=true:=by rw [x] at B;simpa using B.symm
      cases m<;>exact kV Lq.eng {cv:=[(18,jy (λq k=>q.below k) y)],eq:=[(24,aj d)]} 60 (dr:=true) q λW b q f=>⟨_,lB rfl _ _ _,by rw [f.slot (v:=.slice none 0 0) al,f.slot (v:=.i 0) al,f.slot (v:=.u 0) al,f.slot (v:=.bool false) al];have:=no x W q;rw [x] at this;exact this⟩
    | true =>
      have d:decide (p<if m=true then 3 else 1)=false:=by rw [x] at B;simpa using B.symm
      have V:jz 22 l p m=l.set 0 (cL (l.getD 0 0) m):=by unfold jz;rw [x]
      have X:qH 22 l p m=cW (l.getD 0 0) m:=by unfold qH;rw [x]
      have Q:qI 22 l p m=eg l m:=by unfold qI;rw [x]
      have ez:(l.set 0 (cL (l.getD 0 0) m)).length=22:=tt
      rw [V,X,Q,ez]
      have N:∀ W,CB 251 #[.agg (cD m),.u (l.getD 0 0)] W (.i (cW (l.getD 0 0) m)):=λW=>by cases m;exact Ch _ (hl 0) W;exact vT _ (hl 0) W
      have O:∀ W,CB 282 #[.agg (cD m),.u (l.getD 0 0)] W (.u (cL (l.getD 0 0) m)):=λW=>by cases m;exact Sb _ (hl 0) W;exact R9 _ (hl 0) W
      have P:=H 0 ab
      have cA:∀ W,Lq w g m W->W.cell? ⟨b,o+(if m=true then 6 else 12),none⟩=some (.u (eg l m)):=λW q=>by cases m;exact H 12 ab W q;exact H 6 ab W q
      generalize cW (l.getD 0 0) m=vp at N ⊢
      generalize cL (l.getD 0 0) m=vs at O ⊢
      generalize eg l m=va at cA ⊢
      clear no V X Q B x
      cases m<;>(
       refine ae Lq.eng {cv:=[(18,jy (λq k=>q.below k) y)],eq:=[(24,aj d)]} 60 (dr:=true) q λG L=>?_
       obtain ⟨s,J,⟨ys,o2⟩,A⟩:=Mw G
       refine dU 0 J ?_
       have Y:=L.below A
       have g1:=(Array.getElem?_eq_some_iff.1 L.row).1
       refine an (R:=[]) trivial {} 6 ?_
       obtain ⟨W3,K,o3,g3⟩:=Mx (cap:=cap) o2 (hs.below Y.bel) hz 3
       refine dU 0 K ?_
       have Z:=Qn Y g1 g3 o3 L.bel.size
       generalize G.heap.size=h at Z ⊢
       refine ae Lv.eng {cv:=[(34,jy (λq k=>q.below k) λW _=>N W),(40,jy (λq k=>q.below k) λW _=>O W)],ov:=[(33,iR ⟨b,o+0,none⟩ _ underlying22 rfl P),(39,iR ⟨b,o+0,none⟩ _ underlying22 rfl P)]} 99 (dr:=true) Z λW4 M=>?_
       refine bJ (M.run 0 ab vs) (hS:=λ_=>(M.put 0 vs).q) ?_
       exact kV Lv.eng {ov:=[(48,iR _ _ underlying22 rfl cA)]} 99 (dr:=true) (M.put 0 vs) λW c v f=>⟨_,lB rfl _ _ _,some ⟨h,0,none⟩,22,by rw [f.slot (v:=.slice (some ⟨h,0,none⟩) 22 22) al,f.slot (v:=.i vp) al,f.slot (v:=.u va) al,f.slot (v:=.bool true) al],cN v.own (by have:=v.lo;have:=v.q.lo;omega),v.q.bel⟩)
 refine bz (S:=Bs w []) (args:=[.slice a n cap,.i p,.bool m]) [] func249 ?_
 refine aN Bs.eng {} 9 (Bs.start w []) (λW _=>iV W) ?_
 rintro G e s E ⟨rfl,A⟩
 refine ⟨_,0,rfl,gm al,?_⟩
 refine dU 1 (dW (T:=168) (z:=.agg sS) al s) ?_
 refine bJ (aG (g:=s.heap.size) (t:=168) (ty:=168) (old:=sS) (cells:=cD false) (heap_alloc_new _ _) al rfl al) ?_
 have F:Lq w s.heap.size false ((s.alloc (.cells (Value.agg sS).cells 168)).setRow s.heap.size (cD false)):=⟨setRow_heap _ _ _ _ _ _ (heap_alloc_new _ _),aE ((E.below A).2.alloc (E.below A).2.size _) (E.below A).2.size _,(E.below A).2.size⟩
 generalize s.heap.size=g at F ⊢
 generalize (s.alloc (.cells (Value.agg sS).cells 168)).setRow g (cD false)=W3 at F ⊢
 refine aH (Lq w g false) ?_
 cases m with
 | false =>
   refine ae Lq.eng {} 8 (dr:=false) F λW q=>?_
   exact ah _ _ (fin g W q)
 | true =>
   refine aN Lq.eng {} 20 (dr:=false) F (λW _=>kz W) ?_
   rintro W4 e W5 q4 ⟨rfl,b5⟩
   refine ⟨_,0,rfl,gm al,?_⟩
   have D:=q4.below b5
   refine bJ (aG (g:=g) (t:=168) (ty:=168) (old:=cD false) (cells:=cD true) D.row al rfl al) ?_
   have q6:Lq w g true (W5.setRow g (cD true)):=⟨setRow_heap _ _ _ _ _ _ D.row,aE D.bel D.lo _,D.lo⟩
   refine aH (Lq w g true) ?_
   refine ae Lq.eng {} 1 (dr:=false) q6 λW q=>?_
   exact ah _ _ (fin g W q)
end Go.Proofs.YtjifdmoehfbihaaGreatDoor
