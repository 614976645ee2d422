/- Own lemmas. -/
import Derived.Test.YtfagphfjfhpmjaaGreatDoorAut
import Derived.Test.YtfagphfjfhpmjaaGreatDoorK17H
import Derived.Test.YtfagphfjfhpmjaaGreatDoorK12
import Derived.Test.YtfagphfjfhpmjaaGreatDoorK14
import Derived.Test.YtfagphfjfhpmjaaGreatDoorK15
set_option maxRecDepth 100000
set_option maxHeartbeats 6400000
namespace Go.Proofs.YtfagphfjfhpmjaaGreatDoor
open Go.RowKit Tryz
open IntKind renaming u64->Uz
set_option linter.unusedVariables false
variable {w:World} {s:Nat} {a:List Int} {b:MV} (k:Option Addr) (x r:MV) (p:MA) (A:Bool) (B M:Int) (c:World) (l f n:Nat) (D:List Int) (d g m:Int) (o:Bool)
theorem sL (c:0<=B) (a1:B<18446744073709551616) (d:0<=M) (f:M<18446744073709551616) (w:World):CE 300 #[.u B,.u M] w (.u (MF.smin.v B M)):=by
 have j:=kB c a1;have l:=kB d f;go_enter func300,ntmps300;go_wp2_with fail;·go_ret;exact ⟨py,rfl⟩
 ·go_ret;exact ⟨l6,rfl⟩
theorem rC (c:0<=B) (a1:B<18446744073709551616) (d:0<=M) (f:M<18446744073709551616) (w:World):CE 301 #[.u B,.u M] w (.u (MF.smax.v B M)):=by
 have j:=kB c a1;have l:=kB d f;go_enter func301,ntmps301;go_wp2_with fail;·go_ret;exact ⟨py,rfl⟩
 ·go_ret;exact ⟨l6,rfl⟩
theorem xb (c:0<=B) (a1:B<18446744073709551616) (d:0<=M) (f:M<18446744073709551616) (w:World):CE 302 #[.u B,.u M] w (.u (MF.umin.v B M)):=by
 have j:=kB c a1;have l:=kB d f;go_enter func302,ntmps302;go_wp2_with fail;·go_ret;exact ⟨py,rfl⟩
 ·go_ret;exact ⟨l6,rfl⟩
theorem uo (c:0<=B) (a1:B<18446744073709551616) (d:0<=M) (f:M<18446744073709551616) (w:World):CE 303 #[.u B,.u M] w (.u (MF.umax.v B M)):=by
 have j:=kB c a1;have l:=kB d f;go_enter func303,ntmps303;go_wp2_with fail;·go_ret;exact ⟨py,rfl⟩
 ·go_ret;exact ⟨l6,rfl⟩
def MF.fn:MF->Nat
 | .second=>299
 | .sum=>277
 | .xor=>280
 | .and=>282
 | .or=>281
 | .smin=>300
 | .smax=>301
 | .umin=>302
 | .umax=>303
theorem MF.calls (f:MF) (a b:Int) (c:0<=a) (a1:a<18446744073709551616) (d:0<=b) (g:b<18446744073709551616) (w:World):Calls prog f.fn #[.u a,.u b] w λe h=>e=.returned (.u (f.v a b))/\∃ m,h=w.drewN m:=by
 cases f;·exact bu (Ao a b w)
 ·exact bu (yR a b w)
 ·exact bu (yS a b w)
 ·exact bu (yT a b w)
 ·exact bu (CL a b w)
 ·exact bu (sL a b c a1 d g w)
 ·exact bu (rC a b c a1 d g w)
 ·exact bu (xb a b c a1 d g w)
 ·exact bu (uo a b c a1 d g w)
theorem MF.enters (f:MF):(prog.funcs[f.fn]?).map (λa=>(a.name == "runtime.NumGoroutine",a.body.isSome))=some (false,true):=by cases f<;>kernel_rfl
def amoCells:Array Value:=(P5.map λf=>Value.func (.func f.fn) #[] #[]).toArray
def dV:Array Value:=(List.replicate 9 Value.nilFunc).toArray
theorem iA:dV.size=9:=by kernel_rfl
theorem cS:amoCells.size=9:=by kernel_rfl
theorem iB:(prog.info? 305).bind (·.zero)=some (.agg dV):=by kernel_rfl
theorem iC:amoCells.all (·.oneCell')=true:=by kernel_rfl
theorem gM:(prog.info? 305).map (·.size)=some 9:=by kernel_rfl
theorem tU (h:l<9):amoCells[l]?=some (.func (.func (mF l).fn) #[] #[]):=by
 match l,h with
 | 0,_=>rfl
 | 1,_=>rfl
 | 2,_=>rfl
 | 3,_=>rfl
 | 4,_=>rfl
 | 5,_=>rfl
 | 6,_=>rfl
 | 7,_=>rfl
 | 8,_=>rfl
 | l+9,h=>exact absurd h ab
theorem De:CB 263 #[] c (.agg amoCells):=by go_enter func263,ntmps263;apply wp_seq_k;intro w b;apply wp_region_list;refine cO rfl 305 rfl (some 0) rfl _ iB ?_;apply wpList_nil;refine b _ _ ?_;clear b w;apply wp_seq_k;intro w b;apply wp_region_lit;refine kG 10 0 10 (.p c.heap.size 0) (.agg amoCells) ba ?_;intro m f d j;have g:(c.alloc (.cells (Value.agg dV).cells 305)).heap[c.heap.size]?=some (.cells dV 305 (0,0)):=heap_alloc_new _ _;refine wpList_store_rowTo rfl 305 (.tmp 0) (.tmp 10) rfl rfl c.heap.size amoCells f d 305 dV g (by rw [gM,cS]) (by rw [iA,cS]) iC ?_;apply wpList_nil;refine b _ _ ?_;clear b w;apply wp_ret;refine bodyPost_ret (results_cell_row results263 _ _ _ _ _ _ _ f (setRow_heap _ _ _ _ _ _ g) underlying305 rfl (by rw [gM,cS])) j ⟨rfl,?_⟩;exact aF (bal _ _) (Nat.le_refl _) _
theorem m9:Calls prog 263 #[] c λe a=>∃ T,e=.returned T/\Hid (T=.agg amoCells)/\Bw c a :=
 (De c).mono λe a h=>⟨.agg amoCells,h.1,(rfl:Value.agg amoCells=.agg amoCells),h.2⟩
theorem Az (hk:l<9) (a b:Int) (r:0<=a) (a1:a<18446744073709551616) (s:0<=b) (t:b<18446744073709551616) (f:MF) (y:Hid (mF l=f)) (w:World): CB 234 #[.i ((l:Int)+76),.u a,.u b] w (.tuple #[.u (f.v a b),.bool true]):=by
 have z:wrap64 ((l:Int)+76-76)=l:=by unfold wrap64;omega
 have C:decide (76<=(l:Int)+76)=true:=by simp;omega
 have D:decide ((l:Int)<9)=true:=by simp;omega
 have u:=mX f.enters;go_enter func234,ntmps234;go_wp2_with fail;refine (m9 _).mono ?_;rintro e d ⟨T,rfl,q,k⟩;have o:(d.alloc (.cells (Value.agg dV).cells 305)).heap[d.heap.size]?=some (.cells dV 305 (0,0)):=heap_alloc_new _ _;obtain ⟨g,c⟩:∃ g,g=(d.alloc (.cells (Value.agg dV).cells 305)).setRow d.heap.size amoCells:=⟨_,rfl⟩;have HR:Hid (g.heap[d.heap.size]?=some (.cells amoCells 305 (0,0))):=by show _=_;rw [c];exact setRow_heap _ _ _ _ _ _ o
 have p:Hid (Bw w g):=by show Below _ _ _;rw [c];exact aF (k.alloc k.size _) k.size _
 have j:Hid (g=(d.alloc (.cells (Value.agg dV).cells 305)).setRow d.heap.size amoCells):=c;clear c;have B:g.cell? ⟨d.heap.size,l,none⟩=some (.func (.func f.fn) #[] #[]):=by rw [cell_of_row _ _ _ _ _ _ HR.out,tU l hk,y.out]
 go_wp2_with (first | refine cO rfl 305 rfl (some 8) rfl _ iB ?_ | (refine wpList_store_rowTo rfl 305 (.tmp 8) (.tmp 10) rfl rfl d.heap.size amoCells rfl q.out 305 dV o (by rw [gM,cS]) (by rw [iA,cS]) iC ?_;rw [<- j.out]));refine (MF.calls f a b r a1 s t _).mono ?_;rintro e E ⟨rfl,nq,m⟩;subst m;go_wp2_with fail;go_ret2;exact ⟨rfl,rv p.out _⟩
theorem Df (hk:l<9) (a b:Int) (C:0<=a) (a1:a<18446744073709551616) (D:0<=b) (E:b<18446744073709551616) (f:MF) (A:Hid (mF l=f)) (w:World): CB 234 #[.i ((l:Int)+65),.u a,.u b] w (.tuple #[.u (f.v (au 32 a) (au 32 b)%4294967296),.bool true]):=by
 have B:wrap64 ((l:Int)+65-65)=l:=by unfold wrap64;omega
 have G:decide (76<=(l:Int)+65)=false:=by simp;omega
 have H:decide (65<=(l:Int)+65)=true:=by simp;omega
 have I:decide ((l:Int)<9)=true:=by simp;omega
 have d4:0<=(l:Int)/\(l:Int)<((9:Nat):Int):=ab
 have z:=mX f.enters;go_enter func234,ntmps234;go_wp2_with fail;refine (m9 _).mono ?_;rintro e d ⟨T,rfl,u,o⟩;have q:(d.alloc (.cells (Value.agg dV).cells 305)).heap[d.heap.size]?=some (.cells dV 305 (0,0)):=heap_alloc_new _ _;obtain ⟨g,c⟩:∃ g,g=(d.alloc (.cells (Value.agg dV).cells 305)).setRow d.heap.size amoCells:=⟨_,rfl⟩;have HR:Hid (g.heap[d.heap.size]?=some (.cells amoCells 305 (0,0))):=by show _=_;rw [c];exact setRow_heap _ _ _ _ _ _ q
 have r:Hid (Bw w g):=by show Below _ _ _;rw [c];exact aF (o.alloc o.size _) o.size _
 have k:Hid (g=(d.alloc (.cells (Value.agg dV).cells 305)).setRow d.heap.size amoCells):=c;clear c;have F:g.cell? ⟨d.heap.size,l,none⟩=some (.func (.func f.fn) #[] #[]):=by rw [cell_of_row _ _ _ _ _ _ HR.out,tU l hk,A.out]
 go_wp2_with (first | refine cO rfl 305 rfl (some 8) rfl _ iB ?_ | (refine wpList_store_rowTo rfl 305 (.tmp 8) (.tmp 10) rfl rfl d.heap.size amoCells rfl u.out 305 dV q (by rw [gM,cS]) (by rw [iA,cS]) iC ?_;rw [<- k.out]));have y:0<=f.v (au 32 a) (au 32 b):=f.pos (br a).1 (br a).2 (br b).1 (br b).2;have t:Hid (∀ (x:Int) (w:World),Calls prog 264 #[.u x] w λe j=>e=.returned (.u (au 32 x))/\∃ m,j=w.drewN m):=λx w=>bu (pU x w);have s:Hid (∀ w:World,Calls prog f.fn #[.u (au 32 a),.u (au 32 b)] w λe j=>e=.returned (.u (f.v (au 32 a) (au 32 b)))/\∃ m,j=w.drewN m):=MF.calls f _ _ (br a).1 (br a).2 (br b).1 (br b).2;go_quiet (first | with_reducible refine Calls.quiet_of (t.out _ _) | with_reducible refine Calls.quiet_of (s.out _))
 go_wp2_with fail;refine (tM _ y _).mono ?_;rintro e J ⟨rfl,p⟩;subst p;go_wp2_with fail;go_ret2;exact ⟨rfl,rv r.out _⟩
theorem AA (p:(Lit.int .i64 B).wf=true) (h:sK B=false) (w:World): CB 234 #[.i B,.u M,.u d] w (.tuple #[.u 0,.bool false]):=by
 have l:¬ (65<=B/\B<=73)/\¬ (76<=B/\B<=84):=by simpa [sK] using h
 have r:=M9 p;clear p h;by_cases j:B<65;·have m:decide (76<=B)=false:=bv;have u:decide (65<=B)=false:=bv;clear j l;go_enter func234,ntmps234;go_wp2_with fail;refine (m9 _).mono ?_;rintro e b ⟨T,rfl,f,c⟩;have g:(b.alloc (.cells (Value.agg dV).cells 305)).heap[b.heap.size]?=some (.cells dV 305 (0,0)):=heap_alloc_new _ _;go_wp2_with (first | refine cO rfl 305 rfl (some 8) rfl _ iB ?_ | (refine wpList_store_rowTo rfl 305 (.tmp 8) (.tmp 10) rfl rfl b.heap.size amoCells rfl f.out 305 dV g (by rw [gM,cS]) (by rw [iA,cS]) iC ?_));exact a0l
 ·have t:decide (65<=B)=true:=bv;have z:wrap64 (B-65)=B-65:=ka;have y:decide (B-65<9)=false:=bv;by_cases o:B<76;·have m:decide (76<=B)=false:=bv;clear j l o;go_enter func234,ntmps234;go_wp2_with fail;refine (m9 _).mono ?_;rintro e b ⟨T,rfl,f,c⟩;have g:(b.alloc (.cells (Value.agg dV).cells 305)).heap[b.heap.size]?=some (.cells dV 305 (0,0)):=heap_alloc_new _ _;go_wp2_with (first | refine cO rfl 305 rfl (some 8) rfl _ iB ?_ | (refine wpList_store_rowTo rfl 305 (.tmp 8) (.tmp 10) rfl rfl b.heap.size amoCells rfl f.out 305 dV g (by rw [gM,cS]) (by rw [iA,cS]) iC ?_));go_ret2;exact ⟨rfl,aF (c.alloc c.size _) c.size _⟩
  ·have m:decide (76<=B)=true:=bv;have q:wrap64 (B-76)=B-76:=ka;have d4:decide (B-76<9)=false:=bv;clear j l o;go_enter func234,ntmps234;go_wp2_with fail;refine (m9 _).mono ?_;rintro e b ⟨T,rfl,f,c⟩;have g:(b.alloc (.cells (Value.agg dV).cells 305)).heap[b.heap.size]?=some (.cells dV 305 (0,0)):=heap_alloc_new _ _;go_wp2_with (first | refine cO rfl 305 rfl (some 8) rfl _ iB ?_ | (refine wpList_store_rowTo rfl 305 (.tmp 8) (.tmp 10) rfl rfl b.heap.size amoCells rfl f.out 305 dV g (by rw [gM,cS]) (by rw [iA,cS]) iC ?_));exact a0l
theorem Dg (i:(Lit.int .i64 B).wf=true) (b:0<=M) (a1:M<18446744073709551616) (f:0<=d) (g:d<18446744073709551616) (w:World): CB 234 #[.i B,.u M,.u d] w (.tuple #[.u (iT B M d),.bool (sK B)]):=by
 cases h:sK B with
 | false=>rw [CU h];exact AA B M d i h w
 | true =>
   obtain ⟨k,c,rfl|rfl⟩:=yW h;·rw [CT c];exact Az k c M d b a1 f g _ (rfl:mF k=mF k) w
   ·rw [Hq c];exact Df k c M d b a1 f g _ (rfl:mF k=mF k) w
def xc (A B s:Int) (a b:Bool):Nat->Int
 | 0=>B | 1=>s | 2=>bits .xor .u64 A B | 3=>bits .and .u64 A B | 4=>bits .or .u64 A B
 | 5=>if a=true then A else B | 6=>if a=true then B else A | 7=>if b=true then A else B | _=>if b=true then B else A
theorem yY (b A B s x y:Int) (o h:Bool) (hn:l=64/\d=76/\g=18446744073709551615\/l=32/\d=65/\g=4294967295) (t:bits .and .u64 m g=A) (u:bits .and .u64 b g=B) (hs:bits .and .u64 (Uz.wrap (A+B)) g=s) (hx:au l A=x) (hy:au l B=y) (hl:decide (IntKind.i64.wrap x<IntKind.i64.wrap y)=o) (j:decide (A<B)=h) (k:Nat) (hk:k<9) (w:World): CE 147 #[.i ((k:Int)+d),.u m,.u b] w (.tuple #[.u (xc A B s o h k),.bool true]):=by
 have n:=λW (_:W=w)=>ei ((k:Int)+d) 76 84 W;have a:=λW (_:W=w)=>ei ((k:Int)+d) 65 73 W;obtain ⟨V,i⟩:∃ V,V=xc A B s o h k:=⟨_,rfl⟩;rw [<- i];have p:∀ W,W=w->CE 144 #[.u A,.u l] W (.u x):=λW _=>hx ▸ eB A l ab ab W;have q:∀ W,W=w->CE 144 #[.u B,.u l] W (.u y):=λW _=>hy ▸ eB B l ab ab W;clear hx hy;have r:k=0\/k=1\/k=2\/k=3\/k=4\/k=5\/k=6\/k=7\/k=8:=ab
 refine bC (S:=λx=>x=w) (args:=[.i ((k:Int)+d),.u m,.u b]) [] func147 ?_;show Wg _ _ _ _ _ _ w;rcases hn with ⟨rfl,rfl,rfl⟩ | ⟨rfl,rfl,rfl⟩<;>rcases r with rfl | rfl | rfl | rfl | rfl | rfl | rfl | rfl | rfl<;>cases o<;>cases h <;>
  exact gu (R:=[]) trivial {eq:=[(29,dG .u64 t),(32,dG .u64 u),(41,ak hl),(52,dG .u64 hs),(82,ak j),(87,ak j)],cv:=[(14,ke n),(19,ke a),(35,ke p),(39,ke q)]} 300 λc hk=>⟨_,results_tmp2 rfl _ _ _,by rw [hk.slot (v:=.u V) (by rw [i];kernel_rfl),hk.slot (v:=.bool true) ba],rfl⟩
theorem Dh (b:0<=M) (a1:M<18446744073709551616) (f:0<=d) (g:d<18446744073709551616) (w:World): CE 147 #[.i B,.u M,.u d] w (.tuple #[.u (iT B M d),.bool (sK B)]):=by
 cases h:sK B with
 | false =>rw [CU h];have l:¬ (65<=B/\B<=73)/\¬ (76<=B/\B<=84):=(by simpa [sK] using h);have q:decide (76<=B/\B<=84)=false:=(by simpa using l.2);have r:decide (65<=B/\B<=73)=false:=(by simpa using l.1);clear h l;go_enter func147,ntmps147;go_wp2_with (go_at_call 61;with_reducible refine (ei _ _ _ _).mono ?_;rintro e s ⟨rfl,rfl⟩);go_ret2;exact a08
 | true =>
   obtain ⟨k,c,rfl | rfl⟩:=yW h;all_goals have j:∀ z,IntKind.i64.wrap z=wrap64 z:=λz=>by rw [IntKind.wrap_i64];unfold wrap64;omega
   ·rw [CT c];have e:(mF k).v M d=xc M d (Uz.wrap (M+d)) (decide (wrap64 M<wrap64 d)) (decide (M<d)) k:=by
     match k,c with
     | 0,_ | 1,_ | 2,_ | 3,_ | 4,_=>rfl
     | 5,_=>simpa [xc,mF,P5] using Hr b a1 f g
     | 6,_ | 8,_=>simp [xc,mF,P5,MF.v]
     | 7,_=>simpa [xc,mF,P5] using Hu M d
    rw [e];have m:0<=Uz.wrap (M+d)/\Uz.wrap (M+d)<18446744073709551616:=dm;exact yY 64 76 18446744073709551615 M d M d _ M d _ _ (.inl ⟨rfl,rfl,rfl⟩) (wV b a1) (wV f g) (wV m.1 m.2) (wU b a1) (wU f g) (by rw [j,j]) rfl k c w
   ·rw [Hq c];have e:(mF k).v (au 32 M) (au 32 d)%4294967296=xc (M%4294967296) (d%4294967296) ((M+d)%4294967296) (decide (wrap64 (au 32 M)<wrap64 (au 32 d))) (decide (M%4294967296<d%4294967296)) k:=by
     match k,c with
     | 0,_=>exact Fz M d
     | 1,_=>exact ((P8 M d).trans (jU _)).trans (by show _=(M+d)%4294967296;omega)
     | 2,_=>exact Nl M d
     | 3,_=>exact Nm M d
     | 4,_=>exact Qa M d
     | 5,_=>simpa [xc,mF,P5] using Nn M d
     | 6,_=>simpa [xc,mF,P5] using Np M d
     | 7,_=>simpa [xc,mF,P5] using Nq M d
     | 8,_=>simpa [xc,mF,P5] using Nr M d
    rw [e];have o:=lD ((M%4294967296)+(d%4294967296)) ab ab;exact yY 32 65 4294967295 M d _ _ _ _ _ _ _ (.inr ⟨rfl,rfl,rfl⟩) (lD M b a1) (lD d f g) (by rw [IntKind.wrap_u64,Int.emod_eq_of_lt ab ab,o];omega) (oZ M) (oZ d) (by rw [j,j]) rfl k c w
theorem xd (h:l<6):eI.drop l=eI.getD l 0::eI.drop (l+1):=by
 have e:l=0\/l=1\/l=2\/l=3\/l=4\/l=5:=ab
 rcases e with rfl|rfl|rfl|rfl|rfl|rfl<;>rfl
theorem Di:eI.getD l 0<64:=by
 by_cases h:l<6;·have e:l=0\/l=1\/l=2\/l=3\/l=4\/l=5:=ab;rcases e with rfl|rfl|rfl|rfl|rfl|rfl<;>decide
 ·have:eI.getD l 0=0:=by simp [eI,List.getD,List.getElem?_eq_none (show [11,3,7,9,1,5].length<=l by simp;omega)]
  omega
theorem yZ (h:l<6) (a:gj B (eI.drop l)=dt B) (hb:(ap B (eI.getD l 0)==1)=true):dt B=(eI.getD l 0:Nat):=by rw [<- a,xd l h,gj,hb]
theorem Dk (h:l<6) (a:gj B (eI.drop l)=dt B) (hb:(ap B (eI.getD l 0)==1)=false):gj B (eI.drop (l+1))=dt B:=by rw [<- a,xd l h,gj,hb]
def gX:Array Value:=#[.i 11,.i 3,.i 7,.i 9,.i 1,.i 5]
theorem Kb (h:l<6):gX[l]?=some (.i (eI.getD l 0:Nat)):=by
 have e:l=0\/l=1\/l=2\/l=3\/l=4\/l=5:=ab
 rcases e with rfl|rfl|rfl|rfl|rfl|rfl<;>rfl
theorem Dl (x:Int) (w:World):CB 130 #[.u x] w (.i (dt x)):=by
 go_enter func130,ntmps130;go_wp2_with fail;have p:Bw w (w.alloc (Obj.cells #[.i 11,.i 3,.i 7,.i 9,.i 1,.i 5] 2)):=bal _ _;have u:Hid (∀ k,k<6->(w.alloc (Obj.cells #[.i 11,.i 3,.i 7,.i 9,.i 1,.i 5] 2)).cell? ⟨w.heap.size,k,none⟩=some (.i (eI.getD k 0:Nat))):=λk s=>(cell_of_row _ _ _ _ _ _ (heap_alloc_new _ _)).trans (Kb k s);generalize w.alloc (Obj.cells #[.i 11,.i 3,.i 7,.i 9,.i 1,.i 5] 2)=B at *;go_loopw [4] (λi wr=>∃ k:Nat,k<=6/\i=.i k/\Hid (gj x (eI.drop k)=dt x)/\wr=B)
  (λi _=>6-(intOf i).toNat)
 case atStart=>exact ⟨0,ab,rfl,(rfl:gj x (eI.drop 0)=dt x),rfl⟩
 case round =>
  obtain ⟨k,s,rfl,j,rfl⟩:=hrel;by_cases c:k<6
  ·have E:=u.out k c;have b:Hid ((ap x (eI.getD k 0)==1)=true->Hid (dt x=(eI.getD k 0:Nat))):=λh=>yZ x k c j.out h;have l:Hid ((ap x (eI.getD k 0)==1)=false->Hid (gj x (eI.drop (k+1))=dt x)):=λh=>Dk x k c j.out h;have t:=Di k;generalize eI.getD k 0=r at *;have q:Hid (∀ w,CE 129 #[.u x,.u r] w (.u (ap x r))):=λw=>gT x r t w;have G:Uz.wrap (r:Int)=r:=dm;have D:decide ((k:Int)<6)=true:=bv;have z:(0:Int)<=(k:Int):=ab;have A:(k:Int)<6:=ab;clear t j;generalize ap x r=y at *;cases d:(y==1) with
   | true =>have F:=b.out d;clear b l;go_wp2_with fail;refine (q.out _).mono ?_;rintro e C ⟨rfl,f⟩;have g:=f.symm;subst g;go_wp2_with fail;go_ret;exact ⟨bh,p⟩
   | false =>
     have F:=l.out d;clear b l;go_wp2_with fail;refine (q.out _).mono ?_;rintro e C ⟨rfl,f⟩;have g:=f.symm;subst g;go_wp2_with fail;go_roundw;case rel=>exact ⟨k+1,ab,by go_num,F,trivial⟩
     case measure=>simp [intOf];omega
  ·have m:k=6:=ab;subst m;have F:Hid (dt x=-1):=j.out.symm;go_wp2_with fail;go_ret;exact ⟨bh,p⟩
theorem za {l:Nat} (h:Sl .u64 w (some ⟨s,l,none⟩) a) (k:Nat) (hk:k<a.length):s<w.heap.size/\w.cell? ⟨s,l+k,none⟩=some (.u (a.getD k 0)):=by obtain ⟨g,c,e,d,f⟩:=h k hk;simp only [Option.some.injEq,Addr.mk.injEq,and_true] at e;obtain ⟨rfl,rfl⟩:=e;exact ⟨d,f⟩
theorem xR (cap:Nat) (b:List Int) (p:Int) (s:bZ p=true) (w:World) (hz:b.length=22) (hs:Sl .u64 w (some ⟨l,f,none⟩) b): CB 89 #[.slice (some ⟨l,f,none⟩) 22 cap,.i p] w (.i (fN b p)):=by
 obtain ⟨V,d⟩:∃ V,V=fN b p:=⟨_,rfl⟩;rw [<- d];unfold fN Gk Bc Bd kq at d;have c:∀ j,j<22->∀ W,Bs w [] W->W.cell? ⟨l,f+j,none⟩=some (.u (b.getD j 0)):=λj u W h=>(h.2.cell (by exact (za hs 0 ab).1)).trans (za hs j ab).2;have g:=λx W (_:Bw w W)=>Dl x W;have k:=λ(i:Nat) (r:i<64) W (_:Bw w W)=>gT (b.getD 0 0) i r W;refine bC (S:=Bs w []) (args:=[.slice (some ⟨l,f,none⟩) 22 cap,.i p]) [] func89 ?_;have a:p=0\/p=1\/p=3:=by simpa [bZ,or_assoc] using s
 cases m:decide (dt (bits .andNot .u64 (bits .and .u64 (b.getD 9 0) (b.getD 3 0)) (b.getD 2 0))>=0)<;>cases n:(ap (b.getD 0 0) 1==1)<;>cases o:(ap (b.getD 0 0) 3==1)<;>rw [m,n,o] at d<;>rcases a with rfl|rfl|rfl <;>
  exact bm (t:=4) (v:=.i V) Bs.eng {eq:=[(21,ak o),(30,ak m),(42,ak n)],ov:=[(9,iL ⟨l,f+9,none⟩ _ underlying22 rfl (c 9 ab)),(12,iL ⟨l,f+3,none⟩ _ underlying22 rfl (c 3 ab)),(19,iL ⟨l,f+0,none⟩ _ underlying22 rfl (c 0 ab)),(40,iL ⟨l,f+0,none⟩ _ underlying22 rfl (c 0 ab)),(26,iL ⟨l,f+2,none⟩ _ underlying22 rfl (c 2 ab)),(48,iL ⟨l,f+2,none⟩ _ underlying22 rfl (c 2 ab))],cv:=[(20,mI (k 3 ab)),(41,mI (k 1 ab)),(28,fQ (g (bits .andNot .u64 (bits .and .u64 (b.getD 9 0) (b.getD 3 0)) (b.getD 2 0)))),(50,fQ (g (bits .and .u64 (bits .and .u64 (b.getD 9 0) (b.getD 3 0)) (b.getD 2 0))))]} 120 (Bs.start _ _) (hv:=by subst d;kernel_rfl) (he:=by subst d;kernel_rfl) (λq h=>⟨rfl,h.2⟩)
def xe (M:MV) (size kind:Int):Bool:=dI M&&jf size&&decide (1<=kind/\kind<=3)&&!((kind==1)&&(size != 4))
def uJ (M:MV) (addr size kind x:Int):Int × MV × Int:=if xe M size kind=true then aC M addr size kind x else (0,zeroM,99)
theorem cN:(aj x p).all (·.oneCell')=true:=by unfold aj;kernel_rfl
def Rh (w:World) (r:Nat):World:=(w.setCell ⟨r,11,none⟩ (.u 0)).setCell ⟨r,12,none⟩ (.bool false)
theorem Mp.freeq {r:Nat} {A:MA} (h:Mp s r b A w):Mp s r (lI b) A (Rh w r)/\Kx r (aG b A) (aG (lI b) A) w (Rh w r):=by refine ⟨⟨?_,Mp.fam_set (Mp.fam_set h.fam h.ne 11 _) h.ne 12 _,h.ne,h.lo⟩,(Kx.set w 11 _).trans (Kx.set _ 12 _)⟩;have a:=h.row;unfold aj at a;exact bI (bI a 11 (.u 0)) 12 (.bool false)
def xS (A:MA) (a:Option Addr) (c:Nat):MA:=⟨A.ax,A.cx,A.ac,A.cc,a,c,A.ai,A.ci,A.ao,A.co⟩
theorem Mp.ram {r:Nat} {A:MA} {w':World} (h:Mp s r b A w) (hb:Bw w w') (R:List Int) (a:Option Addr) (c:Nat) (m:w'.ownsRow w.heap.size 5 1 (.slice a R.length c) R.length (R.map (Value.int .u8))):Mp s r (bU b R) (xS A a c) (w'.setCell ⟨r,4,none⟩ (.slice a R.length c))/\Kx r (aG b A) (aG (bU b R) (xS A a c)) w (w'.setCell ⟨r,4,none⟩ (.slice a R.length c)):=by
 have g:=h.lt;have B:s<=w.heap.size:=by have:=h.lo;omega
 have t:=h.fam.below hb;have p:bA s w.heap.size w' ([aJ A.ax b.x.length A.cx b.x,aJ A.ac b.cs.length A.cc b.cs]++[aD A.ai b.d.xs.length A.ci b.d.xs,aD A.ao b.d.ys.length A.co b.d.ys]):=t.sub (by unfold aG;simp);have hF:bA s w'.heap.size w' (aG (bU b R) (xS A a c)):=p.ins (q:=aD a R.length c R) m B (Nat.le_refl _) hb.size;have M:∀ q ∈ aG (bU b R) (xS A a c),∀ k,q.v.ownBlock=some k->k<w.heap.size->∃ i ∈ aG b A,i.v.ownBlock=some k:=by
  intro q f k e l;simp only [aG,bU,xS,List.mem_cons,List.not_mem_nil,or_false] at f;rcases f with rfl|rfl|rfl|rfl|rfl;·exact ⟨aJ A.ax b.x.length A.cx b.x,dv,e⟩
  ·exact ⟨aJ A.ac b.cs.length A.cc b.cs,dv,e⟩
  ·have:=(m.lt k e).1;omega
  ·exact ⟨aD A.ai b.d.xs.length A.ci b.d.xs,dv,e⟩
  ·exact ⟨aD A.ao b.d.ys.length A.co b.d.ys,dv,e⟩
 have d:∀ q ∈ aG (bU b R) (xS A a c),q.v.ownBlock≠some r:=λq f e=>by obtain ⟨i,o,n⟩:=M q f r e g;exact h.ne i o n
 have j:=bq hb h.row;unfold aj at j;have u:Kx r (aG b A) (aG (bU b R) (xS A a c)) w w':=⟨hb.os,hb.tape,hb.output,hb.size,λk l _ _=>hb.block k l,M⟩;exact ⟨⟨bI j 4 (.slice a R.length c),Mp.fam_set hF d 4 _,d,h.lo⟩,u.trans (Kx.set w' 4 _)⟩
theorem Qe (D:DV) (is:Bool) (w:World) (hm:Mp l f x p w) (Q:∀ addr,Mp l f x p addr->Calls prog 309 #[.agg #[.u x.d.t,.u x.d.cm,.bool x.d.so,.slice p.ai x.d.xs.length p.ci,.slice p.ao x.d.ys.length p.co,.i x.d.ir],.u d,.i g] addr λe R=>∃ (r:Option Addr) (j:Nat) (size:Option Addr) (B:Nat),e=.returned (.tuple #[.u m,.agg #[.u D.t,.u D.cm,.bool D.so,.slice r D.xs.length j,.slice size D.ys.length B,.i D.ir],.bool is])/\bA addr.heap.size R.heap.size R (fW r D.xs.length j D.xs size D.ys.length B D.ys)/\Bw addr R): Calls prog 276 #[.p f 5,.u d,.i g] w λe addr=>e=.returned (.tuple #[.u m,.bool is])/\∃ J,Mp l f (if is=true then db x D else x) J addr/\Kx f (aG x p) (aG (if is=true then db x D else x) J) w addr:=by
 have A:=aE hm;have S:=aE Q;obtain ⟨U,V,W,X,Y,K,L,N,O,P,t,E,F,G⟩:=aZ hm.row;clear hm Q;go_enter func276,ntmps276;go_wp2_with fail;refine (S.out _ A.out).mono ?_;rintro e I ⟨r,j,size,B,rfl,u,c⟩;have y:=aE (aa c ((Below.refl _ _).alloc (Nat.le_refl _) (.cells #[.u D.t,.u D.cm,.bool D.so,.slice r D.xs.length j,.slice size D.ys.length B,.i D.ir] 30 (0,0))));have T:Hid (fF w (I.alloc (.cells #[.u D.t,.u D.cm,.bool D.so,.slice r D.xs.length j,.slice size D.ys.length B,.i D.ir] 30 (0,0))) p.ai p.ci x.d.xs p.ao p.co x.d.ys r j D.xs size B D.ys):=fF.below (.inr (.inr (.inr u))) (bal _ _);have b:=bq c A.out.row;unfold aj at b;have H:¬ f=I.heap.size:=by have h1:=A.out.lt;have h2:=c.size;omega
 have nb2:¬ I.heap.size=f:=λh=>H h.symm;clear U V W X Y K L N O P t E F G;have K:=λo=>(aZ (de b o)).2.2.2.2.2.1;have L:=λo=>(aZ (de b o)).2.2.2.2.2.2.1;have N:=λo=>(aZ (de b o)).2.2.2.2.2.2.2.1;have O:=λo=>(aZ (de b o)).2.2.2.2.2.2.2.2.1;have P:=λo=>(aZ (de b o)).2.2.2.2.2.2.2.2.2.1;have t:=λo=>(aZ (de b o)).2.2.2.2.2.2.2.2.2.2.1;have f5:=λo=>(fi (de b o)).2.2.2.2.2.1;have f6:=λo=>(fi (de b o)).2.2.2.2.2.2.1;have f7:=λo=>(fi (de b o)).2.2.2.2.2.2.2.1;have f8:=λo=>(fi (de b o)).2.2.2.2.2.2.2.2.1;have f9:=λo=>(fi (de b o)).2.2.2.2.2.2.2.2.2.1;have Z:=λo=>(fi (de b o)).2.2.2.2.2.2.2.2.2.2.1;clear c u b;cases is with
 | false =>go_wp2_with fail;refine bodyPost_ret (results_tmp2 rfl _ _ _) rfl ?_;exact ⟨rfl,p,A.out.below y.out,Kx.of_below y.out⟩
 | true =>obtain ⟨s,q⟩:=A.out.dev y.out D T.out;have C:=aE s;have z:=aE q;clear s q;go_wp2_with fail;refine bodyPost_ret (results_tmp2 rfl _ _ _) rfl ?_;exact ⟨rfl,ky p r j size B,C.out,z.out⟩
theorem Qf (D:DV) (is:Bool) (w:World) (hm:Mp l f x p w) (Q:∀ r,Mp l f x p r->Calls prog 312 #[.agg #[.u x.d.t,.u x.d.cm,.bool x.d.so,.slice p.ai x.d.xs.length p.ci,.slice p.ao x.d.ys.length p.co,.i x.d.ir],.u d,.i g,.u m] r λe size=>∃ (B:Option Addr) (j:Nat) (addr:Option Addr) (A:Nat),e=.returned (.tuple #[.agg #[.u D.t,.u D.cm,.bool D.so,.slice B D.xs.length j,.slice addr D.ys.length A,.i D.ir],.bool is])/\bA r.heap.size size.heap.size size (fW B D.xs.length j D.xs addr D.ys.length A D.ys)/\Bw r size): Calls prog 307 #[.p f 5,.u d,.i g,.u m] w λe r=>e=.returned (.bool is)/\∃ J,Mp l f (if is=true then db x D else x) J r/\Kx f (aG x p) (aG (if is=true then db x D else x) J) w r:=by
 have M:=aE hm;have R:=aE Q;obtain ⟨T,U,V,W,X,K,L,N,O,P,t,E,F,G⟩:=aZ hm.row;clear hm Q;go_enter func307,ntmps307;go_wp2_with fail;refine (R.out _ M.out).mono ?_;rintro e I ⟨B,j,addr,A,rfl,u,c⟩;have y:=aE (aa c ((Below.refl _ _).alloc (Nat.le_refl _) (.cells #[.u D.t,.u D.cm,.bool D.so,.slice B D.xs.length j,.slice addr D.ys.length A,.i D.ir] 30 (0,0))));have S:Hid (fF w (I.alloc (.cells #[.u D.t,.u D.cm,.bool D.so,.slice B D.xs.length j,.slice addr D.ys.length A,.i D.ir] 30 (0,0))) p.ai p.ci x.d.xs p.ao p.co x.d.ys B j D.xs addr A D.ys):=fF.below (.inr (.inr (.inr u))) (bal _ _);have b:=bq c M.out.row;unfold aj at b;have H:¬ f=I.heap.size:=by have h1:=M.out.lt;have h2:=c.size;omega
 have Z:¬ I.heap.size=f:=λh=>H h.symm;clear T U V W X K L N O P t E F G;have K:=λo=>(aZ (de b o)).2.2.2.2.2.1;have L:=λo=>(aZ (de b o)).2.2.2.2.2.2.1;have N:=λo=>(aZ (de b o)).2.2.2.2.2.2.2.1;have O:=λo=>(aZ (de b o)).2.2.2.2.2.2.2.2.1;have P:=λo=>(aZ (de b o)).2.2.2.2.2.2.2.2.2.1;have t:=λo=>(aZ (de b o)).2.2.2.2.2.2.2.2.2.2.1;have f5:=λo=>(fi (de b o)).2.2.2.2.2.1;have f6:=λo=>(fi (de b o)).2.2.2.2.2.2.1;have f7:=λo=>(fi (de b o)).2.2.2.2.2.2.2.1;have f8:=λo=>(fi (de b o)).2.2.2.2.2.2.2.2.1;have f9:=λo=>(fi (de b o)).2.2.2.2.2.2.2.2.2.1;have Y:=λo=>(fi (de b o)).2.2.2.2.2.2.2.2.2.2.1;clear c u b;cases is with
 | false =>go_wp2_with fail;go_ret;exact ⟨rfl,p,M.out.below y.out,Kx.of_below y.out⟩
 | true =>obtain ⟨s,q⟩:=M.out.dev y.out D S.out;have C:=aE s;have z:=aE q;clear s q;go_wp2_with fail;go_ret;exact ⟨rfl,ky p B j addr A,C.out,z.out⟩
theorem Nz (w:World) (hm:Mp l f x p w) (c:(x.hl&&(Uz.wrap (d.tdiv 8)==Uz.wrap (x.hd.tdiv 8)))=o): Calls prog 308 #[.p f 0,.u d] w λe j=>e=.returned (.tuple #[])/\Mp l f (if o=true then lI x else x) p j/\Kx f (aG x p) (aG (if o=true then lI x else x) p) w j:=by
 have r:=aE hm;obtain ⟨y,z,C,D,E,F,G,H,I,J,m,hit,g,A⟩:=aZ hm.row;obtain ⟨K,L,N,O,P,Q,R,S,T,U,q,s,t,u⟩:=fi hm.row;clear hm;obtain ⟨B,pa⟩:∃ b,b=x.hl:=⟨_,rfl⟩;rw [<- pa] at g c;clear pa;cases B with
 | false =>rw [Bool.false_and] at c;subst c;go_enter func308,ntmps308;go_wp2_with fail;refine bodyPost_end (results_none rfl _ _ _) rfl ?_;exact ⟨rfl,r.out,Kx.refl _ _ _⟩
 | true =>
   rw [Bool.true_and] at c;cases o with
   | false =>go_enter func308,ntmps308;go_wp2_with fail;refine bodyPost_end (results_none rfl _ _ _) rfl ?_;exact ⟨rfl,r.out,Kx.refl _ _ _⟩
   | true =>go_enter func308,ntmps308;go_wp2_with fail;refine bodyPost_end (results_none rfl _ _ _) rfl ?_;exact ⟨rfl,r.out.freeq.1,r.out.freeq.2⟩
theorem Tb (R:List Int) (D:DV) (size is:Bool) (B t:MV->MV) (w:World) (hm:Mp l f x p w) (hS:∀ r,Mp l f x p r->Calls prog 214 #[.slice p.ar x.ram.length p.cr,.u d,.i g,.u m] r λe c=>∃ (J:Option Addr) (K:Nat),e=.returned (.tuple #[.slice J R.length K,.bool size])/\c.ownsRow r.heap.size 5 1 (.slice J R.length K) R.length (R.map (Value.int .u8))/\Bw r c) (hV:∀ r,Mp l f x p r->Calls prog 307 #[.p f 5,.u d,.i g,.u m] r λe c=>e=.returned (.bool is)/\∃ b,Mp l f (if is=true then db x D else x) b c/\Kx f (aG x p) (aG (if is=true then db x D else x) b) r c) (hT:∀ (X:MV) (b:MA) r,Mp l f X b r->(X=bU x R\/X=db x D)->Calls prog 128 #[.p f 0] r λe c=>e=.returned (.tuple #[])/\Mp l f (B X) b c/\Kx f (aG X b) (aG (B X) b) r c) (hG:∀ (X:MV) (b:MA) r,Mp l f X b r->(X=B (bU x R)\/X=B (db x D))->Calls prog 308 #[.p f 0,.u d] r λe c=>e=.returned (.tuple #[])/\Mp l f (t X) b c/\Kx f (aG X b) (aG (t X) b) r c): Calls prog 275 #[.p f 0,.u d,.i g,.u m] w λe r=>e=.returned (.bool (size||is))/\∃ b,Mp l f (if size=true then t (B (bU x R)) else if is=true then t (B (db x D)) else x) b r/\Kx f (aG x p) (aG (if size=true then t (B (bU x R)) else if is=true then t (B (db x D)) else x) b) w r:=by
 have HM:=aE hm;have HS:=aE hS;have HV:=aE hV;have HTM:Hid (∀ (b:MA) r,Mp l f (bU x R) b r->Calls prog 128 #[.p f 0] r λe c=>e=.returned (.tuple #[])/\Mp l f (B (bU x R)) b c/\Kx f (aG (bU x R) b) (aG (B (bU x R)) b) r c):=λb r h=>hT _ b r h (.inl rfl);have HTD:Hid (∀ (b:MA) r,Mp l f (db x D) b r->Calls prog 128 #[.p f 0] r λe c=>e=.returned (.tuple #[])/\Mp l f (B (db x D)) b c/\Kx f (aG (db x D) b) (aG (B (db x D)) b) r c):=λb r h=>hT _ b r h (.inr rfl);have HGM:Hid (∀ (b:MA) r,Mp l f (B (bU x R)) b r->Calls prog 308 #[.p f 0,.u d] r λe c=>e=.returned (.tuple #[])/\Mp l f (t (B (bU x R))) b c/\Kx f (aG (B (bU x R)) b) (aG (t (B (bU x R))) b) r c):=λb r h=>hG _ b r h (.inl rfl);have HGD:Hid (∀ (b:MA) r,Mp l f (B (db x D)) b r->Calls prog 308 #[.p f 0,.u d] r λe c=>e=.returned (.tuple #[])/\Mp l f (t (B (db x D))) b c/\Kx f (aG (B (db x D)) b) (aG (t (B (db x D))) b) r c):=λb r h=>hG _ b r h (.inr rfl);obtain ⟨V,W,Y,Z,c4,c5,c6,c7,c8,c9,y,z,C,E⟩:=aZ hm.row;clear hm hS hV hT hG;go_enter func275,ntmps275;go_wp2_with fail;refine (HS.out _ HM.out).mono ?_;rintro e w5 ⟨J,K,rfl,N,A⟩;have u:=aE (HM.out.below A);have KX5:=aE (Kx.of_below (r:=f) (L:=aG x p) A);cases size with
 | true =>obtain ⟨S,P⟩:=HM.out.ram A R J K N;have j:=aE S;have pa:=aE P;clear V W Y Z c4 c5 c6 c7 c8 c9 y z C E;obtain ⟨V,W,Y,Z,c4,c5,c6,c7,c8,c9,y,z,C,E⟩:=aZ u.out.row;obtain ⟨f0,f1,f2,f3,f4,f5,f6,f7,f8,f9,f10,f11,f12,f13⟩:=fi u.out.row;clear S P N A;go_wp2_with fail;refine (HTM.out (xS p J K) _ j.out).mono ?_;rintro e w7 ⟨rfl,q,o⟩;have H:=aE q;have F:=aE ((pa.out).trans o);clear q o;go_wp2_with fail;refine (HGM.out (xS p J K) _ H.out).mono ?_;rintro e w8 ⟨rfl,s,M⟩;have I:=aE s;have G:=aE (F.out.trans M);clear s M;go_wp2_with fail;go_ret;exact ⟨rfl,(xS p J K),I.out,G.out⟩
 | false =>
   clear N A;clear V W Y Z c4 c5 c6 c7 c8 c9 y z C E;obtain ⟨V,W,Y,Z,c4,c5,c6,c7,c8,c9,y,z,C,E⟩:=aZ u.out.row;go_wp2_with fail;refine (HV.out _ u.out).mono ?_;rintro e w6 ⟨rfl,b,U,T⟩;have j:=aE U;have pa:=aE (KX5.out.trans T);clear U T;cases is with
   | false =>go_wp2_with fail;go_ret;exact ⟨rfl,b,j.out,pa.out⟩
   | true =>have Q:Hid (Mp l f (db x D) b w6):=j.out;have O:Hid (Kx f (aG x p) (aG (db x D) b) w w6):=pa.out;clear j pa;go_wp2_with fail;refine (HTD.out b _ Q.out).mono ?_;rintro e w7 ⟨rfl,q,o⟩;have H:=aE q;have F:=aE ((O.out).trans o);clear q o;go_wp2_with fail;refine (HGD.out b _ H.out).mono ?_;rintro e w8 ⟨rfl,s,M⟩;have I:=aE s;have G:=aE (F.out.trans M);clear s M;go_wp2_with fail;go_ret;exact ⟨rfl,b,I.out,G.out⟩
theorem Qg (w:World) (hm:Mp l f x p w) (size:∀ c,Mp l f x p c->Calls prog 275 #[.p f 0,.u d,.i g,.u m] c λe B=>e=.returned (.bool o)/\∃ b,Mp l f r b B/\Kx f (aG x p) (aG r b) c B): Calls prog 257 #[.p f 0,.u d,.i g,.i 3,.u m] w λe c=>e=.returned (.tuple #[.u 0,.bool o])/\∃ b,Mp l f r b c/\Kx f (aG x p) (aG r b) w c:=by have q:=aE hm;have s:=aE size;clear hm size;go_enter func257,ntmps257;go_wp2_with fail;refine (s.out _ q.out).mono ?_;rintro e t ⟨rfl,b,j,A⟩;have pa:=aE j;have M:=aE A;clear j A;go_wp2_with fail;refine bodyPost_ret (results_tmp2 rfl _ _ _) rfl ?_;exact ⟨rfl,b,pa.out,M.out⟩
theorem Qh (J:Int) (b:Bool) (w:World) (hm:Mp l f x p w) (I:∀ B,Mp l f x p B->CB 208 #[.slice p.ar x.ram.length p.cr,.u d,.i g] B (.tuple #[.u J,.bool b])): Calls prog 257 #[.p f 0,.u d,.i g,.i 1,.u m] w λe B=>e=.returned (.tuple #[.u (if b=true then J else 0),.bool (b||false)])/\∃ q,Mp l f (if b=true then x else x) q B/\Kx f (aG x p) (aG (if b=true then x else x) q) w B:=by
 have s:=aE hm;have K:=aE I;obtain ⟨t,u,y,z,C,D,E,F,G,H,j,A,size,o⟩:=aZ hm.row;clear hm I;go_enter func257,ntmps257;go_wp2_with fail;refine (K.out _ s.out).mono ?_;rintro e N ⟨rfl,r⟩;have c:=aE (s.out.below r);have pa:=aE (Kx.of_below (r:=f) (L:=aG x p) r);clear r;clear t u y z C D E F G H j A size o;obtain ⟨t,u,y,z,C,D,E,F,G,H,j,A,size,o⟩:=aZ c.out.row;cases b with
 | true =>go_wp2_with fail;refine bodyPost_ret (results_tmp2 rfl _ _ _) rfl ?_;exact ⟨rfl,p,c.out,pa.out⟩
 | false =>go_wp2_with fail;refine bodyPost_ret (results_tmp2 rfl _ _ _) rfl ?_;exact ⟨rfl,p,c.out,pa.out⟩
theorem Qi (X:Int) (B:Bool) (M2 z:MV) (W:Int) (is:Bool) (w:World) (hm:Mp l f x p w) (U:∀ b,Mp l f x p b->CB 208 #[.slice p.ar x.ram.length p.cr,.u d,.i g] b (.tuple #[.u X,.bool B])) (T:∀ b,Mp l f x p b->Calls prog 276 #[.p f 5,.u d,.i g] b λe c=>e=.returned (.tuple #[.u W,.bool is])/\∃ r,Mp l f M2 r c/\Kx f (aG x p) (aG M2 r) b c) (V:∀ (r:MA) b,Mp l f M2 r b->Calls prog 128 #[.p f 0] b λe c=>e=.returned (.tuple #[])/\Mp l f z r c/\Kx f (aG M2 r) (aG z r) b c): Calls prog 257 #[.p f 0,.u d,.i g,.i 2,.u m] w λe b=>e=.returned (.tuple #[.u (if B=true then X else W),.bool (B||is)])/\∃ r,Mp l f (if B=true then x else z) r b/\Kx f (aG x p) (aG (if B=true then x else z) r) w b:=by
 have G:=aE hm;have Z:=aE U;have Y:=aE T;have HT:=aE V;clear T V;obtain ⟨H,I,J,K,N,O,P,Q,R,S,size,o,M,q⟩:=aZ hm.row;clear hm U;go_enter func257,ntmps257;go_wp2_with fail;refine (Z.out _ G.out).mono ?_;rintro e w5 ⟨rfl,j⟩;have pa:=aE (G.out.below j);have A:=aE (Kx.of_below (r:=f) (L:=aG x p) j);clear j;clear H I J K N O P Q R S size o M q;obtain ⟨H,I,J,K,N,O,P,Q,R,S,size,o,M,q⟩:=aZ pa.out.row;cases B with
 | true =>go_wp2_with fail;refine bodyPost_ret (results_tmp2 rfl _ _ _) rfl ?_;exact ⟨rfl,p,pa.out,A.out⟩
 | false =>go_wp2_with fail;refine (Y.out _ pa.out).mono ?_;rintro e w6 ⟨rfl,r,u,s⟩;have E:=aE u;have C:=aE (A.out.trans s);clear u s;go_wp2_with fail;refine (HT.out r _ E.out).mono ?_;rintro e w7 ⟨rfl,y,t⟩;have F:=aE y;have D:=aE (C.out.trans t);clear y t;go_wp2_with fail;refine bodyPost_ret (results_tmp2 rfl _ _ _) rfl ?_;exact ⟨rfl,r,F.out,D.out⟩
theorem gZ (hk:B=1\/B=2\/B=3) (w:World):CE 230 #[.i B] w (.i (if B=1 then 0 else if B=2 then 4 else 6)):=by
 rcases hk with rfl|rfl|rfl;·go_enter func230,ntmps230;exact x8
 ·go_enter func230,ntmps230;exact x8
 ·go_enter func230,ntmps230;exact x8
theorem nN (hk:B=1\/B=2\/B=3) (w:World):CE 107 #[.i B] w (.i (if B=2 then 5 else if B=3 then 7 else 1)):=by
 rcases hk with rfl|rfl|rfl;·go_enter func107,ntmps107;exact x8
 ·go_enter func107,ntmps107;exact x8
 ·go_enter func107,ntmps107;exact x8
theorem Hy (op:BinOp) (a b:Int):0<=bits op .u64 a b/\bits op .u64 a b<18446744073709551616:=by have h:=RK (wf_bits op .u64 a b);omega
def rD (t:TV) (to:Int):TV:=if dc to 1 1==1 then {t with up:=true,cz:=0,vl:=to} else {t with nx:=to}
section
variable {w : World} {g : Nat} {M : MV} {A : MA} {t : TV}
theorem Dn {b o:Nat} {x y:Int} (h:iq ⟨g,bL M A t,[]⟩ w) (J:5<=t.op) (z:t.op<=10) (q:A.ax=some ⟨b,o,none⟩) (B:0<=t.ra/\t.ra<M.x.length) (C:0<=t.rb/\t.rb<M.x.length) (hb:b≠g) (hx:w.cell? ⟨b,o+t.ra.toNat,none⟩=some (.u x)) (hy:w.cell? ⟨b,o+t.rb.toNat,none⟩=some (.u y)):Calls prog 171 #[.p g 0] w λe s=>e=.returned (.tuple #[])/\Iv [g] w [⟨g,bL M A (if Kt t.op x y then rD t (Uz.wrap (M.pc+Uz.wrap t.im)) else t),[]⟩] s:=by
 have r:∀ (p:Addr) v,p.block=b->w.cell? p=some v->∀ W,Iv [g] w [⟨g,bL M A t,[]⟩] W->W.cell? p=some v:=λp v L I W c=>by rw [<- I];simp only [World.cell?,c.ag.block p.block (lH I) (by rw [L];simpa using hb)]
 obtain ⟨l,d⟩:∃ l,l=Uz.wrap (M.pc+Uz.wrap t.im):=⟨_,rfl⟩;have E:(t.op==4)=false:=by simp;omega
 have F:(t.op==3)=false:=by simp;omega
 have G:OC t.op=true:=by simp [OC,J,z]
 rw [<- d];obtain ⟨H,f⟩:∃ H,Kt t.op x y=H:=⟨_,rfl⟩;rw [f];refine gg (args:=[.p g 0]) (Iv [g] w [⟨g,bL M A t,[]⟩]) func171 ?_;refine aK 0 1 ?_;cases H with
 | false =>refine lB Iv.eng {eq:=[(19,ak E),(21,ak F),(46,ak f)],cv:=[(11,xq λW c=>tC c.row1),(42,xq λW c=>LC c.row1 q B hb (r _ _ rfl hx W c)),(44,xq λW c=>UK c.row1 q C hb (r _ _ rfl hy W c)),(45,jp Iv.below λW _=>kM t.op x y G W)]} 200 (Iv.one h) λs a K _=>⟨_,results_none rfl _ _ _,rfl,K⟩
 | true =>
   have i:0<=l:=(by rw [d,IntKind.wrap_u64];omega);have j:l<18446744073709551616:=(by rw [d,IntKind.wrap_u64];omega);rw [if_pos rfl];unfold rD;obtain ⟨u,n⟩:∃ u,(dc l 1 1==1)=u:=⟨_,rfl⟩;rw [n];cases u with
   | true =>refine aS Iv.eng {eq:=[(12,dG .u64 d.symm),(19,ak E),(21,ak F),(46,ak f),(52,ak n)],cv:=[(11,xq λW c=>tC c.row1),(42,xq λW c=>LC c.row1 q B hb (r _ _ rfl hx W c)),(44,xq λW c=>UK c.row1 q C hb (r _ _ rfl hy W c)),(45,jp Iv.below λW _=>kM t.op x y G W),(51,jp Iv.below λW _=>(bG l 1 1 i j bc bc W).mono λe s k=>⟨k.1,by rw [k.2];exact (Below.refl _ _).drew⟩),(54,ke λW _=>gZ 1 (.inl rfl) W)]} 200 (Iv.one h) (λW c=>kg 0 l c.row1) λW e s c D=>⟨_,0,D.1,gh ba,?_⟩;refine aH (λ_=>True) ?_;exact pw (Iv.one D.2.row1) {} 40 λW' m=>⟨rfl,(c.then1 D.2).then1 m⟩
   | false =>refine ae Iv.eng {eq:=[(12,dG .u64 d.symm),(19,ak E),(21,ak F),(46,ak f),(52,ak n)],cv:=[(11,xq λW c=>tC c.row1),(42,xq λW c=>LC c.row1 q B hb (r _ _ rfl hx W c)),(44,xq λW c=>UK c.row1 q C hb (r _ _ rfl hy W c)),(45,jp Iv.below λW _=>kM t.op x y G W),(51,jp Iv.below λW _=>(bG l 1 1 i j bc bc W).mono λe s k=>⟨k.1,by rw [k.2];exact (Below.refl _ _).drew⟩)]} 200 (Iv.one h) λW c=>?_;refine aH (λ_=>True) ?_;exact gp (Iv.one c.row1) {} 40 λW' m=>⟨rfl,c.then1 m⟩
theorem Kc (h:iq ⟨g,bL M A t,[]⟩ w) (l:t.op=3):Calls prog 171 #[.p g 0] w λe p=>e=.returned (.tuple #[])/\Iv [g] w [⟨g,bL M A (rD {t with rs:=t.nx} (Uz.wrap (M.pc+Uz.wrap t.im))),[]⟩] p:=by
 obtain ⟨f,a⟩:∃ f,f=Uz.wrap (M.pc+Uz.wrap t.im):=⟨_,rfl⟩;have r:(t.op==4)=false:=by simp;omega
 have s:(t.op==3)=true:=by simp;omega
 have j:0<=f:=by rw [a,IntKind.wrap_u64];omega
 have k:f<18446744073709551616:=by rw [a,IntKind.wrap_u64];omega
 rw [<- a];refine gg (args:=[.p g 0]) (Iv [g] w [⟨g,bL M A t,[]⟩]) func171 ?_;refine aK 0 1 ?_;refine ae Iv.eng {eq:=[(12,dG .u64 a.symm),(19,ak r),(21,ak s)],cv:=[(11,xq λW b=>tC b.row1)]} 200 (Iv.one h) λW b=>?_;refine aH (λ_=>True) ?_;refine fH (R1:=[⟨g,bL M A {t with rs:=t.nx},[]⟩]) (Iv.one b.row1) {} 40 (λn o=>bG f 1 1 j k bc bc n) λn e q o i=>⟨_,0,i.1,?_⟩;have l:Iv [g] w [⟨g,bL M A {t with rs:=t.nx},[]⟩] q:=(b.then1 o).below (by rw [i.2];exact (Below.refl _ _).drew);unfold rD;obtain ⟨m,d⟩:∃ m,(dc f 1 1==1)=m:=⟨_,rfl⟩;rw [d];cases m with
 | true =>refine aH (Iv [g] w [⟨g,bL M A {t with rs:=t.nx},[]⟩]) ?_;refine aS Iv.eng {eq:=[(52,ak d)],cv:=[(54,ke λW _=>gZ 1 (.inl rfl) W)]} 200 l (λW b=>kg 0 f b.row1) λW e p b i=>⟨_,0,i.1,gh ba,?_⟩;refine aH (λ_=>True) ?_;exact pw (Iv.one i.2.row1) {} 40 λW' c=>⟨rfl,(b.then1 i.2).then1 c⟩
 | false =>exact gp (Iv.one l.row1) {eq:=[(52,ak d)]} 60 λW' c=>⟨rfl,l.then1 c⟩
theorem NA {b o:Nat} {x:Int} (h:iq ⟨g,bL M A t,[]⟩ w) (h4:t.op=4) (z:A.ax=some ⟨b,o,none⟩) (C:0<=t.ra/\t.ra<M.x.length) (hb:b≠g) (hx:w.cell? ⟨b,o+t.ra.toNat,none⟩=some (.u x)):Calls prog 171 #[.p g 0] w λe u=>e=.returned (.tuple #[])/\Iv [g] w [⟨g,bL M A (rD {t with rs:=t.nx} (bits .andNot .u64 (Uz.wrap (x+Uz.wrap t.im)) 1)),[]⟩] u:=by
 obtain ⟨i,c⟩:∃ i,i=bits .andNot .u64 (Uz.wrap (x+Uz.wrap t.im)) 1:=⟨_,rfl⟩;have E:(t.op==4)=true:=by simp;omega
 have B:∀ (p:Addr) v,p.block=b->w.cell? p=some v->∀ W,Iv [g] w [⟨g,bL M A t,[]⟩] W->W.cell? p=some v:=λp v D s W a=>by rw [<- s];simp only [World.cell?,a.ag.block p.block (lH s) (by rw [D];simpa using hb)]
 have k:0<=i:=by rw [c];exact (Hy _ _ _).1
 have l:i<18446744073709551616:=by rw [c];exact (Hy _ _ _).2
 rw [<- c];refine gg (args:=[.p g 0]) (Iv [g] w [⟨g,bL M A t,[]⟩]) func171 ?_;refine aK 0 1 ?_;refine ae Iv.eng {eq:=[(27,dG .u64 c.symm),(19,ak E)],cv:=[(11,xq λW a=>tC a.row1),(23,xq λW a=>LC a.row1 z C hb (B _ _ rfl hx W a)),(25,xq λW a=>tC a.row1)]} 200 (Iv.one h) λW a=>?_;refine aH (λ_=>True) ?_;refine fH (R1:=[⟨g,bL M A {t with rs:=t.nx},[]⟩]) (Iv.one a.row1) {} 40 (λq r=>bG i 1 1 k l bc bc q) λq e y r j=>⟨_,0,j.1,?_⟩;have n:Iv [g] w [⟨g,bL M A {t with rs:=t.nx},[]⟩] y:=(a.then1 r).below (by rw [j.2];exact (Below.refl _ _).drew);unfold rD;obtain ⟨m,f⟩:∃ m,(dc i 1 1==1)=m:=⟨_,rfl⟩;rw [f];cases m with
 | true =>refine aH (Iv [g] w [⟨g,bL M A {t with rs:=t.nx},[]⟩]) ?_;refine aS Iv.eng {eq:=[(52,ak f)],cv:=[(54,ke λW _=>gZ 1 (.inl rfl) W)]} 200 n (λW a=>kg 0 i a.row1) λW e u a j=>⟨_,0,j.1,gh ba,?_⟩;refine aH (λ_=>True) ?_;exact pw (Iv.one j.2.row1) {} 40 λW' d=>⟨rfl,(a.then1 j.2).then1 d⟩
 | false =>exact gp (Iv.one n.row1) {eq:=[(52,ak f)]} 60 λW' d=>⟨rfl,n.then1 d⟩
end
inductive Wf where
 | ld | st | hd | sc | am
def Wf.ty:Wf->Nat
 | .ld=>208
 | .st=>210
 | .hd=>212
 | .sc=>213
 | .am=>214
def nh (f:Wf) (n:Int) (s:Bool):Value:=.iface f.ty (.agg #[.i n,.bool s])
section
variable {w : World} {g : Nat} {M : MV} {A : MA} {t : TV}
theorem rE (f:Wf) (n:Int) (s:Bool) (a:t.fm=nh f n s) (h:iq ⟨g,bL M A t,[]⟩ w):Calls prog 231 #[.p g 0] w λe c=>e=.returned (nh f n s)/\Iv [g] w [⟨g,bL M A t,[]⟩] c:=by obtain ⟨k,y,m,q,o,p,j,i,r,l,wr,u,d,x⟩:=t;dsimp only at a;subst a;refine gg (args:=[.p g 0]) (λ_=>True) func231 ?_;refine aK 0 1 ?_;cases f<;>exact vK (t:=2) (v:=nh _ n s) (Iv.one h) {} 40 λW b=>⟨rfl,b⟩
theorem AB (n:Int) (s:Bool) (w:World):CB 332 #[.agg #[.i n,.bool s]] w (.i n):=by refine bC (args:=[.agg #[.i n,.bool s]]) (S:=Bs w [(#[.i n,.bool s],206)]) [(#[.i n,.bool s],206)] func332 ?_;exact bm (t:=2) (v:=.i n) Bs.eng {} 40 (Bs.start _ _) λa h=>⟨rfl,h.2⟩
theorem Kd (n:Nat) (s:Bool) (x:Int) (hn:n=1\/n=2\/n=4\/n=8) (w:World):CB 333 #[.agg #[.i n,.bool s],.u x] w (.u (if s then au (8*n) x else x)):=by
 refine bC (args:=[.agg #[.i n,.bool s],.u x]) (S:=Bs w [(#[.i n,.bool s],206)]) [(#[.i n,.bool s],206)] func333 ?_;cases s with
 | false=>exact bm (t:=4) (v:=.u x) Bs.eng {} 40 (Bs.start _ _) λa h=>⟨rfl,h.2⟩
 | true =>have b:IntKind.i64.wrap (8*(n:Int))=((8*n:Nat):Int):=(by rcases hn with rfl | rfl | rfl | rfl<;>rfl);exact bm (t:=4) (v:=.u (au (8*n) x)) Bs.eng {eq:=[(10,dG .i64 b)],cv:=[(11,mI λW _=>iQ x (8*n) ab ab W)]} 40 (Bs.start _ _) λa h=>⟨rfl,h.2⟩
end
def cJ:Bool->Array Value
 | true=>#[.i 3,.i 4,.i 6,.i 7,.i 8,.i 3,.i 7,.i 11,.i 2]
 | false=>#[.i 1,.i 10,.i 12,.i 13,.i 14,.i 1,.i 5,.i 8,.i 1]
theorem zd:(prog.info? 195).map (·.size)=some 9:=by kernel_rfl
theorem kO:CB 162 #[] c (.agg (cJ true)):=by go_enter func162,ntmps162;go_wp2_with fail;exact bodyPost_ret (results_cell_row results162 _ _ _ _ _ _ _ rfl (heap_alloc_new _ _) underlying195 rfl zd) rfl ⟨rfl,bal _ _⟩
theorem je:CB 164 #[] c (.agg (cJ false)):=by go_enter func164,ntmps164;go_wp2_with fail;exact bodyPost_ret (results_cell_row results164 _ _ _ _ _ _ _ rfl (heap_alloc_new _ _) underlying195 rfl zd) rfl ⟨rfl,bal _ _⟩
theorem NB:IntKind.i64.wrap B=wrap64 B:=by rw [IntKind.wrap_i64];unfold wrap64;omega
theorem AD (h:U B) (k n:Nat) (hk:k<64) (hn:n<64) (W:World):CB 76 #[.u B,.i k,.i n] W (.u (dc B k n)):=(bG B k n h.1 h.2 hk hn W).mono λe a k=>⟨k.1,k.2 ▸ (Below.refl _ _).drew⟩
theorem Do (h:U B) (hr:IntKind.i64.wrap (dc B (if A=true then 11 else 8) (if A=true then 2 else 1))=M) (w:World):CB 274 #[.agg (cJ A),.u B] w (.i M):=by have a:=λW (_:Bw w W)=>AD B h (if A=true then 11 else 8) (if A=true then 2 else 1) (by cases A<;>decide) (by cases A<;>decide) W;refine bC (S:=Bs w [(cJ A,195)]) (args:=[.agg (cJ A),.u B]) [(cJ A,195)] func274 ?_;cases A<;>exact bm (t:=4) (v:=.i M) Bs.eng {cv:=[(10,fQ a)],eq:=[(11,dG .i64 hr)]} 60 (Bs.start _ _) λW h=>⟨rfl,h.2⟩
theorem ze:CB 255 #[.agg (cJ A),.u B] c (.u (bits .andNot .u64 B (if A=true then 6280 else 290))):=by refine bC (S:=Bs c [(cJ A,195)]) (args:=[.agg (cJ A),.u B]) [(cJ A,195)] func255 ?_;cases A<;>exact bm (t:=4) (v:=.u (bits .andNot .u64 B _)) Bs.eng {} 60 (Bs.start _ _) λW h=>⟨rfl,h.2⟩
theorem xf (h:U B) (w:World):CB 274 #[.agg (cJ true),.u B] w (.i (dx B true)):=Do true B _ h (by rw [Mx B h];exact NB _) w
theorem Dp (h:U B) (w:World):CB 274 #[.agg (cJ false),.u B] w (.i (dx B false)):=Do false B _ h (by rw [Cx B h];exact NB _) w
theorem sM (h:U B) (r:Uz.wrap M=M) (hr:bits .or .u64 (bits .or .u64 (bits .andNot .u64 B (if A=true then 6280 else 290)) (Uz.wrap (dc B (if A=true then 3 else 1) 1*(if A=true then 128 else 32)))) (Uz.wrap (M*(if A=true then 2048 else 256)))=d) (w:World):CB 218 #[.agg (cJ A),.u B,.i M] w (.u d):=by have a:=λW (_:Bw w W)=>AD B h (if A=true then 3 else 1) 1 (by cases A<;>decide) bc W;have b:=λW (_:Bw w W)=>ze A B W;refine bC (S:=Bs w [(cJ A,195)]) (args:=[.agg (cJ A),.u B,.i M]) [(cJ A,195)] func218 ?_;generalize dc B (if A=true then 3 else 1) 1=y at *;cases A<;>exact bm (t:=6) (v:=.u d) Bs.eng {cv:=[(11,fQ a),(14,fQ b)],eq:=[(21,dG .u64 r),(25,dG .u64 hr)]} 90 (Bs.start _ _) λW h=>⟨rfl,h.2⟩
theorem Ke (a:bZ M=true) (h:U B) (w:World):CB 218 #[.agg (cJ true),.u B,.i M] w (.u (mJ B M)):=by
 have b:M=0\/M=1\/M=3:=by simpa [bZ,or_assoc] using a
 exact sM true B M _ h dm (Px B M h).symm w
theorem FD (h:U B) (w:World):CB 218 #[.agg (cJ false),.u B,.i 0] w (.u (mh B ((0:Int)==1))):=sM false B 0 _ h bc (Mv B h).symm w
theorem FF (h:U B) (w:World):CB 218 #[.agg (cJ false),.u B,.i 1] w (.u (mh B ((1:Int)==1))):=sM false B 1 _ h bc (Mw B h).symm w
theorem FG (s d x r:Int) (h:U s) (g:∀ W,CB 274 #[.agg (cJ A),.u s] W (.i d)) (hd:(d != 3)=o) (hx:bits .or .u64 (bits .or .u64 (bits .andNot .u64 s (if A=true then 6280 else 290)) (Uz.wrap (dc s (if A=true then 7 else 5) 1*(if A=true then 8 else 2)))) (if A=true then 128 else 32)=x) (hr:(if o=true then bits .andNot .u64 x 131072 else x)=r) (w:World):CB 304 #[.agg (cJ A),.u s] w (.u r):=by
 have b:=λW (_:Bw w W)=>AD s h (if A=true then 7 else 5) 1 (by cases A<;>decide) bc W
 have f:=λW (_:Bw w W)=>ze A s W
 refine bC (S:=Bs w [(cJ A,195)]) (args:=[.agg (cJ A),.u s]) [(cJ A,195)] func304 ?_
 generalize dc s (if A=true then 7 else 5) 1=y at *
 cases A<;>cases o<;>(
  subst hr
  exact bm (t:=4) (v:=.u (if _=true then bits .andNot .u64 x 131072 else x)) Bs.eng {cv:=[(10,fQ b),(13,fQ f),(25,fQ λW _=>g W)],eq:=[(22,dG .u64 hx),(26,ak hd)]} 120 (Bs.start _ _) λW h=>⟨rfl,h.2⟩)
theorem Tc (h:U B) (w:World):CB 304 #[.agg (cJ true),.u B] w (.u (cW B true)):=by
 cases d:(dx B true != 3) with
 | true=>exact FG true true B _ _ _ h (xf B h) d rfl (JP B h d).symm w
 | false=>exact FG true false B _ _ _ h (xf B h) d rfl (JQ B h d).symm w
theorem Td (h:U B) (w:World):CB 304 #[.agg (cJ false),.u B] w (.u (cW B false)):=FG false true B _ _ _ h (Dp B h) (JR B h) rfl (Mz B h).symm w
theorem FH:(prog.info? 251).map (·.size)=some 6:=by kernel_rfl
theorem FI:CB 215 #[] c (.agg gX):=by go_enter func215,ntmps215;go_wp2_with fail;exact bodyPost_ret (results_cell_row results215 _ _ _ _ _ _ _ rfl (heap_alloc_new _ _) underlying251 rfl FH) rfl ⟨rfl,bal _ _⟩
theorem FJ (hk:l<6):(Instr.index 251 (.agg gX) (.i (l:Int))).run prog c=.ok (.i (eI.getD l 0:Nat)) c:=by
 have a:(Instr.index 251 (.agg gX) (.i 0)).run prog c=.ok (.i 11) c:=ba
 have b:(Instr.index 251 (.agg gX) (.i 1)).run prog c=.ok (.i 3) c:=ba
 have w:(Instr.index 251 (.agg gX) (.i 2)).run prog c=.ok (.i 7) c:=ba
 have d:(Instr.index 251 (.agg gX) (.i 3)).run prog c=.ok (.i 9) c:=ba
 have f:(Instr.index 251 (.agg gX) (.i 4)).run prog c=.ok (.i 1) c:=ba
 have g:(Instr.index 251 (.agg gX) (.i 5)).run prog c=.ok (.i 5) c:=ba
 have e:l=0\/l=1\/l=2\/l=3\/l=4\/l=5:=ab
 rcases e with rfl|rfl|rfl|rfl|rfl|rfl;·exact a
 ·exact b
 ·exact w
 ·exact d
 ·exact f
 ·exact g
theorem Dq (h:U B) (w:World):CB 161 #[.u B] w (.i (dt B)):=by
 have m:Hid (U B):=h;clear h;go_enter func161,ntmps161;go_wp2_with fail;refine (FI _).mono ?_;rintro e D ⟨rfl,u⟩;go_wp2_with fail;have s:=FJ;generalize Value.agg gX=T at *;go_loopw [6] (λi wr=>∃ k:Nat,k<=6/\i=.i k/\Hid (gj B (eI.drop k)=dt B)/\Bw w wr)
  (λi _=>6-(intOf i).toNat)
 case atStart=>exact ⟨0,ab,rfl,(rfl:gj B (eI.drop 0)=dt B),u⟩
 case round =>
  obtain ⟨k,x,rfl,l,b⟩:=hrel;by_cases f:k<6
  ·have C:∀ w,_:=λw=>s w k f;have c:Hid ((ap B (eI.getD k 0)==1)=true->Hid (dt B=(eI.getD k 0:Nat))):=λh=>yZ B k f l.out h;have j:Hid ((ap B (eI.getD k 0)==1)=false->Hid (gj B (eI.drop (k+1))=dt B)):=λh=>Dk B k f l.out h;have t:=Di k;rw [dS _ _ m.out] at c j;have q:Hid (∀ w,Calls prog 76 #[.u B,.i (eI.getD k 0:Nat),.i 1] w λe p=>e=.returned (.u (dc B (eI.getD k 0) 1))/\p=w.drew):=λw=>bG B (eI.getD k 0) 1 m.out.1 m.out.2 t ab w;generalize dc B (eI.getD k 0) 1=y at *;generalize eI.getD k 0=r at *;have A:decide ((k:Int)<6)=true:=bv;clear t l s;cases d:(y==1) with
   | true =>have F:=c.out d;clear c j;go_wp2_with fail;refine (q.out _).mono ?_;rintro e z ⟨rfl,g⟩;subst g;go_wp2_with fail;go_ret;exact ⟨bh,b.drew⟩
   | false =>
     have F:=j.out d;clear c j;go_wp2_with fail;refine (q.out _).mono ?_;rintro e z ⟨rfl,g⟩;subst g;go_wp2_with fail;go_roundw;case rel=>exact ⟨k+1,ab,by go_num,F,b.drew⟩
     case measure=>simp [intOf];omega
  ·have o:k=6:=ab;subst o;have F:Hid (dt B=-1):=l.out.symm;go_wp2_with fail;go_ret;exact ⟨bh,b⟩
def NC (m:Bool) (s p:Int):Bool:=match m with
 | true=>decide (p<3)||((p==3)&&(dc s 3 1==1))
 | false=>decide (p<1)||((p==1)&&(dc s 1 1==1))
theorem Hz (h:U B) (w:World):CB 163 #[.agg (cJ A),.u B,.i M] w (.bool (decide (M<if A=true then 3 else 1)||((M==if A=true then 3 else 1)&&(dc B (if A=true then 3 else 1) 1==1)))):=by have a:=λW (_:Bw w W)=>AD B h (if A=true then 3 else 1) 1 (by cases A<;>decide) bc W;refine bC (S:=Bs w [(cJ A,195)]) (args:=[.agg (cJ A),.u B,.i M]) [(cJ A,195)] func163 ?_;generalize dc B (if A=true then 3 else 1) 1=y at *;cases b:decide (M<if A=true then 3 else 1)<;>cases d:(M==if A=true then 3 else 1)<;>cases f:(y==1)<;>cases A<;>exact bm (t:=6) (v:=.bool (_||(_&&_))) Bs.eng {cv:=[(20,fQ a)],eq:=[(10,ak b),(15,ak d),(21,ak f)]} 90 (Bs.start _ _) λW h=>⟨rfl,h.2⟩
theorem Qj (h:U B) (w:World):CB 163 #[.agg (cJ true),.u B,.i M] w (.bool (NC true B M)):=Hz true B M h w
theorem Qk (h:U B) (w:World):CB 163 #[.agg (cJ false),.u B,.i M] w (.bool (NC false B M)):=Hz false B M h w
theorem xU (hk:l<16) (i:Bool) (w:World):CE 217 #[.i l,.bool i] w (.u (gD l i)):=by
 have c:Uz.wrap (l:Int)=l:=by rw [IntKind.wrap_u64];omega
 clear hk;cases i with
 | true =>have F:Hid (gD l true=bits .or .u64 l 9223372036854775808):=(rfl:gD l true=_);generalize gD l true=r at *;go_enter func217,ntmps217;exact a03
 | false =>have F:Hid (gD l false=l):=(rfl:gD l false=_);generalize gD l false=r at *;go_enter func217,ntmps217;exact a03
theorem xV (hk:l<16) (i:Bool) (w:World):CE 219 #[.u B,.i l,.bool i] w (.u (ee B l (i&&(bits .and .u64 B 1==1)))):=by
 have c:Uz.wrap (l:Int)=l:=by rw [IntKind.wrap_u64];omega
 clear hk;cases i with
 | true =>
   cases d:(bits .and .u64 B 1 != 0) with
   | true =>have F:Hid (ee B l (true&&(bits .and .u64 B 1==1))=Uz.wrap (bits .andNot .u64 B 1+Uz.wrap (4*l))):=(by show _=_;rw [<- G5,d];rfl);generalize ee B l (true&&(bits .and .u64 B 1==1))=r at *;exact a0q
   | false =>have F:Hid (ee B l (true&&(bits .and .u64 B 1==1))=bits .andNot .u64 B 1):=(by show _=_;rw [<- G5,d];rfl);generalize ee B l (true&&(bits .and .u64 B 1==1))=r at *;exact a0q
 | false =>have F:Hid (ee B l (false&&(bits .and .u64 B 1==1))=bits .andNot .u64 B 1):=(rfl:ee B l false=_);generalize ee B l (false&&(bits .and .u64 B 1==1))=r at *;exact a0q
theorem xW (p:Int) (k:Nat) (hk:k<16) (i:Bool) (w:World) (c1:w.cell? ⟨l,f+1,none⟩=some (.u (D.getD 1 0))) (c2:w.cell? ⟨l,f+2,none⟩=some (.u (D.getD 2 0))) (o:U (D.getD 1 0)) (q:U (D.getD 2 0)): CB 216 #[.slice (some ⟨l,f,none⟩) 22 n,.i p,.i k,.bool i] w (.bool (dh D p k i)):=by
 have F:Hid (dh D p k i=(!(p==3)&&(ap (match i with | true=>D.getD 2 0 | false=>D.getD 1 0) k==1))):=(rfl:dh D p k i=_);cases d:(p==3) with
 | true =>
   have g:Hid (dh D p k i=false):=(by show _=_;rw [F.out,d];rfl);have u:(p != 3)=false:=(by simp [bne,d]);clear F;generalize dh D p k i=r at *;generalize D.getD 1 0=s at *;generalize D.getD 2 0=t at *;cases i <;>
   ·go_enter func216,ntmps216;go_wp2_with fail;go_ret;exact ⟨vo,Below.refl _ _⟩
 | false =>
   have u:(p != 3)=true:=(by simp [bne,d]);rw [d] at F;cases i with
   | true =>have g:Hid (dh D p k true=(dc (D.getD 2 0) k 1==1)):=(by show _=_;rw [F.out];show (ap (D.getD 2 0) k==1)=_;rw [dS _ _ q]);have m:Hid (∀ w,Calls prog 76 #[.u (D.getD 2 0),.i k,.i 1] w λe j=>e=.returned (.u (dc (D.getD 2 0) k 1))/\j=w.drew):=λw=>bG _ k 1 q.1 q.2 ab ab w;clear F;generalize dh D p k true=r at *;generalize dc (D.getD 2 0) k 1=y at *;generalize D.getD 1 0=s at *;generalize D.getD 2 0=t at *;go_enter func216,ntmps216;go_wp2_with fail;refine (m.out _).mono ?_;rintro e z ⟨rfl,c⟩;subst c;go_wp2_with fail;go_ret;exact ⟨vo,(Below.refl _ _).drew⟩
   | false =>have g:Hid (dh D p k false=(dc (D.getD 1 0) k 1==1)):=(by show _=_;rw [F.out];show (ap (D.getD 1 0) k==1)=_;rw [dS _ _ o]);have m:Hid (∀ w,Calls prog 76 #[.u (D.getD 1 0),.i k,.i 1] w λe j=>e=.returned (.u (dc (D.getD 1 0) k 1))/\j=w.drew):=λw=>bG _ k 1 o.1 o.2 ab ab w;clear F;generalize dh D p k false=r at *;generalize dc (D.getD 1 0) k 1=y at *;generalize D.getD 1 0=s at *;generalize D.getD 2 0=t at *;go_enter func216,ntmps216;go_wp2_with fail;refine (m.out _).mono ?_;rintro e z ⟨rfl,c⟩;subst c;go_wp2_with fail;go_ret;exact ⟨vo,(Below.refl _ _).drew⟩
structure Lq (w:World) (g:Nat) (c:Bool) (W:World):Prop where
 row:W.heap[g]?=some (.cells (cJ c) 195 (0,0))
 bel:Bw w W
 lo:w.heap.size<=g
structure Lv (w:World) (g h:Nat) (c:Bool) (vs:List Int) (W:World):Prop where
 q:Lq w g c W
 own:W.ownsRow h 22 1 (.slice (some ⟨h,0,none⟩) 22 22) 22 (vs.map (Value.int .u64))
 lo:g<h
section
variable {w W W' : World} {g h : Nat} {c : Bool} {vs : List Int}
theorem Lq.below (p:Lq w g c W) (k:Bw W W'):Lq w g c W':=⟨bq k p.row,aa p.bel k,p.lo⟩
theorem Lv.below (p:Lv w g h c vs W) (k:Bw W W'):Lv w g h c vs W':=⟨p.q.below k,dY p.own k,p.lo⟩
theorem Lq.eng {P:Program} {fn:Func} {dr:Bool} {Rs:Ending->World->Prop}:nZ P (Lq w g c) (Lq w g c) [⟨g,cJ c,[]⟩] dr (bodyPost P fn Rs):=
 ⟨λ_ p=>p,λW p r a=>by rw [List.mem_singleton.1 a];exact ⟨_,_,p.row⟩,λ_ W p=>p.below (Below.refl _ _).drew,cH⟩
theorem Lv.eng {P:Program} {fn:Func} {dr:Bool} {Rs:Ending->World->Prop}:nZ P (Lq w g c) (Lv w g h c vs) [⟨g,cJ c,[]⟩] dr (bodyPost P fn Rs):=
 ⟨λ_ p=>p.q,(Lq.eng (P:=P) (fn:=fn) (dr:=dr) (Rs:=Rs)).rows,λ_ W p=>p.below (Below.refl _ _).drew,cH⟩
theorem Lv.put (p:Lv w g h c vs W) (j:Nat) (x:Int):Lv w g h c (vs.set j x) (W.setCell ⟨h,j,none⟩ (.u x)):=by have d:=p.lo;have b:=p.q.lo;have a:=(p.own.stored j (.u x)).1;rw [ks] at a;exact ⟨⟨(Below.heap_setCell W ⟨h,j,none⟩ _ g di).trans p.q.row,p.q.bel.setCell (p:=⟨h,j,none⟩) di _,p.q.lo⟩,a,p.lo⟩
theorem Lv.run (p:Lv w g h c vs W) (j:Nat) (b:j<22) (x:Int):(do Instr.storeAt 22 (.p h j) (.u x);pure Next.skip:Sem Next).run prog W=.ok .skip (W.setCell ⟨h,j,none⟩ (.u x)):=by have a:=p.own.1;exact jw ⟨(p.own.cellAt j ab).trans (List.getElem?_eq_getElem ab),p.own.frozenAt j⟩ ba rfl
theorem ND (W:World):∃ W',(do pure (.value (<- Instr.makeSlice 23 (.i 22) (.i 22))):Sem Next).run prog W=.ok (.value (.slice (some ⟨W.heap.size,0,none⟩) 22 22)) W'/\(∃ l,W'.ownsRow W.heap.size 22 1 (.slice (some ⟨W.heap.size,0,none⟩) 22 22) 22 l)/\Bw W W':=by obtain ⟨j,f,c,d,e⟩:=info_parts Bh;obtain ⟨W',i,h,a⟩:=run_make_full (P:=prog) W W.heap.size 23 22 j (.u 0) 1 underlying23 f c d .i64 .i64 22 (by rw [e];omega) et (Nat.le_refl _);have b:(Instr.makeSlice 23 (.i 22) (.i 22)).run prog W=.ok (.slice (some ⟨W.heap.size,0,none⟩) 22 22) W':=i;exact ⟨W',by simp [b],⟨_,h⟩,a.os,a.tape,a.output,a.size,λk g=>a.block k g cp⟩
def Up (T t:TypeId) (v u:Value):Sem Next:=execOp (λx=>match x with | .tmp 0=>v | _=>u) {dst:=none,op:=.call {callee:=.builtin .copy,args:=#[.tmp 0,.tmp 1],argTypes:=#[T,T]},type:=t,pos:= "",after:=#[],guard:=none}
theorem NE {b a cap:Nat} {l:List Int} {ys:List Value} (x:W.ownsRow h 22 1 (.slice (some ⟨h,0,none⟩) 22 22) 22 ys) (hs:Sl .u64 W (some ⟨b,a,none⟩) l) (hz:l.length=22) (ty:TypeId):∃ W',(Up 23 ty (.slice (some ⟨h,0,none⟩) 22 22) (.slice (some ⟨b,a,none⟩) 22 cap)).run prog W=.ok (.value (.i 22)) W'/\W'.ownsRow h 22 1 (.slice (some ⟨h,0,none⟩) 22 22) 22 (l.map (Value.int .u64))/\W.grownBy W' (some h):=by
 obtain ⟨D,s,z,q,A⟩:=info_parts Bh
 have c:(l.map (Value.int .u64)).length=22:=by rw [List.length_map,hz]
 rcases x.2 with ⟨v,_⟩|⟨C,B,e,y,f,r,m,g,w,o⟩
 ·cases v
 ·cases y
  have t:=run_copy_row (P:=prog) W 23 23 ty 22 h 0 22 22 ⟨b,a,none⟩ 22 cap e 22 (l.map (Value.int .u64)) underlying23 (by rw [s];simp [q]) r (by rw [c];rfl) (λj u d=>by
   have k:j<l.length:=by
    rcases Nat.lt_or_ge j l.length with h|h
    ·exact h
    ·rw [List.getElem?_eq_none el] at d;cases d
   have p:u=.u (l.getD j 0):=by
    simp [List.getElem?_eq_getElem k] at d
    simp [List.getD,List.getElem?_eq_getElem k,d]
   rw [zp,p];exact (za hs j k).2) (by rw [c];omega) (ints_oneCell _ _)
  rw [c] at t
  refine ⟨_,by unfold Up execOp;simp only [resolve,invoke,builtin,Sem.run_bind,Sem.run_pure,Result.andThen_ok,List.map_toArray,List.map_cons,List.map_nil,t];rfl,⟨by rw [c],.inr ⟨h,22,_,rfl,f,setRow_heap W h _ _ _ _ r,m,g,?_,?_⟩⟩,⟨rfl,rfl,rfl,by simp [World.setRow],λi s n=>setRow_other W h i _ (by intro h;apply n;rw [h])⟩⟩
  ·simp [hz];omega
  ·simp [hz]
end
theorem Rj {W1 W2 W3:World} {c:Bool} (q:Lq w s c W2) (l:s<W1.heap.size) (k:W2.grownBy W3 (some W1.heap.size)) (o:W3.ownsRow W1.heap.size 22 1 (.slice (some ⟨W1.heap.size,0,none⟩) 22 22) 22 (a.map (Value.int .u64))) (b:w.heap.size<=W1.heap.size):Lv w s W1.heap.size c a W3 :=
 ⟨⟨(k.block s (Array.getElem?_eq_some_iff.1 q.row).1 bv).trans q.row,Below.grown q.bel k q.bel.size (λj e=>by cases e;exact b),q.lo⟩,o,l⟩
abbrev tV:Array Value:=#[.i 0,.i 0,.i 0,.i 0,.i 0,.i 0,.i 0,.i 0,.i 0]
theorem xX (w:World) (hz:D.length=l) (hs:Sl .u64 w k D) (hl:∀ j,U (D.getD j 0)): Calls prog 271 #[.slice k l f,.i d,.bool o] w λe r=>∃ (u:Option Addr) (c:Nat), e=.returned (.tuple #[.slice u (jM l D d o).length c,.i (rq l D d o),.u (rr l D d o),.bool (lQ l D d o)]) /\ r.ownsRow w.heap.size 22 1 (.slice u (jM l D d o).length c) (jM l D d o).length ((jM l D d o).map (Value.int .u64))/\Bw w r:=by
 have y:=λ(g:Nat) W (q:Lq w g o W)=>fx k l f D d W hz (hs.below q.bel) hl
 have fin:∀ (g:Nat) (W:World),Lq w g o W->Wg prog (Lq w g o) (bodyPost prog Tryz.f271 λe r=>∃ (u:Option Addr) (c:Nat),e=.returned (.tuple #[.slice u (jM l D d o).length c,.i (rq l D d o),.u (rr l D d o),.bool (lQ l D d o)])/\r.ownsRow w.heap.size 22 1 (.slice u (jM l D d o).length c) (jM l D d o).length ((jM l D d o).map (Value.int .u64))/\Bw w r) Tryz.f271.ntmps [.code (aq 3 (aL Tryz.f271))] [(0,.slice k l f,0),(1,.i d,0),(10,.p g 0,1)] W:=λg W q=>by
  have y:=y g
  have no:lQ l D d o=false->∀ W,Lq w g o W->∃ (u:Option Addr) (c:Nat),Ending.returned (.tuple #[.slice none 0 0,.i 0,.u 0,.bool false])=.returned (.tuple #[.slice u (jM l D d o).length c,.i (rq l D d o),.u (rr l D d o),.bool (lQ l D d o)])/\W.ownsRow w.heap.size 22 1 (.slice u (jM l D d o).length c) (jM l D d o).length ((jM l D d o).map (Value.int .u64))/\Bw w W:=λe W q=>by
   unfold jM rq rr
   rw [e]
   exact ⟨none,0,rfl,rf _ _,q.bel⟩
  cases i:bn l D d with
  | false =>
    rw [i] at y
    exact lB Lq.eng {cv:=[(18,jp (λq a=>q.below a) y)]} 60 (dr:=true) q λW b q n=>⟨_,lO rfl _ _ _,by rw [n.slot (v:=.slice none 0 0) ba,n.slot (v:=.i 0) ba,n.slot (v:=.u 0) ba,n.slot (v:=.bool false) ba];exact no (by simp [lQ,i]) W q⟩
  | true =>
    obtain ⟨rfl,hp⟩:=gF i
    have I:d=0\/d=1\/d=3:=by simpa [bZ,or_assoc] using hp
    obtain ⟨b,m,rfl,C,_⟩:=hs 0 ab
    have H:∀ j,j<22->∀ W,Lq w g o W->W.cell? ⟨b,m+j,none⟩=some (.u (D.getD j 0)):=λj hj W q=>(q.bel.cell (by exact C)).trans (za hs j ab).2
    rw [i] at y
    have B:lQ 22 D d o=!decide (d<if o=true then 3 else 1):=by
     unfold lQ
     rw [i]
     rcases I with rfl|rfl|rfl<;>cases o<;>rfl
    cases x:lQ 22 D d o with
    | false =>
      have p:decide (d<if o=true then 3 else 1)=true:=by rw [x] at B;simpa using B.symm
      cases o<;>exact lB Lq.eng {cv:=[(18,jp (λq a=>q.below a) y)],eq:=[(24,ak p)]} 60 (dr:=true) q λW b q n=>⟨_,lO rfl _ _ _,by rw [n.slot (v:=.slice none 0 0) ba,n.slot (v:=.i 0) ba,n.slot (v:=.u 0) ba,n.slot (v:=.bool false) ba];have:=no x W q;rw [x] at this;exact this⟩
    | true =>
      have p:decide (d<if o=true then 3 else 1)=false:=by rw [x] at B;simpa using B.symm
      have V:jM 22 D d o=D.set 0 (cW (D.getD 0 0) o):=by unfold jM;rw [x]
      have X:rq 22 D d o=dx (D.getD 0 0) o:=by unfold rq;rw [x]
      have Q:rr 22 D d o=eH D o:=by unfold rr;rw [x]
      have ez:(D.set 0 (cW (D.getD 0 0) o)).length=22:=t5
      rw [V,X,Q,ez]
      have N:∀ W,CB 274 #[.agg (cJ o),.u (D.getD 0 0)] W (.i (dx (D.getD 0 0) o)):=λW=>by cases o;exact Dp _ (hl 0) W;exact xf _ (hl 0) W
      have O:∀ W,CB 304 #[.agg (cJ o),.u (D.getD 0 0)] W (.u (cW (D.getD 0 0) o)):=λW=>by cases o;exact Td _ (hl 0) W;exact Tc _ (hl 0) W
      have P:=H 0 ab
      have cA:∀ W,Lq w g o W->W.cell? ⟨b,m+(if o=true then 6 else 12),none⟩=some (.u (eH D o)):=λW q=>by cases o;exact H 12 ab W q;exact H 6 ab W q
      generalize dx (D.getD 0 0) o=vp at N ⊢
      generalize cW (D.getD 0 0) o=vs at O ⊢
      generalize eH D o=va at cA ⊢
      clear no V X Q B x
      cases o<;>(
       refine ae Lq.eng {cv:=[(18,jp (λq a=>q.below a) y)],eq:=[(24,ak p)]} 60 (dr:=true) q λG L=>?_
       obtain ⟨s,J,⟨ys,o2⟩,A⟩:=ND G
       refine dF 0 J ?_
       have Y:=L.below A
       have g1:=(Array.getElem?_eq_some_iff.1 L.row).1
       refine an (R:=[]) trivial {} 6 ?_
       obtain ⟨W3,K,o3,g3⟩:=NE (cap:=f) o2 (hs.below Y.bel) hz 3
       refine dF 0 K ?_
       have Z:=Rj Y g1 g3 o3 L.bel.size
       generalize G.heap.size=h at Z ⊢
       refine ae Lv.eng {cv:=[(34,jp (λq a=>q.below a) λW _=>N W),(40,jp (λq a=>q.below a) λW _=>O W)],ov:=[(33,iL ⟨b,m+0,none⟩ _ underlying22 rfl P),(39,iL ⟨b,m+0,none⟩ _ underlying22 rfl P)]} 99 (dr:=true) Z λW4 M=>?_
       refine bM (M.run 0 ab vs) (hS:=λ_=>(M.put 0 vs).q) ?_
       exact lB Lv.eng {ov:=[(48,iL _ _ underlying22 rfl cA)]} 99 (dr:=true) (M.put 0 vs) λW c v n=>⟨_,lO rfl _ _ _,some ⟨h,0,none⟩,22,by rw [n.slot (v:=.slice (some ⟨h,0,none⟩) 22 22) ba,n.slot (v:=.i vp) ba,n.slot (v:=.u va) ba,n.slot (v:=.bool true) ba],cG v.own (by have:=v.lo;have:=v.q.lo;omega),v.q.bel⟩)
 refine bC (S:=Bs w []) (args:=[.slice k l f,.i d,.bool o]) [] func271 ?_
 refine aS Bs.eng {} 9 (Bs.start w []) (λW _=>je W) ?_
 rintro G e s E ⟨rfl,A⟩
 refine ⟨_,0,rfl,gh ba,?_⟩
 refine dF 1 (dD (T:=195) (z:=.agg tV) ba s) ?_
 refine bM (az (g:=s.heap.size) (t:=195) (ty:=195) (old:=tV) (cells:=cJ false) (heap_alloc_new _ _) ba rfl ba) ?_
 have F:Lq w s.heap.size false ((s.alloc (.cells (Value.agg tV).cells 195)).setRow s.heap.size (cJ false)):=⟨setRow_heap _ _ _ _ _ _ (heap_alloc_new _ _),aF ((E.below A).2.alloc (E.below A).2.size _) (E.below A).2.size _,(E.below A).2.size⟩
 generalize s.heap.size=g at F ⊢
 generalize (s.alloc (.cells (Value.agg tV).cells 195)).setRow g (cJ false)=W3 at F ⊢
 refine aH (Lq w g false) ?_
 cases o with
 | false =>
   refine ae Lq.eng {} 8 (dr:=false) F λW q=>?_
   exact af _ _ (fin g W q)
 | true =>
   refine aS Lq.eng {} 20 (dr:=false) F (λW _=>kO W) ?_
   rintro W4 e W5 q4 ⟨rfl,b5⟩
   refine ⟨_,0,rfl,gh ba,?_⟩
   have cap:=q4.below b5
   refine bM (az (g:=g) (t:=195) (ty:=195) (old:=cJ false) (cells:=cJ true) cap.row ba rfl ba) ?_
   have q6:Lq w g true (W5.setRow g (cJ true)):=⟨setRow_heap _ _ _ _ _ _ cap.row,aF cap.bel cap.lo _,cap.lo⟩
   refine aH (Lq w g true) ?_
   refine ae Lq.eng {} 1 (dr:=false) q6 λW q=>?_
   exact af _ _ (fin g W q)
theorem xY (n:List Int) (p pc a:Int) (i:Bool) (v:Int) (w:World) (hz:n.length=l) (hs:Sl .u64 w k n) (hl:∀ j,U (n.getD j 0)): Calls prog 165 #[.slice k l f,.i p,.u pc,.i a,.bool i,.u v] w λe A=>∃ (s:Option Addr) (c:Nat), e=.returned (.tuple #[.slice s (sp l n p pc a i v).length c,.i (Fh l n p a i),.u (Fi l n p a i),.bool (Ak l n p a)]) /\ A.ownsRow w.heap.size 22 1 (.slice s (sp l n p pc a i v).length c) (sp l n p pc a i v).length ((sp l n p pc a i v).map (Value.int .u64))/\Bw w A:=by
 have J:=λW (hb:Bw w W)=>fx k l f n p W hz (hs.below hb) hl
 refine bC (S:=Bs w []) (args:=[.slice k l f,.i p,.u pc,.i a,.bool i,.u v]) [] func165 ?_
 cases y:Ak l n p a with
 | false =>
   have no:∀ W,Bs w [] W->∃ (s:Option Addr) (c:Nat),Ending.returned (.tuple #[.slice none 0 0,.i 0,.u 0,.bool false])=.returned (.tuple #[.slice s (sp l n p pc a i v).length c,.i (Fh l n p a i),.u (Fi l n p a i),.bool false])/\W.ownsRow w.heap.size 22 1 (.slice s (sp l n p pc a i v).length c) (sp l n p pc a i v).length ((sp l n p pc a i v).map (Value.int .u64))/\Bw w W:=λW q=>by
    unfold sp Fh Fi
    rw [y]
    exact ⟨none,0,rfl,rf _ _,q.2⟩
   cases cap:bn l n p<;>cases d:decide (a<0)<;>cases L:decide (a>=16)<;>(
    first
    | (exfalso;revert y;unfold Ak UM;rw [cap];simp at d L ⊢;omega)
    | (rw [cap] at J
       exact lB Bs.eng {cv:=[(20,fQ J)],eq:=[(24,ak d),(28,ak L)]} 60 (Bs.start w []) λW b q o=>⟨_,lO rfl _ _ _,by rw [o.slot (v:=.slice none 0 0) ba,o.slot (v:=.i 0) ba,o.slot (v:=.u 0) ba,o.slot (v:=.bool false) ba];exact no W q⟩))
 | true =>
   have Q:=y
   unfold Ak UM at Q
   rw [Bool.and_eq_true,decide_eq_true_eq] at Q
   obtain ⟨cap,hk0⟩:=Q
   rw [cap] at J
   obtain ⟨rfl,hp⟩:=gF cap
   have d:decide (a<0)=false:=by rw [decide_eq_false_iff_not];omega
   have L:decide (a>=16)=false:=by rw [decide_eq_false_iff_not];omega
   obtain ⟨j,rfl⟩:∃ j:Nat,a=(j:Int):=⟨a.toNat,ab⟩
   have V:j<16:=ab
   obtain ⟨b,m,rfl,F,_⟩:=hs 0 ab
   have E:∀ x,x<22->∀ W,Bw w W->W.cell? ⟨b,m+x,none⟩=some (.u (n.getD x 0)):=λx hx W q=>(q.cell (by exact F)).trans (za hs x ab).2
   have eL:sp 22 n p pc j i v=iG n (dh n p j i) p (gD j i) pc v:=by unfold sp;rw [y,Int.toNat_natCast]
   have eP:Fh 22 n p j i=sV (dh n p j i):=by unfold Fh;rw [y,Int.toNat_natCast]
   have eA:Fi 22 n p j i=ee (n7 n (dh n p j i)) j (mS n (dh n p j i) i):=by unfold Fi;rw [y,Int.toNat_natCast]
   have ez:(iG n (dh n p j i) p (gD j i) pc v).length=22:=by rw [lP,hz]
   rw [eL,eP,eA,ez]
   clear eL eP eA ez y
   have C:=λW (q:Bw w W)=>xW b m f n p j V i W (E 1 ab W q) (E 2 ab W q) (hl 1) (hl 2)
   have hp3:p=0\/p=1\/p=3:=by simpa [bZ,or_assoc] using hp
   have hD:dh n p j i=true->p=0\/p=1:=λe=>by
    rcases hp3 with h|h|h
    ·exact .inl h
    ·exact .inr h
    ·rw [h] at e;cases e
   generalize dh n p j i=D at C hD ⊢
   have HE:∀ W,CB 218 #[.agg (cJ !D),.u (n.getD 0 0),.i p] W (.u (if D=true then mh (n.getD 0 0) (p==1) else mJ (n.getD 0 0) p)):=λW=>by
    cases D with
    | false=>exact Ke _ p hp (hl 0) W
    | true =>
      rcases hD rfl with rfl|rfl
      ·exact FD _ (hl 0) W
      ·exact FF _ (hl 0) W
   have HC:=λW=>xU j V i W
   have fin:∀ (g:Nat) (W:World),Lq w g (!D) W->Wg prog (Lq w g !D) (bodyPost prog Tryz.f165 λe A=>∃ (s:Option Addr) (c:Nat),e=.returned (.tuple #[.slice s 22 c,.i (sV D),.u (ee (n7 n D) j (mS n D i)),.bool true])/\A.ownsRow w.heap.size 22 1 (.slice s 22 c) 22 ((iG n D p (gD j i) pc v).map (Value.int .u64))/\Bw w A) Tryz.f165.ntmps [.code (aq 4 (aL Tryz.f165))] [(0,.slice (some ⟨b,m,none⟩) 22 f,0),(1,.i p,0),(2,.u pc,0),(3,.i j,0),(4,.bool i,0),(5,.u v,0),(16,.p g 0,1)] W:=λg P N=>by
    have c0:=λW (q:Lq w g (!D) W)=>E 0 ab W q.bel
    have cV:∀ W,Lq w g (!D) W->W.cell? ⟨b,m+(if D=true then 10 else 4),none⟩=some (.u (n7 n D)):=λW q=>by cases D;exact E 4 ab W q.bel;exact E 10 ab W q.bel
    have K:=λW=>xV (n7 n D) j V i W
    have eT:iG n D p (gD j i) pc v=(((n.set (if D=true then 13 else 7) (gD j i)).set (if D=true then 12 else 6) (bits .andNot .u64 pc 3)).set (if D=true then 14 else 8) v).set 0 (if D=true then mh (n.getD 0 0) (p==1) else mJ (n.getD 0 0) p):=by cases D<;>rfl
    rw [eT]
    clear eT
    have B:(if D=true then 13 else 7)<22/\(if D=true then 12 else 6)<22/\(if D=true then 14 else 8)<22:=by cases D<;>decide
    generalize X:(if D=true then 13 else 7)=k1 at B ⊢
    generalize Y:(if D=true then 12 else 6)=k2 at B ⊢
    generalize Z:(if D=true then 14 else 8)=k3 at B ⊢
    have eJ:ee (n7 n D) j (i&&(bits .and .u64 (n7 n D) 1==1))=ee (n7 n D) j (mS n D i):=rfl
    rw [eJ] at K
    generalize (if D=true then mh (n.getD 0 0) (p==1) else mJ (n.getD 0 0) p)=st at HE ⊢
    generalize ee (n7 n D) j (mS n D i)=ea at K ⊢
    generalize n7 n D=vv at K cV
    generalize gD j i=tv at HC ⊢
    obtain ⟨r,G,⟨ys,o2⟩,u⟩:=ND P
    refine jh (R:=[]) trivial {} 9 0 G ?_
    have q2:=N.below u
    refine an (R:=[]) trivial {} 6 ?_
    obtain ⟨W3,H,o3,g3⟩:=NE (cap:=f) o2 (hs.below q2.bel) hz 3
    refine dF 0 H ?_
    have v3:=Rj q2 (Array.getElem?_eq_some_iff.1 N.row).1 g3 o3 N.bel.size
    generalize P.heap.size=h at v3 ⊢
    clear q2 o2 u N g3 o3 G H
    cases D<;>(
     refine ae Lv.eng {cv:=[(46,ke λW _=>HC W)]} 60 (dr:=true) v3 λW4 v4=>?_
     refine bM (v4.run k1 B.1 tv) (hx:=by subst X;kernel_rfl) (hS:=λ_=>(v4.put k1 tv).q) ?_
     refine ae Lv.eng {eq:=[(52,dG .u64 (Sy pc))]} 60 (dr:=true) (v4.put k1 tv) λW5 v5=>?_
     refine bM (v5.run k2 B.2.1 (bits .andNot .u64 pc 3)) (hx:=by subst Y;kernel_rfl) ?_
     refine ae Lv.eng {} 60 (dr:=true) (v5.put k2 (bits .andNot .u64 pc 3)) λW6 v6=>?_
     refine bM (v6.run k3 B.2.2 v) (hx:=by subst Z;kernel_rfl) ?_
     refine ae Lv.eng {cv:=[(65,jp (λq a=>q.below a) λW _=>HE W)],ov:=[(63,iL ⟨b,m+0,none⟩ _ underlying22 rfl c0)]} 60 (dr:=true) (v6.put k3 v) λW7 v7=>?_
     refine bM (v7.run 0 bc st) (hS:=λ_=>(v7.put 0 st).q) ?_
     exact lB Lv.eng {cv:=[(77,ke λW _=>K W)],ov:=[(74,iL _ _ underlying22 rfl cV)]} 99 (dr:=true) (v7.put 0 st) λW c v o=>⟨_,lO rfl _ _ _,some ⟨h,0,none⟩,22,by rw [o.slot (v:=.slice (some ⟨h,0,none⟩) 22 22) ba,o.slot (v:=.i (sV _)) ba,o.slot (v:=.u ea) ba,o.slot (v:=.bool true) ba],cG v.own (by have:=v.lo;have:=v.q.lo;omega),v.q.bel⟩)
   refine aS Bs.eng {cv:=[(20,fQ J)],eq:=[(24,ak d),(28,ak L)]} 60 (Bs.start w []) (λW _=>kO W) ?_
   rintro P e r M ⟨rfl,u⟩
   refine ⟨_,0,rfl,gh ba,?_⟩
   refine dF 1 (dD (T:=195) (z:=.agg tV) ba r) ?_
   refine bM (az (g:=r.heap.size) (t:=195) (ty:=195) (old:=tV) (cells:=cJ true) (heap_alloc_new _ _) ba rfl ba) ?_
   have O:Lq w r.heap.size true ((r.alloc (.cells (Value.agg tV).cells 195)).setRow r.heap.size (cJ true)):=⟨setRow_heap _ _ _ _ _ _ (heap_alloc_new _ _),aF ((M.below u).2.alloc (M.below u).2.size _) (M.below u).2.size _,(M.below u).2.size⟩
   generalize r.heap.size=g at O ⊢
   generalize (r.alloc (.cells (Value.agg tV).cells 195)).setRow g (cJ true)=W3 at O ⊢
   refine aH (Lq w g true) ?_
   have C:=λW (q:Lq w g true W)=>C W q.bel
   cases D with
   | false =>
     refine ae Lq.eng {cv:=[(35,jp (λq a=>q.below a) C)]} 12 (dr:=false) O λW q=>?_
     exact af _ _ (fin g W q)
   | true =>
     refine aS Lq.eng {cv:=[(35,jp (λq a=>q.below a) C)]} 30 (dr:=false) O (λW _=>je W) ?_
     rintro W4 e W5 q4 ⟨rfl,b5⟩
     refine ⟨_,0,rfl,gh ba,?_⟩
     have I:=q4.below b5
     refine bM (az (g:=g) (t:=195) (ty:=195) (old:=cJ true) (cells:=cJ false) I.row ba rfl ba) ?_
     have q6:Lq w g false (W5.setRow g (cJ false)):=⟨setRow_heap _ _ _ _ _ _ I.row,aF I.bel I.lo _,I.lo⟩
     refine aH (Lq w g false) ?_
     refine ae Lq.eng {} 1 (dr:=false) q6 λW q=>?_
     exact af _ _ (fin g W q)
end Go.Proofs.YtfagphfjfhpmjaaGreatDoor
