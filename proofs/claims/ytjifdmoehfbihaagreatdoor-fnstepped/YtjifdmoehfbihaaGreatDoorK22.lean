/- Own lemmas. -/
import Derived.Test.YtjifdmoehfbihaaGreatDoorAut
import Derived.Test.YtjifdmoehfbihaaGreatDoorK11
import Derived.Lib.TrailingZeros
set_option maxRecDepth 100000
set_option maxHeartbeats 1600000
namespace Go.Proofs.YtjifdmoehfbihaaGreatDoor
open Go.RowKit Tryz
open IntKind renaming u64->Uz
set_option linter.unusedVariables false
theorem Lg (w:World):CE 289 #[.u 33554432,.i 4] w (.bool true):=by go_enter func289,ntmps289;exact v8
theorem Lh (w:World):CE 289 #[.u 33570816,.i 8] w (.bool true):=by go_enter func289,ntmps289;exact v8
theorem Lj (w:World):CE 289 #[.u 33603576,.i 8] w (.bool true):=by go_enter func289,ntmps289;exact v8
theorem Lk (w:World):CE 289 #[.u 268435456,.i 1] w (.bool true):=by go_enter func289,ntmps289;exact v8
theorem Ll (w:World):CE 289 #[.u 268435457,.i 1] w (.bool true):=by go_enter func289,ntmps289;exact v8
theorem Lm (w:World):CE 289 #[.u 268435461,.i 1] w (.bool true):=by go_enter func289,ntmps289;exact v8
theorem ya (x:Int) (w:World):Calls prog 66 #[.u x,.i 0,.i 1] w λe b=>e=.returned (.u (bits .and .u64 x 1))/\b=w.drew:=by
 go_enter func66,ntmps66;go_wp2_with fail;go_region;all_goals go_wp2_with fail
 all_goals go_ret
 all_goals exact ⟨rfl,rfl⟩
theorem BA (b:Bool) (w:World):CE 286 #[.bool b] w (.u (ge b)):=by
 cases b with
 | false =>go_enter func286,ntmps286;exact v8
 | true =>go_enter func286,ntmps286;exact v8
theorem BC (a:Option Addr) (n c:Nat) (w:World):(binOp .eql 24 (.slice a n c) (.slice none 0 0)).run prog w=.ok (.bool a.isNone) w:=by simp only [binOp];simp [run_equal_slice_nil w 24 5 a n c underlying24]
theorem oT (a:Option Addr) (n c:Nat) (zs:List Int) (w:World) (hz:zs.length=n) (hn:n<=1048576) (f:Sl .u8 w a zs):Calls prog 39 #[.slice a n c] w λe q=>∃ (m:Option Addr) (o:Nat),e=.returned (.slice m n o)/\q.ownsRow w.heap.size 5 1 (.slice m n o) n (zs.map (Value.int .u8))/\Bw w q:=by
 cases a with
 | none =>
   have A:zs=[]:=by
    cases zs with
    | nil=>rfl
    | cons z zs=>obtain ⟨b,C,e,_⟩:=f 0 cp;cases e
   subst A
   simp only [List.length_nil] at hz
   subst hz
   clear f hn
   have d:=BC none 0 c
   simp only [Option.isNone] at d
   go_enter func39,ntmps39
   go_wp2_with fail
   go_ret
   exact ⟨none,0,rfl,⟨rfl,.inl ⟨rfl,rfl⟩⟩,Below.refl _ _⟩
 | some p =>
   have B:=iP w w.heap.size (Nat.le_refl _) (.cells #[] 5 (0,0)) rfl
   have s:Hid (Sl .u8 (w.alloc (.cells #[] 5 (0,0))) (some p) zs):=f.below (bal _ _)
   have l:Hid (zs.length=n/\n<=1048576):=⟨hz,hn⟩
   clear f hz hn
   have d:=BC (some p) n c
   simp only [Option.isNone] at d
   go_enter func39,ntmps39
   go_wp2_with (first
    | (at_builtin;refine gX rfl (.tmp 5) (.tmp 6) rfl w.heap.size _ rfl B (some p) n c zs rfl l.out.1 l.out.2 s.out cp ?_;intro u y D j g;have r:=aD (QQ g rfl);have t:=aD j;clear j g))
   go_ret
   exact ⟨u,y,rfl,t.out,r.out⟩
theorem py (t cm:Int) (z:Bool) (a1:Option Addr) (b c1:Nat) (a2:Option Addr) (d c2:Nat) (y:Int) (xs ys:List Int) (w:World) (hx:xs.length=b) (hy:ys.length=d) (E:b<=1048576) (F:d<=1048576) (G:Sl .u8 w a1 xs) (H:Sl .u8 w a2 ys):Calls prog 89 #[.agg #[.u t,.u cm,.bool z,.slice a1 b c1,.slice a2 d c2,.i y]] w λe c=>∃ (f:Option Addr) (j:Nat) (o:Option Addr) (q:Nat),e=.returned (.agg #[.u t,.u cm,.bool z,.slice f b j,.slice o d q,.i y]) /\ bx w.heap.size c.heap.size c (fO f b j xs o d q ys)/\Bw w c:=by have J:Hid (∀ c,Bw w c->Calls prog 39 #[.slice a1 b c1] c λe m=>∃ (B:Option Addr) (C:Nat),e=.returned (.slice B b C)/\m.ownsRow c.heap.size 5 1 (.slice B b C) b (xs.map (Value.int .u8))/\Bw c m):=λc M=>oT _ _ _ xs c hx E (G.below M);have K:Hid (∀ c,Bw w c->Calls prog 39 #[.slice a2 d c2] c λe m=>∃ (B:Option Addr) (C:Nat),e=.returned (.slice B d C)/\m.ownsRow c.heap.size 5 1 (.slice B d C) d (ys.map (Value.int .u8))/\Bw c m):=λc M=>oT _ _ _ ys c hy F (H.below M);have D:∀ N O,Bw w ((w.alloc N).alloc O):=λN O=>((Below.refl _ _).alloc (Nat.le_refl _) N).alloc cp O;clear G H hx hy E F;go_enter func89,ntmps89;go_wp2_with fail;refine (J.out _ (D _ _)).mono ?_;rintro e Q ⟨f,j,rfl,s,r⟩;obtain ⟨I,r1⟩:=uk r;have U:=aD I;have R1:=aD r1;have B1:=aD (aa (D _ _) r);have R:=r.size;simp only [World.size_alloc] at R s;have Z1:=aD R;have A1:=aD ((bx.nil (w.heap.size+1+1) (w.heap.size+1+1) Q).snoc (aF f b j xs) _ Q.heap.size s (Nat.le_refl _) (Nat.le_refl _) (Nat.le_refl _) ab);obtain ⟨W,X,Y,Z,p4,p5⟩:=gQ I;have f3:=gU I 3;have A:(Q.setCell ⟨w.heap.size,3,none⟩ (.slice f b j)).heap[w.heap.size]?=some (.cells #[.u t,.u cm,.bool z,.slice f b j,.slice a2 d c2,.i y] 30 (0,0)):=bD U.out 3 (.slice f b j);have P:=(gQ A).2.2.2.2.1;have T:=aD (B1.out.setCell (p:=⟨w.heap.size,3,none⟩) (Nat.le_refl _) (.slice f b j));clear I r1 r R s A;go_wp2_with fail;refine (K.out _ T.out).mono ?_;rintro e w2 ⟨o,q,rfl,u,l⟩;have S:=l.size;rw [aO] at S u;have V:Hid (w2.heap[w.heap.size]?=some (.cells #[.u t,.u cm,.bool z,.slice f b j,.slice a2 d c2,.i y] 30 (0,0))):=bA l (bD U.out 3 (.slice f b j));have L:=aD (bA l (gy R1.out ⟨w.heap.size,3,none⟩ (.slice f b j) cb));have B2:=aD (aa T.out l);have A2:=aD (((A1.out.set ⟨w.heap.size,3,none⟩ (.slice f b j) (.inl cb)).below l).snoc (aF o d q ys) _ w2.heap.size u (Nat.le_refl _) (by have:=Z1.out;omega) (Nat.le_refl _) S);clear W X Y Z p4 p5 f3 P;obtain ⟨W,X,Y,Z,p4,p5⟩:=gQ V.out;have f4:=gU V.out 4;obtain ⟨s0,s1,s2,s3,s4,s5⟩:=gQ L.out;obtain ⟨y0,y1,y2,y3,y4,y5⟩:=Al L.out;clear u l S;go_wp2_with fail;have T1:=gy L.out ⟨w.heap.size,4,none⟩ (.slice o d q) cb;have A3:=(A2.out.set ⟨w.heap.size,4,none⟩ (.slice o d q) (.inl cb)).put6 (w.heap.size+1) (.inl ab) (.u t) (.u cm) (.bool z) (.slice f b j) (.slice o d q) (.i y);have B3:=kT (B2.out.setCell (p:=⟨w.heap.size,4,none⟩) (Nat.le_refl _) (.slice o d q)) (g:=w.heap.size+1) ab (.u t) (.u cm) (.bool z) (.slice f b j) (.slice o d q) (.i y);exact bodyPost_ret (results_cell_row results89 _ _ _ _ _ _ _ rfl (nH T1 _ _ _ _ _ _) underlying30 rfl bI) rfl ⟨f,j,o,q,rfl,A3.low ab ob,B3⟩
theorem Ro (t cm:Int) (b:Bool) (a1:Option Addr) (l c1:Nat) (a2:Option Addr) (m c2:Nat) (j:Int) (w:World):CB 291 #[.agg #[.u t,.u cm,.bool b,.slice a1 l c1,.slice a2 m c2,.i j],.u 33554432] w (.u (ge b)):=by have g:∀ o,Bw w (w.alloc o):=λo=>(Below.refl _ _).alloc (Nat.le_refl _) o;have f:Hid (∀ w,CE 286 #[.bool b] w (.u (ge b))):=BA b;generalize ge b=v at *;go_enter func291,ntmps291;go_wp2_with fail;refine (f.out _).mono ?_;rintro e p ⟨rfl,c⟩;subst c;go_wp2_with fail;go_ret;exact ⟨rfl,g _⟩
theorem Rp (t cm:Int) (g:Bool) (a1:Option Addr) (d c1:Nat) (a2:Option Addr) (f c2:Nat) (c:Int) (w:World):CB 291 #[.agg #[.u t,.u cm,.bool g,.slice a1 d c1,.slice a2 f c2,.i c],.u 33570816] w (.u cm):=by have b:∀ o,Bw w (w.alloc o):=λo=>(Below.refl _ _).alloc (Nat.le_refl _) o;go_enter func291,ntmps291;go_wp2_with fail;go_ret;exact ⟨rfl,b _⟩
theorem Rq (t cm:Int) (g:Bool) (a1:Option Addr) (d c1:Nat) (a2:Option Addr) (f c2:Nat) (c:Int) (w:World):CB 291 #[.agg #[.u t,.u cm,.bool g,.slice a1 d c1,.slice a2 f c2,.i c],.u 33603576] w (.u t):=by have b:∀ o,Bw w (w.alloc o):=λo=>(Below.refl _ _).alloc (Nat.le_refl _) o;go_enter func291,ntmps291;go_wp2_with fail;go_ret;exact ⟨rfl,b _⟩
theorem Rt (t cm:Int) (g:Bool) (a1:Option Addr) (d c1:Nat) (a2:Option Addr) (f c2:Nat) (b:Int) (w:World):CB 291 #[.agg #[.u t,.u cm,.bool g,.slice a1 d c1,.slice a2 f c2,.i b],.u 268435457] w (.u (Uz.wrap b)):=by have c:∀ o,Bw w (w.alloc o):=λo=>(Below.refl _ _).alloc (Nat.le_refl _) o;go_enter func291,ntmps291;go_wp2_with fail;go_ret;exact ⟨rfl,c _⟩
theorem Rv (t cm:Int) (j:Bool) (a1:Option Addr) (b c1:Nat) (a2:Option Addr) (g c2:Nat) (f:Int) (w:World):CB 291 #[.agg #[.u t,.u cm,.bool j,.slice a1 b c1,.slice a2 g c2,.i f],.u 268435461] w (.u (Uz.wrap (32+ge (decide (0<b))))):=by
 have d:∀ o,Bw w (w.alloc o):=λo=>(Below.refl _ _).alloc (Nat.le_refl _) o;rcases Nat.eq_zero_or_pos b with c | c;·subst c;go_enter func291,ntmps291;go_wp2_with fail;go_ret;exact ⟨rfl,d _⟩
 ·have F:Hid (Uz.wrap (32+ge (decide (0<b)))=33):=(by show _=_;rw [decide_eq_true c];rfl);generalize Uz.wrap (32+ge (decide (0<b)))=v at *;have m:decide (0<b)=true:=bh;clear c;go_enter func291,ntmps291;go_wp2_with fail;go_ret;exact ⟨bc,d _⟩
theorem Gh {b c:Nat} {a:Int} (h:nD b c a=true):b<=16/\c<=4096/\0<=a/\a<=1:=by unfold nD at h;simp only [Bool.and_eq_true,decide_eq_true_eq] at h;exact ⟨h.1.1,h.1.2,h.2.1,h.2.2⟩
theorem Ln (v:Int) (a:0<=v) (b:v<=255):Uz.wrap v=v:=by simp [IntKind.wrap,IntKind.signed,IntKind.bits];omega
def qV (w:World):Prop:=∀ j,j<64->w.cell? ⟨0,j,none⟩=some (.int .u8 (Lib.deBruijn64tab.getD j 0))
theorem qV.lt {w:World} (h:qV w):0<w.heap.size:=World.block_lt_of_cell? _ _ (h 0 ab)
theorem qV.from {w w':World} {n:Nat} (h:qV w) (hb:Below n w w') (hn:0<n):qV w':=λj a=>(hb.cell (p:=⟨0,j,none⟩) hn).trans (h j a)
theorem qV.below {w w':World} (h:qV w) (hb:Bw w w'):qV w':=h.from hb h.lt
theorem Rx (x a:Nat) (hx:x<18446744073709551616) (d:x≠0) (b:x &&& (18446744073709551616-x)=a):Uz.wrap (bits BinOp.and IntKind.u64 (x:Int) (Uz.wrap (-(x:Int)))*285870213051353865)/288230376151711744=((a*285870213051353865%18446744073709551616/288230376151711744:Nat):Int):=by
 have c:Uz.wrap (-(x:Int))=((18446744073709551616-x:Nat):Int):=by rw [IntKind.wrap_u64];omega
 rw [c,bits_and_u64_nat x _ hx ab,b,IntKind.wrap_u64];omega
theorem OE (x k b:Nat) (w:World) (d:((x:Int)==0)=false) (key:Uz.wrap (bits BinOp.and IntKind.u64 (x:Int) (Uz.wrap (-(x:Int)))*285870213051353865)/288230376151711744=(b:Int)) (g:b<64) (hk:k<64) (c:w.cell? ⟨0,b,none⟩=some (.int .u8 k)):CE 223 #[.u x] w (.i k):=by go_enter func223,ntmps223;go_wp2_with (simp only [key]);go_ret;exact a06
theorem OF (w:World):CE 223 #[.u 0] w (.i 64):=by go_enter func223,ntmps223;exact vo
theorem Ry (x:Nat) (hx:x<18446744073709551616) (w:World) (h:qV w):CE 223 #[.u x] w (.i (Lib.ctz 64 x)):=by
 by_cases b:x=0;·subst b;exact OF w
 ·obtain ⟨c,g⟩:=Lib.lowest_bit 64 x b hx;obtain ⟨f,d⟩:=Lib.deBruijn64_at _ g;have a:=h _ f;rw [d] at a;exact OE x _ _ w bh (Rx x _ hx b c) f g a
theorem OG (D:DV) (k:Nat):(jc D k).2.1.xs.length<=D.xs.length/\(jc D k).2.1.ys.length<=D.ys.length:=by
 unfold jc;split;all_goals first
  | exact ⟨Nat.le_refl _,Nat.le_refl _⟩
  | (refine ⟨?_,Nat.le_refl _⟩;dsimp only;rw [List.length_drop];omega)
  | exact ⟨Nat.zero_le _,Nat.zero_le _⟩
theorem Gi (D:DV) (x:Int) (a:D.xs.length<=1048576) (d:D.ys.length<=4096):∀ k:Nat,(fI D x k).1.xs.length<=1048576/\(fI D x k).1.ys.length<=1048576:=by
 intro k;have b:D.ys.length<=1048576:=ab
 match k with
 | 0=>simp only [fI];exact ⟨a,b⟩
 | 1=>simp only [fI];exact ⟨a,b⟩
 | 2=>simp only [fI];exact ⟨a,b⟩
 | 3 =>
   simp only [fI];refine ⟨a,?_⟩;by_cases c:D.ys.length<4096;·rw [if_pos c,List.length_append,List.length_singleton];omega
   ·rw [if_neg c];exact b
 | 4=>simp only [fI];exact ⟨a,b⟩
 | 5=>simp only [fI];exact ⟨a,b⟩
 | k+6=>simp only [fI,zeroD];exact ⟨Nat.zero_le _,Nat.zero_le _⟩
inductive MF where | second | sum | xor | and | or | smin | smax | umin | umax
deriving DecidableEq
def MF.v:MF->Int->Int->Int
 | .second,a,b=>b
 | .sum,a,b=>Uz.wrap (a+b)
 | .xor,a,b=>bits .xor .u64 a b
 | .and,a,b=>bits .and .u64 a b
 | .or,a,b=>bits .or .u64 a b
 | .smin,a,b=>if wrap64 b<wrap64 a then b else a
 | .smax,a,b=>if wrap64 a<wrap64 b then b else a
 | .umin,a,b=>if b<a then b else a
 | .umax,a,b=>if a<b then b else a
def OH:List MF:=[.second,.sum,.xor,.and,.or,.smin,.smax,.umin,.umax]
def mi (k:Nat):MF:=OH.getD k .second
def rE (op:Int):Bool:=decide (65<=op/\op<=73)||decide (76<=op/\op<=84)
def iI (op a b:Int):Int :=
 if 76<=op/\op<=84 then (mi (op-76).toNat).v a b
 else if 65<=op/\op<=73 then (mi (op-65).toNat).v (ap 32 a) (ap 32 b)%4294967296 else 0
theorem kg {a:Int} (b:0<=a) (a1:a<18446744073709551616):Uz.wrap (wrap64 a)=a:=by rw [IntKind.wrap_u64];unfold wrap64;omega
theorem Em {a b:Int} (c:0<=a) (a1:a<18446744073709551616) (d:0<=b) (e:b<18446744073709551616) (h:wrap64 a=wrap64 b):a=b:=by unfold wrap64 at h;omega
theorem vu {u:Int} (a:0<=u) (b:u<18446744073709551616):ap 64 u=u:=by
 have e:(2:Int)^(64-64)=1:=bb
 unfold ap;rw [e,IntKind.wrap_u64,IntKind.wrap_u64];unfold wrap64;omega
theorem vy {u:Int} (a:0<=u) (b:u<18446744073709551616):bits .and .u64 u 18446744073709551615=u:=by obtain ⟨n,rfl⟩:=Int.eq_ofNat_of_zero_le a;have h:=u64_and_nat n 18446744073709551615 ab ab;have e:n &&& 18446744073709551615=n%18446744073709551616:=Nat.and_two_pow_sub_one_eq_mod n 64;rw [e] at h;refine Eq.trans h ?_;omega
theorem fi (x:Int):ap 32 x%4294967296=x%4294967296:=by rw [lT];split<;>omega
theorem ou (x:Int):ap 32 (x%4294967296)=ap 32 x:=j8 ab
theorem OI {a b:Int} (c:0<=a) (a1:a<18446744073709551616) (d:0<=b) (i:b<18446744073709551616):bits .xor .u64 a b%4294967296=bits .xor .u64 (a%4294967296) (b%4294967296):=by
 obtain ⟨n,rfl⟩:=Int.eq_ofNat_of_zero_le c;obtain ⟨m,rfl⟩:=Int.eq_ofNat_of_zero_le d;have h:=u64_xor_nat n m ab ab;have g:=u64_xor_nat (n%4294967296) (m%4294967296) ab ab;have e:=@Nat.xor_mod_two_pow n m 32;have f:((n:Int)%4294967296)=((n%4294967296:Nat):Int):=ab
 have e2:((m:Int)%4294967296)=((m%4294967296:Nat):Int):=ab
 rw [h,f,e2,g];have e3:(n ^^^ m)%4294967296=n%4294967296 ^^^ m%4294967296:=e;rw [<- e3];omega
theorem OJ {a b:Int} (c:0<=a) (a1:a<18446744073709551616) (d:0<=b) (i:b<18446744073709551616):bits .and .u64 a b%4294967296=bits .and .u64 (a%4294967296) (b%4294967296):=by
 obtain ⟨n,rfl⟩:=Int.eq_ofNat_of_zero_le c;obtain ⟨m,rfl⟩:=Int.eq_ofNat_of_zero_le d;have h:=u64_and_nat n m ab ab;have g:=u64_and_nat (n%4294967296) (m%4294967296) ab ab;have e:=@Nat.and_mod_two_pow n m 32;have f:((n:Int)%4294967296)=((n%4294967296:Nat):Int):=ab
 have e2:((m:Int)%4294967296)=((m%4294967296:Nat):Int):=ab
 rw [h,f,e2,g];have e3:(n &&& m)%4294967296=n%4294967296 &&& m%4294967296:=e;rw [<- e3];omega
theorem RC {a b:Int} (c:0<=a) (a1:a<18446744073709551616) (d:0<=b) (i:b<18446744073709551616):bits .or .u64 a b%4294967296=bits .or .u64 (a%4294967296) (b%4294967296):=by
 obtain ⟨n,rfl⟩:=Int.eq_ofNat_of_zero_le c;obtain ⟨m,rfl⟩:=Int.eq_ofNat_of_zero_le d;have h:=u64_or_nat n m ab ab;have g:=u64_or_nat (n%4294967296) (m%4294967296) ab ab;have e:=@Nat.or_mod_two_pow n m 32;have f:((n:Int)%4294967296)=((n%4294967296:Nat):Int):=ab
 have e2:((m:Int)%4294967296)=((m%4294967296:Nat):Int):=ab
 rw [h,f,e2,g];have e3:(n ||| m)%4294967296=n%4294967296 ||| m%4294967296:=e
 rw [<- e3];omega
theorem vz (a b:Int):ap 32 a<ap 32 b↔a%4294967296<b%4294967296:=by rw [lT,lT];split<;>split<;>omega
theorem BF {k:Nat} (hk:k<9) (a b:Int):iI ((k:Int)+76) a b=(mi k).v a b:=by
 have e:((k:Int)+76-76).toNat=k:=ab
 simp only [iI,e];rw [if_pos ab]
theorem Gj {k:Nat} (hk:k<9) (a b:Int):iI ((k:Int)+65) a b=(mi k).v (ap 32 a) (ap 32 b)%4294967296:=by
 have e:((k:Int)+65-65).toNat=k:=ab
 simp only [iI,e];rw [if_neg ab,if_pos ab]
theorem En (a b:Int):MF.second.v (ap 32 a) (ap 32 b)%4294967296=b%4294967296:=fi b
theorem OK (a b:Int):MF.sum.v (ap 32 a) (ap 32 b)%4294967296=Uz.wrap (a%4294967296+b%4294967296)%4294967296:=by have c:=fi a;have d:=fi b;simp only [MF.v,jH];omega
theorem Lo (a b:Int):MF.xor.v (ap 32 a) (ap 32 b)%4294967296=bits .xor .u64 (a%4294967296) (b%4294967296):=by have h:=OI (bf a).1 (bf a).2 (bf b).1 (bf b).2;rw [fi,fi] at h;exact h
theorem Lp (a b:Int):MF.and.v (ap 32 a) (ap 32 b)%4294967296=bits .and .u64 (a%4294967296) (b%4294967296):=by have h:=OJ (bf a).1 (bf a).2 (bf b).1 (bf b).2;rw [fi,fi] at h;exact h
theorem OL (a b:Int):MF.or.v (ap 32 a) (ap 32 b)%4294967296=bits .or .u64 (a%4294967296) (b%4294967296):=by have h:=RC (bf a).1 (bf a).2 (bf b).1 (bf b).2;rw [fi,fi] at h;exact h
theorem qC (a b:Int) (c:Prop) [Decidable c]:(if c then ap 32 b else ap 32 a)%4294967296=if c then b%4294967296 else a%4294967296:=by split<;>exact fi _
theorem MF.pos (f:MF) {a b:Int} (d:0<=a) (a1:a<18446744073709551616) (c:0<=b) (e:b<18446744073709551616):0<=f.v a b:=by
 cases f with
 | second=>exact c
 | sum=>simp only [MF.v];rw [IntKind.wrap_u64];omega
 | xor =>obtain ⟨n,rfl⟩:=Int.eq_ofNat_of_zero_le d;obtain ⟨m,rfl⟩:=Int.eq_ofNat_of_zero_le c;simp only [MF.v];rw [u64_xor_nat n m ab ab];omega
 | and =>obtain ⟨n,rfl⟩:=Int.eq_ofNat_of_zero_le d;obtain ⟨m,rfl⟩:=Int.eq_ofNat_of_zero_le c;simp only [MF.v];rw [u64_and_nat n m ab ab];omega
 | or =>obtain ⟨n,rfl⟩:=Int.eq_ofNat_of_zero_le d;obtain ⟨m,rfl⟩:=Int.eq_ofNat_of_zero_le c;simp only [MF.v];rw [u64_or_nat n m ab ab];omega
 | smin=>simp only [MF.v];split<;>assumption
 | smax=>simp only [MF.v];split<;>assumption
 | umin=>simp only [MF.v];split<;>assumption
 | umax=>simp only [MF.v];split<;>assumption
theorem BG {op:Int} (h:rE op=false) (a b:Int):iI op a b=0:=by
 have c:¬ (65<=op/\op<=73)/\¬ (76<=op/\op<=84):=by simpa [rE] using h
 simp only [iI];rw [if_neg c.2,if_neg c.1]
theorem yb {op:Int} (h:rE op=true):∃ k:Nat,k<9/\(op=(k:Int)+76\/op=(k:Int)+65):=by
 have a:(65<=op/\op<=73)\/(76<=op/\op<=84):=by simpa [rE] using h
 rcases a with a|a;·exact ⟨(op-65).toNat,ab,Or.inr ab⟩
 ·exact ⟨(op-76).toNat,ab,Or.inl ab⟩
/- The nine,as the model picks: of words,and of low halves. -/
theorem Gk {a b:Int} (c:0<=a) (a1:a<18446744073709551616) (d:0<=b) (e:b<18446744073709551616):MF.smin.v a b=if wrap64 a<wrap64 b then a else b:=by
 simp only [MF.v];split<;>split;·omega
 ·rfl
 ·rfl
 ·exact Em c a1 d e ab
theorem Gl (a b:Int):MF.umin.v a b=if a<b then a else b:=by simp only [MF.v];split<;>split<;>omega
theorem Lr (a b:Int):MF.smin.v (ap 32 a) (ap 32 b)%4294967296=if wrap64 (ap 32 a)<wrap64 (ap 32 b) then a%4294967296 else b%4294967296:=by rw [Gk (bf a).1 (bf a).2 (bf b).1 (bf b).2];exact qC b a _
theorem Ls (a b:Int):MF.smax.v (ap 32 a) (ap 32 b)%4294967296=if wrap64 (ap 32 a)<wrap64 (ap 32 b) then b%4294967296 else a%4294967296:=qC a b _
theorem Lt (a b:Int):MF.umin.v (ap 32 a) (ap 32 b)%4294967296=if a%4294967296<b%4294967296 then a%4294967296 else b%4294967296:=by rw [Gl,qC b a];simp only [vz]
theorem Lu (a b:Int):MF.umax.v (ap 32 a) (ap 32 b)%4294967296=if a%4294967296<b%4294967296 then b%4294967296 else a%4294967296:=by rw [show MF.umax.v (ap 32 a) (ap 32 b)=if ap 32 a<ap 32 b then ap 32 b else ap 32 a from rfl,qC a b];simp only [vz]
theorem bx.pushIn {B E:Nat} {w w':World} {a1:Option Addr} {l c1:Nat} {xs:List Int} {a2:Option Addr} {d c2:Nat} {ys:List Int} (h:bx B E w (fO a1 l c1 xs a2 d c2 ys)) (p:E<=w.heap.size) (n:w.grownBy w' (Value.slice a1 l c1).ownBlock) {f:Option Addr} {m g:Nat} {zs:List Int} (o:w'.ownsRow B 5 1 (.slice f m g) m (zs.map (Value.int .u8))) (c:(Value.slice f m g).ownBlock=(Value.slice a1 l c1).ownBlock\/(Value.slice f m g).ownBlock=some w.heap.size):bx B w'.heap.size w' (fO f m g zs a2 d c2 ys):=by
 have b:=(List.pairwise_cons.1 h.ne).1 (aF a2 d c2 ys) (List.mem_singleton.2 rfl);have i:=h.own (aF a2 d c2 ys) tk;have j:=h.hi (aF a2 d c2 ys) tk;refine ⟨λr a=>?_,λr a k e=>?_,List.pairwise_cons.2 ⟨λr a k e e2=>?_,List.pairwise_singleton _ _⟩⟩
 ·rcases List.mem_cons.1 a with rfl|a;·exact o
  ·rw [List.mem_singleton.1 a];exact fH i (λk e=>n.block k (i.lt k e).2 (λe2=>b k e2.symm e))
 ·rcases List.mem_cons.1 a with rfl|a;·exact (o.lt k e).2
  ·rw [List.mem_singleton.1 a] at e;have:=(i.lt k e).2;have:=n.size;omega
 ·rw [List.mem_singleton.1 a] at e2;rcases c with c|c;·exact b k (c.symm.trans e) e2
  ·have e3:some w.heap.size=some k:=c.symm.trans e;cases e3;have:=j _ e2;omega
end Go.Proofs.YtjifdmoehfbihaaGreatDoor
