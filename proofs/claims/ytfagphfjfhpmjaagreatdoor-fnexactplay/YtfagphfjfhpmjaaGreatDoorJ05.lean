/- Own lemmas. -/
import Derived.Test.YtfagphfjfhpmjaaGreatDoorAuj
import Derived.Test.YtfagphfjfhpmjaaGreatDoorJ02
import Derived.Great.BuildSlice
import Derived.Lib.Mul64
set_option maxRecDepth 100000
set_option maxHeartbeats 4000000
namespace Go.Proofs.YtfagphfjfhpmjaaGreatDoor
open Go.RowKit Tryz
set_option linter.unusedVariables false
variable {w:World} {x b:Nat} {t g:Obj} {l:List Int} {c:Int} {j:TypeId} {d:Value} {f:List Value} (m o:Int) (p:Bool) (a:Option Addr) (n B:Nat) (A:List Int) (r:Option Addr) (s y:Nat) (z C:Int) (W:World) (e:Int)
theorem um:CE 120 #[.bool p] W (.u (gv p)):=by
 cases p with
 | false =>go_enter func120,ntmps120;exact a01
 | true =>go_enter func120,ntmps120;exact a01
theorem PJ:CE 61 #[.i m,.i 0,.i 1] W (.bool (decide (0<=m/\m<=1))):=by
 by_cases b:0<=m
 ·by_cases c:m<=1;·have F:Hid (decide (0<=m/\m<=1)=true):=(by show decide (0<=m/\m<=1)=true;simp [b,c]);have d:decide (0<=m)=true:=i6;have f:decide (m<=1)=true:=ta;clear b c;generalize decide (0<=m/\m<=1)=v at *;go_enter func61,ntmps61;go_wp2;go_ret;exact ⟨a7,rfl⟩
  ·have F:Hid (decide (0<=m/\m<=1)=false):=(by show _=false;simp;omega);have d:decide (0<=m)=true:=i6;have f:decide (m<=1)=false:=ta;clear b c;generalize decide (0<=m/\m<=1)=v at *;exact a03
 ·have F:Hid (decide (0<=m/\m<=1)=false):=(by show _=false;simp;omega);have d:decide (0<=m)=false:=i6;clear b;generalize decide (0<=m/\m<=1)=v at *;exact a03
theorem mi (t cm:Int) (E:Bool) (y:Option Addr) (c A:Nat) (z:Option Addr) (d B:Nat) (b:Int) (w:World) (f:c<=1048576) (g:d<=1048576):CB 70 #[.agg #[.u t,.u cm,.bool E,.slice y c A,.slice z d B,.i b]] w (.bool (kP c d b)):=by
 have u:Hid (∀ w,CE 61 #[.i b,.i 0,.i 1] w (.bool (decide (0<=b/\b<=1)))):=PJ b;have p:∀ o,Bw w (w.alloc o):=λo=>(Below.refl _ _).alloc (Nat.le_refl _) o;have F:kP c d b=(decide (c<=16)&&decide (d<=4096)&&decide (0<=b/\b<=1)):=rfl;generalize kP c d b=v at *;generalize decide (0<=b/\b<=1)=q at *;by_cases j:c<=16
 ·have C:decide ((c:Int)<=16)=true:=a8;by_cases m:d<=4096;·have D:decide ((d:Int)<=4096)=true:=a8;have l:Hid (v=q):=(by show v=q;rw [F,decide_eq_true j,decide_eq_true m];rfl);clear F j m f g;go_enter func70,ntmps70;go_wp2_with fail;refine (u.out _).mono ?_;rintro e G ⟨rfl,r⟩;subst r;go_wp2_with fail;go_ret;exact ⟨by rw [l.out];rfl,p _⟩
  ·have D:decide ((d:Int)<=4096)=false:=a8;have l:Hid (v=false):=(by show v=_;rw [F,decide_eq_true j,decide_eq_false m];rfl);clear F j m f g;go_enter func70,ntmps70;go_wp2_with fail;go_ret;exact ⟨by rw [l.out];rfl,p _⟩
 ·have C:decide ((c:Int)<=16)=false:=a8;have l:Hid (v=false):=(by show v=_;rw [F,decide_eq_false j];rfl);clear F j f g;go_enter func70,ntmps70;go_wp2_with fail;go_ret;exact ⟨by rw [l.out];rfl,p _⟩
theorem ah (h:w.heap[x]?=some t) (a:Obj):(w.alloc a).heap[x]?=some t:=(Below.heap_alloc w a x (Array.getElem?_eq_some_iff.1 h).1).trans h
theorem MU {w w1:World} {o1 o2 o3:Obj} (a:(((w.alloc o1).alloc o2).alloc o3).grownBy w1 (some (w.heap.size+1+1))):w1.heap[w.heap.size]?=some o1/\w1.heap[w.heap.size+1]?=some o2/\Bw w w1/\w.heap.size+1+1+1<=w1.heap.size:=by obtain ⟨c,d,_⟩:=EP (w:=w) (o1:=o1) (o2:=o2) (o3:=o3) (Below.refl _ (((w.alloc o1).alloc o2).alloc o3));have b:=a.size;simp only [World.size_alloc] at b;refine ⟨(a.block _ bv a8).trans c,(a.block _ bv bc).trans d,?_,b⟩;exact Below.grown ((((Below.refl _ _).alloc (Nat.le_refl _) o1).alloc bc o2).alloc a8 o3) a bv (λk e=>by simp at e;omega)
theorem PK {w1:World} (a:(w.alloc t).grownBy w1 (some x)) (b:x=w.heap.size):Bw w w1:=by subst b;exact Below.grown ((Below.refl _ _).alloc (Nat.le_refl _) t) a bc (λk c=>by simp at c;omega)
theorem pG (u:Bool) (A:Option Addr) (b T:Nat) (r:Option Addr) (c B:Nat) (s:Int) (xs ys:List Int) (w:World) (hx:xs.length=b) (hy:ys.length=c) (H:b<=1048576) (I:c<=1048576) (J:Sl .u8 w A xs) (K:Sl .u8 w r ys): Calls prog 88 #[.agg #[.u m,.u o,.bool u,.slice A b T,.slice r c B,.i s]] w λe l=>∃ (d:Option Addr) (f:Nat) (t:Option Addr) (q:Nat),e=.returned (.agg #[.u m,.u o,.bool u,.slice d b f,.slice t c q,.i s]) /\ aZ w.heap.size l.heap.size l (fC d b f xs t c q ys)/\Bw w l:=by
 have E:∀ V W,Bw w ((w.alloc V).alloc W):=λV W=>((Below.refl _ _).alloc (Nat.le_refl _) V).alloc bc W
 have hE:=jL ((w.alloc (.cells #[.u m,.u o,.bool u,.slice A b T,.slice r c B,.i s] 30)).alloc (.cells #[.u 0,.u 0,.bool false,.slice none 0 0,.slice none 0 0,.i 0] 30)) (w.heap.size+1+1) bc (.cells #[] 5 (0,0)) rfl
 rw [World.size_alloc,World.size_alloc] at hE
 have Q:Hid (∀ l,Bw w l->Sl .u8 l A xs):=λl U=>J.below U
 have R:Hid (∀ l,Bw w l->Sl .u8 l r ys):=λl U=>K.below U
 have N:Hid (xs.length=b/\ys.length=c/\b<=1048576/\c<=1048576):=⟨hx,hy,H,I⟩
 clear J K hx hy H I
 go_enter func88,ntmps88
 go_wp2_with (first
  | (at_builtin;refine io rfl (.tmp 3) (.tmp 5) rfl (w.heap.size+1+1) _ rfl hE A b T xs rfl N.out.1 N.out.2.2.1 (Q.out _ ((E _ _).alloc (E _ _).size _)) bc ?_;intro d f y L C;obtain ⟨O,r1,G,z1⟩:=MU C;have Z:=ak O;have R1:=ak r1;have P:=ak G;have Z1:=ak z1;have A1:=ak ((aZ.nil (w.heap.size+1+1) (w.heap.size+1+1) y).snoc (aw d b f xs) _ y.heap.size L (Nat.le_refl _) (Nat.le_refl _) (Nat.le_refl _) ab);obtain ⟨p0,p1,p2,p3,p4,p5⟩:=aH O;have f3:=dh O 3;have F:=jL (y.setCell ⟨w.heap.size,3,none⟩ (.slice d b f)) y.heap.size ep (.cells #[] 5 (0,0)) rfl;rw [aO] at F;have z:(y.setCell ⟨w.heap.size,3,none⟩ (.slice d b f)).heap[w.heap.size]?=some (.cells #[.u m,.u o,.bool u,.slice d b f,.slice r c B,.i s] 30 (0,0)):=bC Z.out 3 (.slice d b f);have X:=λcm=>(aH (ah z cm)).2.2.2.2.1;clear O r1 G z1 L C z)
  | (at_builtin;refine io rfl (.tmp 8) (.tmp 10) rfl y.heap.size _ rfl F r c B ys rfl N.out.2.1 N.out.2.2.2 (R.out _ ((P.out.setCell (p:=⟨w.heap.size,3,none⟩) (Nat.le_refl _) _).alloc (P.out.setCell (p:=⟨w.heap.size,3,none⟩) (Nat.le_refl _) _).size _)) (by rw [World.size_alloc,aO];omega) ?_;intro t q w2 M D;have j:=PK D (by rw [aO]);have Y:=j.size;have S0:Hid (w2.heap[w.heap.size]?=some (.cells #[.u m,.u o,.bool u,.slice d b f,.slice r c B,.i s] 30 (0,0))):=aB j (bC Z.out 3 (.slice d b f));have S:=ak (aB j (dS R1.out ⟨w.heap.size,3,none⟩ (.slice d b f) a9));have B2:=ak (aa (P.out.setCell (p:=⟨w.heap.size,3,none⟩) (Nat.le_refl _) (.slice d b f)) j);rw [aO] at Y;have A2:=ak (((A1.out.set ⟨w.heap.size,3,none⟩ (.slice d b f) (.inl a9)).below j).snoc (aw t c q ys) _ w2.heap.size M (Nat.le_refl _) (by have:=Z1.out;omega) (Nat.le_refl _) Y);clear p0 p1 p2 p3 p4 p5 f3 X;obtain ⟨p0,p1,p2,p3,p4,p5⟩:=aH S0.out;have f4:=dh S0.out 4;obtain ⟨s0,s1,s2,s3,s4,s5⟩:=aH S.out;obtain ⟨y0,y1,y2,y3,y4,y5⟩:=kY S.out;clear M D j Y))
 have T1:=dS S.out ⟨w.heap.size,4,none⟩ (.slice t c q) a9
 have A3:=(A2.out.set ⟨w.heap.size,4,none⟩ (.slice t c q) (.inl a9)).put6 (w.heap.size+1) (.inl ab) (.u m) (.u o) (.bool u) (.slice d b f) (.slice t c q) (.i s)
 have B3:=cK (B2.out.setCell (p:=⟨w.heap.size,4,none⟩) (Nat.le_refl _) (.slice t c q)) (g:=w.heap.size+1) ab (.u m) (.u o) (.bool u) (.slice d b f) (.slice t c q) (.i s)
 exact bodyPost_ret (results_cell_row results88 _ _ _ _ _ _ _ rfl (eH T1 _ _ _ _ _ _) underlying30 rfl aT) rfl ⟨d,f,t,q,rfl,A3.low ab eh,B3⟩
theorem Av (h:w.heap[x]?=some t):w.drew.heap[x]?=some t:=h
theorem xk:((w.alloc t).alloc g).drew.heap[w.heap.size+1]?=some g:=(jH (w:=w) (o1:=t) (o2:=g) (Below.refl _ ((w.alloc t).alloc g))).2
theorem jl:((w.alloc t).alloc g).heap[w.heap.size+1]?=some g:=(jH (w:=w) (o1:=t) (o2:=g) (Below.refl _ ((w.alloc t).alloc g))).2
theorem oO:Bw w ((w.alloc t).alloc g).drew:=(((Below.refl _ _).alloc (Nat.le_refl _) t).alloc bc g).drew
theorem dU:Bw w ((w.alloc t).alloc g):=((Below.refl _ _).alloc (Nat.le_refl _) t).alloc bc g
theorem JA: CB 138 #[.agg #[.u m,.u o,.bool p,.slice a n B,.slice r s y,.i z],.u 33554432,.i 4] W (.tuple #[.u (gv p),.agg #[.u m,.u o,.bool p,.slice a n B,.slice r s y,.i z],.bool true]):=by
 have q:Hid (∀ W,CE 120 #[.bool p] W (.u (gv p))):=um p;generalize gv p=v at *;go_enter func138,ntmps138;go_wp2_with fail;go_region_with (first | (go_at_call 120;with_reducible refine (q.out _).mono ?_;rintro e f ⟨rfl,c⟩;subst c));all_goals go_wp2_with fail
 all_goals exact bodyPost_ret (bF results138 _ _ _ _ _ _ _ rfl xk underlying30 rfl aT) rfl ⟨rfl,oO⟩
theorem JB: CB 138 #[.agg #[.u m,.u o,.bool p,.slice a n B,.slice r s y,.i z],.u 33570816,.i 8] W (.tuple #[.u o,.agg #[.u m,.u o,.bool p,.slice a n B,.slice r s y,.i z],.bool true]):=by go_enter func138,ntmps138;go_wp2_with fail;go_region;exact a04
theorem JC: CB 138 #[.agg #[.u m,.u o,.bool p,.slice a n B,.slice r s y,.i z],.u 33603576,.i 8] W (.tuple #[.u m,.agg #[.u m,.u o,.bool p,.slice a n B,.slice r s y,.i z],.bool true]):=by go_enter func138,ntmps138;go_wp2_with fail;go_region;exact a04
theorem GJ: CB 138 #[.agg #[.u m,.u o,.bool p,.slice a 0 n,.slice r s y,.i z],.u 268435456,.i 1] W (.tuple #[.u 0,.agg #[.u m,.u o,.bool p,.slice a 0 n,.slice r s y,.i z],.bool true]):=by go_enter func138,ntmps138;go_wp2_with fail;go_region;exact a04
theorem JD: CB 138 #[.agg #[.u m,.u o,.bool p,.slice a n B,.slice r s y,.i z],.u 268435457,.i 1] W (.tuple #[.u (IntKind.u64.wrap z),.agg #[.u m,.u o,.bool p,.slice a n B,.slice r s y,.i z],.bool true]):=by go_enter func138,ntmps138;go_wp2_with fail;go_region;exact a04
theorem JE (c:n<=1048576) (w:World): CB 138 #[.agg #[.u m,.u o,.bool p,.slice a n B,.slice r s y,.i z],.u 268435461,.i 1] w (.tuple #[.u (IntKind.u64.wrap (32+gv (decide (0<n)))),.agg #[.u m,.u o,.bool p,.slice a n B,.slice r s y,.i z],.bool true]):=by
 have g:Hid (∀ w,CE 120 #[.bool (decide (0<n))] w (.u (gv (decide (0<n))))):=um _;generalize gv (decide (0<n))=v at *;clear c;go_enter func138,ntmps138;go_wp2_with fail;go_region_with (first | (go_at_call 120;with_reducible refine (g.out _).mono ?_;rintro e b ⟨rfl,d⟩;subst d));all_goals go_wp2_with fail
 all_goals exact bodyPost_ret (bF results138 _ _ _ _ _ _ _ rfl xk underlying30 rfl aT) rfl ⟨rfl,oO⟩
theorem JF (t cm:Int) (C:Bool) (r:Option Addr) (A u:Nat) (s:Option Addr) (B y:Nat) (z:Int) (addr size:Int) (b:addr=33554432->¬ size=4) (k1:addr=33570816->¬ size=8) (c:addr=33603576->¬ size=8) (d:addr=268435456->¬ size=1) (f:addr=268435457->¬ size=1) (g:addr=268435461->¬ size=1) (w:World):CB 138 #[.agg #[.u t,.u cm,.bool C,.slice r A u,.slice s B y,.i z],.u addr,.i size] w (.tuple #[.u 0,.agg #[.u 0,.u 0,.bool false,.slice none 0 0,.slice none 0 0,.i 0],.bool false]):=by
 by_cases j:addr=33554432;·have E:(size==4)=false:=(by simpa using b j);subst j;clear b k1 c d f g;go_enter func138,ntmps138;go_wp2_with fail;exact bodyPost_ret (bF results138 _ _ _ _ _ _ _ rfl jl underlying30 rfl aT) rfl ⟨rfl,dU⟩
 ·have t0:(addr==33554432)=false:=(by simpa using j);by_cases l:addr=33570816;·have F:(size==8)=false:=(by simpa using k1 l);subst l;clear b k1 c d f g;go_enter func138,ntmps138;go_wp2_with fail;exact bodyPost_ret (bF results138 _ _ _ _ _ _ _ rfl jl underlying30 rfl aT) rfl ⟨rfl,dU⟩
  ·have K:(addr==33570816)=false:=(by simpa using l);by_cases m:addr=33603576;·have G:(size==8)=false:=(by simpa using c m);subst m;clear b k1 c d f g;go_enter func138,ntmps138;go_wp2_with fail;exact bodyPost_ret (bF results138 _ _ _ _ _ _ _ rfl jl underlying30 rfl aT) rfl ⟨rfl,dU⟩
   ·have L:(addr==33603576)=false:=(by simpa using m);by_cases o:addr=268435456;·have H:(size==1)=false:=(by simpa using d o);subst o;clear b k1 c d f g;go_enter func138,ntmps138;go_wp2_with fail;exact bodyPost_ret (bF results138 _ _ _ _ _ _ _ rfl jl underlying30 rfl aT) rfl ⟨rfl,dU⟩
    ·have M:(addr==268435456)=false:=(by simpa using o);by_cases p:addr=268435457;·have I:(size==1)=false:=(by simpa using f p);subst p;clear b k1 c d f g;go_enter func138,ntmps138;go_wp2_with fail;exact bodyPost_ret (bF results138 _ _ _ _ _ _ _ rfl jl underlying30 rfl aT) rfl ⟨rfl,dU⟩
     ·have N:(addr==268435457)=false:=(by simpa using p);by_cases q:addr=268435461;·have J:(size==1)=false:=(by simpa using g q);subst q;clear b k1 c d f g;go_enter func138,ntmps138;go_wp2_with fail;exact bodyPost_ret (bF results138 _ _ _ _ _ _ _ rfl jl underlying30 rfl aT) rfl ⟨rfl,dU⟩
      ·have O:(addr==268435461)=false:=(by simpa using q);clear b k1 c d f g j l m o p q;go_enter func138,ntmps138;go_wp2_with fail;exact bodyPost_ret (bF results138 _ _ _ _ _ _ _ rfl jl underlying30 rfl aT) rfl ⟨rfl,dU⟩
theorem Sl.next (h:Sl .u8 w (some ⟨b,x,none⟩) l):Sl .u8 w (some ⟨b,x+1,none⟩) (l.drop 1):=by
 intro i j;rw [List.length_drop] at j;obtain ⟨k,c,e,f,g⟩:=h (i+1) ab;simp only [Option.some.injEq,Addr.mk.injEq,and_true] at e;obtain ⟨rfl,rfl⟩:=e;refine ⟨_,_,rfl,f,?_⟩;have d:(l.drop 1).getD i 0=l.getD (i+1) 0:=by rw [List.getD_eq_getElem?_getD,List.getD_eq_getElem?_getD,List.getElem?_drop,Nat.add_comm]
 rw [d,show x+1+i=x+(i+1) from ab];exact g
theorem GK {E:Nat} {c:Option Addr} {a:Nat} {d:Option Addr} {n e:Nat} {ys:List Int} (h:aZ x E w (fC c a b l d n e ys)) (hn:1<=a):∃ g,c=some ⟨g,0,none⟩/\a<=b/\b<=maxLen:=by
 have xs:=h.own (aw c a b l) x9;rcases xs.2 with ⟨_,i⟩|⟨g,cap,f,m,_,_,j,k,_⟩;·have:a=0:=i;omega
 ·injection m with e1 e2 e3
  subst e1 e3;exact ⟨g,rfl,j,k⟩
theorem uo (h:kP b x c=true):b<=16/\x<=4096/\0<=c/\c<=1:=by unfold kP at h;simp only [Bool.and_eq_true,decide_eq_true_eq] at h;exact ⟨h.1.1,h.1.2,h.2.1,h.2.2⟩
theorem GL: CB 139 #[.agg #[.u m,.u o,.bool p,.slice a n B,.slice r s y,.i z],.u 33554432,.i 4,.u C] W (.tuple #[.agg #[.u m,.u o,.bool (bits .and .u64 C 1==1),.slice a n B,.slice r s y,.i z],.bool true]):=by go_enter func139,ntmps139;exact a05
theorem GM: CB 139 #[.agg #[.u m,.u o,.bool p,.slice a n B,.slice r s y,.i z],.u 33570816,.i 8,.u C] W (.tuple #[.agg #[.u m,.u C,.bool p,.slice a n B,.slice r s y,.i z],.bool true]):=by go_enter func139,ntmps139;exact a05
theorem GN: CB 139 #[.agg #[.u m,.u o,.bool p,.slice a n B,.slice r s y,.i z],.u 33603576,.i 8,.u C] W (.tuple #[.agg #[.u C,.u o,.bool p,.slice a n B,.slice r s y,.i z],.bool true]):=by go_enter func139,ntmps139;exact a05
theorem C5 (t:¬ s<4096) (c:s<=4096) (w:World): CB 139 #[.agg #[.u m,.u o,.bool p,.slice a n B,.slice r s y,.i z],.u 268435456,.i 1,.u C] w (.tuple #[.agg #[.u m,.u o,.bool p,.slice a n B,.slice r s y,.i z],.bool true]):=by
 have f:decide ((s:Int)<4096)=false:=by simp;omega
 clear t c;exact a06
theorem GO: CB 139 #[.agg #[.u m,.u o,.bool p,.slice a n B,.slice r s y,.i z],.u 268435457,.i 1,.u C] W (.tuple #[.agg #[.u m,.u o,.bool p,.slice a n B,.slice r s y,.i (wrap64 (bits .and .u64 C 1))],.bool true]):=by go_enter func139,ntmps139;exact a05
theorem GP: CB 139 #[.agg #[.u m,.u o,.bool p,.slice a n B,.slice r s y,.i z],.u 268435461,.i 1,.u C] W (.tuple #[.agg #[.u m,.u o,.bool p,.slice a n B,.slice r s y,.i z],.bool true]):=by go_enter func139,ntmps139;exact a05
theorem GQ (t cm:Int) (C:Bool) (r:Option Addr) (A u:Nat) (s:Option Addr) (B y:Nat) (z:Int) (x addr size:Int) (b:addr=33554432->¬ size=4) (k1:addr=33570816->¬ size=8) (c:addr=33603576->¬ size=8) (d:addr=268435456->¬ size=1) (f:addr=268435457->¬ size=1) (g:addr=268435461->¬ size=1) (w:World):CB 139 #[.agg #[.u t,.u cm,.bool C,.slice r A u,.slice s B y,.i z],.u addr,.i size,.u x] w (.tuple #[.agg #[.u 0,.u 0,.bool false,.slice none 0 0,.slice none 0 0,.i 0],.bool false]):=by
 by_cases j:addr=33554432;·have E:(size==4)=false:=(by simpa using b j);subst j;clear b k1 c d f g;exact a06
 ·have t0:(addr==33554432)=false:=(by simpa using j);by_cases l:addr=33570816;·have F:(size==8)=false:=(by simpa using k1 l);subst l;clear b k1 c d f g;go_enter func139,ntmps139;go_wp2_with fail;exact bodyPost_ret (dq results139 _ _ _ _ _ _ _ rfl jl underlying30 rfl aT) rfl ⟨rfl,dU⟩
  ·have K:(addr==33570816)=false:=(by simpa using l);by_cases m:addr=33603576;·have G:(size==8)=false:=(by simpa using c m);subst m;clear b k1 c d f g;go_enter func139,ntmps139;go_wp2_with fail;exact bodyPost_ret (dq results139 _ _ _ _ _ _ _ rfl jl underlying30 rfl aT) rfl ⟨rfl,dU⟩
   ·have L:(addr==33603576)=false:=(by simpa using m);by_cases o:addr=268435456;·have H:(size==1)=false:=(by simpa using d o);subst o;clear b k1 c d f g;go_enter func139,ntmps139;go_wp2_with fail;exact bodyPost_ret (dq results139 _ _ _ _ _ _ _ rfl jl underlying30 rfl aT) rfl ⟨rfl,dU⟩
    ·have M:(addr==268435456)=false:=(by simpa using o);by_cases p:addr=268435457;·have I:(size==1)=false:=(by simpa using f p);subst p;clear b k1 c d f g;go_enter func139,ntmps139;go_wp2_with fail;exact bodyPost_ret (dq results139 _ _ _ _ _ _ _ rfl jl underlying30 rfl aT) rfl ⟨rfl,dU⟩
     ·have N:(addr==268435457)=false:=(by simpa using p);by_cases q:addr=268435461;·have J:(size==1)=false:=(by simpa using g q);subst q;clear b k1 c d f g;go_enter func139,ntmps139;go_wp2_with fail;exact bodyPost_ret (dq results139 _ _ _ _ _ _ _ rfl jl underlying30 rfl aT) rfl ⟨rfl,dU⟩
      ·have O:(addr==268435461)=false:=(by simpa using q);clear b k1 c d f g j l m o p q;exact a06
theorem MX (j:Nat) (u:Value) (h:[Value.int .u8 e][j]?=some u):(W.alloc (.cells #[.int .u8 e] 5)).cell? ((⟨W.heap.size,0,none⟩:Addr).add j)=some u:=by
 have c:j=0:=by
  rcases Nat.eq_zero_or_pos j with a|a;·exact a
  ·rw [List.getElem?_eq_none a8] at h;cases h
 subst c;rw [Al];simp only [List.getElem?_cons_zero,Option.some.injEq] at h;subst h;have b:=heap_alloc_new W (.cells #[.int .u8 e] 5);show (W.alloc (.cells #[.int .u8 e] 5)).cell? ⟨W.heap.size,0,none⟩=_;simp only [World.cell?,b];rfl
theorem JG (h:w.ownsRow x j 1 d b f):∃ a c,d=.slice a b c:=by
 rcases h.2 with ⟨e,v⟩|⟨xs,cap,n,e,_⟩;·exact ⟨none,0,by rw [e,v]⟩
 ·exact ⟨_,_,e⟩
theorem Sq {w1 w2:World} {o2:Obj} (v:w1.heap[w.heap.size]?=some g) (c:w1.heap[w.heap.size+1]?=some o2) (xs:w1.ownsRow (w.heap.size+1+1) j 1 d x f) (a:(w1.alloc t).grownBy w2 d.ownBlock): w2.heap[w.heap.size]?=some g/\w2.heap[w.heap.size+1]?=some o2/\Below (w.heap.size+1+1) w1 w2:=by have z:=(Array.getElem?_eq_some_iff.1 c).1;have b:∀ k,k<w.heap.size+1+1->w2.heap[k]?=w1.heap[k]?:=λk b=>(a.block k (by rw [World.size_alloc];omega) (λe=>by have:=(xs.lt k e.symm).1;omega)).trans (Below.heap_alloc w1 t k ab);refine ⟨(b _ ab).trans v,(b _ ab).trans c,⟨a.os,a.tape,a.output,?_,b⟩⟩;have:=a.size;rw [World.size_alloc] at this;omega
theorem wi:Calls prog 205 #[] W λe b=>e=.returned (.slice (some ⟨W.heap.size,0,none⟩) 22 22)/\b=W.alloc (.cells (fu.map (Value.int .i64)).toArray 2):=by go_enter func205,ntmps205;exact a01
def Rd (w:World) (g:Nat):Prop:=g<w.heap.size/\∀ k,k<22->w.cell? ⟨g,k,none⟩=some (.i (fu.getD k 0))
theorem Aw:Calls prog 205 #[] W λe a=>e=.returned (.slice (some ⟨W.heap.size,0,none⟩) 22 22)/\Hid (Rd a W.heap.size)/\Bw W a :=
 (wi W).mono λe a h=>by
  obtain ⟨b,rfl⟩:=h
  refine ⟨b,?_,bal _ _⟩
  show Rd _ _
  refine ⟨bc,λk c=>?_⟩
  rw [cell_of_row _ _ _ _ _ _ (heap_alloc_new _ _)]
  have d:k<fu.length:=c
  simp [List.getD,List.getElem?_eq_getElem d]
theorem dx (x:Int) (w:World):CB 151 #[.i x] w (.i (cG x)):=by
 by_cases c:x=256;·subst c;exact a07
 by_cases d:x=260;·subst d;exact a07
 by_cases f:x=324;·subst f;exact a07
 have o:cG x=dQ x 22 0:=by unfold cG;rw [if_neg c,if_neg d,if_neg f]
 rw [o];have t:(x==256)=false:=ta
 have u:(x==260)=false:=ps
 have z:(x==324)=false:=e9
 clear c d f o;go_enter func151,ntmps151;go_wp2_with fail;refine (Aw _).mono ?_;rintro e r ⟨rfl,p,l⟩;go_wp2_with fail;go_loopw [4] (λi wr=>∃ k:Nat,k<=22/\i=.i k/\Hid (dQ x (22-k) k=dQ x 22 0)/\wr=r)
  (λi _=>22-(intOf i).toNat)
 case atStart=>exact ⟨0,ab,rfl,(rfl:dQ x (22-0) 0=dQ x 22 0),rfl⟩
 case round =>
  obtain ⟨k,A,rfl,g,rfl⟩:=hrel;by_cases b:k<22
  ·have s:=p.out.2 k b;cases m:(fu.getD k 0==x) with
   | true =>have F:Hid (dQ x 22 0=(k:Int)):=g.out.symm.trans (Ah x k b m);generalize fu.getD k 0=y at *;go_wp2_with fail;go_ret;exact ⟨a7,l⟩
   | false =>
     have F:Hid (dQ x (22-(k+1)) (k+1)=dQ x 22 0):=(xZ x k b m).symm.trans g.out;generalize fu.getD k 0=y at *;go_wp2_with fail;go_roundw;case rel=>exact ⟨k+1,ab,by go_num,F,trivial⟩
     case measure=>simp [intOf];omega
  ·have j:k=22:=ab;subst j;have F:Hid (dQ x 22 0=-1):=g.out.symm;go_wp2_with fail;go_ret;exact ⟨a7,l⟩
theorem GS:CE 189 #[.i 1,.u m] W (.u (bn 1 m)):=by go_enter func189,ntmps189;exact a01
theorem GT:CE 189 #[.i 2,.u m] W (.u (bn 2 m)):=by go_enter func189,ntmps189;exact a01
theorem GU:CE 189 #[.i 3,.u m] W (.u (bn 3 m)):=by go_enter func189,ntmps189;exact a01
theorem GV:CE 189 #[.i 4,.u m] W (.u (bn 4 m)):=by go_enter func189,ntmps189;exact a01
theorem C6:CE 189 #[.i 10,.u m] W (.u (bn 10 m)):=by go_enter func189,ntmps189;exact a01
theorem GW:CE 189 #[.i 6,.u m] W (.u (bn 6 m)):=by go_enter func189,ntmps189;exact a01
theorem C7:CE 189 #[.i 12,.u m] W (.u (bn 12 m)):=by go_enter func189,ntmps189;exact a01
theorem GX:CE 189 #[.i 7,.u m] W (.u (bn 7 m)):=by go_enter func189,ntmps189;exact a01
theorem C8:CE 189 #[.i 13,.u m] W (.u (bn 13 m)):=by go_enter func189,ntmps189;exact a01
theorem C9:CE 189 #[.i 17,.u m] W (.u (bn 17 m)):=by go_enter func189,ntmps189;exact a01
theorem Da:CE 189 #[.i 18,.u m] W (.u (bn 18 m)):=by go_enter func189,ntmps189;exact a01
theorem Db:CE 189 #[.i 19,.u m] W (.u (bn 19 m)):=by go_enter func189,ntmps189;exact a01
theorem Dc:CE 189 #[.i 20,.u m] W (.u (bn 20 m)):=by go_enter func189,ntmps189;exact a01
theorem GY:CE 189 #[.i 0,.u m] W (.u (bn 0 m)):=by
 have b:bn 0 m=mst m:=rfl;unfold mst at b;obtain ⟨y,d⟩:∃ y,bits .and .u64 m 924074=y:=⟨_,rfl⟩;rw [d] at b;cases c:(bits .and .u64 (y/2048) 3==2) with
 | true =>have F:Hid (bn 0 m=bits .andNot .u64 y 6144):=(by show _=_;rw [b,if_pos c]);clear b;exact a08
 | false =>have F:Hid (bn 0 m=y):=(by show _=_;rw [b,if_neg (by rw [c];decide)]);clear b;exact a08
theorem Dd:CE 189 #[.i 16,.u m] W (.u (bn 16 m)):=by
 go_enter func189,ntmps189;go_wp2_with fail;go_loopw [5,6] (λy i wr=>∃ k:Nat,k<=4/\i=.u k/\y=.u (cI m k)/\wr=W)
  (λ_ i _=>4-(intOf i).toNat)
 case atStart=>exact ⟨0,ab,rfl,rfl,rfl⟩
 case round =>
  obtain ⟨k,r,rfl,rfl,rfl⟩:=hrel;by_cases p:k<4
  ·have c:cI m (k+1)=bits .or .u64 (cI m k) (IntKind.u64.wrap (js m k*2^(8*k))):=rfl;unfold js at c;have o:IntKind.u64.wrap (8*(k:Int))=((8*k:Nat):Int):=bh;have l:8*k<64:=ab;have d:decide ((k:Int)<4)=true:=a8;obtain ⟨b,x⟩:∃ b,bits .and .u64 (m/2^(8*k)) 159=b:=⟨_,rfl⟩;obtain ⟨y,f⟩:∃ y,y=cI m k:=⟨_,rfl⟩;rw [x,<- f] at c;rw [<- f];cases j:(bits .and .u64 b 1==0) with
   | true =>
     rw [if_pos j] at c;have F:Hid (cI m (k+1)=bits .or .u64 y (IntKind.u64.wrap (bits .andNot .u64 b 2*2^(8*k)))):=c;clear c f;go_wp2_with fail;go_roundw;case rel=>exact ⟨k+1,ab,by go_num,by rw [F.out],trivial⟩
     case measure=>simp [intOf];omega
   | false =>
     rw [if_neg (by rw [j];decide)] at c;have F:Hid (cI m (k+1)=bits .or .u64 y (IntKind.u64.wrap (b*2^(8*k)))):=c;clear c f;go_wp2_with fail;go_roundw;case rel=>exact ⟨k+1,ab,by go_num,by rw [F.out],trivial⟩
     case measure=>simp [intOf];omega
  ·have g:k=4:=ab;subst g;have F:Hid (bn 16 m=cI m 4):=(rfl:bn 16 m=cI m 4);generalize cI m 4=y at *;exact a09
theorem Ax (h:¬ (c=0\/c=1\/c=2\/c=3\/c=4\/c=10\/c=6\/c=12\/c=7\/c=13\/c=16\/c=17\/c=18\/c=19\/c=20)) (x:Int):bn c x=x:=by unfold bn;rw [if_neg ab,if_neg ab,if_neg ab,if_neg ab,if_neg ab,if_neg ab,if_neg ab,if_neg ab,if_neg ab]
theorem fM:CE 189 #[.i m,.u o] W (.u (bn m o)):=by
 by_cases h:m=0\/m=1\/m=2\/m=3\/m=4\/m=10\/m=6\/m=12\/m=7\/m=13\/m=16\/m=17\/m=18\/m=19\/m=20
 ·rcases h with rfl|rfl|rfl|rfl|rfl|rfl|rfl|rfl|rfl|rfl|rfl|rfl|rfl|rfl|rfl;·exact GY o W
  ·exact GS o W
  ·exact GT o W
  ·exact GU o W
  ·exact GV o W
  ·exact C6 o W
  ·exact GW o W
  ·exact C7 o W
  ·exact GX o W
  ·exact C8 o W
  ·exact Dd o W
  ·exact C9 o W
  ·exact Da o W
  ·exact Db o W
  ·exact Dc o W
 ·have F:Hid (bn m o=o):=Ax h o;have q:(m==0)=false:=a8;have r:(m==1)=false:=a8;have s:(m==2)=false:=a8;have t:(m==3)=false:=a8;have u:(m==4)=false:=a8;have b:(m==10)=false:=a8;have y:(m==6)=false:=a8;have c:(m==12)=false:=a8;have z:(m==7)=false:=a8;have d:(m==13)=false:=a8;have f:(m==16)=false:=a8;have g:(m==17)=false:=a8;have j:(m==18)=false:=a8;have l:(m==19)=false:=a8;have p:(m==20)=false:=a8;clear h;exact a08
theorem n7 (cap:Nat) (l:List Int) (w:World) (hz:l.length=n) (hs:Sl .u64 w a l): CE 118 #[.slice a n cap] w (.bool (br n l)):=by
 by_cases A:n=22
 ·have r:br n l=fs l 22 0:=(by simp [br,A]);rw [r];have C:Hid (l.length=n):=hz;subst A;clear hz r;go_enter func118,ntmps118;go_wp2_with fail;go_loopw [3] (λi wr=>∃ k:Nat,k<=22/\i=.i k/\Hid (fs l (22-k) k=fs l 22 0)/\wr=w)
   (λi _=>22-(intOf i).toNat)
  case atStart=>exact ⟨0,ab,rfl,(rfl:fs l (22-0) 0=fs l 22 0),rfl⟩
  case round =>
   obtain ⟨k,O,rfl,u,rfl⟩:=hrel;by_cases m:k<22
   ·obtain ⟨b,H,rfl,M,N⟩:=hs k (by rw [C.out];exact m);have c:fy k (l.getD k 0)=true->Hid (fs l (22-(k+1)) (k+1)=fs l 22 0):=λh=>(CG l k m h).symm.trans u.out;have f:fy k (l.getD k 0)=false->Hid (fs l 22 0=false):=λh=>u.out.symm.trans (Gz l k m h);generalize l.getD k 0=x at *;have L:decide ((k:Int)<22)=true:=a8;by_cases B:k=9
    ·subst B;cases g:(bits .and .u64 x 2730==x) with
     | true =>
       have F:=c (by simpa [fy] using g);have d:(bits .and .u64 x 2730 != x)=false:=(by simp [bne,g]);clear c f;go_wp2_with fail;go_roundw;case rel=>exact ⟨9+1,ab,by go_num,F,trivial⟩
       case measure=>simp [intOf]
     | false =>have F:=f (by simpa [fy] using g);have d:(bits .and .u64 x 2730 != x)=true:=(by simp [bne,g]);clear c f;exact a09
    ·have K:((k:Int)==9)=false:=a8;by_cases q:k=15
     ·subst q;have j:fy 15 x=((x/1152921504606846976==0)||(x/1152921504606846976==8)):=(by simp [fy]);obtain ⟨y,G⟩:∃ y,x/1152921504606846976=y:=⟨_,rfl⟩;rw [G] at j;cases p:(y==0) with
      | true =>
        have F:=c (by rw [j,p];rfl);have d:(y != 0)=false:=(by simp [bne,p]);clear c f j;go_wp2_with fail;go_roundw;case rel=>exact ⟨15+1,ab,by go_num,F,trivial⟩
        case measure=>simp [intOf]
      | false =>
        have d:(y != 0)=true:=(by simp [bne,p]);cases t:(y==8) with
        | true =>
          have F:=c (by rw [j,p,t];rfl);have E:(y != 8)=false:=(by simp [bne,t]);clear c f j;go_wp2_with fail;go_roundw;case rel=>exact ⟨15+1,ab,by go_num,F,trivial⟩
          case measure=>simp [intOf]
        | false =>have F:=f (by rw [j,p,t];rfl);have E:(y != 8)=true:=(by simp [bne,t]);clear c f j;exact a09
     ·have D:((k:Int)==15)=false:=a8;have s:fy k x=(bn k x==x):=(by simp [fy,B,q]);cases g:(bn k x==x) with
      | true =>
        have F:=c (s.trans g);have d:(bn k x != x)=false:=(by simp [bne,g]);clear c f s;go_wp2_with fail;refine (fM _ _ _).mono ?_;rintro e J ⟨rfl,o⟩;subst o;generalize bn k x=y at *;go_wp2_with fail;go_roundw;case rel=>exact ⟨k+1,ab,by go_num,F,trivial⟩
        case measure=>simp [intOf];omega
      | false =>have F:=f (s.trans g);have d:(bn k x != x)=true:=(by simp [bne,g]);clear c f s;go_wp2_with fail;refine (fM _ _ _).mono ?_;rintro e J ⟨rfl,o⟩;subst o;generalize bn k x=y at *;exact a09
   ·have z:k=22:=ab;subst z;have F:Hid (fs l 22 0=true):=u.out.symm;exact a09
 ·have F:Hid (br n l=false):=(by show _=_;simp [br,A]);have d:((n:Int) != 22)=true:=a8;go_enter func118,ntmps118;exact a09
theorem uq:CE 119 #[.i m] W (.bool (bN m)):=by
 cases b:(m==0) with
 | true =>have F:Hid (bN m=true):=(by show _=_;simp [bN,b]);exact a0a
 | false =>
   cases d:(m==1) with
   | true =>have F:Hid (bN m=true):=(by show _=_;simp [bN,d]);exact a0a
   | false =>have F:Hid (bN m=(m==3)):=(by show _=_;simp [bN,b,d]);obtain ⟨c,f⟩:∃ c,(m==3)=c:=⟨_,rfl⟩;rw [f] at F;exact a0a
theorem Ay:CB 203 #[.i m] W (.bool (df m)):=by
 cases d:(m==3860) with
 | true =>have F:Hid (df m=true):=(by show _=_;simp [df,d]);go_enter func203,ntmps203;exact a0b
 | false =>
   cases f:(m==769) with
   | true =>have F:Hid (df m=true):=(by show _=_;simp [df,f]);go_enter func203,ntmps203;exact a0b
   | false =>have F:Hid (df m=decide (0<=cG m)):=(by show _=_;simp [df,d,f]);have g:Hid (∀ W,CB 151 #[.i m] W (.i (cG m))):=dx m;generalize cG m=y at *;obtain ⟨c,l⟩:∃ c,decide (0<=y)=c:=⟨_,rfl⟩;rw [l] at F;go_enter func203,ntmps203;go_wp2_with fail;refine (g.out _).mono ?_;rintro e x ⟨rfl,j⟩;go_wp2_with fail;go_ret;exact ⟨a7,j⟩
theorem GZ (hz:A.length=n) (hs:Sl .u64 W a A): CB 148 #[.slice a n B,.i z,.i C] W (.bool (jt n A z C)):=by
 have s:Hid (CE 118 #[.slice a n B] W (.bool (br n A))):=n7 a n B A W hz hs;have F:Hid (jt n A z C=(br n A&&df z&&bN C&&decide ((wrap64 (z.tdiv 256)).tmod 4<=C))):=(rfl:jt n A z C=_);have r:=Ay z;have t:=uq C;generalize br n A=o at *;generalize df z=k at *;generalize bN C=q at *;have f:Hid (∀ W,CB 203 #[.i z] W (.bool k)):=r;have g:Hid (∀ W,CE 119 #[.i C] W (.bool q)):=t;obtain ⟨d,u⟩:∃ d,decide ((wrap64 (z.tdiv 256)).tmod 4<=C)=d:=⟨_,rfl⟩;rw [u] at F;clear r t hs hz;cases o with
 | false =>go_enter func148,ntmps148;go_wp2_with fail;refine s.out.mono ?_;rintro e y ⟨rfl,b⟩;subst b;exact a0b
 | true =>
   go_enter func148,ntmps148;go_wp2_with fail;refine s.out.mono ?_;rintro e y ⟨rfl,b⟩;subst b;go_wp2_with fail;refine (f.out _).mono ?_;rintro e x ⟨rfl,j⟩;cases k with
   | false =>go_wp2_with fail;go_ret;exact ⟨a7,j⟩
   | true =>
     go_wp2_with fail;refine (g.out _).mono ?_;rintro e l ⟨rfl,m⟩;subst m;cases q with
     | false =>go_wp2_with fail;go_ret;exact ⟨a7,j⟩
     | true =>go_wp2_with fail;go_ret;exact ⟨a7,j⟩
theorem wj (hz:A.length=n) (hs:Sl .u64 W a A): CE 68 #[.slice a n B,.i z] W (.bool (be n A z)):=by
 have f:Hid (CE 118 #[.slice a n B] W (.bool (br n A))):=n7 a n B A W hz hs;have g:Hid (∀ W,CE 119 #[.i z] W (.bool (bN z))):=uq z;have F:Hid (be n A z=(br n A&&bN z)):=(rfl:be n A z=_);generalize br n A=o at *;generalize bN z=q at *;clear hz hs;cases o with
 | false =>go_enter func68,ntmps68;go_wp2_with fail;refine f.out.mono ?_;rintro e j ⟨rfl,b⟩;exact a0c
 | true =>go_enter func68,ntmps68;go_wp2_with fail;refine f.out.mono ?_;rintro e j ⟨rfl,b⟩;subst b;go_wp2_with fail;refine (g.out _).mono ?_;rintro e m ⟨rfl,d⟩;subst d;exact a09
end Go.Proofs.YtfagphfjfhpmjaaGreatDoor
namespace Go.Proofs.YtfagphfjfhpmjaaGreatDoor
set_option linter.unusedVariables false
variable {b:Program} {w:Array Oper} {P:Exit->Act->World->Prop} {Q:World} (a:Nat)
inductive Fm where | r | i | h | w | s | b | u | j | a | c | x
deriving DecidableEq
def Fm.str:Fm->ByteArray
 | .r=>⟨#[82]⟩ | .i=>⟨#[73]⟩ | .h=>⟨#[72]⟩ | .w=>⟨#[87]⟩ | .s=>⟨#[83]⟩ | .b=>⟨#[66]⟩ | .u=>⟨#[85]⟩ | .j=>⟨#[74]⟩ | .a=>⟨#[65]⟩ | .c=>⟨#[67]⟩ | .x=>⟨#[88]⟩
structure Row where
 name:ByteArray
 fm:Fm
 op:Int
 f3:Int
 more:Int
def rows:List Row:=[
 ⟨⟨#[108,117,105]⟩,.u,55,(-1),0⟩,
 ⟨⟨#[97,117,105,112,99]⟩,.u,23,(-1),0⟩,
 ⟨⟨#[106,97,108]⟩,.j,111,(-1),0⟩,
 ⟨⟨#[106,97,108,114]⟩,.i,103,0,0⟩,
 ⟨⟨#[98,101,113]⟩,.b,99,0,0⟩,
 ⟨⟨#[98,110,101]⟩,.b,99,1,0⟩,
 ⟨⟨#[98,108,116]⟩,.b,99,4,0⟩,
 ⟨⟨#[98,103,101]⟩,.b,99,5,0⟩,
 ⟨⟨#[98,108,116,117]⟩,.b,99,6,0⟩,
 ⟨⟨#[98,103,101,117]⟩,.b,99,7,0⟩,
 ⟨⟨#[108,98]⟩,.i,3,0,0⟩,
 ⟨⟨#[108,104]⟩,.i,3,1,0⟩,
 ⟨⟨#[108,119]⟩,.i,3,2,0⟩,
 ⟨⟨#[108,100]⟩,.i,3,3,0⟩,
 ⟨⟨#[108,98,117]⟩,.i,3,4,0⟩,
 ⟨⟨#[108,104,117]⟩,.i,3,5,0⟩,
 ⟨⟨#[108,119,117]⟩,.i,3,6,0⟩,
 ⟨⟨#[115,98]⟩,.s,35,0,0⟩,
 ⟨⟨#[115,104]⟩,.s,35,1,0⟩,
 ⟨⟨#[115,119]⟩,.s,35,2,0⟩,
 ⟨⟨#[115,100]⟩,.s,35,3,0⟩,
 ⟨⟨#[97,100,100,105]⟩,.i,19,0,0⟩,
 ⟨⟨#[115,108,116,105]⟩,.i,19,2,0⟩,
 ⟨⟨#[115,108,116,105,117]⟩,.i,19,3,0⟩,
 ⟨⟨#[120,111,114,105]⟩,.i,19,4,0⟩,
 ⟨⟨#[111,114,105]⟩,.i,19,6,0⟩,
 ⟨⟨#[97,110,100,105]⟩,.i,19,7,0⟩,
 ⟨⟨#[115,108,108,105]⟩,.h,19,1,0⟩,
 ⟨⟨#[115,114,108,105]⟩,.h,19,5,0⟩,
 ⟨⟨#[115,114,97,105]⟩,.h,19,5,16⟩,
 ⟨⟨#[97,100,100,105,119]⟩,.i,27,0,0⟩,
 ⟨⟨#[115,108,108,105,119]⟩,.w,27,1,0⟩,
 ⟨⟨#[115,114,108,105,119]⟩,.w,27,5,0⟩,
 ⟨⟨#[115,114,97,105,119]⟩,.w,27,5,32⟩,
 ⟨⟨#[97,100,100]⟩,.r,51,0,0⟩,
 ⟨⟨#[115,117,98]⟩,.r,51,0,32⟩,
 ⟨⟨#[115,108,108]⟩,.r,51,1,0⟩,
 ⟨⟨#[115,108,116]⟩,.r,51,2,0⟩,
 ⟨⟨#[115,108,116,117]⟩,.r,51,3,0⟩,
 ⟨⟨#[120,111,114]⟩,.r,51,4,0⟩,
 ⟨⟨#[115,114,108]⟩,.r,51,5,0⟩,
 ⟨⟨#[115,114,97]⟩,.r,51,5,32⟩,
 ⟨⟨#[111,114]⟩,.r,51,6,0⟩,
 ⟨⟨#[97,110,100]⟩,.r,51,7,0⟩,
 ⟨⟨#[97,100,100,119]⟩,.r,59,0,0⟩,
 ⟨⟨#[115,117,98,119]⟩,.r,59,0,32⟩,
 ⟨⟨#[115,108,108,119]⟩,.r,59,1,0⟩,
 ⟨⟨#[115,114,108,119]⟩,.r,59,5,0⟩,
 ⟨⟨#[115,114,97,119]⟩,.r,59,5,32⟩,
 ⟨⟨#[109,117,108]⟩,.r,51,0,1⟩,
 ⟨⟨#[109,117,108,104]⟩,.r,51,1,1⟩,
 ⟨⟨#[109,117,108,104,115,117]⟩,.r,51,2,1⟩,
 ⟨⟨#[109,117,108,104,117]⟩,.r,51,3,1⟩,
 ⟨⟨#[100,105,118]⟩,.r,51,4,1⟩,
 ⟨⟨#[100,105,118,117]⟩,.r,51,5,1⟩,
 ⟨⟨#[114,101,109]⟩,.r,51,6,1⟩,
 ⟨⟨#[114,101,109,117]⟩,.r,51,7,1⟩,
 ⟨⟨#[109,117,108,119]⟩,.r,59,0,1⟩,
 ⟨⟨#[100,105,118,119]⟩,.r,59,4,1⟩,
 ⟨⟨#[100,105,118,117,119]⟩,.r,59,5,1⟩,
 ⟨⟨#[114,101,109,119]⟩,.r,59,6,1⟩,
 ⟨⟨#[114,101,109,117,119]⟩,.r,59,7,1⟩,
 ⟨⟨#[108,114,46,119]⟩,.a,47,2,2⟩,
 ⟨⟨#[115,99,46,119]⟩,.a,47,2,3⟩,
 ⟨⟨#[97,109,111,115,119,97,112,46,119]⟩,.a,47,2,1⟩,
 ⟨⟨#[97,109,111,97,100,100,46,119]⟩,.a,47,2,0⟩,
 ⟨⟨#[97,109,111,120,111,114,46,119]⟩,.a,47,2,4⟩,
 ⟨⟨#[97,109,111,97,110,100,46,119]⟩,.a,47,2,12⟩,
 ⟨⟨#[97,109,111,111,114,46,119]⟩,.a,47,2,8⟩,
 ⟨⟨#[97,109,111,109,105,110,46,119]⟩,.a,47,2,16⟩,
 ⟨⟨#[97,109,111,109,97,120,46,119]⟩,.a,47,2,20⟩,
 ⟨⟨#[97,109,111,109,105,110,117,46,119]⟩,.a,47,2,24⟩,
 ⟨⟨#[97,109,111,109,97,120,117,46,119]⟩,.a,47,2,28⟩,
 ⟨⟨#[108,114,46,100]⟩,.a,47,3,2⟩,
 ⟨⟨#[115,99,46,100]⟩,.a,47,3,3⟩,
 ⟨⟨#[97,109,111,115,119,97,112,46,100]⟩,.a,47,3,1⟩,
 ⟨⟨#[97,109,111,97,100,100,46,100]⟩,.a,47,3,0⟩,
 ⟨⟨#[97,109,111,120,111,114,46,100]⟩,.a,47,3,4⟩,
 ⟨⟨#[97,109,111,97,110,100,46,100]⟩,.a,47,3,12⟩,
 ⟨⟨#[97,109,111,111,114,46,100]⟩,.a,47,3,8⟩,
 ⟨⟨#[97,109,111,109,105,110,46,100]⟩,.a,47,3,16⟩,
 ⟨⟨#[97,109,111,109,97,120,46,100]⟩,.a,47,3,20⟩,
 ⟨⟨#[97,109,111,109,105,110,117,46,100]⟩,.a,47,3,24⟩,
 ⟨⟨#[97,109,111,109,97,120,117,46,100]⟩,.a,47,3,28⟩,
 ⟨⟨#[102,101,110,99,101]⟩,.i,15,0,0⟩,
 ⟨⟨#[102,101,110,99,101,46,105]⟩,.i,15,1,0⟩,
 ⟨⟨#[99,115,114,114,119]⟩,.c,115,1,0⟩,
 ⟨⟨#[99,115,114,114,115]⟩,.c,115,2,0⟩,
 ⟨⟨#[99,115,114,114,99]⟩,.c,115,3,0⟩,
 ⟨⟨#[99,115,114,114,119,105]⟩,.c,115,5,0⟩,
 ⟨⟨#[99,115,114,114,115,105]⟩,.c,115,6,0⟩,
 ⟨⟨#[99,115,114,114,99,105]⟩,.c,115,7,0⟩,
 ⟨⟨#[101,99,97,108,108]⟩,.x,115,0,0⟩,
 ⟨⟨#[101,98,114,101,97,107]⟩,.x,115,0,1⟩,
 ⟨⟨#[115,114,101,116]⟩,.x,115,0,258⟩,
 ⟨⟨#[109,114,101,116]⟩,.x,115,0,770⟩,
 ⟨⟨#[119,102,105]⟩,.x,115,0,261⟩,
 ⟨⟨#[115,102,101,110,99,101,46,118,109,97]⟩,.r,115,0,9⟩]
def Row.f3z (r:Row):Int:=if r.f3<0 then 0 else r.f3
def Row.cellsI (r:Row):List Value:=[.string r.name,.string r.fm.str,.u r.op,.u r.f3z,.u r.more]
def Row.cellsS (r:Row):List Value:=[.string r.name,.string r.fm.str,.u r.op,.i r.f3,.u r.more]
def ix:Array Value:=(rows.flatMap Row.cellsI).toArray
def cellsS:Array Value:=(rows.flatMap Row.cellsS).toArray
theorem pY:rows.length=98:=by rfl
theorem rh {α g:Type} (f:α->List g) (m:Nat):∀ (l:List α),(∀ x ∈ l,(f x).length=m)->∀ k (h:k<l.length),((l.flatMap f).drop (k*m)).take m=f l[k]:=by
 intro l;induction l with
 | nil=>intro _ k h;simp at h
 | cons x l d =>
   intro a k h;have b:(f x).length=m:=a x bc;cases k with
   | zero=>simp [<- b]
   | succ k =>have e:(k+1)*m=(f x).length+k*m:=(by rw [b,Nat.succ_mul];omega);rw [e,List.flatMap_cons,List.drop_append,List.drop_of_length_le ab,Nat.add_sub_cancel_left];exact d (λy c=>a y (by simp [c])) k cp
theorem ur {α b:Type} (f:α->List b) (m:Nat) (l:List α) (hl:∀ x ∈ l,(f x).length=m) (k:Nat) (h:k<l.length) (j:Nat) (a:j<m):(l.flatMap f)[k*m+j]?=(f l[k])[j]?:=by rw [<- rh f m l hl k h];simp [a]
def bO (k:Nat):Row:=rows.getD k ⟨⟨#[]⟩,.x,0,0,0⟩
theorem xl (h:a<98):rows[a]'(by rw [pY];exact h)=bO a:=by simp [bO,List.getD,List.getElem?_eq_getElem (show a<rows.length by rw [pY];exact h)]
theorem Az (h:a<98):ix.extract (a*5) (a*5+5)=(bO a).cellsI.toArray:=by have:=rh Row.cellsI 5 rows (by intro x _;rfl) a (by rw [pY];exact h);rw [xl a h] at this;rw [<- this];simp [ix]
theorem n8:ix.size=490:=by kernel_rfl
theorem G4 (h:a<98) (j:Nat) (k:j<5):cellsS[a*5+j]?=(bO a).cellsS[j]?:=by have:=ur Row.cellsS 5 rows (by intro x _;rfl) a (by rw [pY];exact h) j k;rw [xl a h] at this;rw [<- this];simp [cellsS]
def n9 (P:Program):List Oper->Act->Option Act
 | [],a=>some a
 | o::l,a =>
   match o.guard,o.op with
   | none,.build t parts =>
     match P.built t (parts.map λ(i,x)=>(i,a.eval x)).toList with
     | some cells=>n9 P l (a.put o.dst (.agg cells))
     | none=>none
   | _,_=>none
theorem pn:∀ (l rest:List Oper) (a c:Act),n9 b l a=some c->wpList b w P rest c Q->wpList b w P (l++rest) a Q:=by
 intro l;induction l with
 | nil=>intro rest a c h d;simp [n9] at h;subst h;exact d
 | cons o l i =>
   intro rest a c h d;unfold n9 at h;split at h
   ·rename_i t parts f g;split at h;·rename_i cells e;exact wpList_buildTo f t parts g o.dst rfl cells e (i _ _ _ h d)
    ·cases h
   ·cases h
theorem ku {l:List Oper} {n:Act} (s t:Nat) (v x:Value) (h:(n9 b (l.take a) n).map (λc=>(c.tmps.getD s undef,c.tmps.getD t undef,c.defers))=some (v,x,[])) (hr:∀ c:Act,c.tmps.getD s undef=v->c.tmps.getD t undef=x->c.defers=[]->wpList b w P (l.drop a) c Q):wpList b w P l n Q:=by
 rw [<- List.take_append_drop a l];cases d:n9 b (l.take a) n with
 | none=>rw [d] at h;cases h
 | some c =>rw [d] at h;simp only [Option.map_some,Option.some.injEq,Prod.mk.injEq] at h;exact pn _ _ _ _ d (hr c h.1 h.2.1 h.2.2)
end Go.Proofs.YtfagphfjfhpmjaaGreatDoor
namespace Go.Proofs.YtfagphfjfhpmjaaGreatDoor
open Go.RowKit Tryz
set_option linter.unusedVariables false
variable {x:World} {a:Array Oper} {b:List Oper} {w:Act} {k:Exit->Act->World->Prop} {n:Int} {y:Program} {m:Value} {f:Oper} {o:Nat} (Q:World) (z:List Int) (c j:Int) (l t T:Nat) (d:Int) (e:Nat)
def AA:Array Value:=(List.replicate 98 [Value.string ⟨#[]⟩,.string ⟨#[]⟩,.u 0,.u 0,.u 0]).flatten.toArray
theorem De:AA.size=490:=by kernel_rfl
theorem Df:(prog.info? 261).bind (·.zero)=some (.agg AA):=by kernel_rfl
theorem JH {t:TypeId} (h:(y.info? t).bind (·.zero)=some m) (w:World):(zeroValue t).run y w=.ok m w:=by
 cases a:y.info? t with
 | none=>rw [a] at h;cases h
 | some i=>rw [a] at h;simp at h;simp [zeroValue,typeInfo,a,h]
theorem cD (rest:f.guard=none) (t:TypeId) (g:f.op=.alloc t) (d:Option Tmp) (hd:f.dst=d) (z:Value) (hz:(y.info? t).bind (·.zero)=some z) (h:wpList y a k b (w.put d (.p x.heap.size 0)) (x.alloc (.cells z.cells t))):wpList y a k (f::b) w x:=by
 subst hd;refine wpList_plain rest λK e=>?_;have c:(execOp w.eval f).run y x=.ok (.value (.p x.heap.size 0)) (x.alloc (.cells z.cells t)):=by simp [execOp,g,Instr.alloc,Sem.run_bind,JH hz,newVar,newRow]
 unfold Oper.wp;rw [c,Oper.upon_value];exact e _ _ h
theorem mZ (rest:f.guard=none) (d:Option Tmp) (hd:f.dst=d) (v:Value) (c:(execOp w.eval f).run y x=.ok (.value v) x) (h:wpList y a k b (w.put d v) x):wpList y a k (f::b) w x:=by subst hd;refine wpList_plain rest λK e=>?_;unfold Oper.wp;rw [c,Oper.upon_value];exact e _ _ h
theorem aF {w:World} (h:Below o x w) {g:Nat} (c:o<=g) (cs:Array Value):Below o x (w.setRow g cs):=
 ⟨h.os,h.tape,h.output,by rw [setRow_size];exact h.size,λk b=>(setRow_other w g k cs ab).trans (h.block k b)⟩
theorem Dg:ix.all (·.oneCell')=true:=by kernel_rfl
theorem ut:(prog.info? 261).map (·.size)=some 490:=by kernel_rfl
theorem Dh:CB 222 #[] Q (.agg ix):=by go_enter func222,ntmps222;apply wp_seq_k;intro c b;apply wp_region_list;refine cD rfl 261 rfl (some 0) rfl _ Df ?_;apply wpList_nil;refine b _ _ ?_;clear b c;apply wp_seq_k;intro c b;apply wp_region_lit;refine ku 99 0 99 (.p Q.heap.size 0) (.agg ix) a4 ?_;intro m f d j;have g:(Q.alloc (.cells (Value.agg AA).cells 261)).heap[Q.heap.size]?=some (.cells AA 261 (0,0)):=heap_alloc_new _ _;refine wpList_store_rowTo rfl 261 (.tmp 0) (.tmp 99) rfl rfl Q.heap.size ix f d 261 AA g (by rw [ut,n8]) (by rw [De,n8]) Dg ?_;apply wpList_nil;refine b _ _ ?_;clear b c;apply wp_ret;refine bodyPost_ret (results_cell_row results222 _ _ _ _ _ _ _ f (setRow_heap _ _ _ _ _ _ g) underlying261 rfl (by rw [ut,n8])) j ⟨rfl,?_⟩;exact aF (bal _ _) (Nat.le_refl _) _
theorem Di:(prog.info? 179).map (λi=>(i.zero,i.size,i.bytes))=some (some (.agg #[.string ⟨#[]⟩,.string ⟨#[]⟩,.u 0,.i 0,.u 0]),5,56):=by kernel_rfl
def EX (rs:List (List Value)):List (Nat × Value):=(rs.map λc=>Value.agg c.toArray).zipIdx.map λ(v,i)=>(i,v)
theorem Re:Instr.fill (λi=>some (i*5,5)) ((Array.range (98*5)).map ((Value.agg #[.string ⟨#[]⟩,.string ⟨#[]⟩,.u 0,.i 0,.u 0]).cells[· % 5]!)) (EX (rows.map Row.cellsS))=some cellsS:=by kernel_rfl
theorem pH {n:World} (d:Option Tmp) (r:Array (Nat × Operand)) (s:List (Nat × Value)) (cells:Array Value) (f:TypeInfo) (z:Value) (h:(n9 y (b.take l) w).map (λQ=>((r.map λ(i,x)=>(i,Q.eval x)).toList,Q.tmps.size,Q.defers))=some (s,w.tmps.size,[])) (P:y.underlying t=some (.slice T)) (q:y.info? T=some f) (hz:f.zero=some z) (c:¬ e*f.size>2^24) (j:¬ e*f.size=0) (v:Instr.fill (λi=>some (i*f.size,f.size)) ((Array.range (e*f.size)).map (z.cells[· % z.cells.size]!)) s=some cells) (g:((b.drop l)[0]?.map λo=>(o.guard,o.op,o.dst))=some (none,.buildSlice t e r,d)) (hr:∀ Q:Act,Q.tmps.size=w.tmps.size->Q.defers=[]->wpList y a k (b.drop (l+1)) (Q.put d (.slice (some ⟨n.heap.size,0,none⟩) e e)) (n.alloc (.cells cells T))):wpList y a k b w n:=by
 rw [<- List.take_append_drop l b];cases m:n9 y (b.take l) w with
 | none=>rw [m] at h;cases h
 | some Q =>
   rw [m] at h;simp only [Option.map_some,Option.some.injEq,Prod.mk.injEq] at h;refine pn _ _ _ _ m ?_;cases p:b.drop l with
   | nil=>rw [p] at g;cases g
   | cons o rest =>rw [p] at g;simp only [List.getElem?_cons_zero,Option.map_some,Option.some.injEq,Prod.mk.injEq] at g;have u:b.drop (l+1)=rest:=(by rw [<- List.drop_drop,p];rfl);refine wpList_buildSlice g.1 t T e r g.2.1 cells f z P q hz c j (by rw [h.1];exact v) ?_;rw [g.2.2,<- u];exact hr Q h.2.1 h.2.2
theorem Dj:Calls prog 140 #[] Q λe r=>e=.returned (.slice (some ⟨Q.heap.size,0,none⟩) 98 98)/\r=Q.alloc (.cells cellsS 179):=by
 obtain ⟨q,o,g,c,p⟩:=info_parts Di;go_enter func140,ntmps140;apply wp_seq_k;intro f b;apply wp_region_list;refine mZ rfl (some 0) rfl (.slice none 0 0) a4 ?_;apply wpList_nil;refine b _ _ ?_;clear b f;apply wp_seq_k;intro f b;apply wp_region_lit;refine pH 98 176 179 98 (some 99) ((List.range 98).map λi=>(i,Operand.tmp (i+1))).toArray (EX (rows.map Row.cellsS)) cellsS q _ a4 underlying176 o g (by rw [c];decide) (by rw [c];decide) (by rw [c];exact Re) a4 ?_;intro j l m;have d:j.tmps.size=100:=l;clear l;refine mZ rfl (some 0) rfl (.slice (some ⟨Q.heap.size,0,none⟩) 98 98) ?_ ?_;·have e:(j.put (some 99) (.slice (some ⟨Q.heap.size,0,none⟩) 98 98)).eval (.tmp 99)=.slice (some ⟨Q.heap.size,0,none⟩) 98 98:=(by simp [Act.put,Act.eval,d]);simp [execOp,e]
 apply wpList_nil;refine b _ _ ?_;clear b f;apply wp_ret;refine bodyPost_ret (results_tmp results140 _ _ _) m ⟨?_,rfl⟩;simp [Act.put,d]
def rX (op:Int):Bool:=decide (1<=op/\op<=98)
def jN (op:Int):ByteArray:=if rX op then (bO (op-1).toNat).name else ⟨#[]⟩
def fD (op:Int):ByteArray:=if rX op then (bO (op-1).toNat).fm.str else ⟨#[]⟩
def Row.val (r:Row):Value:=.agg #[.string r.name,.string r.fm.str,.u r.op,.u r.f3z,.u r.more]
def noRow:Value:=.agg #[.string ⟨#[]⟩,.string ⟨#[]⟩,.u 0,.u 0,.u 0]
def wk (op:Int):Value:=if rX op then (bO (op-1).toNat).val else noRow
theorem uu (h:rX n=false):wk n=noRow:=by simp [wk,h]
theorem G5 (h:rX ((o:Int)+1)=true):wk ((o:Int)+1)=(bO o).val:=by simp [wk,h]
theorem gJ {P:Program} {fn:Func} {p u:Tmp} {ty:TypeId} (h:fn.results=#[.cell p ty,.tmp u]) (tmps:Array Value) (w:World) (g:Nat) (t:TypeId) (cs:Array Value) (a:Nat × Nat) (d:TypeDesc) (e:tmps.getD p undef=.p g 0) (b:w.heap[g]?=some (.cells cs t a)) (f:P.underlying ty=some d) (hd:(match d with | .struct _ | .array _ _=>true | _=>false)=true) (c:(P.info? ty).map (·.size)=some cs.size):(results fn tmps).run P w=.ok (.tuple #[.agg cs,tmps.getD u undef]) w:=by rw [results_cell_tmp h,e];simp [asAddr,run_loadVar_row w g t ty cs a d b f hd c]
theorem Dk:∃ a b op d e,wk c=.agg #[.string a,.string b,.u op,.u d,.u e]/\Hid (a=jN c)/\Hid (b=fD c):=by
 cases h:rX c with
 | true=>exact ⟨_,_,_,_,_,by simp [wk,h];rfl,(by simp [jN,h]:(bO (c-1).toNat).name=jN c),(by simp [fD,h]:(bO (c-1).toNat).fm.str=fD c)⟩
 | false=>exact ⟨_,_,_,_,_,by simp [wk,h];rfl,(by simp [jN,h]:(⟨#[]⟩:ByteArray)=jN c),(by simp [fD,h]:(⟨#[]⟩:ByteArray)=fD c)⟩
theorem AB:(prog.info? 260).map (·.size)=some 5:=by kernel_rfl
theorem MY (r:Row):(#[Value.string r.name,.string r.fm.str,.u r.op,.u r.f3z,.u r.more]:Array Value).all (·.oneCell')=true:=by simp [Value.oneCell']
theorem G9 (kk:IntKind) (k:Nat) (hk:k<98):(Instr.index 261 (.agg ix) (.int kk (k:Int))).run prog Q=.ok (bO k).val Q:=by
 have f:(sizeOf 260).run prog Q=.ok 5 Q:=by
  obtain ⟨g,e,a⟩:∃ i,prog.info? 260=some i/\i.size=5:=by
   have h:(prog.info? 260).map (·.size)=some 5:=a4;cases b:prog.info? 260 with
   | none=>rw [b] at h;cases h
   | some i=>rw [b] at h;exact ⟨i,rfl,cp⟩
  simp [sizeOf,typeInfo,e,a]
 have c:(isAgg 260).run prog Q=.ok true Q:=by simp [isAgg,run_underlying underlying260]
 have d:(0:Int)<=(k:Int)/\(k:Int)<((98:Nat):Int):=ab
 unfold Instr.index;simp only [asIntOf,Sem.run_bind,Sem.run_pure,Result.andThen_ok,run_underlying underlying261];rw [if_pos d];simp only [Sem.run_bind,f,Result.andThen_ok,part,c,Int.toNat_natCast,if_true,Sem.run_pure];rw [Az k hk];rfl
theorem rY (a:Hid (m=.agg ix)) (kk:IntKind) (k:Nat) (hk:k<98) (r:Row) (hr:Hid (r=bO k)) (w:World): (Instr.index 261 m (.int kk (k:Int))).run prog w=.ok (.agg #[.string r.name,.string r.fm.str,.u r.op,.u r.f3z,.u r.more]) w:=by rw [a.out,hr.out];exact G9 w kk k hk
theorem wm (e:Hid (m=.agg ix)) (kk:IntKind) (Q:Nat) (hk:Q<98) (r:Row) (hr:Hid (r=bO Q)) (rest:f.guard=none) (o i:Operand) (j:f.op=.index 261 o i) (hx:w.eval o=m) (g:w.eval i=.int kk (Q:Int)) (h:wpList prog a k b (w.put f.dst (.agg #[.string r.name,.string r.fm.str,.u r.op,.u r.f3z,.u r.more])) x):wpList prog a k (f::b) w x:=by
 refine wpList_plain rest λK d=>?_;have c:(execOp w.eval f).run prog x=.ok (.value (.agg #[.string r.name,.string r.fm.str,.u r.op,.u r.f3z,.u r.more])) x:=by simp [execOp,j,hx,g,rY e kk Q hk r hr]
 unfold Oper.wp;rw [c,Oper.upon_value];exact d _ _ h
theorem AD:Calls prog 222 #[] Q λe a=>∃ T,e=.returned T/\Hid (T=.agg ix)/\Bw Q a :=
 (Dh Q).mono λe a h=>⟨.agg ix,h.1,(rfl:Value.agg ix=.agg ix),h.2⟩
theorem iV (x a b:Int) (w:World):CE 61 #[.i x,.i a,.i b] w (.bool (decide (a<=x/\x<=b))):=by
 by_cases c:a<=x
 ·by_cases d:x<=b;·have F:Hid (decide (a<=x/\x<=b)=true):=(by show decide (a<=x/\x<=b)=true;simp [c,d]);have f:decide (a<=x)=true:=ta;have g:decide (x<=b)=true:=ps;clear c d;go_enter func61,ntmps61;go_wp2;go_ret;exact ⟨a7,rfl⟩
  ·have F:Hid (decide (a<=x/\x<=b)=false):=(by show decide (a<=x/\x<=b)=false;simp [d]);have f:decide (a<=x)=true:=ta;have g:decide (x<=b)=false:=ps;clear c d;exact a03
 ·have F:Hid (decide (a<=x/\x<=b)=false):=(by show decide (a<=x/\x<=b)=false;simp [c]);have f:decide (a<=x)=false:=ta;clear c;exact a03
theorem xm (y:(Lit.int .i64 c).wf=true) (w:World):CB 260 #[.i c] w (.tuple #[wk c,.bool (rX c)]):=by
 by_cases b:c<1;·have F:Hid (rX c=false):=(by show rX c=false;simp [rX];omega);have j:decide (c<1)=true:=i6;clear b;go_enter func260,ntmps260;go_wp2;refine bodyPost_ret (v:=.tuple #[noRow,.bool false]) (by simp [results,results260,go_sem];rfl) rfl ⟨by rw [uu F.out,F.out],?_⟩;exact bal _ _
 ·by_cases d:98<c;·have F:Hid (rX c=false):=(by show rX c=false;simp [rX];omega);have j:decide (c<1)=false:=i6;have q:decide (98<c)=true:=ps;clear b d;go_enter func260,ntmps260;go_wp2;refine bodyPost_ret (v:=.tuple #[noRow,.bool false]) (by simp [results,results260,go_sem];rfl) rfl ⟨by rw [uu F.out,F.out],?_⟩;exact bal _ _
  ·have g:rX c=true:=(by show rX c=true;simp [rX];omega);have j:decide (c<1)=false:=i6;have q:decide (98<c)=false:=ps;obtain ⟨k,s⟩:∃ k:Nat,c=(k:Int)+1:=⟨(c-1).toNat,ab⟩;have f:k<98:=ab;subst s;have F:Hid (rX ((k:Int)+1)=true):=g;clear b d g;go_enter func260,ntmps260;go_wp2_with fail;refine (AD _).mono ?_;rintro e u ⟨T,rfl,p,l⟩;obtain ⟨r,op⟩:∃ r,r=bO k:=⟨_,rfl⟩;have o:Hid (r=bO k):=op;clear op;have m:u.heap[w.heap.size]?=some (.cells #[.string ⟨#[]⟩,.string ⟨#[]⟩,.u 0,.u 0,.u 0] 260 (0,0)):=(by rw [l.block _ bc];exact heap_alloc_new _ _);go_wp2_with (first | refine wm p .i64 k f r o rfl _ _ rfl rfl rfl ?_ | refine wpList_store_rowTo rfl 260 _ _ rfl rfl w.heap.size #[.string r.name,.string r.fm.str,.u r.op,.u r.f3z,.u r.more] rfl rfl 260 _ m AB rfl (MY r) ?_);refine bodyPost_ret (gJ results260 _ _ _ _ _ _ _ rfl (setRow_heap _ _ _ _ _ _ m) underlying260 rfl AB) rfl ⟨?_,?_⟩;·rw [G5 F.out,F.out,<- o.out];rfl
   ·exact aF ((bal _ _).trans (l.mono bc)) (Nat.le_refl _) _
theorem yu (f:(Lit.int .i64 c).wf=true) (w:World):CB 227 #[.i c] w (.string (fD c)):=by go_enter func227,ntmps227;go_wp2_with fail;refine (xm c f _).mono ?_;rintro e r ⟨rfl,b⟩;obtain ⟨l,m,o,p,q,d,j,op⟩:=Dk c;rw [d];go_wp2_with fail;go_ret;exact ⟨by rw [<- op.out];rfl,b.alloc b.size _⟩
def AE (w:World) (g:Nat):Prop:=g<w.heap.size/\∀ k,k<98->∀ r,r=bO k->w.cell? ⟨g,k*5,none⟩=some (.string r.name)/\w.cell? ⟨g,k*5+1,none⟩=some (.string r.fm.str) /\
 w.cell? ⟨g,k*5+2,none⟩=some (.u r.op)/\w.cell? ⟨g,k*5+3,none⟩=some (.i r.f3)/\w.cell? ⟨g,k*5+4,none⟩=some (.u r.more)
theorem AE.below {w':World} {g:Nat} (h:AE x g) {B:Nat} (a:g<B) (hb:Below B x w'):AE w' g:=by refine ⟨Nat.lt_of_lt_of_le h.1 hb.size,λk b r c=>?_⟩;have H:=h.2 k b r c;have e:∀ o,w'.cell? ⟨g,o,none⟩=x.cell? ⟨g,o,none⟩:=λo=>hb.cell (p:=⟨g,o,none⟩) a;rw [e,e,e,e,e];exact H
theorem uw:Calls prog 140 #[] Q λe a=>e=.returned (.slice (some ⟨Q.heap.size,0,none⟩) 98 98)/\Hid (AE a Q.heap.size)/\Bw Q a :=
 (Dj Q).mono λe a h=>by
  obtain ⟨b,rfl⟩:=h
  refine ⟨b,?_,bal _ _⟩
  show AE _ _
  refine ⟨bc,λk f r g=>?_⟩
  subst g
  have c:(Q.alloc (.cells cellsS 179)).heap[Q.heap.size]?=some (.cells cellsS 179 (0,0)):=heap_alloc_new _ _
  have e:∀ j,j<5->(Q.alloc (.cells cellsS 179)).cell? ⟨Q.heap.size,k*5+j,none⟩=(bO k).cellsS[j]?:=by
   intro j d
   rw [cell_of_row _ _ _ _ _ _ c]
   exact G4 k f j d
  exact ⟨e 0 a6,e 1 a6,e 2 a6,e 3 a6,e 4 a6⟩
theorem yv (B:(Lit.int .i64 c).wf=true) (w:World):CB 146 #[.i c] w (.string (jN c)):=by
 cases h:rX c with
 | false =>have F:Hid (rX c=false):=h;have b:decide (1<=c/\c<=98)=false:=h;clear h;go_enter func146,ntmps146;go_wp2_with fail;refine (iV c 1 98 _).mono ?_;rintro e s ⟨rfl,rfl⟩;rw [b];clear b;go_wp2_with fail;go_ret;exact ⟨by simp [jN,F.out],Below.refl _ _⟩
 | true =>have b:decide (1<=c/\c<=98)=true:=h;have l:1<=c/\c<=98:=of_decide_eq_true b;obtain ⟨k,p⟩:∃ k:Nat,c=(k:Int)+1:=⟨(c-1).toNat,ab⟩;have f:k<98:=ab;subst p;have F:Hid (rX ((k:Int)+1)=true):=h;clear h l;go_enter func146,ntmps146;go_wp2_with fail;refine (iV _ 1 98 _).mono ?_;rintro e s ⟨rfl,d⟩;have g:=d.symm;subst g;rw [b];clear b d;go_wp2_with fail;refine (uw _).mono ?_;rintro e C ⟨rfl,m,o⟩;obtain ⟨r,op⟩:∃ r,r=bO k:=⟨_,rfl⟩;have j:Hid (r=bO k):=op;clear op;obtain ⟨t,u,y,z,A⟩:=m.out.2 k f r j.out;go_wp2_with fail;go_ret;exact ⟨by simp [jN,F.out,j.out],o⟩
theorem yw (B:(Lit.int .i64 c).wf=true) (w:World):CB 99 #[.i c] w (.string (fD c)):=by
 cases h:rX c with
 | false =>have F:Hid (rX c=false):=h;have b:decide (1<=c/\c<=98)=false:=h;clear h;go_enter func99,ntmps99;go_wp2_with fail;refine (iV c 1 98 _).mono ?_;rintro e s ⟨rfl,rfl⟩;rw [b];clear b;go_wp2_with fail;go_ret;exact ⟨by simp [fD,F.out],Below.refl _ _⟩
 | true =>have b:decide (1<=c/\c<=98)=true:=h;have l:1<=c/\c<=98:=of_decide_eq_true b;obtain ⟨k,p⟩:∃ k:Nat,c=(k:Int)+1:=⟨(c-1).toNat,ab⟩;have f:k<98:=ab;subst p;have F:Hid (rX ((k:Int)+1)=true):=h;clear h l;go_enter func99,ntmps99;go_wp2_with fail;refine (iV _ 1 98 _).mono ?_;rintro e s ⟨rfl,d⟩;have g:=d.symm;subst g;rw [b];clear b d;go_wp2_with fail;refine (uw _).mono ?_;rintro e C ⟨rfl,m,o⟩;obtain ⟨r,op⟩:∃ r,r=bO k:=⟨_,rfl⟩;have j:Hid (r=bO k):=op;clear op;obtain ⟨t,u,y,z,A⟩:=m.out.2 k f r j.out;go_wp2_with fail;go_ret;exact ⟨by simp [fD,F.out,j.out],o⟩
def Fm.mask:Fm->Int
 | .r=>4261441663 | .w=>4261441663 | .h=>4227887231 | .a=>4160778367 | .x=>4294967295 | .u=>127 | .j=>127 | .i=>28799 | .s=>28799 | .b=>28799 | .c=>28799
def Fm.at:Fm->Nat
 | .r=>25 | .w=>25 | .h=>26 | .a=>27 | .x=>20 | .u=>0 | .j=>0 | .i=>0 | .s=>0 | .b=>0 | .c=>0
def Fm.hasRd:Fm->Bool
 | .r=>true | .i=>true | .h=>true | .w=>true | .s=>false | .b=>false | .u=>true | .j=>true | .a=>true | .c=>true | .x=>false
def Fm.hasA:Fm->Bool
 | .r=>true | .i=>true | .h=>true | .w=>true | .s=>true | .b=>true | .u=>false | .j=>false | .a=>true | .c=>true | .x=>false
def Fm.hasB:Fm->Bool
 | .r=>true | .i=>false | .h=>false | .w=>false | .s=>true | .b=>true | .u=>false | .j=>false | .a=>true | .c=>false | .x=>false
def Fm.pcs:Fm->List (Nat × Nat × Nat)
 | .r=>[] | .i=>[(20,12,0)] | .h=>[(20,6,0)] | .w=>[(20,5,0)] | .s=>[(25,7,5),(7,5,0)] | .b=>[(31,1,12),(7,1,11),(25,6,5),(8,4,1)]
 | .u=>[(12,20,12)] | .j=>[(31,1,20),(12,8,12),(20,1,11),(21,10,1)] | .a=>[(25,2,0)] | .c=>[(20,12,0)] | .x=>[]
def Fm.width:Fm->Nat
 | .r=>64 | .i=>12 | .h=>64 | .w=>64 | .s=>12 | .b=>13 | .u=>32 | .j=>21 | .a=>64 | .c=>64 | .x=>64
structure Ins where
 op:Int
 rd:Int
 a:Int
 b:Int
 imm:Int
deriving DecidableEq
def Ins.val (i:Ins):Value:=.agg #[.i i.op,.i i.rd,.i i.a,.i i.b,.i i.imm]
def cQ (x:Int) (k n:Nat):Int:=x/2^k%2^n
theorem kv:0<=cQ c l t/\cQ c l t<2^t:=by have a:(0:Int)<2^t:=Int.pow_pos ab;exact ⟨Int.emod_nonneg _ ab,Int.emod_lt_of_pos _ a⟩
theorem Dl (h:l<=t):(2:Int)^l<=2^t:=by obtain ⟨d,rfl⟩:=Nat.exists_eq_add_of_le h;rw [Int.pow_add];have a:(0:Int)<2^l:=Int.pow_pos ab;have b:(0:Int)<2^d:=Int.pow_pos ab;have c:(2:Int)^l*1<=2^l*2^d:=Int.mul_le_mul_of_nonneg_left ab ab;omega
theorem iC (b:0<=c) (i:c<18446744073709551616) (hn:t<64): bits .and .u64 (c/2^l) (IntKind.u64.wrap (IntKind.u64.wrap (2^t)-1))=cQ c l t:=by
 have m:(0:Int)<2^t:=Int.pow_pos ab;have k:(0:Int)<2^l:=Int.pow_pos ab;have j:(2:Int)^t<=2^63:=Dl t 63 ab;have g:(2:Int)^63=9223372036854775808:=a6
 have x:IntKind.u64.wrap (2^t)=2^t:=by rw [IntKind.wrap_u64];omega
 have d:IntKind.u64.wrap (2^t-1)=2^t-1:=by rw [IntKind.wrap_u64];omega
 have a:0<=c/2^l:=Int.ediv_nonneg b ab;have h:c/2^l<=c:=Int.ediv_le_self _ b;rw [x,d,u64_and _ _ a ab ab ab];have e:(2^t-1:Int).toNat=2^t-1:=by
  have:(2:Int)^t=((2^t:Nat):Int):=bc
  rw [this];omega
 rw [e,Nat.and_two_pow_sub_one_eq_mod];unfold cQ;have f:((c/2^l).toNat:Int)=c/2^l:=Int.toNat_of_nonneg a;rw [Int.natCast_emod,f];simp
theorem Ha:l &&& t=2^T*(l/2^T &&& t/2^T)+(l%2^T &&& t%2^T):=by rw [<- Nat.and_div_two_pow,<- Nat.and_mod_two_pow];exact (Nat.div_add_mod _ _).symm
theorem JI:l &&& (2^t-1)=l%2^t:=Nat.and_two_pow_sub_one_eq_mod l t
theorem JJ (h:l/2^T%2^e=0) (hx:t<2^e):l ||| t*2^T=l+t*2^T:=by
 have i:0<2^T:=Nat.two_pow_pos T;have o:0<2^e:=Nat.two_pow_pos e;have m:l=l/2^T/2^e*2^(T+e)+l%2^T:=by have g:=Nat.div_add_mod l (2^T);have d:=Nat.div_add_mod (l/2^T) (2^e);rw [h,Nat.add_zero] at d;rw [<- d] at g;rw [Nat.pow_add,<- Nat.mul_assoc,Nat.mul_right_comm,Nat.mul_comm _ (2^T),Nat.mul_comm _ (2^e)] ;omega
 have b:l%2^T<2^T:=Nat.mod_lt _ i;have j:l/2^T/2^e*2^(T+e) ||| l%2^T=l/2^T/2^e*2^(T+e)+l%2^T:=by refine nat_join T _ _ ?_ b;rw [Nat.pow_add,Nat.mul_comm (2^T),<- Nat.mul_assoc];exact Nat.mul_mod_left _ _
 have a:t*2^T ||| l%2^T=t*2^T+l%2^T:=nat_join T _ _ (Nat.mul_mod_left _ _) b
 have c:t*2^T+l%2^T<2^(T+e):=by rw [Nat.pow_add,Nat.mul_comm (2^T)];have:(t+1)*2^T<=2^e*2^T:=Nat.mul_le_mul_right _ hx;rw [Nat.add_mul] at this;omega
 have n:l/2^T/2^e*2^(T+e) ||| (t*2^T+l%2^T)=l/2^T/2^e*2^(T+e)+(t*2^T+l%2^T):=nat_join (T+e) _ _ (Nat.mul_mod_left _ _) c
 have f:l ||| t*2^T=l/2^T/2^e*2^(T+e) ||| (t*2^T ||| l%2^T):=by
  conv=>lhs;rw [m,<- j]
  rw [Nat.or_assoc,Nat.or_comm (l%2^T)]
 rw [f,a,n];omega
def fE (i:Nat) (f:Fm) (o z m x:Int):Prop:=x%128=o/\(0<=z->x/4096%8=z) /\
 (match f with
 | .r=>x/33554432=m/\(i=97->x/128%32=0)
 | .h=>x/67108864=m
 | .w=>x/33554432=m
 | .a=>x/134217728=m/\(i=62\/i=73->x/1048576%32=0)
 | .x=>x=m*1048576+o
 | _=>True)
instance (i:Nat) (f:Fm) (o z m x:Int):Decidable (fE i f o z m x):=by
 unfold fE;cases f<;>infer_instance
theorem cn (d:0<=c) (e:c<18446744073709551616) (hk:l<64):bits .and .u64 c (2^l-1)=c%2^l:=by
 have h:=iC c 0 l d e hk;have g:(0:Int)<2^l:=Int.pow_pos ab;have f:(2:Int)^l<=2^63:=Dl l 63 ab;have x:(2:Int)^63=9223372036854775808:=a6
 have a:IntKind.u64.wrap (2^l)=2^l:=by rw [IntKind.wrap_u64];omega
 have b:IntKind.u64.wrap (2^l-1)=2^l-1:=by rw [IntKind.wrap_u64];omega
 rw [a,b] at h;simpa [cQ] using h
def av (n:Nat) (x:Int):Int:=IntKind.u64.wrap (RowKit.wrap64 (IntKind.u64.wrap (x*2^(64-n)))/2^(64-n))
def yx (f:Fm) (x:Int):Int :=
 match f with
 | .i=>x/1048576
 | .h=>x/1048576%64
 | .w=>x/1048576%32
 | .s=>x/33554432*32+x/128%32
 | .b=>x/2147483648*4096+x/128%2*2048+x/33554432%64*32+x/256%16*2
 | .u=>x/4096*4096
 | .j=>x/2147483648*1048576+x/4096%256*4096+x/1048576%2*2048+x/2097152%1024*2
 | .a=>x/33554432%4
 | .c=>x/1048576
 | .r=>0
 | .x=>0
def nM (f:Fm) (x:Int):Int:=RowKit.wrap64 (av f.width (yx f x))
theorem oP (a:0<=c) (b:c<9223372036854775808):RowKit.wrap64 (av 64 c)=c:=by
 have e:(2:Int)^(64-64)=1:=a6
 unfold av;exact a0d
theorem mG (f:0<=c) (n:c<18446744073709551616) (hx:0<=j) (b:j<2^t) (k:l+t<=64) (h:c/2^l%2^t=0):bits .or .u64 c (j*2^l)=c+j*2^l:=by
 obtain ⟨A,rfl⟩:=Int.eq_ofNat_of_zero_le f;obtain ⟨X,rfl⟩:=Int.eq_ofNat_of_zero_le hx;have a:X<2^t:=by
  have:((X:Nat):Int)<((2^t:Nat):Int):=i6
  omega
 have i:A/2^l%2^t=0:=by
  have:(((A/2^l%2^t:Nat)):Int)=0:=cp
  omega
 have e:((X:Int)*2^l)=((X*2^l:Nat):Int):=bc
 have x:X*2^l<18446744073709551616:=by have g:X*2^l<2^t*2^l:=Nat.mul_lt_mul_of_pos_right a (Nat.two_pow_pos l);rw [<- Nat.pow_add] at g;have o:2^(t+l)<=2^64:=Nat.pow_le_pow_right ab ab;have d:2^64=18446744073709551616:=a6;omega
 rw [e,u64_or_nat A (X*2^l) ab x,JJ A X l t i a];simp
def U (x:Int):Prop:=0<=x/\x<18446744073709551616
def bt (x:Int) (i:Nat):Bool:=(BitVec.ofInt 64 x).getLsbD i
theorem bI:U (IntKind.u64.wrap c):=by rw [IntKind.wrap_u64];exact ⟨Int.emod_nonneg _ ab,Int.emod_lt_of_pos _ ab⟩
theorem aj (o:BinOp) (x y:Int):U (bits o .u64 x y):=bI _
theorem Dm:BitVec.ofInt 64 (IntKind.u64.wrap c)=BitVec.ofInt 64 c:=by rw [IntKind.wrap_u64];apply BitVec.eq_of_toInt_eq;rw [BitVec.toInt_ofInt,BitVec.toInt_ofInt];exact Int.emod_bmod c (2^64)
theorem pZ (v:BitVec 64):BitVec.ofInt 64 (IntKind.u64.wrap (v.toNat:Int))=v:=by rw [Dm];simp
theorem az:bt (bits .and .u64 c j) l=(bt c l&&bt j l):=by show (BitVec.ofInt 64 (IntKind.u64.wrap ((BitVec.ofInt 64 c &&& BitVec.ofInt 64 j).toNat:Int))).getLsbD l=_;rw [pZ];simp [bt]
theorem cg:bt (bits .or .u64 c j) l=(bt c l||bt j l):=by show (BitVec.ofInt 64 (IntKind.u64.wrap ((BitVec.ofInt 64 c ||| BitVec.ofInt 64 j).toNat:Int))).getLsbD l=_;rw [pZ];simp [bt]
theorem aA (a:l<64):bt (bits .andNot .u64 c j) l=(bt c l&&!bt j l):=by show (BitVec.ofInt 64 (IntKind.u64.wrap ((BitVec.ofInt 64 c &&& ~~~BitVec.ofInt 64 j).toNat:Int))).getLsbD l=_;rw [pZ];simp [bt,a]
theorem oa (h:U c) (i:Nat):bt c i=c.toNat.testBit i:=by
 obtain ⟨a,b⟩:=h;obtain ⟨n,rfl⟩:=Int.eq_ofNat_of_zero_le a;have x:n<2^64:=ab
 unfold bt;rw [<- BitVec.testBit_toNat,ofInt_u64 n ab,Int.toNat_natCast]
theorem bu (hx:U c) (hy:U j) (h:∀ i,i<64->bt c i=bt j i):c=j:=by have e:BitVec.ofInt 64 c=BitVec.ofInt 64 j:=BitVec.eq_of_getLsbD_eq (λi d=>h i d);have a:=congrArg BitVec.toNat e;obtain ⟨b,f⟩:=hx;obtain ⟨x,g⟩:=hy;obtain ⟨n,rfl⟩:=Int.eq_ofNat_of_zero_le b;obtain ⟨m,rfl⟩:=Int.eq_ofNat_of_zero_le x;rw [ofInt_u64 n ab,ofInt_u64 m ab] at a;rw [a]
theorem lW (h:U c) (k:Nat):U (c/2^k):=by have a:(0:Int)<2^k:=Int.pow_pos ab;exact ⟨Int.ediv_nonneg h.1 ab,Int.lt_of_le_of_lt (Int.ediv_le_self _ h.1) h.2⟩
theorem Hb (h:0<=c) (k:Nat):(c/2^k).toNat=c.toNat/2^k:=by
 obtain ⟨n,rfl⟩:=Int.eq_ofNat_of_zero_le h;have:((n:Int)/2^k)=((n/2^k:Nat):Int):=bc
 rw [this,Int.toNat_natCast,Int.toNat_natCast]
theorem jw (h:U c) (k i:Nat):bt (c/2^k) i=bt c (i+k):=by rw [oa _ (lW c h k),oa _ h,Hb _ h.1,Nat.testBit_div_two_pow]
theorem tD (a:64<=l):bt c l=false:=by unfold bt;exact BitVec.getLsbD_of_ge _ _ a
theorem rZ (hn:t<64):U (cQ c l t):=by
 have:=kv c l t;have b:=Dl t 63 ab;have a:(2:Int)^63=9223372036854775808:=a6
 exact ⟨this.1,ab⟩
theorem lj (h:U c) (k n i:Nat) (hn:n<64):bt (cQ c k n) i=(decide (i<n)&&bt c (i+k)):=by
 rw [oa _ (rZ c k n hn),<- jw c h,oa _ (lW c h k)];unfold cQ;have a:=(lW c h k).1;obtain ⟨m,b⟩:=Int.eq_ofNat_of_zero_le a;rw [b];have:((m:Int)%2^n)=((m%2^n:Nat):Int):=bc
 rw [this,Int.toNat_natCast,Int.toNat_natCast,Nat.testBit_mod_two_pow]
theorem m0 (h:U c) (k i:Nat):bt (IntKind.u64.wrap (c*2^k)) i=(decide (k<=i)&&decide (i<64)&&bt c (i-k)):=by
 rw [oa _ (bI _),oa _ h];obtain ⟨n,rfl⟩:=Int.eq_ofNat_of_zero_le h.1;rw [IntKind.wrap_u64];have e:((n:Int)*2^k)%18446744073709551616=((n*2^k%2^64:Nat):Int):=bc
 rw [e,Int.toNat_natCast,Int.toNat_natCast,Nat.testBit_mod_two_pow,Nat.testBit_mul_two_pow];cases decide (i<64)<;>cases decide (k<=i)<;>simp
def sh (b:Int):Nat:=(b%64).toNat
def JK (b:Int):Nat:=(b%32).toNat
theorem OV:c%64=(sh c:Int):=by unfold sh;omega
theorem PL:c%32=(JK c:Int):=by unfold JK;omega
theorem Dn:sh (c%32)=JK c:=by unfold sh JK;omega
theorem EY:sh c<64:=by unfold sh;omega
theorem PM:JK c<32:=by unfold JK;omega
inductive AF where | sum | slt | sltu | xor | or | and | sl | sr | sra | sub | mul | mulh | mulhsu | high | div | divu | rem | remu
deriving DecidableEq
def Do (b:Bool):Int:=if b then 1 else 0
def kF (a b:Int):Int:=a*b/18446744073709551616
def gq (a b:Int):Int:=if wrap64 a<0 then IntKind.u64.wrap (kF a b-b) else kF a b
def mj (a b:Int):Int:=if wrap64 b<0 then IntKind.u64.wrap (gq a b-a) else gq a b
def AF.v:AF->Int->Int->Int
 | .sum,a,b=>IntKind.u64.wrap (a+b)
 | .sub,a,b=>IntKind.u64.wrap (a-b)
 | .xor,a,b=>bits .xor .u64 a b
 | .or,a,b=>bits .or .u64 a b
 | .and,a,b=>bits .and .u64 a b
 | .sl,a,b=>IntKind.u64.wrap (a*2^sh b)
 | .sr,a,b=>a/2^sh b
 | .sra,a,b=>IntKind.u64.wrap (wrap64 a/2^sh b)
 | .slt,a,b=>Do (decide (wrap64 a<wrap64 b))
 | .sltu,a,b=>Do (decide (a<b))
 | .mul,a,b=>IntKind.u64.wrap (a*b)
 | .high,a,b=>kF a b
 | .mulhsu,a,b=>gq a b
 | .mulh,a,b=>mj a b
 | .div,a,b=>if b=0 then 18446744073709551615 else IntKind.u64.wrap (wrap64 ((wrap64 a).tdiv (wrap64 b)))
 | .rem,a,b=>if b=0 then a else IntKind.u64.wrap ((wrap64 a).tmod (wrap64 b))
 | .divu,a,b=>if b=0 then 18446744073709551615 else IntKind.u64.wrap (a.tdiv b)
 | .remu,a,b=>if b=0 then a else a.tmod b
theorem fl (a:0<=n) (c:n<18446744073709551616):wrap64 n=0↔n=0:=by unfold wrap64;omega
theorem jm (a:0<=n) (c:n<18446744073709551616):wrap64 n=-1↔n=18446744073709551615:=by unfold wrap64;omega
theorem JL (b:0<=c) (a:c<18446744073709551616):IntKind.u64.wrap (wrap64 ((wrap64 c).tdiv (-1)))=IntKind.u64.wrap (-c):=by rw [Int.tdiv_neg,Int.tdiv_one,IntKind.wrap_u64,IntKind.wrap_u64];unfold wrap64;omega
theorem JM:IntKind.u64.wrap ((wrap64 c).tmod (-1))=0:=by rw [Int.tmod_neg,Int.tmod_one];rfl
theorem lX:av 32 c=if c%4294967296<2147483648 then c%4294967296 else c%4294967296+18446744069414584320:=by
 have e:(2:Int)^(64-32)=4294967296:=a6
 unfold av;rw [e,IntKind.wrap_u64,IntKind.wrap_u64];unfold wrap64;split<;>omega
theorem kh {y:Int} (h:n%4294967296=y%4294967296):av 32 n=av 32 y:=by rw [lX,lX,h]
theorem bg:0<=av 32 c/\av 32 c<18446744073709551616:=by rw [lX];split<;>omega
theorem AG: -2147483648<=wrap64 (av 32 c)/\wrap64 (av 32 c)<2147483648:=by rw [lX];unfold wrap64;split<;>omega
theorem wo (a: -2147483648<=c) (b:c<2147483648):av 32 (IntKind.u64.wrap c)=IntKind.u64.wrap c:=by rw [lX,IntKind.wrap_u64];split<;>omega
theorem rj:(c%4294967296*j)%4294967296=c*j%4294967296:=by rw [Int.mul_emod,Int.emod_emod_of_dvd _ (Int.dvd_refl _),<- Int.mul_emod]
theorem jO:IntKind.u64.wrap c%4294967296=c%4294967296:=by rw [IntKind.wrap_u64];omega
theorem Dp (z: -2147483648<=c) (d:c<2147483648) (n:Nat): -2147483648<=c/2^n/\c/2^n<2147483648:=by
 have a:(0:Int)<2^n:=Int.pow_pos ab;constructor
 ·refine (Int.le_ediv_iff_mul_le a).mpr ?_;have:(1:Int)<=2^n:=by omega
  have b:(2147483648:Int)*1<=2147483648*2^n:=Int.mul_le_mul_of_nonneg_left this ab;omega
 ·refine Int.ediv_lt_of_lt_mul a ?_;have:(1:Int)<=2^n:=by omega
  have b:(2147483648:Int)*1<=2147483648*2^n:=Int.mul_le_mul_of_nonneg_left this ab;omega
inductive SD where | low | sgn | five
deriving DecidableEq
def SD.v:SD->Int->Int
 | .low,x=>x%4294967296
 | .sgn,x=>av 32 x
 | .five,x=>x%32
theorem SD.bd (s:SD) (x:Int) (a:0<=x):0<=s.v x/\s.v x<18446744073709551616:=by
 cases s;·simp only [SD.v];omega
 ·exact bg x
 ·simp only [SD.v];omega
inductive AO where | d (f:AF) | w (f:AF) (l r:SD)
deriving DecidableEq
def QZ:List AO:=[
 .d .sum,.d .slt,.d .sltu,.d .xor,.d .or,.d .and,.d .sl,.d .sr,.d .sra,
 .w .sum .low .low,.w .sl .low .five,.w .sr .low .five,.w .sra .sgn .five,
 .d .sum,.d .sub,.d .sl,.d .slt,.d .sltu,.d .xor,.d .sr,.d .sra,.d .or,.d .and,
 .w .sum .low .low,.w .sub .low .low,.w .sl .low .five,.w .sr .low .five,.w .sra .sgn .five,
 .d .mul,.d .mulh,.d .mulhsu,.d .high,.d .div,.d .divu,.d .rem,.d .remu,
 .w .mul .low .low,.w .div .sgn .sgn,.w .divu .low .low,.w .rem .sgn .sgn,.w .remu .low .low]
def ob (k:Nat):AO:=QZ.getD k (.d .sum)
def AO.v:AO->Int->Int->Int
 | .d f,a,b=>f.v a b
 | .w f l r,a,b=>av 32 (f.v (l.v a) (r.v b))
def yy (op:Int):Bool:=decide (22<=op/\op<=62)
def m7 (op a b:Int):Int:=if yy op then (ob (op-22).toNat).v a b else 0
/- The Ops of 32 bits,as the model reckons them. -/
theorem Rf:av 32 (IntKind.u64.wrap (c+j))=(AO.w .sum .low .low).v c j:=by refine kh ?_;simp only [AF.v,SD.v,jO];omega
theorem Rg:av 32 (IntKind.u64.wrap (c-j))=(AO.w .sub .low .low).v c j:=by refine kh ?_;simp only [AF.v,SD.v,jO];omega
theorem Rh:av 32 (IntKind.u64.wrap (c*j))=(AO.w .mul .low .low).v c j:=by refine kh ?_;simp only [AF.v,SD.v,jO];rw [rj,Int.mul_comm c (j%_),rj,Int.mul_comm]
theorem Ss:av 32 (IntKind.u64.wrap (c*2^JK j))=(AO.w .sl .low .five).v c j:=by refine kh ?_;simp only [AF.v,SD.v,jO,Dn];rw [rj]
theorem St:av 32 (c%4294967296/2^JK j)=(AO.w .sr .low .five).v c j:=by simp only [AO.v,AF.v,SD.v,Dn]
theorem Ri:IntKind.u64.wrap (wrap64 (av 32 c)/2^JK j)=(AO.w .sra .sgn .five).v c j:=by simp only [AO.v,AF.v,SD.v,Dn];have h:=AG c;have a:=Dp _ h.1 h.2 (JK j);exact (wo _ a.1 a.2).symm
theorem lm (b:0<=c) (a:c<18446744073709551616):bits .and .u64 c 4294967295=c%4294967296:=cn c 32 b a ab
theorem sa (a:0<=n) (b:n<18446744073709551616):IntKind.u64.wrap n=n:=by rw [IntKind.wrap_u64];omega
theorem uz (h:0<=c) (q:c<18446744073709551616) (i:0<=j) (r:j<18446744073709551616): ∃ d f a e t u v:Int, IntKind.u64.wrap (c%4294967296*(j%4294967296))=d/\IntKind.u64.wrap (c%4294967296*(j/4294967296))=f /\ IntKind.u64.wrap (c/4294967296*(j%4294967296))=a/\IntKind.u64.wrap (c/4294967296*(j/4294967296))=e /\ IntKind.u64.wrap (a+d/4294967296)=t/\bits .and .u64 t 4294967295=t%4294967296/\IntKind.u64.wrap (t%4294967296+f)=u /\ IntKind.u64.wrap (e+t/4294967296)=v/\IntKind.u64.wrap (v+u/4294967296)=kF c j:=by
 obtain ⟨A,rfl⟩:=Int.eq_ofNat_of_zero_le h
 obtain ⟨B,rfl⟩:=Int.eq_ofNat_of_zero_le i
 have o:A<18446744073709551616:=ab
 have p:B<18446744073709551616:=ab
 obtain ⟨y,bt,z,g⟩:=Lib.mul64_hi A B o p
 have s:=Lib.half_mul_le (a:=A/4294967296) (b:=B/4294967296) ab ab
 have w:=Lib.half_mul_le (a:=A/4294967296) (b:=B%4294967296) ab ab
 have x:=Lib.half_mul_le (a:=A%4294967296) (b:=B/4294967296) ab ab
 have b:((A:Int)%4294967296*((B:Int)%4294967296))=((A%4294967296*(B%4294967296):Nat):Int):=bc
 have k:((A:Int)%4294967296*((B:Int)/4294967296))=((A%4294967296*(B/4294967296):Nat):Int):=bc
 have l:((A:Int)/4294967296*((B:Int)%4294967296))=((A/4294967296*(B%4294967296):Nat):Int):=bc
 have m:((A:Int)/4294967296*((B:Int)/4294967296))=((A/4294967296*(B/4294967296):Nat):Int):=bc
 have n:kF A B=((A*B/18446744073709551616:Nat):Int):=by simp [kF]
 rw [b,k,l,m,n,<- g]
 generalize A%4294967296*(B%4294967296)=d at *
 generalize A%4294967296*(B/4294967296)=f at *
 generalize A/4294967296*(B%4294967296)=a at *
 generalize A/4294967296*(B/4294967296)=e at *
 refine ⟨(d:Int),(f:Int),(a:Int),(e:Int),(a:Int)+(d:Int)/4294967296,((a:Int)+(d:Int)/4294967296)%4294967296+(f:Int),(e:Int)+((a:Int)+(d:Int)/4294967296)/4294967296,
  sa ab ab,sa ab ab,sa ab ab,sa ab ab,sa ab ab,lm _ ab ab,sa ab ab,sa ab ab,?_⟩
 rw [sa ab ab]
 simp
theorem MZ (zs:List Int) (f:Nat) (x:Int) (j:Nat):∀ k,j<k->f+k<=zs.length->(lP zs f x k).getD (f+j) 0=x/256^j%256:=by
 intro k;induction k with
 | zero=>intro h;omega
 | succ k b =>
   intro c d;rw [lP];by_cases e:j=k
   ·subst e;have:f+j<(lP zs f x j).length:=by rw [kI];omega
    simp [List.getD,this]
   ·have a:((lP zs f x k).set (f+k) (x/256^k%256)).getD (f+j) 0=(lP zs f x k).getD (f+j) 0:=by
     have:f+k≠f+j:=ab
     simp only [List.getD,List.getElem?_set_ne this]
    rw [a];exact b ab ab
theorem M9 (xs:List Int) (x:Int):∀ (m f d:Nat),(∀ j,j<m->xs.getD (f+j) 0=x/256^(d+j)%256)->le xs f m=x/256^d%256^m:=by
 intro m;induction m with
 | zero=>intro f d _;simp [le,Int.emod_one]
 | succ m o =>
   intro f d h;rw [le,o (f+1) (d+1) (λj u=>by have:=h (j+1) ab;rw [show f+(j+1)=f+1+j from ab,show d+(j+1)=d+1+j from ab] at this;exact this)];have b:=h 0 ab;rw [Nat.add_zero,Nat.add_zero] at b;rw [b];have c:x/256^(d+1)=x/256^d/256:=(by rw [Int.pow_succ,Int.ediv_ediv_of_nonneg (Int.le_of_lt (Int.pow_pos ab))]);have e:(256:Int)^(m+1)=256*256^m:=(by rw [Int.pow_succ,Int.mul_comm]);rw [c,e];generalize x/256^d=y;have l:(0:Int)<256^m:=Int.pow_pos ab;generalize (256:Int)^m=N at *;have n:=Int.emod_add_mul_ediv (y/256) N;have v:=Int.emod_add_mul_ediv y 256;have t:=Int.emod_nonneg (y/256) (show N≠0 by omega);have k:=Int.emod_lt_of_pos (y/256) l;have g:y=(y%256+256*(y/256%N))+(256*N)*(y/256/N):=(by have r:256*(y/256)=256*(y/256%N)+256*(N*(y/256/N)):=(by rw [<- Int.mul_add,n]);rw [Int.mul_assoc];omega);have s:256*(y/256%N)+256<=256*N:=ab;have i:∀ (A K M:Int),0<=A->A<M->(A+M*K)%M=A:=λA K M p q=>by rw [Int.add_mul_emod_self_left,Int.emod_eq_of_lt p q]
   have a:=i (y%256+256*(y/256%N)) (y/256/N) (256*N) ab ab;rw [<- g] at a;exact a.symm
theorem PN (h:l+t<=z.length):le (lP z l d t) l t=d%256^t:=by have:=M9 (lP z l d t) d t l 0 (λj a=>by rw [Nat.zero_add];exact MZ z l d j t a h);simpa using this
theorem Na (zs:List Int) (f:Nat) (x:Int) (j:Nat):∀ k,(j<f\/f+k<=j)->(lP zs f x k).getD j 0=zs.getD j 0:=by
 intro k;induction k with
 | zero=>intro h;rfl
 | succ k b =>intro h;have e:(lP zs f x (k+1)).getD j 0=(lP zs f x k).getD j 0:=(by show ((lP zs f x k).set (f+k) (x/256^k%256)).getD j 0=_;have a:f+k≠j:=ab;simp [List.getD,List.getElem?_set_ne a]);rw [e];exact b ab
theorem Nb (zs ys:List Int):∀ m g,(∀ j,j<m->ys.getD (g+j) 0=zs.getD (g+j) 0)->le ys g m=le zs g m:=by
 intro m;induction m with
 | zero=>intro g h;rfl
 | succ m b =>intro g h;show ys.getD g 0+256*le ys (g+1) m=zs.getD g 0+256*le zs (g+1) m;have a:=h 0 ab;rw [Nat.add_zero] at a;rw [a,b (g+1) (λj c=>by have:=h (j+1) ab;rw [show g+1+j=g+(j+1) from ab];exact this)]
theorem Dq (h:t+T<=l\/l+T<=t):le (lP z l d T) t T=le z t T :=
 Nb _ _ T t λj a=>Na z l d (t+j) T ab
theorem yz {n:Nat} {xs:List Value} (ty:TypeId) (f:x.ownsRow o 5 1 m n xs) (a:Addr) (c:Nat) (b:Int) (d:∀ j u,[Value.int .u8 b][j]?=some u->x.cell? (a.add j)=some u) (hn:n<=1048576) {t:Value} {w':World} (hr:(Builtin.append_ #[24,24] ty #[m,.slice (some a) 1 c]).run prog x=.ok t w'):t.ownBlock=m.ownBlock\/t.ownBlock=some x.heap.size:=by
 obtain ⟨p,r,v,k,base⟩:=info_parts info5;have w:∀ u ∈ [Value.int .u8 b],u.oneCell'=true:=i3
 have s:[Value.int .u8 b].length=1*p.size:=by rw [k];rfl
 rcases f.2 with ⟨e,C⟩|⟨g,cap,q,e,D,l,y,z,A,B⟩
 ·subst e;right;have h:=run_append_grow_src (P:=prog) x 24 24 ty 5 p (.int .u8 0) underlying24 r v none 0 0 [] (run_firstCells_none x.drew p.size 0 0 0) (.slice (some a) 1 c) 1 [.int .u8 b] (Src.ofSlice x underlying24 a 1 c [.int .u8 b] s d w) ab ab (growslice_fits ab (by rw [base];omega));rw [h] at hr;injection hr with e1 _
  rw [<- e1];rfl
 ·subst e;by_cases i:n+1<=cap
  ·left;have h:=run_append_room (P:=prog) x 24 ty 5 p underlying24 r g n cap q l a 1 c [.int .u8 b] s d w i (by rw [k] at *;simp;omega);rw [h] at hr;injection hr with e1 _
   rw [<- e1];rfl
  ·right;have holds:∀ j u,xs[j]?=some u->x.cell? ((⟨g,0,none⟩:Addr).add j)=some u:=f.cells (g:=g) rfl;have h:=run_append_grow (P:=prog) x 24 ty 5 p (.int .u8 0) underlying24 r v ⟨g,0,none⟩ n cap xs (by rw [k];exact f.1) holds a 1 c [.int .u8 b] s d ab ab (growslice_fits ab (by rw [base];omega));rw [h] at hr;injection hr with e1 _
   rw [<- e1];rfl
theorem qb (p:f.guard=none) (s Q:Operand) (E:f.op=.call {callee:=.builtin .append,args:=#[s,Q],argTypes:=#[24,24]}) (base n:Nat) (v:Value) (zs:List Int) (hs:w.eval s=v) (i:x.ownsRow base 5 1 v n (zs.map (Value.int .u8))) (hn:n<=1048576) (ad:Addr) (c:Nat) (l:Int) (hx:w.eval Q=.slice (some ad) 1 c) (d:∀ j u,[Value.int .u8 l][j]?=some u->x.cell? (ad.add j)=some u) (o:base<=x.heap.size) (h:∀ rest g m,m.ownsRow base 5 1 (.slice rest (n+1) g) (n+1) ((zs++[l]).map (Value.int .u8))->x.grownBy m v.ownBlock->((Value.slice rest (n+1) g).ownBlock=v.ownBlock\/(Value.slice rest (n+1) g).ownBlock=some x.heap.size)->wpList prog a k b (w.put f.dst (.slice rest (n+1) g)) m):wpList prog a k (f::b) w x:=by
 obtain ⟨H,D,q,r,t⟩:=info_parts info5;obtain ⟨I,m,z,y,B,M⟩:=run_append_own (P:=prog) x base 24 f.type 5 H (.int .u8 0) 1 1 underlying24 D q r t rfl a6 v n (zs.map (Value.int .u8)) i ad 1 c [.int .u8 l] rfl d i3 fb ab o;have G:=yz f.type i ad c l d hn z;have F:∃ rest g,I=.slice rest (n+1) g:=by
  rcases y.2 with ⟨_,J⟩|⟨L,cap,A,e,_⟩;·omega
  ·exact ⟨_,_,e⟩
 obtain ⟨rest,g,rfl⟩:=F;refine wpList_plain p λK C=>?_;unfold Oper.wp execOp;simp only [E,resolve,invoke,builtin,Sem.run_bind,Sem.run_pure,Result.andThen_ok,List.map_toArray,List.map_cons,List.map_nil,hs,hx,z];exact C _ _ (h rest g m (by rw [List.map_append];exact y) B G)
theorem AH (u:Value) (h:[Value.int .u8 c][l]?=some u):(Q.alloc (.cells #[.int .u8 c] 5)).cell? ((⟨Q.heap.size,0,none⟩:Addr).add l)=some u:=by
 have b:l=0:=by
  rcases Nat.eq_zero_or_pos l with a|a;·exact a
  ·rw [List.getElem?_eq_none a8] at h;cases h
 subst b;rw [Al];simp only [List.getElem?_cons_zero,Option.some.injEq] at h;subst h;have e:=heap_alloc_new Q (.cells #[.int .u8 c] 5);show (Q.alloc (.cells #[.int .u8 c] 5)).cell? ⟨Q.heap.size,0,none⟩=_;simp only [World.cell?,e];rfl
end Go.Proofs.YtfagphfjfhpmjaaGreatDoor
