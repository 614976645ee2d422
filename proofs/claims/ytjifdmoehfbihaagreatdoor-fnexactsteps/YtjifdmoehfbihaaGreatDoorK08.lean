/- Own lemmas. -/
import Derived.Test.YtjifdmoehfbihaaGreatDoorAut
import Derived.Test.YtjifdmoehfbihaaGreatDoorK03
set_option maxRecDepth 100000
set_option maxHeartbeats 1600000
namespace Go.Proofs.YtjifdmoehfbihaaGreatDoor
open Go.RowKit Tryz
open IntKind renaming u64->Uz
set_option linter.unusedVariables false
theorem tf (b:Bool) (w:World):CE 104 #[.bool b] w (.u (fd b)):=by
 cases b with
 | false =>go_enter func104,ntmps104;exact a02
 | true =>go_enter func104,ntmps104;exact a02
theorem NY (x:Int) (w:World):CE 51 #[.i x,.i 0,.i 1] w (.bool (decide (0<=x/\x<=1))):=by
 by_cases b:0<=x
 ·by_cases c:x<=1;·have F:Hid (decide (0<=x/\x<=1)=true):=(by show decide (0<=x/\x<=1)=true;simp [b,c]);have d:decide (0<=x)=true:=i3;have f:decide (x<=1)=true:=tk;clear b c;generalize decide (0<=x/\x<=1)=v at *;go_enter func51,ntmps51;go_wp2;go_ret;exact ⟨a6,rfl⟩
  ·have F:Hid (decide (0<=x/\x<=1)=false):=(by show _=false;simp;omega);have d:decide (0<=x)=true:=i3;have f:decide (x<=1)=false:=tk;clear b c;generalize decide (0<=x/\x<=1)=v at *;exact a04
 ·have F:Hid (decide (0<=x/\x<=1)=false):=(by show _=false;simp;omega);have d:decide (0<=x)=false:=i3;clear b;generalize decide (0<=x/\x<=1)=v at *;exact a04
theorem u2 (t cm:Int) (E:Bool) (y:Option Addr) (c A:Nat) (z:Option Addr) (d B:Nat) (b:Int) (w:World) (f:c<=1048576) (g:d<=1048576):CB 60 #[.agg #[.u t,.u cm,.bool E,.slice y c A,.slice z d B,.i b]] w (.bool (kq c d b)):=by
 have u:Hid (∀ w,CE 51 #[.i b,.i 0,.i 1] w (.bool (decide (0<=b/\b<=1)))):=NY b;have p:∀ o,Bw w (w.alloc o):=λo=>(Below.refl _ _).alloc (Nat.le_refl _) o;have F:kq c d b=(decide (c<=16)&&decide (d<=4096)&&decide (0<=b/\b<=1)):=rfl;generalize kq c d b=v at *;generalize decide (0<=b/\b<=1)=q at *;by_cases j:c<=16
 ·have C:decide ((c:Int)<=16)=true:=a7;by_cases m:d<=4096;·have D:decide ((d:Int)<=4096)=true:=a7;have l:Hid (v=q):=(by show v=q;rw [F,decide_eq_true j,decide_eq_true m];rfl);clear F j m f g;go_enter func60,ntmps60;go_wp2_with fail;refine (u.out _).mono ?_;rintro e G ⟨rfl,r⟩;subst r;go_wp2_with fail;go_ret;exact ⟨v9,p _⟩
  ·have D:decide ((d:Int)<=4096)=false:=a7;have l:Hid (v=false):=(by show v=_;rw [F,decide_eq_true j,decide_eq_false m];rfl);clear F j m f g;go_enter func60,ntmps60;go_wp2_with fail;go_ret;exact ⟨v9,p _⟩
 ·have C:decide ((c:Int)<=16)=false:=a7;have l:Hid (v=false):=(by show v=_;rw [F,decide_eq_false j];rfl);clear F j f g;go_enter func60,ntmps60;go_wp2_with fail;go_ret;exact ⟨v9,p _⟩
theorem ah {W:World} {g:Nat} {o:Obj} (h:W.heap[g]?=some o) (a:Obj):(W.alloc a).heap[g]?=some o:=(Below.heap_alloc W a g (Array.getElem?_eq_some_iff.1 h).1).trans h
theorem Le {w w1:World} {o1 o2 o3:Obj} (a:(((w.alloc o1).alloc o2).alloc o3).grownBy w1 (some (w.heap.size+1+1))):w1.heap[w.heap.size]?=some o1/\w1.heap[w.heap.size+1]?=some o2/\Bw w w1/\w.heap.size+1+1+1<=w1.heap.size:=by obtain ⟨c,d,_⟩:=Hi (w:=w) (o1:=o1) (o2:=o2) (o3:=o3) (Below.refl _ (((w.alloc o1).alloc o2).alloc o3));have b:=a.size;simp only [World.size_alloc] at b;refine ⟨(a.block _ cp a7).trans c,(a.block _ cp bc).trans d,?_,b⟩;exact Below.grown ((((Below.refl _ _).alloc (Nat.le_refl _) o1).alloc bc o2).alloc a7 o3) a cp (λk e=>by simp at e;omega)
theorem NZ {w w1:World} {o:Obj} {g:Nat} (a:(w.alloc o).grownBy w1 (some g)) (b:g=w.heap.size):Bw w w1:=by subst b;exact Below.grown ((Below.refl _ _).alloc (Nat.le_refl _) o) a bc (λk c=>by simp at c;omega)
theorem BF (t cm:Int) (u:Bool) (A:Option Addr) (b T:Nat) (r:Option Addr) (c B:Nat) (s:Int) (xs ys:List Int) (w:World) (hx:xs.length=b) (hy:ys.length=c) (H:b<=1048576) (I:c<=1048576) (J:Sl .u8 w A xs) (K:Sl .u8 w r ys):Calls prog 72 #[.agg #[.u t,.u cm,.bool u,.slice A b T,.slice r c B,.i s]] w λe l=>∃ (d:Option Addr) (f:Nat) (m:Option Addr) (q:Nat),e=.returned (.agg #[.u t,.u cm,.bool u,.slice d b f,.slice m c q,.i s]) /\ bp w.heap.size l.heap.size l (iB d b f xs m c q ys)/\Bw w l:=by
 have E:∀ V W,Bw w ((w.alloc V).alloc W):=λV W=>((Below.refl _ _).alloc (Nat.le_refl _) V).alloc bc W
 have hE:=ji ((w.alloc (.cells #[.u t,.u cm,.bool u,.slice A b T,.slice r c B,.i s] 30)).alloc (.cells #[.u 0,.u 0,.bool false,.slice none 0 0,.slice none 0 0,.i 0] 30)) (w.heap.size+1+1) bc (.cells #[] 5 (0,0)) rfl
 rw [World.size_alloc,World.size_alloc] at hE
 have Q:Hid (∀ l,Bw w l->Sl .u8 l A xs):=λl U=>J.below U
 have R:Hid (∀ l,Bw w l->Sl .u8 l r ys):=λl U=>K.below U
 have N:Hid (xs.length=b/\ys.length=c/\b<=1048576/\c<=1048576):=⟨hx,hy,H,I⟩
 clear J K hx hy H I
 go_enter func72,ntmps72
 go_wp2_with (first
  | (at_builtin;refine gD rfl (.tmp 3) (.tmp 5) rfl (w.heap.size+1+1) _ rfl hE A b T xs rfl N.out.1 N.out.2.2.1 (Q.out _ ((E _ _).alloc (E _ _).size _)) bc ?_;intro d f y L C;obtain ⟨O,r1,G,z1⟩:=Le C;have Z:=ak O;have R1:=ak r1;have P:=ak G;have Z1:=ak z1;have A1:=ak ((bp.nil (w.heap.size+1+1) (w.heap.size+1+1) y).snoc (aB d b f xs) _ y.heap.size L (Nat.le_refl _) (Nat.le_refl _) (Nat.le_refl _) al);obtain ⟨p0,p1,p2,p3,p4,p5⟩:=cH O;have f3:=gO O 3;have F:=ji (y.setCell ⟨w.heap.size,3,none⟩ (.slice d b f)) y.heap.size ex (.cells #[] 5 (0,0)) rfl;rw [aY] at F;have z:(y.setCell ⟨w.heap.size,3,none⟩ (.slice d b f)).heap[w.heap.size]?=some (.cells #[.u t,.u cm,.bool u,.slice d b f,.slice r c B,.i s] 30 (0,0)):=bo Z.out 3 (.slice d b f);have X:=λo=>(cH (ah z o)).2.2.2.2.1;clear O r1 G z1 L C z)
  | (at_builtin;refine gD rfl (.tmp 8) (.tmp 10) rfl y.heap.size _ rfl F r c B ys rfl N.out.2.1 N.out.2.2.2 (R.out _ ((P.out.setCell (p:=⟨w.heap.size,3,none⟩) (Nat.le_refl _) _).alloc (P.out.setCell (p:=⟨w.heap.size,3,none⟩) (Nat.le_refl _) _).size _)) (by rw [World.size_alloc,aY];omega) ?_;intro m q w2 M D;have j:=NZ D (by rw [aY]);have Y:=j.size;have S0:Hid (w2.heap[w.heap.size]?=some (.cells #[.u t,.u cm,.bool u,.slice d b f,.slice r c B,.i s] 30 (0,0))):=an j (bo Z.out 3 (.slice d b f));have S:=ak (an j (eg R1.out ⟨w.heap.size,3,none⟩ (.slice d b f) a9));have B2:=ak (aa (P.out.setCell (p:=⟨w.heap.size,3,none⟩) (Nat.le_refl _) (.slice d b f)) j);rw [aY] at Y;have A2:=ak (((A1.out.set ⟨w.heap.size,3,none⟩ (.slice d b f) (.inl a9)).below j).snoc (aB m c q ys) _ w2.heap.size M (Nat.le_refl _) (by have:=Z1.out;omega) (Nat.le_refl _) Y);clear p0 p1 p2 p3 p4 p5 f3 X;obtain ⟨p0,p1,p2,p3,p4,p5⟩:=cH S0.out;have f4:=gO S0.out 4;obtain ⟨s0,s1,s2,s3,s4,s5⟩:=cH S.out;obtain ⟨y0,y1,y2,y3,y4,y5⟩:=vI S.out;clear M D j Y))
 have T1:=eg S.out ⟨w.heap.size,4,none⟩ (.slice m c q) a9
 have A3:=(A2.out.set ⟨w.heap.size,4,none⟩ (.slice m c q) (.inl a9)).put6 (w.heap.size+1) (.inl al) (.u t) (.u cm) (.bool u) (.slice d b f) (.slice m c q) (.i s)
 have B3:=jh (B2.out.setCell (p:=⟨w.heap.size,4,none⟩) (Nat.le_refl _) (.slice m c q)) (g:=w.heap.size+1) al (.u t) (.u cm) (.bool u) (.slice d b f) (.slice m c q) (.i s)
 exact bodyPost_ret (results_cell_row results72 _ _ _ _ _ _ _ rfl (lL T1 _ _ _ _ _ _) underlying30 rfl bu) rfl ⟨d,f,m,q,rfl,A3.low al ib,B3⟩
theorem za {W:World} {g:Nat} {o:Obj} (h:W.heap[g]?=some o):W.drew.heap[g]?=some o:=h
theorem vM {w:World} {o1 o2:Obj}:((w.alloc o1).alloc o2).drew.heap[w.heap.size+1]?=some o2:=(sT (w:=w) (o1:=o1) (o2:=o2) (Below.refl _ ((w.alloc o1).alloc o2))).2
theorem iI {w:World} {o1 o2:Obj}:((w.alloc o1).alloc o2).heap[w.heap.size+1]?=some o2:=(sT (w:=w) (o1:=o1) (o2:=o2) (Below.refl _ ((w.alloc o1).alloc o2))).2
theorem n8 {w:World} {o1 o2:Obj}:Bw w ((w.alloc o1).alloc o2).drew:=(((Below.refl _ _).alloc (Nat.le_refl _) o1).alloc bc o2).drew
theorem dP {w:World} {o1 o2:Obj}:Bw w ((w.alloc o1).alloc o2):=((Below.refl _ _).alloc (Nat.le_refl _) o1).alloc bc o2
theorem If (t cm:Int) (b:Bool) (f:Option Addr) (o j:Nat) (g:Option Addr) (p l:Nat) (m:Int) (w:World):CB 120 #[.agg #[.u t,.u cm,.bool b,.slice f o j,.slice g p l,.i m],.u 33554432,.i 4] w (.tuple #[.u (fd b),.agg #[.u t,.u cm,.bool b,.slice f o j,.slice g p l,.i m],.bool true]):=by
 have q:Hid (∀ w,CE 104 #[.bool b] w (.u (fd b))):=tf b;generalize fd b=v at *;go_enter func120,ntmps120;go_wp2_with fail;go_region_with (first | (go_at_call 104;with_reducible refine (q.out _).mono ?_;rintro e r ⟨rfl,c⟩;subst c));all_goals go_wp2_with fail
 all_goals exact bodyPost_ret (bE results120 _ _ _ _ _ _ _ rfl vM underlying30 rfl bu) rfl ⟨rfl,n8⟩
theorem Ig (t cm:Int) (m:Bool) (b:Option Addr) (j d:Nat) (c:Option Addr) (l f:Nat) (g:Int) (w:World):CB 120 #[.agg #[.u t,.u cm,.bool m,.slice b j d,.slice c l f,.i g],.u 33570816,.i 8] w (.tuple #[.u cm,.agg #[.u t,.u cm,.bool m,.slice b j d,.slice c l f,.i g],.bool true]):=by go_enter func120,ntmps120;go_wp2_with fail;go_region;exact a05
theorem Ih (t cm:Int) (m:Bool) (b:Option Addr) (j d:Nat) (c:Option Addr) (l f:Nat) (g:Int) (w:World):CB 120 #[.agg #[.u t,.u cm,.bool m,.slice b j d,.slice c l f,.i g],.u 33603576,.i 8] w (.tuple #[.u t,.agg #[.u t,.u cm,.bool m,.slice b j d,.slice c l f,.i g],.bool true]):=by go_enter func120,ntmps120;go_wp2_with fail;go_region;exact a05
theorem Fa (t cm:Int) (l:Bool) (b:Option Addr) (d:Nat) (c:Option Addr) (j f:Nat) (g:Int) (w:World):CB 120 #[.agg #[.u t,.u cm,.bool l,.slice b 0 d,.slice c j f,.i g],.u 268435456,.i 1] w (.tuple #[.u 0,.agg #[.u t,.u cm,.bool l,.slice b 0 d,.slice c j f,.i g],.bool true]):=by go_enter func120,ntmps120;go_wp2_with fail;go_region;exact a05
theorem Ii (t cm:Int) (m:Bool) (c:Option Addr) (j f:Nat) (d:Option Addr) (l g:Nat) (b:Int) (w:World):CB 120 #[.agg #[.u t,.u cm,.bool m,.slice c j f,.slice d l g,.i b],.u 268435457,.i 1] w (.tuple #[.u (Uz.wrap b),.agg #[.u t,.u cm,.bool m,.slice c j f,.slice d l g,.i b],.bool true]):=by go_enter func120,ntmps120;go_wp2_with fail;go_region;exact a05
theorem Ij (t cm:Int) (q:Bool) (g:Option Addr) (b l:Nat) (j:Option Addr) (p m:Nat) (o:Int) (c:b<=1048576) (w:World):CB 120 #[.agg #[.u t,.u cm,.bool q,.slice g b l,.slice j p m,.i o],.u 268435461,.i 1] w (.tuple #[.u (Uz.wrap (32+fd (decide (0<b)))),.agg #[.u t,.u cm,.bool q,.slice g b l,.slice j p m,.i o],.bool true]):=by
 have r:Hid (∀ w,CE 104 #[.bool (decide (0<b))] w (.u (fd (decide (0<b))))):=tf _;generalize fd (decide (0<b))=v at *;clear c;go_enter func120,ntmps120;go_wp2_with fail;go_region_with (first | (go_at_call 104;with_reducible refine (r.out _).mono ?_;rintro e s ⟨rfl,d⟩;subst d));all_goals go_wp2_with fail
 all_goals exact bodyPost_ret (bE results120 _ _ _ _ _ _ _ rfl vM underlying30 rfl bu) rfl ⟨rfl,n8⟩
theorem Ik (t cm:Int) (C:Bool) (r:Option Addr) (A u:Nat) (s:Option Addr) (B y:Nat) (z:Int) (addr size:Int) (b:addr=33554432->¬ size=4) (k1:addr=33570816->¬ size=8) (c:addr=33603576->¬ size=8) (d:addr=268435456->¬ size=1) (f:addr=268435457->¬ size=1) (g:addr=268435461->¬ size=1) (w:World):CB 120 #[.agg #[.u t,.u cm,.bool C,.slice r A u,.slice s B y,.i z],.u addr,.i size] w (.tuple #[.u 0,.agg #[.u 0,.u 0,.bool false,.slice none 0 0,.slice none 0 0,.i 0],.bool false]):=by
 by_cases j:addr=33554432;·have E:(size==4)=false:=(by simpa using b j);subst j;clear b k1 c d f g;go_enter func120,ntmps120;go_wp2_with fail;exact bodyPost_ret (bE results120 _ _ _ _ _ _ _ rfl iI underlying30 rfl bu) rfl ⟨rfl,dP⟩
 ·have t0:(addr==33554432)=false:=(by simpa using j);by_cases l:addr=33570816;·have F:(size==8)=false:=(by simpa using k1 l);subst l;clear b k1 c d f g;go_enter func120,ntmps120;go_wp2_with fail;exact bodyPost_ret (bE results120 _ _ _ _ _ _ _ rfl iI underlying30 rfl bu) rfl ⟨rfl,dP⟩
  ·have K:(addr==33570816)=false:=(by simpa using l);by_cases m:addr=33603576;·have G:(size==8)=false:=(by simpa using c m);subst m;clear b k1 c d f g;go_enter func120,ntmps120;go_wp2_with fail;exact bodyPost_ret (bE results120 _ _ _ _ _ _ _ rfl iI underlying30 rfl bu) rfl ⟨rfl,dP⟩
   ·have L:(addr==33603576)=false:=(by simpa using m);by_cases o:addr=268435456;·have H:(size==1)=false:=(by simpa using d o);subst o;clear b k1 c d f g;go_enter func120,ntmps120;go_wp2_with fail;exact bodyPost_ret (bE results120 _ _ _ _ _ _ _ rfl iI underlying30 rfl bu) rfl ⟨rfl,dP⟩
    ·have M:(addr==268435456)=false:=(by simpa using o);by_cases p:addr=268435457;·have I:(size==1)=false:=(by simpa using f p);subst p;clear b k1 c d f g;go_enter func120,ntmps120;go_wp2_with fail;exact bodyPost_ret (bE results120 _ _ _ _ _ _ _ rfl iI underlying30 rfl bu) rfl ⟨rfl,dP⟩
     ·have N:(addr==268435457)=false:=(by simpa using p);by_cases q:addr=268435461;·have J:(size==1)=false:=(by simpa using g q);subst q;clear b k1 c d f g;go_enter func120,ntmps120;go_wp2_with fail;exact bodyPost_ret (bE results120 _ _ _ _ _ _ _ rfl iI underlying30 rfl bu) rfl ⟨rfl,dP⟩
      ·have O:(addr==268435461)=false:=(by simpa using q);clear b k1 c d f g j l m o p q;go_enter func120,ntmps120;go_wp2_with fail;exact bodyPost_ret (bE results120 _ _ _ _ _ _ _ rfl iI underlying30 rfl bu) rfl ⟨rfl,dP⟩
theorem Sl.next {w:World} {b a:Nat} {zs:List Int} (h:Sl .u8 w (some ⟨b,a,none⟩) zs):Sl .u8 w (some ⟨b,a+1,none⟩) (zs.drop 1):=by
 intro i j;rw [List.length_drop] at j;obtain ⟨k,c,e,f,g⟩:=h (i+1) al;simp only [Option.some.injEq,Addr.mk.injEq,and_true] at e;obtain ⟨rfl,rfl⟩:=e;refine ⟨_,_,rfl,f,?_⟩;have d:(zs.drop 1).getD i 0=zs.getD (i+1) 0:=by rw [List.getD_eq_getElem?_getD,List.getD_eq_getElem?_getD,List.getElem?_drop,Nat.add_comm]
 rw [d,show a+1+i=a+(i+1) from al];exact g
theorem Fb {B E:Nat} {w:World} {c:Option Addr} {a b:Nat} {xs:List Int} {d:Option Addr} {n e:Nat} {ys:List Int} (h:bp B E w (iB c a b xs d n e ys)) (hn:1<=a):∃ g,c=some ⟨g,0,none⟩/\a<=b/\b<=maxLen:=by
 have l:=h.own (aB c a b xs) (by simp [iB]);rcases l.2 with ⟨_,i⟩|⟨g,cap,f,m,_,_,j,k,_⟩;·have:a=0:=i;omega
 ·injection m with e1 e2 e3
  subst e1 e3;exact ⟨g,rfl,j,k⟩
theorem xr {b c:Nat} {a:Int} (h:kq b c a=true):b<=16/\c<=4096/\0<=a/\a<=1:=by unfold kq at h;simp only [Bool.and_eq_true,decide_eq_true_eq] at h;exact ⟨h.1.1,h.1.2,h.2.1,h.2.2⟩
theorem Fc (t cm:Int) (m:Bool) (b:Option Addr) (j d:Nat) (c:Option Addr) (l f:Nat) (g:Int) (x:Int) (w:World):CB 122 #[.agg #[.u t,.u cm,.bool m,.slice b j d,.slice c l f,.i g],.u 33554432,.i 4,.u x] w (.tuple #[.agg #[.u t,.u cm,.bool (bits .and .u64 x 1==1),.slice b j d,.slice c l f,.i g],.bool true]):=by go_enter func122,ntmps122;exact a06
theorem Fe (t cm:Int) (m:Bool) (b:Option Addr) (j d:Nat) (c:Option Addr) (l f:Nat) (g:Int) (x:Int) (w:World):CB 122 #[.agg #[.u t,.u cm,.bool m,.slice b j d,.slice c l f,.i g],.u 33570816,.i 8,.u x] w (.tuple #[.agg #[.u t,.u x,.bool m,.slice b j d,.slice c l f,.i g],.bool true]):=by go_enter func122,ntmps122;exact a06
theorem Ff (t cm:Int) (m:Bool) (b:Option Addr) (j d:Nat) (c:Option Addr) (l f:Nat) (g:Int) (x:Int) (w:World):CB 122 #[.agg #[.u t,.u cm,.bool m,.slice b j d,.slice c l f,.i g],.u 33603576,.i 8,.u x] w (.tuple #[.agg #[.u x,.u cm,.bool m,.slice b j d,.slice c l f,.i g],.bool true]):=by go_enter func122,ntmps122;exact a06
theorem BG (t cm:Int) (o:Bool) (d:Option Addr) (m g:Nat) (f:Option Addr) (b j:Nat) (l:Int) (x:Int) (p:¬ b<4096) (c:b<=4096) (w:World):CB 122 #[.agg #[.u t,.u cm,.bool o,.slice d m g,.slice f b j,.i l],.u 268435456,.i 1,.u x] w (.tuple #[.agg #[.u t,.u cm,.bool o,.slice d m g,.slice f b j,.i l],.bool true]):=by
 have r:decide ((b:Int)<4096)=false:=by simp;omega
 clear p c;exact a07
theorem Fg (t cm:Int) (l:Bool) (b:Option Addr) (g d:Nat) (c:Option Addr) (j f:Nat) (m:Int) (x:Int) (w:World):CB 122 #[.agg #[.u t,.u cm,.bool l,.slice b g d,.slice c j f,.i m],.u 268435457,.i 1,.u x] w (.tuple #[.agg #[.u t,.u cm,.bool l,.slice b g d,.slice c j f,.i (wrap64 (bits .and .u64 x 1))],.bool true]):=by go_enter func122,ntmps122;exact a06
theorem Fh (t cm:Int) (m:Bool) (b:Option Addr) (j d:Nat) (c:Option Addr) (l f:Nat) (g:Int) (x:Int) (w:World):CB 122 #[.agg #[.u t,.u cm,.bool m,.slice b j d,.slice c l f,.i g],.u 268435461,.i 1,.u x] w (.tuple #[.agg #[.u t,.u cm,.bool m,.slice b j d,.slice c l f,.i g],.bool true]):=by go_enter func122,ntmps122;exact a06
theorem Fi (t cm:Int) (C:Bool) (r:Option Addr) (A u:Nat) (s:Option Addr) (B y:Nat) (z:Int) (x addr size:Int) (b:addr=33554432->¬ size=4) (k1:addr=33570816->¬ size=8) (c:addr=33603576->¬ size=8) (d:addr=268435456->¬ size=1) (f:addr=268435457->¬ size=1) (g:addr=268435461->¬ size=1) (w:World):CB 122 #[.agg #[.u t,.u cm,.bool C,.slice r A u,.slice s B y,.i z],.u addr,.i size,.u x] w (.tuple #[.agg #[.u 0,.u 0,.bool false,.slice none 0 0,.slice none 0 0,.i 0],.bool false]):=by
 by_cases j:addr=33554432;·have E:(size==4)=false:=(by simpa using b j);subst j;clear b k1 c d f g;exact a07
 ·have t0:(addr==33554432)=false:=(by simpa using j);by_cases l:addr=33570816;·have F:(size==8)=false:=(by simpa using k1 l);subst l;clear b k1 c d f g;go_enter func122,ntmps122;go_wp2_with fail;exact bodyPost_ret (db results122 _ _ _ _ _ _ _ rfl iI underlying30 rfl bu) rfl ⟨rfl,dP⟩
  ·have K:(addr==33570816)=false:=(by simpa using l);by_cases m:addr=33603576;·have G:(size==8)=false:=(by simpa using c m);subst m;clear b k1 c d f g;go_enter func122,ntmps122;go_wp2_with fail;exact bodyPost_ret (db results122 _ _ _ _ _ _ _ rfl iI underlying30 rfl bu) rfl ⟨rfl,dP⟩
   ·have L:(addr==33603576)=false:=(by simpa using m);by_cases o:addr=268435456;·have H:(size==1)=false:=(by simpa using d o);subst o;clear b k1 c d f g;go_enter func122,ntmps122;go_wp2_with fail;exact bodyPost_ret (db results122 _ _ _ _ _ _ _ rfl iI underlying30 rfl bu) rfl ⟨rfl,dP⟩
    ·have M:(addr==268435456)=false:=(by simpa using o);by_cases p:addr=268435457;·have I:(size==1)=false:=(by simpa using f p);subst p;clear b k1 c d f g;go_enter func122,ntmps122;go_wp2_with fail;exact bodyPost_ret (db results122 _ _ _ _ _ _ _ rfl iI underlying30 rfl bu) rfl ⟨rfl,dP⟩
     ·have N:(addr==268435457)=false:=(by simpa using p);by_cases q:addr=268435461;·have J:(size==1)=false:=(by simpa using g q);subst q;clear b k1 c d f g;go_enter func122,ntmps122;go_wp2_with fail;exact bodyPost_ret (db results122 _ _ _ _ _ _ _ rfl iI underlying30 rfl bu) rfl ⟨rfl,dP⟩
      ·have O:(addr==268435461)=false:=(by simpa using q);clear b k1 c d f g j l m o p q;exact a07
theorem Lf (w:World) (b:Int) (j:Nat) (u:Value) (h:[Value.int .u8 b][j]?=some u):(w.alloc (.cells #[.int .u8 b] 5)).cell? ((⟨w.heap.size,0,none⟩:Addr).add j)=some u:=by
 have c:j=0:=by
  rcases Nat.eq_zero_or_pos j with a|a;·exact a
  ·rw [List.getElem?_eq_none a7] at h;cases h
 subst c;rw [EY];simp only [List.getElem?_cons_zero,Option.some.injEq] at h;subst h;have e:=heap_alloc_new w (.cells #[.int .u8 b] 5);show (w.alloc (.cells #[.int .u8 b] 5)).cell? ⟨w.heap.size,0,none⟩=_;simp only [World.cell?,e];rfl
theorem Il {w:World} {base n:Nat} {t:TypeId} {v:Value} {xs:List Value} (h:w.ownsRow base t 1 v n xs):∃ a c,v=.slice a n c:=by
 rcases h.2 with ⟨e,d⟩|⟨f,cap,b,e,_⟩;·exact ⟨none,0,by rw [e,d]⟩
 ·exact ⟨_,_,e⟩
theorem Qh {w w1 w2:World} {o o1 o2:Obj} {n:Nat} {t:TypeId} {v:Value} {xs:List Value} (d:w1.heap[w.heap.size]?=some o1) (c:w1.heap[w.heap.size+1]?=some o2) (f:w1.ownsRow (w.heap.size+1+1) t 1 v n xs) (a:(w1.alloc o).grownBy w2 v.ownBlock):w2.heap[w.heap.size]?=some o1/\w2.heap[w.heap.size+1]?=some o2/\Below (w.heap.size+1+1) w1 w2:=by have z:=(Array.getElem?_eq_some_iff.1 c).1;have b:∀ k,k<w.heap.size+1+1->w2.heap[k]?=w1.heap[k]?:=λk b=>(a.block k (by rw [World.size_alloc];omega) (λe=>by have:=(f.lt k e.symm).1;omega)).trans (Below.heap_alloc w1 o k al);refine ⟨(b _ al).trans d,(b _ al).trans c,⟨a.os,a.tape,a.output,?_,b⟩⟩;have:=a.size;rw [World.size_alloc] at this;omega
theorem u5 (w:World):Calls prog 185 #[] w λe b=>e=.returned (.slice (some ⟨w.heap.size,0,none⟩) 22 22)/\b=w.alloc (.cells (eQ.map (Value.int .i64)).toArray 2):=by go_enter func185,ntmps185;exact a02
def Pl (w:World) (g:Nat):Prop:=g<w.heap.size/\∀ k,k<22->w.cell? ⟨g,k,none⟩=some (.i (eQ.getD k 0))
theorem zd (w:World):Calls prog 185 #[] w λe a=>e=.returned (.slice (some ⟨w.heap.size,0,none⟩) 22 22)/\Hid (Pl a w.heap.size)/\Bw w a :=
 (u5 w).mono λe a h=>by
  obtain ⟨b,rfl⟩:=h
  refine ⟨b,?_,bal _ _⟩
  show Pl _ _
  refine ⟨bc,λk c=>?_⟩
  rw [cell_of_row _ _ _ _ _ _ (heap_alloc_new _ _)]
  have d:k<eQ.length:=c
  simp [List.getD,List.getElem?_eq_getElem d]
theorem df (x:Int) (w:World):CB 134 #[.i x] w (.i (cE x)):=by
 by_cases c:x=256;·subst c;exact a08
 by_cases d:x=260;·subst d;exact a08
 by_cases f:x=324;·subst f;exact a08
 have o:cE x=dM x 22 0:=by unfold cE;rw [if_neg c,if_neg d,if_neg f]
 rw [o];have t:(x==256)=false:=tk
 have u:(x==260)=false:=py
 have z:(x==324)=false:=et
 clear c d f o;go_enter func134,ntmps134;go_wp2_with fail;refine (zd _).mono ?_;rintro e r ⟨rfl,p,l⟩;go_wp2_with fail;go_loopw [4] (λi wr=>∃ k:Nat,k<=22/\i=.i k/\Hid (dM x (22-k) k=dM x 22 0)/\wr=r)
  (λi _=>22-(intOf i).toNat)
 case atStart=>exact ⟨0,al,rfl,(rfl:dM x (22-0) 0=dM x 22 0),rfl⟩
 case round =>
  obtain ⟨k,A,rfl,g,rfl⟩:=hrel;by_cases b:k<22
  ·have s:=p.out.2 k b;cases m:(eQ.getD k 0==x) with
   | true =>have F:Hid (dM x 22 0=(k:Int)):=g.out.symm.trans (yM x k b m);generalize eQ.getD k 0=y at *;go_wp2_with fail;go_ret;exact ⟨a6,l⟩
   | false =>
     have F:Hid (dM x (22-(k+1)) (k+1)=dM x 22 0):=(xb x k b m).symm.trans g.out;generalize eQ.getD k 0=y at *;go_wp2_with fail;go_roundw;case rel=>exact ⟨k+1,al,by go_num,F,trivial⟩
     case measure=>simp [intOf];omega
  ·have j:k=22:=al;subst j;have F:Hid (dM x 22 0=-1):=g.out.symm;go_wp2_with fail;go_ret;exact ⟨a6,l⟩
theorem Fj (x:Int) (w:World):CE 172 #[.i 1,.u x] w (.u (aX 1 x)):=by go_enter func172,ntmps172;exact a02
theorem Fk (x:Int) (w:World):CE 172 #[.i 2,.u x] w (.u (aX 2 x)):=by go_enter func172,ntmps172;exact a02
theorem Fl (x:Int) (w:World):CE 172 #[.i 3,.u x] w (.u (aX 3 x)):=by go_enter func172,ntmps172;exact a02
theorem Fp (x:Int) (w:World):CE 172 #[.i 4,.u x] w (.u (aX 4 x)):=by go_enter func172,ntmps172;exact a02
theorem BH (x:Int) (w:World):CE 172 #[.i 10,.u x] w (.u (aX 10 x)):=by go_enter func172,ntmps172;exact a02
theorem Fq (x:Int) (w:World):CE 172 #[.i 6,.u x] w (.u (aX 6 x)):=by go_enter func172,ntmps172;exact a02
theorem BI (x:Int) (w:World):CE 172 #[.i 12,.u x] w (.u (aX 12 x)):=by go_enter func172,ntmps172;exact a02
theorem Fs (x:Int) (w:World):CE 172 #[.i 7,.u x] w (.u (aX 7 x)):=by go_enter func172,ntmps172;exact a02
theorem BJ (x:Int) (w:World):CE 172 #[.i 13,.u x] w (.u (aX 13 x)):=by go_enter func172,ntmps172;exact a02
theorem BK (x:Int) (w:World):CE 172 #[.i 17,.u x] w (.u (aX 17 x)):=by go_enter func172,ntmps172;exact a02
theorem BL (x:Int) (w:World):CE 172 #[.i 18,.u x] w (.u (aX 18 x)):=by go_enter func172,ntmps172;exact a02
theorem BM (x:Int) (w:World):CE 172 #[.i 19,.u x] w (.u (aX 19 x)):=by go_enter func172,ntmps172;exact a02
theorem BN (x:Int) (w:World):CE 172 #[.i 20,.u x] w (.u (aX 20 x)):=by go_enter func172,ntmps172;exact a02
theorem Ft (x:Int) (w:World):CE 172 #[.i 0,.u x] w (.u (aX 0 x)):=by
 have b:aX 0 x=mst x:=rfl;unfold mst at b;obtain ⟨y,d⟩:∃ y,bits .and .u64 x 924074=y:=⟨_,rfl⟩;rw [d] at b;cases c:(bits .and .u64 (y/2048) 3==2) with
 | true =>have F:Hid (aX 0 x=bits .andNot .u64 y 6144):=(by show _=_;rw [b,if_pos c]);clear b;exact a09
 | false =>have F:Hid (aX 0 x=y):=(by show _=_;rw [b,if_neg (by rw [c];decide)]);clear b;exact a09
theorem BO (x:Int) (w:World):CE 172 #[.i 16,.u x] w (.u (aX 16 x)):=by
 go_enter func172,ntmps172;go_wp2_with fail;go_loopw [5,6] (λy i wr=>∃ k:Nat,k<=4/\i=.u k/\y=.u (cJ x k)/\wr=w)
  (λ_ i _=>4-(intOf i).toNat)
 case atStart=>exact ⟨0,al,rfl,rfl,rfl⟩
 case round =>
  obtain ⟨k,r,rfl,rfl,rfl⟩:=hrel;by_cases p:k<4
  ·have c:cJ x (k+1)=bits .or .u64 (cJ x k) (Uz.wrap (iO x k*2^(8*k))):=rfl;unfold iO at c;have o:Uz.wrap (8*(k:Int))=((8*k:Nat):Int):=bv;have l:8*k<64:=al;have d:decide ((k:Int)<4)=true:=a7;obtain ⟨b,m⟩:∃ b,bits .and .u64 (x/2^(8*k)) 159=b:=⟨_,rfl⟩;obtain ⟨y,f⟩:∃ y,y=cJ x k:=⟨_,rfl⟩;rw [m,<- f] at c;rw [<- f];cases j:(bits .and .u64 b 1==0) with
   | true =>
     rw [if_pos j] at c;have F:Hid (cJ x (k+1)=bits .or .u64 y (Uz.wrap (bits .andNot .u64 b 2*2^(8*k)))):=c;clear c f;go_wp2_with fail;go_roundw;case rel=>exact ⟨k+1,al,by go_num,by rw [F.out],trivial⟩
     case measure=>simp [intOf];omega
   | false =>
     rw [if_neg (by rw [j];decide)] at c;have F:Hid (cJ x (k+1)=bits .or .u64 y (Uz.wrap (b*2^(8*k)))):=c;clear c f;go_wp2_with fail;go_roundw;case rel=>exact ⟨k+1,al,by go_num,by rw [F.out],trivial⟩
     case measure=>simp [intOf];omega
  ·have g:k=4:=al;subst g;have F:Hid (aX 16 x=cJ x 4):=(rfl:aX 16 x=cJ x 4);generalize cJ x 4=y at *;exact a0a
theorem ze {p:Int} (h:¬ (p=0\/p=1\/p=2\/p=3\/p=4\/p=10\/p=6\/p=12\/p=7\/p=13\/p=16\/p=17\/p=18\/p=19\/p=20)) (x:Int):aX p x=x:=by unfold aX;rw [if_neg al,if_neg al,if_neg al,if_neg al,if_neg al,if_neg al,if_neg al,if_neg al,if_neg al]
theorem fq (p x:Int) (w:World):CE 172 #[.i p,.u x] w (.u (aX p x)):=by
 by_cases h:p=0\/p=1\/p=2\/p=3\/p=4\/p=10\/p=6\/p=12\/p=7\/p=13\/p=16\/p=17\/p=18\/p=19\/p=20
 ·rcases h with rfl|rfl|rfl|rfl|rfl|rfl|rfl|rfl|rfl|rfl|rfl|rfl|rfl|rfl|rfl;·exact Ft x w
  ·exact Fj x w
  ·exact Fk x w
  ·exact Fl x w
  ·exact Fp x w
  ·exact BH x w
  ·exact Fq x w
  ·exact BI x w
  ·exact Fs x w
  ·exact BJ x w
  ·exact BO x w
  ·exact BK x w
  ·exact BL x w
  ·exact BM x w
  ·exact BN x w
 ·have F:Hid (aX p x=x):=ze h x;have q:(p==0)=false:=a7;have r:(p==1)=false:=a7;have s:(p==2)=false:=a7;have t:(p==3)=false:=a7;have u:(p==4)=false:=a7;have b:(p==10)=false:=a7;have y:(p==6)=false:=a7;have c:(p==12)=false:=a7;have z:(p==7)=false:=a7;have d:(p==13)=false:=a7;have f:(p==16)=false:=a7;have g:(p==17)=false:=a7;have j:(p==18)=false:=a7;have l:(p==19)=false:=a7;have m:(p==20)=false:=a7;clear h;exact a09
theorem nv (a:Option Addr) (n cap:Nat) (l:List Int) (w:World) (hz:l.length=n) (hs:Sl .u64 w a l):CE 102 #[.slice a n cap] w (.bool (bf n l)):=by
 by_cases A:n=22
 ·have r:bf n l=eO l 22 0:=(by simp [bf,A]);rw [r];have C:Hid (l.length=n):=hz;subst A;clear hz r;go_enter func102,ntmps102;go_wp2_with fail;go_loopw [3] (λi wr=>∃ k:Nat,k<=22/\i=.i k/\Hid (eO l (22-k) k=eO l 22 0)/\wr=w)
   (λi _=>22-(intOf i).toNat)
  case atStart=>exact ⟨0,al,rfl,(rfl:eO l (22-0) 0=eO l 22 0),rfl⟩
  case round =>
   obtain ⟨k,O,rfl,u,rfl⟩:=hrel;by_cases m:k<22
   ·obtain ⟨b,H,rfl,M,N⟩:=hs k (by rw [C.out];exact m);have c:eZ k (l.getD k 0)=true->Hid (eO l (22-(k+1)) (k+1)=eO l 22 0):=λh=>(Bh l k m h).symm.trans u.out;have f:eZ k (l.getD k 0)=false->Hid (eO l 22 0=false):=λh=>u.out.symm.trans (EV l k m h);generalize l.getD k 0=x at *;have L:decide ((k:Int)<22)=true:=a7;by_cases B:k=9
    ·subst B;cases g:(bits .and .u64 x 2730==x) with
     | true =>
       have F:=c (by simpa [eZ] using g);have d:(bits .and .u64 x 2730 != x)=false:=(by simp [bne,g]);clear c f;go_wp2_with fail;go_roundw;case rel=>exact ⟨9+1,al,by go_num,F,trivial⟩
       case measure=>simp [intOf]
     | false =>have F:=f (by simpa [eZ] using g);have d:(bits .and .u64 x 2730 != x)=true:=(by simp [bne,g]);clear c f;exact a0a
    ·have K:((k:Int)==9)=false:=a7;by_cases q:k=15
     ·subst q;have j:eZ 15 x=((x/1152921504606846976==0)||(x/1152921504606846976==8)):=(by simp [eZ]);obtain ⟨y,G⟩:∃ y,x/1152921504606846976=y:=⟨_,rfl⟩;rw [G] at j;cases p:(y==0) with
      | true =>
        have F:=c (by rw [j,p];rfl);have d:(y != 0)=false:=(by simp [bne,p]);clear c f j;go_wp2_with fail;go_roundw;case rel=>exact ⟨15+1,al,by go_num,F,trivial⟩
        case measure=>simp [intOf]
      | false =>
        have d:(y != 0)=true:=(by simp [bne,p]);cases t:(y==8) with
        | true =>
          have F:=c (by rw [j,p,t];rfl);have E:(y != 8)=false:=(by simp [bne,t]);clear c f j;go_wp2_with fail;go_roundw;case rel=>exact ⟨15+1,al,by go_num,F,trivial⟩
          case measure=>simp [intOf]
        | false =>have F:=f (by rw [j,p,t];rfl);have E:(y != 8)=true:=(by simp [bne,t]);clear c f j;exact a0a
     ·have D:((k:Int)==15)=false:=a7;have s:eZ k x=(aX k x==x):=(by simp [eZ,B,q]);cases g:(aX k x==x) with
      | true =>
        have F:=c (s.trans g);have d:(aX k x != x)=false:=(by simp [bne,g]);clear c f s;go_wp2_with fail;refine (fq _ _ _).mono ?_;rintro e J ⟨rfl,o⟩;subst o;generalize aX k x=y at *;go_wp2_with fail;go_roundw;case rel=>exact ⟨k+1,al,by go_num,F,trivial⟩
        case measure=>simp [intOf];omega
      | false =>have F:=f (s.trans g);have d:(aX k x != x)=true:=(by simp [bne,g]);clear c f s;go_wp2_with fail;refine (fq _ _ _).mono ?_;rintro e J ⟨rfl,o⟩;subst o;generalize aX k x=y at *;exact a0a
   ·have z:k=22:=al;subst z;have F:Hid (eO l 22 0=true):=u.out.symm;exact a0a
 ·have F:Hid (bf n l=false):=(by show _=_;simp [bf,A]);have d:((n:Int) != 22)=true:=a7;go_enter func102,ntmps102;exact a0a
theorem th (p:Int) (w:World):CE 103 #[.i p] w (.bool (bI p)):=by
 cases b:(p==0) with
 | true =>have F:Hid (bI p=true):=(by show _=_;simp [bI,b]);exact a0b
 | false =>
   cases d:(p==1) with
   | true =>have F:Hid (bI p=true):=(by show _=_;simp [bI,d]);exact a0b
   | false =>have F:Hid (bI p=(p==3)):=(by show _=_;simp [bI,b,d]);obtain ⟨c,f⟩:∃ c,(p==3)=c:=⟨_,rfl⟩;rw [f] at F;exact a0b
theorem zf (x:Int) (w:World):CB 183 #[.i x] w (.bool (cS x)):=by
 cases d:(x==3860) with
 | true =>have F:Hid (cS x=true):=(by show _=_;simp [cS,d]);go_enter func183,ntmps183;exact a0c
 | false =>
   cases f:(x==769) with
   | true =>have F:Hid (cS x=true):=(by show _=_;simp [cS,f]);go_enter func183,ntmps183;exact a0c
   | false =>have F:Hid (cS x=decide (0<=cE x)):=(by show _=_;simp [cS,d,f]);have g:Hid (∀ w,CB 134 #[.i x] w (.i (cE x))):=df x;generalize cE x=y at *;obtain ⟨c,l⟩:∃ c,decide (0<=y)=c:=⟨_,rfl⟩;rw [l] at F;go_enter func183,ntmps183;go_wp2_with fail;refine (g.out _).mono ?_;rintro e m ⟨rfl,j⟩;go_wp2_with fail;go_ret;exact ⟨a6,j⟩
theorem Fu (a:Option Addr) (n cap:Nat) (l:List Int) (x p:Int) (w:World) (hz:l.length=n) (hs:Sl .u64 w a l):CB 131 #[.slice a n cap,.i x,.i p] w (.bool (iP n l x p)):=by
 have s:Hid (CE 102 #[.slice a n cap] w (.bool (bf n l))):=nv a n cap l w hz hs;have F:Hid (iP n l x p=(bf n l&&cS x&&bI p&&decide ((wrap64 (x.tdiv 256)).tmod 4<=p))):=(rfl:iP n l x p=_);have r:=zf x;have t:=th p;generalize bf n l=o at *;generalize cS x=k at *;generalize bI p=q at *;have f:Hid (∀ w,CB 183 #[.i x] w (.bool k)):=r;have g:Hid (∀ w,CE 103 #[.i p] w (.bool q)):=t;obtain ⟨d,u⟩:∃ d,decide ((wrap64 (x.tdiv 256)).tmod 4<=p)=d:=⟨_,rfl⟩;rw [u] at F;clear r t hs hz;cases o with
 | false =>go_enter func131,ntmps131;go_wp2_with fail;refine s.out.mono ?_;rintro e y ⟨rfl,b⟩;subst b;exact a0c
 | true =>
   go_enter func131,ntmps131;go_wp2_with fail;refine s.out.mono ?_;rintro e y ⟨rfl,b⟩;subst b;go_wp2_with fail;refine (f.out _).mono ?_;rintro e z ⟨rfl,j⟩;cases k with
   | false =>go_wp2_with fail;go_ret;exact ⟨a6,j⟩
   | true =>
     go_wp2_with fail;refine (g.out _).mono ?_;rintro e A ⟨rfl,m⟩;subst m;cases q with
     | false =>go_wp2_with fail;go_ret;exact ⟨a6,j⟩
     | true =>go_wp2_with fail;go_ret;exact ⟨a6,j⟩
theorem u6 (a:Option Addr) (n cap:Nat) (l:List Int) (p:Int) (w:World) (hz:l.length=n) (hs:Sl .u64 w a l):CE 58 #[.slice a n cap,.i p] w (.bool (aQ n l p)):=by
 have f:Hid (CE 102 #[.slice a n cap] w (.bool (bf n l))):=nv a n cap l w hz hs;have g:Hid (∀ w,CE 103 #[.i p] w (.bool (bI p))):=th p;have F:Hid (aQ n l p=(bf n l&&bI p)):=(rfl:aQ n l p=_);generalize bf n l=o at *;generalize bI p=q at *;clear hz hs;cases o with
 | false =>go_enter func58,ntmps58;go_wp2_with fail;refine f.out.mono ?_;rintro e j ⟨rfl,b⟩;exact a0d
 | true =>go_enter func58,ntmps58;go_wp2_with fail;refine f.out.mono ?_;rintro e j ⟨rfl,b⟩;subst b;go_wp2_with fail;refine (g.out _).mono ?_;rintro e m ⟨rfl,d⟩;subst d;exact a0a
theorem xt {w:World} {base n:Nat} {v:Value} {xs:List Value} (ty:TypeId) (f:w.ownsRow base 5 1 v n xs) (a:Addr) (c:Nat) (b:Int) (d:∀ j u,[Value.int .u8 b][j]?=some u->w.cell? (a.add j)=some u) (hn:n<=1048576) {t:Value} {w':World} (hr:(Builtin.append_ #[24,24] ty #[v,.slice (some a) 1 c]).run prog w=.ok t w'):t.ownBlock=v.ownBlock\/t.ownBlock=some w.heap.size:=by
 obtain ⟨p,r,m,k,o⟩:=info_parts info5;have x:∀ u ∈ [Value.int .u8 b],u.oneCell'=true:=by simp [Value.oneCell']
 have s:[Value.int .u8 b].length=1*p.size:=by rw [k];rfl
 rcases f.2 with ⟨e,C⟩|⟨g,cap,q,e,D,l,y,z,A,B⟩
 ·subst e;right;have h:=run_append_grow_src (P:=prog) w 24 24 ty 5 p (.int .u8 0) underlying24 r m none 0 0 [] (run_firstCells_none w.drew p.size 0 0 0) (.slice (some a) 1 c) 1 [.int .u8 b] (Src.ofSlice w underlying24 a 1 c [.int .u8 b] s d x) al al (growslice_fits al (by rw [o];omega));rw [h] at hr;injection hr with e1 _
  rw [<- e1];rfl
 ·subst e;by_cases i:n+1<=cap
  ·left;have h:=run_append_room (P:=prog) w 24 ty 5 p underlying24 r g n cap q l a 1 c [.int .u8 b] s d x i (by rw [k] at *;simp;omega);rw [h] at hr;injection hr with e1 _
   rw [<- e1];rfl
  ·right;have holds:∀ j u,xs[j]?=some u->w.cell? ((⟨g,0,none⟩:Addr).add j)=some u:=f.cells (g:=g) rfl;have h:=run_append_grow (P:=prog) w 24 ty 5 p (.int .u8 0) underlying24 r m ⟨g,0,none⟩ n cap xs (by rw [k];exact f.1) holds a 1 c [.int .u8 b] s d al al (growslice_fits al (by rw [o];omega));rw [h] at hr;injection hr with e1 _
   rw [<- e1];rfl
theorem xu {l:Array Oper} {rest:List Oper} {o:Oper} {a:Act} {Q:Exit->Act->World->Prop} {w:World} (p:o.guard=none) (s x:Operand) (E:o.op=.call {callee:=.builtin .append,args:=#[s,x],argTypes:=#[24,24]}) (base n:Nat) (v:Value) (zs:List Int) (hs:a.eval s=v) (i:w.ownsRow base 5 1 v n (zs.map (Value.int .u8))) (hn:n<=1048576) (ad:Addr) (c:Nat) (b:Int) (hx:a.eval x=.slice (some ad) 1 c) (d:∀ j u,[Value.int .u8 b][j]?=some u->w.cell? (ad.add j)=some u) (k:base<=w.heap.size) (h:∀ f g m,m.ownsRow base 5 1 (.slice f (n+1) g) (n+1) ((zs++[b]).map (Value.int .u8))->w.grownBy m v.ownBlock->((Value.slice f (n+1) g).ownBlock=v.ownBlock\/(Value.slice f (n+1) g).ownBlock=some w.heap.size)->wpList prog l Q rest (a.put o.dst (.slice f (n+1) g)) m):wpList prog l Q (o::rest) a w:=by
 obtain ⟨H,D,q,r,t⟩:=info_parts info5;obtain ⟨I,m,z,y,B,M⟩:=run_append_own (P:=prog) w base 24 o.type 5 H (.int .u8 0) 1 1 underlying24 D q r t rfl a5 v n (zs.map (Value.int .u8)) i ad 1 c [.int .u8 b] rfl d (by simp [Value.oneCell']) i5 al k;have G:=xt o.type i ad c b d hn z;have F:∃ f g,I=.slice f (n+1) g:=by
  rcases y.2 with ⟨_,J⟩|⟨L,cap,A,e,_⟩;·omega
  ·exact ⟨_,_,e⟩
 obtain ⟨f,g,rfl⟩:=F;refine wpList_plain p λK C=>?_;unfold Oper.wp execOp;simp only [E,resolve,invoke,builtin,Sem.run_bind,Sem.run_pure,Result.andThen_ok,List.map_toArray,List.map_cons,List.map_nil,hs,hx,z];exact C _ _ (h f g m (by rw [List.map_append];exact y) B G)
theorem Im (w:World) (b:Int) (j:Nat) (u:Value) (h:[Value.int .u8 b][j]?=some u):(w.alloc (.cells #[.int .u8 b] 5)).cell? ((⟨w.heap.size,0,none⟩:Addr).add j)=some u:=by
 have c:j=0:=by
  rcases Nat.eq_zero_or_pos j with a|a;·exact a
  ·rw [List.getElem?_eq_none a7] at h;cases h
 subst c;rw [EY];simp only [List.getElem?_cons_zero,Option.some.injEq] at h;subst h;have e:=heap_alloc_new w (.cells #[.int .u8 b] 5);show (w.alloc (.cells #[.int .u8 b] 5)).cell? ⟨w.heap.size,0,none⟩=_;simp only [World.cell?,e];rfl
end Go.Proofs.YtjifdmoehfbihaaGreatDoor
