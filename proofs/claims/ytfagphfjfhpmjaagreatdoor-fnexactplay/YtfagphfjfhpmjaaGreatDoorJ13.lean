/- Own lemmas. -/
import Derived.Test.YtfagphfjfhpmjaaGreatDoorAuj
import Derived.Test.YtfagphfjfhpmjaaGreatDoorJ13G
import Derived.Test.YtfagphfjfhpmjaaGreatDoorJ10
import Derived.Test.YtfagphfjfhpmjaaGreatDoorJ12
set_option maxRecDepth 100000
set_option maxHeartbeats 40000000
namespace Go.Proofs.YtfagphfjfhpmjaaGreatDoor
open Go.RowKit Tryz
open IntKind renaming u64->Uz
set_option linter.unusedVariables false
variable {a l:Nat} {k:List Int} {B w:World} {b A:MA} {r:Type} {D:Int} {x M:MV} (c:DV) (E d:MV) (p f:Bool) (g:MA) (n:Int) (t:Option Addr) (y:Nat) (R:Option Addr) (j:Nat) (m s:Int) (z:List Int) (C:Nat) (F:World)
theorem NK (n c:Nat) (x:List Int) (w:World) (hx:x.length=n) (hs:Sl .u64 w t x): CE 77 #[.slice t n c] w (.bool (gR n x)):=by
 by_cases h:n=32;·subst h;obtain ⟨b,f,rfl,m,g⟩:=hs 0 ab;have F:Hid (gR 32 x=(x.getD 0 0==0)):=(by show _=_;unfold gR;simp);have j:w.cell? ⟨b,f,none⟩=some (.u (x.getD 0 0)):=g;generalize gR 32 x=V at *;generalize x.getD 0 0=y at *;clear hs hx g;go_enter func77,ntmps77;exact a09
 ·have F:Hid (gR n x=false):=(by show _=_;unfold gR;rw [decide_eq_false h];rfl);have d:((n:Int)==32)=false:=a8;generalize gR n x=V at *;clear hs hx h;go_enter func77,ntmps77;exact a09
theorem D7:Calls prog 76 #[.u n,.i 0,.i 2] F λe b=>e=.returned (.u (bits .and .u64 n 3))/\b=F.drew:=by
 go_enter func76,ntmps76;go_wp2_with fail;go_region;all_goals go_wp2_with fail
 all_goals go_ret
 all_goals exact ⟨rfl,rfl⟩
theorem rE (b:c.xs.length<=1048576) (D:c.ys.length<=1048576): CB 81 #[.agg #[.u c.t,.u c.cm,.bool c.so,.slice t c.xs.length y,.slice R c.ys.length j,.i c.ir]] F (.u (hH c)):=by have p:Hid (∀ F,CB 126 #[.agg #[.u c.t,.u c.cm,.bool c.so,.slice t c.xs.length y,.slice R c.ys.length j,.i c.ir]] F (.u (hH c))):=λF=>wG c t y R j F b D;have q:∀ o,Bw F (F.alloc o):=λo=>(Below.refl _ _).alloc (Nat.le_refl _) o;generalize hH c=v at *;clear b D;go_enter func81,ntmps81;go_wp2_with fail;refine (p.out _).mono ?_;rintro e r ⟨rfl,l⟩;go_wp2_with fail;go_ret;exact ⟨rfl,aa (q _) l⟩
theorem fO (M:MV) (A:MA) (w:World) (hl:iU M) (hs:tA w M A) (R:∀ j,U (M.cs.getD j 0)):CB 29 #[.agg (ap M A)] w (.bool (gE M)):=by
 have s:=λW (_:Bw w W)=>(D7 M.pc W).mono λe w'' ⟨T,V⟩=>And.intro T (show Bw W w'' by rw [V];exact (Below.refl _ _).drew);have z:=λW g=>NK A.ax M.x.length A.cx _ W rfl (hs.x.below g);have y:=λW g=>fp A.ac M.cs.length A.cc _ M.pr W rfl (hs.cs.below g) R;have P:=λW (_:Bw w W)=>fh A.ar M.ram.length A.cr W hl.ram;have O:=λW (_:Bw w W)=>gZ M.d.t M.d.cm M.d.so A.ai M.d.xs.length A.ci A.ao M.d.ys.length A.co M.d.ir W hl.xs hl.ys;have Q:=λW (_:Bw w W)=>rE M.d A.ai A.ci A.ao A.co W hl.xs hl.ys;have u:gE M=((bits .and .u64 M.pc 3==0)&&gR M.x.length M.x&&be M.cs.length M.cs M.pr&&bq M.ram.length&&kP M.d.xs.length M.d.ys.length M.d.ir&&(M.hl||(M.hd==0))&&(bits .and .u64 (M.cs.getD 9 0) 2184==hH M.d)):=by unfold gE lD hH;cases kP M.d.xs.length M.d.ys.length M.d.ir<;>simp
 rw [u];clear u;generalize hH M.d=X at *;generalize r:(bits .and .u64 M.pc 3==0)=p;generalize gR M.x.length M.x=q at *;generalize K:be M.cs.length M.cs M.pr=B at *;generalize bq M.ram.length=C at *;generalize kP M.d.xs.length M.d.ys.length M.d.ir=D at *;generalize L:(M.hd==0)=E;generalize N:(bits .and .u64 (M.cs.getD 9 0) 2184==X)=F;cases B with
 | false =>
   refine bf (S:=Bs w [(ap M A,32)]) [(ap M A,32)] func29 ?_;cases p;case' true=>cases q
   all_goals exact aU (t:=2) (v:=.bool false) Bs.eng {eq:=[(6,af r)],cv:=[(5,eY s),(10,jX z),(17,eY y)]} 300 (Bs.start _ _) (λn h=>⟨bc,h.2⟩)
 | true =>
   have J:=km K;obtain ⟨H,I,f,i,k⟩:=hs.cs 9 ab;obtain ⟨pc,x,m,b,a,d,l,c,o⟩:=M;dsimp only at *;refine bf (S:=Bs w [(ap ⟨pc,x,m,b,a,d,l,c,o⟩ A,32)]) [(ap ⟨pc,x,m,b,a,d,l,c,o⟩ A,32)] func29 ?_;have G:∀ W,Bs w [(ap ⟨pc,x,m,b,a,d,l,c,o⟩ A,32)] W->W.cell? ⟨H,I+9,none⟩=some (.u (b.getD 9 0)):=λW h=>(h.2.cell (by exact i)).trans k;cases p;case' true =>cases q;case' true =>cases C;case' true =>cases D;case' true=>cases c<;>cases E<;>cases F
   all_goals exact aU (t:=2) (v:=.bool _) Bs.eng {eq:=[(6,af r),(35,af L),(47,af N)],ov:=[(41,pe b.length A.cc .i64 9 f ab underlying23 a4),(42,jk _ _ underlying22 rfl G)],cv:=[(5,eY s),(10,jX z),(17,eY y),(22,jX P),(27,eY O),(46,eY Q)]} 300 (Bs.start _ _) (λn h=>⟨rfl,h.2⟩)
theorem BH (cc:Nat) (ar:Option Addr) (Q cr:Nat) (L cm:Int) (F:Bool) (r:Option Addr) (E u:Nat) (s:Option Addr) (no z:Nat) (g hd:Int) (hl wt:Bool) (b:Nat) (nx D:Int) (w:World) (c:w.heap[b]?=some (.cells #[.u n,.slice t y j,.i m,.slice (some ⟨C,0,none⟩) 22 cc,.slice ar Q cr,.u L,.u cm,.bool F,.slice r E u,.slice s no z,.i g,.u hd,.bool hl,.bool wt] 32 (0,0))) (d:w.cell? ⟨C,9,none⟩=some (.u nx)) (B:w.frozen? ⟨C,9,none⟩=false) (J:C<w.heap.size) (I:∀ M,Bw w M->CB 81 #[.agg #[.u L,.u cm,.bool F,.slice r E u,.slice s no z,.i g]] M (.u D)): Calls prog 128 #[.p b 0] w λe M=>e=.returned (.tuple #[])/\∃ o,Bw w o/\M=o.setCell ⟨C,9,none⟩ (.u (bits .or .u64 (bits .andNot .u64 nx 2184) D)):=by
 have K:Hid (CB 81 #[.agg #[.u L,.u cm,.bool F,.slice r E u,.slice s no z,.i g]] w.drew (.u D)):=I w.drew (Below.refl _ _).drew;have l:=ak c;have H:=ak J;have G:=ak (And.intro d B);obtain ⟨Z,p1,p2,p3,p4,p5,p6,p7,p8,p9,R,S,T,U⟩:=aS c;clear I c J;go_enter func128,ntmps128;go_wp2_with fail;go_region_with (first | (go_at_call 81;with_reducible refine K.out.mono ?_;rintro e o ⟨rfl,pr⟩;have q:=ak (aa (Below.refl w.heap.size w).drew pr);clear pr;obtain ⟨q0,q1,q2,q3,q4,q5,q6,q7,q8,q9,V,W,X,Y⟩:=aS (aB q.out l.out);have O:=(q.out.cell (p:=⟨C,9,none⟩) H.out).trans G.out.1;have P:o.frozen? ⟨C,9,none⟩=false:=(by have A:=G.out.2;have N:=q.out.block C H.out;unfold World.frozen? at A ⊢;dsimp only at A ⊢;rw [N];exact A)));all_goals go_wp2_with fail
 all_goals refine bodyPost_end (results_none rfl _ _ _) rfl ?_
 all_goals exact ⟨rfl,o,q.out,rfl⟩
def iA (M:MV):MV:=⟨M.pc,M.x,M.pr,M.cs.set 9 (bits .or .u64 (bits .andNot .u64 (M.cs.getD 9 0) 2184) (hH M.d)),M.ram,M.d,M.hd,M.hl,M.wt⟩
theorem Io:ap (iA E) g=ap E g:=by simp [ap,iA]
theorem Ip:(iA E).cs.length=E.cs.length:=by simp [iA]
theorem oA (h:kP M.d.xs.length M.d.ys.length M.d.ir=true):iA M=bL M:=by
 have:hH M.d=dD M.d:=by unfold hH;rw [h];rfl
 unfold iA bL;rw [this]
theorem wH (u:E.cs.length=22) (hl:iU E) (h:F.heap[y]?=some (.cells (ap E g) 32 (0,0))) (v:aZ j C F (aJ E g)) (hb:∀ q ∈ aJ E g,q.v.ownBlock≠some y): Calls prog 128 #[.p y 0] F λe k=>e=.returned (.tuple #[])/\k.heap[y]?=some (.cells (ap (iA E) g) 32 (0,0))/\aZ j C k (aJ (iA E) g)/\eO (aJ E g) F k:=by
 have c:aG g.ac E.cs.length g.cc E.cs ∈ aJ E g:=ck
 have K:=v.own _ c;have D:=v.msl;obtain ⟨M,G,a,L,I⟩:=D.cs 9 ab;have n:G=0:=by
  rcases K.2 with ⟨e,_⟩|⟨t,cap,s,e,_⟩
  ·have d:Value.slice g.ac E.cs.length g.cc=.slice none 0 0:=e;injection d with e3
   rw [a] at e3;cases e3
  ·have d:Value.slice g.ac E.cs.length g.cc=.slice (some ⟨t,0,none⟩) E.cs.length cap:=e;injection d with e3
   rw [a] at e3;injection e3 with e4
   injection e4
 subst n;rw [Nat.zero_add] at I;have f:(aG g.ac E.cs.length g.cc E.cs).v.ownBlock=some M:=by show (Value.slice g.ac E.cs.length g.cc).ownBlock=_;rw [a];rfl
 have A:M≠y:=λe=>hb _ c (by rw [f,e]);have x:F.frozen? ⟨M,9,none⟩=false:=by
  rcases K.2 with ⟨e,_⟩|⟨t,cap,s,e,N,o,_⟩;·have d:Value.slice g.ac E.cs.length g.cc=.slice none 0 0:=e;rw [a] at d;cases d
  ·have d:Value.slice g.ac E.cs.length g.cc=.slice (some ⟨t,0,none⟩) E.cs.length cap:=e;rw [a] at d;injection d with e3
   injection e3 with e4
   injection e4 with e5
   subst e5;exact dh o 9
 have b:=h;unfold ap at b;rw [a,u] at b;refine (BH _ _ _ _ _ M _ _ _ _ _ _ _ _ _ _ _ _ _ _ _ _ _ y (E.cs.getD 9 0) (hH E.d) F b I x L (λk O=>rE E.d _ _ _ _ k hl.xs hl.ys)).mono ?_;rintro e k ⟨rfl,p,i,rfl⟩;have l:=v.below i;have B:=l.own _ c;refine ⟨rfl,?_,?_⟩;·rw [Io];exact dS (aB i h) ⟨M,9,none⟩ _ (λe=>A e.symm)
 ·have z:p.grownBy (p.setCell ⟨M,9,none⟩ (.u (bits .or .u64 (bits .andNot .u64 (E.cs.getD 9 0) 2184) (hH E.d)))) (aG g.ac E.cs.length g.cc E.cs).v.ownBlock:=(by rw [f];exact xu _ _ _ _);have w:(p.setCell ⟨M,9,none⟩ (.u (bits .or .u64 (bits .andNot .u64 (E.cs.getD 9 0) 2184) (hH E.d)))).ownsRow j 22 1 (.slice g.ac E.cs.length g.cc) E.cs.length ((iA E).cs.map (Value.int .u64)):=(by have o:p.ownsRow j 22 1 (.slice g.ac E.cs.length g.cc) E.cs.length (E.cs.map (Value.int .u64)):=B;rw [a] at o ⊢;have H:=(o.stored 9 (.u (bits .or .u64 (bits .andNot .u64 (E.cs.getD 9 0) 2184) (hH E.d)))).1;rw [kf] at H;exact H);have J:=aZ.markL (L1:=[aG g.ax E.x.length g.cx E.x]) (L2:=[aw g.ar E.ram.length g.cr E.ram,aw g.ai E.d.xs.length g.ci E.d.xs,aw g.ao E.d.ys.length g.co E.d.ys]) (r:=aG g.ac E.cs.length g.cc E.cs) l z _ w;refine ⟨?_,(eO.of_below i).trans J.2⟩;have m:(iA E).cs.length=E.cs.length:=(by simp [iA]);unfold aJ;rw [m];exact J.1
def qA (a:Int):Nat:=min (Lib.ctz 64 (18446744073709551615-a).toNat) 53
theorem KS (d:y<18446744073709551616) (j:Nat):(bits .and .u64 ((y:Int)/2^j) 1==1)=y.testBit j:=by
 have h:=lW (y:Int) ⟨ab,ab⟩ j;have e:=cn ((y:Int)/2^j) 1 h.1 h.2 ab;have b:((2:Int)^1-1)=1:=rfl;rw [b] at e;rw [e,Nat.testBit_eq_decide_div_mod_eq];have c:((y:Int)/2^j%2^1)=((y/2^j%2:Nat):Int):=bc
 rw [c];have:y/2^j%2=0\/y/2^j%2=1:=ab
 rcases this with h|h<;>rw [h]<;>rfl
theorem Iq (c:∀ j,j<y->(bits .and .u64 (n/2^j) 1==1)=true) (d:(bits .and .u64 (n/2^y) 1==1)=false):∀ a i,i<=y->eU n a i=min (i+a) y:=by
 intro a;induction a with
 | zero=>intro i f;show i=min (i+0) y;omega
 | succ a g =>
   intro i f;unfold eU;rcases Nat.lt_or_ge i y with b|e;·rw [if_pos (c i b),g (i+1) b];omega
   ·obtain rfl:i=y:=ab;rw [if_neg (by rw [d];decide)];omega
theorem NL (l:0<=n) (o:n<18014398509481984):qA n=eU n 53 0:=by
 obtain ⟨a,rfl⟩:∃ a:Nat,n=a:=⟨n.toNat,ab⟩
 have i:(18446744073709551615-(a:Int)).toNat=18446744073709551615-a:=ab
 unfold qA
 rw [i]
 have c:18446744073709551615-a≠0:=ab
 have f:Lib.ctz 64 (18446744073709551615-a)=Lib.ctzFrom 64 (18446744073709551615-a):=by unfold Lib.ctz;rw [if_neg c]
 obtain ⟨m,p,g⟩:=Lib.ctzFrom_spec 64 (18446744073709551615-a) ab ab
 rw [f]
 generalize Lib.ctzFrom 64 (18446744073709551615-a)=k at *
 have b:2^k*(2*m+1)<2^64:=ab
 have h:a=2^64-(2^k*(2*m+1)+1):=ab
 have d:∀ j,j<64->a.testBit j=!(decide (k<=j)&&(2*m+1).testBit (j-k)):=by
  intro j e
  rw [h,Nat.testBit_two_pow_sub_succ b,Nat.testBit_two_pow_mul,decide_eq_true e,Bool.true_and]
 rw [Iq (a:Int) k (λj e=>by rw [KS a ab,d j ab,decide_eq_false ab];rfl)
  (by rw [KS a ab,d k g,Nat.sub_self];simp) 53 0 ab]
 omega
def sE (l:List Int) (i:Nat):Int:=if (i==0)=true then 0 else Uz.wrap (4*l.getD (16+i) 0)
def qB (a:Int) (k:Nat):Int:=Uz.wrap (4*Uz.wrap (a/2^(k+1)*2^(k+1)))
def sF (a:Int) (k:Nat):Int:=Uz.wrap (qB a k+Uz.wrap (2^(k+3)))
def eM (l:List Int) (i:Nat):Int × Int :=
 if (iN (l.getD 16 0) i==1)=true then (sE l i,Uz.wrap (4*l.getD (17+i) 0))
 else if (iN (l.getD 16 0) i==2)=true then (Uz.wrap (4*l.getD (17+i) 0),Uz.wrap (Uz.wrap (4*l.getD (17+i) 0)+4))
 else if (iN (l.getD 16 0) i==3)=true then (qB (l.getD (17+i) 0) (qA (l.getD (17+i) 0)),sF (l.getD (17+i) 0) (qA (l.getD (17+i) 0)))
 else (0,0)
theorem KT (f:0<=n) (m:n<18014398509481984) (k:Nat) (hk:k<=53):qB n k=se n k/\Uz.wrap (sF n k-1)=xn n k/\qB n k<sF n k:=by
 have d:U n:=⟨f,ab⟩;have e:=DZ n d (k+1) ab;have a:(0:Int)<2^(k+1):=Int.pow_pos ab;have l:n/2^(k+1)*2^(k+1)<=n:=Int.ediv_mul_le _ ab;have j:0<=n/2^(k+1)*2^(k+1):=Int.mul_nonneg (lW n d (k+1)).1 ab;have g:∀ k,k<=53->(0:Int)<2^(k+3)/\(2:Int)^(k+3)<=72057594037927936:=bb
 obtain ⟨h,i⟩:=g k hk;have b:qB n k=4*(n/2^(k+1)*2^(k+1)):=by unfold qB;generalize n/2^(k+1)*2^(k+1)=z at *;rw [IntKind.wrap_u64,IntKind.wrap_u64];omega
 have c:se n k=4*(n/2^(k+1)*2^(k+1)):=by unfold se;rw [e];generalize n/2^(k+1)*2^(k+1)=z at *;rw [IntKind.wrap_u64];omega
 refine ⟨b.trans c.symm,?_,?_⟩;·unfold sF xn;rw [b,c]
 ·unfold sF;rw [b];generalize n/2^(k+1)*2^(k+1)=z at *;generalize (2:Int)^(k+3)=q at *;rw [IntKind.wrap_u64,IntKind.wrap_u64];omega
theorem BI (hl:∀ j,U (k.getD j 0)) (c:br 22 k=true) (i:Nat) (l:i<4): cU k i=if (eM k i).2<=(eM k i).1 then (0,0,false) else ((eM k i).1,Uz.wrap ((eM k i).2-1),true):=by
 have g:iN (k.getD 16 0) i=jg k i:=xC k (hl 16) i l;have b:=Nz hl c (17+i) ab ab;unfold cU eM;rw [g];cases n:(jg k i==1) with
 | true =>
   simp only [if_true];have f:sE k i=kK k i:=by
    unfold sE kK;rcases Nat.eq_zero_or_pos i with h|h;·subst h;rfl
    ·have:(i==0)=false:=by simp;omega
     rw [this,if_neg a6,if_pos h,Int.mul_comm]
   rw [f,Int.mul_comm 4]
 | false =>
   simp only [Bool.false_eq_true,if_false];cases o:(jg k i==2) with
   | true =>simp only [if_true];generalize k.getD (17+i) 0=a at *;rw [Int.mul_comm a 4];simp only [IntKind.wrap_u64];rw [if_neg ab];congr 2;omega
   | false =>
     simp only [Bool.false_eq_true,if_false];cases p:(jg k i==3) with
     | true =>simp only [if_true];rw [NL _ b.1 b.2];obtain ⟨d,e,m⟩:=KT _ b.1 b.2 (eU (k.getD (17+i) 0) 53 0) (by have:=Kt (k.getD (17+i) 0) 53 0;omega);rw [if_neg ab,d,e]
     | false =>simp only [Bool.false_eq_true,if_false];rfl
def mM (l:List Int) (k:Nat):Option (Nat × Int × Int × Int):=if (eM l k).2<=(eM l k).1 then none else some (k,(eM l k).1,Uz.wrap ((eM l k).2-1),cQ (l.getD 16 0) (8*k) 8)
def gg (l:List Int) (k:Nat):List (Nat × Int × Int × Int):=(List.range k).filterMap (mM l)
theorem Ir (h:(eM k a).2<=(eM k a).1):gg k (a+1)=gg k a:=by
 unfold gg;rw [List.range_succ,List.filterMap_append];have:mM k a=none:=by unfold mM;rw [if_pos h]
 simp [this]
theorem Is (h:¬ (eM k a).2<=(eM k a).1):gg k (a+1)=gg k a++[(a,(eM k a).1,Uz.wrap ((eM k a).2-1),cQ (k.getD 16 0) (8*a) 8)]:=by
 unfold gg;rw [List.range_succ,List.filterMap_append];have:mM k a=some (a,(eM k a).1,Uz.wrap ((eM k a).2-1),cQ (k.getD 16 0) (8*a) 8):=by unfold mM;rw [if_neg h]
 simp [this]
theorem KU:(gg z C).length<=C:=by unfold gg;exact Nat.le_trans (List.length_filterMap_le _ _) bc
theorem KV (l:List Int):∀ d k,gg l k <+: gg l (k+d):=by
 intro d;induction d with
 | zero=>intro k;exact List.prefix_refl _
 | succ d a =>intro k;refine (a k).trans ?_;show gg l (k+d) <+: gg l (k+d+1);unfold gg;rw [List.range_succ,List.filterMap_append];exact List.prefix_append _ _
theorem It {q:r->Bool} {xs pre a:List r} {last:r} (h:pre <+: xs) (e:pre=a++[last]) (b:∀ p ∈ a,q p=false) (hl:q last=true):xs.find? q=some last:=by
 obtain ⟨α,rfl⟩:=h;subst e;rw [List.append_assoc,List.find?_append];have:a.find? q=none:=List.find?_eq_none.2 λp c=>by rw [b p c];decide
 rw [this];simp [hl]
theorem Iu {q:r->Bool} {xs:List r} (a:∀ p ∈ xs,q p=false):xs.find? q=none:=List.find?_eq_none.2 λp b=>by rw [a p b];decide
def Tm (l:List Int) (i:Int):Int × Int × Bool:=match (gg l 4).find? (λp=>(p.1:Int)==i) with | some p=>(p.2.1,p.2.2.1,true) | none=>(0,0,false)
def jB (x y:Int) (p:Nat × Int × Int × Int):Bool:=decide (p.2.1<=y)&&decide (x<=p.2.2.1)
def kM (l:List Int) (x y:Int):Int × Int × Int × Bool:=match (gg l 4).find? (jB x y) with | some p=>(p.2.1,p.2.2.1,p.2.2.2,true) | none=>(0,0,0,false)
theorem KW (hl:∀ j,U (k.getD j 0)) (a:br 22 k=true) (l:Nat) (hk:l<4): (mM k l=none/\cU k l=(0,0,false))\/(∃ c b,mM k l=some (l,c,b,dK k l)/\cU k l=(c,b,true)):=by
 rw [BI hl a l hk];unfold mM;rw [DT k (hl 16) l];by_cases h:(eM k l).2<=(eM k l).1;·rw [if_pos h,if_pos h];exact .inl ⟨rfl,rfl⟩
 ·rw [if_neg h,if_neg h];exact .inr ⟨_,_,rfl,rfl⟩
theorem NM {p:Nat × Int × Int × Int} (h:p ∈ gg k a):p.1<a/\mM k p.1=some p:=by
 unfold gg at h;obtain ⟨n,d,e⟩:=List.mem_filterMap.1 h;have b:n<a:=List.mem_range.1 d;have c:p.1=n:=by
  unfold mM at e;split at e;·cases e
  ·rw [<- Option.some.inj e]
 rw [c];exact ⟨b,e⟩
theorem D8 {l x y:Int} (c:cU k a=(D,l,true)):qd (cU k a) x y=!jB x y (a,D,l,dK k a):=by
 rw [c];unfold qd jB;simp only [Bool.not_true,Bool.false_or,Bool.not_and];congr 1;·rw [<- decide_not];congr 1;exact propext ⟨λh=>ab,λh=>ab⟩
 ·rw [<- decide_not];congr 1;exact propext ⟨λh=>ab,λh=>ab⟩
def RA (p x y kind:Int):Option (Nat × Int × Int × Int)->Bool
 | none=>(p==3)
 | some q=>!(decide (x<q.2.1)||decide (q.2.2.1<y))&&wq q.2.2.2 p kind
theorem Iw (hl:∀ j,U (k.getD j 0)) (b:br 22 k=true) (p x y kind:Int):∀ n l,l+n<=4->aE k p x y kind n l=RA p x y kind (((List.range' l n).filterMap (mM k)).find? (jB x y)):=by
 intro n;induction n with
 | zero=>intro l f;rfl
 | succ n c =>
   intro l f;rw [aE,List.range'_succ,List.filterMap_cons];rcases KW hl b l ab with ⟨e,a⟩|⟨h,d,e,a⟩;·rw [e,c (l+1) ab];have g:qd (cU k l) x y=true:=(by rw [a];rfl);rw [g,if_pos rfl]
   ·rw [e,D8 a];simp only [List.find?_cons];cases i:jB x y (l,h,d,dK k l) with
    | false =>rw [c (l+1) ab];rfl
    | true =>rw [a];rfl
theorem RB:∀ z:Nat,z<256->(bits .and .u64 (z:Int) 128==0)=((z:Int)/128==0)/\(bits .and .u64 (z:Int) 128 != 0)=((z:Int)/128==1)/\(bits .and .u64 (z:Int) 4 != 0)=(bits .and .u64 ((z:Int)/4) 1==1)/\(bits .and .u64 (z:Int) 1 != 0)=(bits .and .u64 (z:Int) 1==1) /\
 (bits .and .u64 (z:Int) 2 != 0)=(bits .and .u64 ((z:Int)/2) 1==1)/\(bits .and .u64 (z:Int) 2==0)=(bits .and .u64 ((z:Int)/2) 1==0):=bb
theorem zm {cs:Array Value} {r:TypeId} (hr:B.heap[a]?=some (.cells cs r (0,0))) (hn:cs.size=14): (do Instr.storeAt 30 (.p a 5) (.agg #[.u c.t,.u c.cm,.bool c.so,.slice t c.xs.length y,.slice R c.ys.length j,.i c.ir]);pure Next.skip:Sem Next).run prog B=.ok .skip (Fk B a c t y R j):=by
 have k:=run_storeCells_cells (P:=prog) a 5 [.u c.t,.u c.cm,.bool c.so,.slice t c.xs.length y,.slice R c.ys.length j,.i c.ir] 0 B (λd h=>by simp only [List.length_cons,List.length_nil] at h;simp [World.cell?,hr,hn];omega) (λd _=>dh hr _) (λv e=>by
  simp only [List.mem_cons,List.not_mem_nil,or_false] at e
  rcases e with rfl|rfl|rfl|rfl|rfl|rfl<;>rfl)
 have f:(prog.info? 30).map (·.size)=some 6:=a4
 obtain ⟨i,g,l⟩:=Option.map_eq_some_iff.1 f
 simp [Instr.storeAt,Instr.sureAddr,storeVar,sizeOf,typeInfo,g,l,Value.cells,k,Result.andThen]
 rfl
def Qd (k:Int) (M M1:MV) (b cd a c is hit:Bool) (d f e:Int) (R:List Int) (D:DV):Int × MV × Int :=
 if b=true then (0,M,oo k) else if cd=true then (0,M1,wrap64 (d+16)) else if a=true then (0,M1,ig k)
 else if c=true then (if (k==3)=true then (0,if hit=true then lB (bG M1 R) else bG M1 R,0) else (f,M1,0))
 else if (k==2)=true then (if is=true then (e,bL (ch M1 D),0) else (0,M1,ig k))
 else if (k==3)=true then (if is=true then (0,if hit=true then lB (bL (ch M1 D)) else bL (ch M1 D),0) else (0,M1,ig k))
 else (0,M1,ig k)
def Sh (N:MV):MV:=⟨N.pc,N.x,N.pr,N.cs,N.ram,N.d,N.hd,false,N.wt⟩
theorem Qe (D:DV):Qd 3 E d false false false false true p n m s z D=(0,if p=true then lB (bL (ch d D)) else bL (ch d D),0):=rfl
theorem NN (D:DV):Qd 3 E d false false false true p f n m s z D=(0,if f=true then lB (bG d z) else bG d z,0):=rfl
theorem vh:(E.hl=false/\lC E n=false)\/(E.hl=true/\(bits .andNot .u64 E.hd 7==bits .andNot .u64 n 7)=false/\lC E n=false)\/E.hl=true/\(bits .andNot .u64 E.hd 7==bits .andNot .u64 n 7)=true/\lC E n=true:=by unfold lC;cases E.hl<;>cases (bits .andNot .u64 E.hd 7==bits .andNot .u64 n 7)<;>simp
theorem D9 {M1:MV} (size M p u K:Int) (wr L q hit:Bool) (yl yd:Int) (R:List Int) (D:DV) (is:Bool) (hk:n=1\/n=2\/n=3) (hm:Mp a l x b B) (hs1:1<=size) (hs8:size<=8) (ha:U m) (hL:∀ w',Mp a l x b w'->Calls prog 132 #[.p l 0,.slice none 0 0,.u m,.i n] w' λe r=>e=.returned (.tuple #[.u u,.i K])/\Mp a l M1 b r/\Kx l (aJ x b) (aJ M1 b) w' r) (C:decide (Uz.wrap (Uz.wrap (u+size)-1)<u)=wr) (Y:∀ w',Mp a l M1 b w'->CE 134 #[.slice b.ac M1.cs.length b.cc,.i M1.pr,.i n] w' (.i p)) (Z:∀ w',Mp a l M1 b w'->CE 133 #[.slice b.ac M1.cs.length b.cc,.i p,.u u,.i size,.i n] w' (.bool L)) (hI:∀ w',Mp a l M1 b w'->CE 135 #[.slice b.ar M1.ram.length b.cr,.u u,.i size] w' (.bool q)) (hD:q=true->∀ w',Mp a l M1 b w'->CE 136 #[.slice b.ar M1.ram.length b.cr,.u u,.i size] w' (.u yl)) (hp:q=true->∀ w',Mp a l M1 b w'->Calls prog 137 #[.slice b.ar M1.ram.length b.cr,.u u,.i size,.u M] w' λe r=>e=.returned (.tuple #[])/\Mp a l (bG M1 R) b r/\Kx l (aJ M1 b) (aJ (bG M1 R) b) w' r) (h8:n=2->∀ w',Mp a l M1 b w'->Calls prog 138 #[.agg #[.u M1.d.t,.u M1.d.cm,.bool M1.d.so,.slice b.ai M1.d.xs.length b.ci,.slice b.ao M1.d.ys.length b.co,.i M1.d.ir],.u u,.i size] w' λe r=>∃ (A:Option Addr) (d:Nat) (c:Option Addr) (f:Nat),e=.returned (.tuple #[.u yd,.agg #[.u D.t,.u D.cm,.bool D.so,.slice A D.xs.length d,.slice c D.ys.length f,.i D.ir],.bool is])/\fo w' r b.ai b.ci M1.d.xs b.ao b.co M1.d.ys A d D.xs c f D.ys/\Bw w' r) (h9:n=3->∀ w',Mp a l M1 b w'->Calls prog 139 #[.agg #[.u M1.d.t,.u M1.d.cm,.bool M1.d.so,.slice b.ai M1.d.xs.length b.ci,.slice b.ao M1.d.ys.length b.co,.i M1.d.ir],.u u,.i size,.u M] w' λe r=>∃ (A:Option Addr) (d:Nat) (c:Option Addr) (f:Nat),e=.returned (.tuple #[.agg #[.u D.t,.u D.cm,.bool D.so,.slice A D.xs.length d,.slice c D.ys.length f,.i D.ir],.bool is])/\fo w' r b.ai b.ci M1.d.xs b.ao b.co M1.d.ys A d D.xs c f D.ys/\Bw w' r) (hN:∀ (J:MA) w',Mp a l (ch M1 D) J w'->Calls prog 85 #[.p l 0] w' λe r=>e=.returned (.tuple #[])/\Mp a l (bL (ch M1 D)) J r/\Kx l (aJ (ch M1 D) J) (aJ (bL (ch M1 D)) J) w' r) (V:Int × MV × Int) (hit1:q=true->hit=lC (bG M1 R) u) (hit0:q=false->hit=lC (bL (ch M1 D)) u) (w:V=Qd n x M1 (m%size != 0) (K != 0) (wr||!L) q is hit K yl yd R D):
 Calls prog 92 #[.p l 0,.slice none 0 0,.u m,.i size,.i n,.u M] B λe w'=>e=.returned (.tuple #[.u V.1,.i V.2.2])/\∃ J,Mp a l V.2.1 J w'/\Kx l (aJ x b) (aJ V.2.1 J) B w':=by
 have o:Uz.wrap size=size:=by rw [IntKind.wrap_u64];omega
 have H:(m.tmod size != 0)=(m%size != 0):=by rw [Int.tmod_eq_emod_of_nonneg ha.1]
 refine bf (S:=Hs l [] (ap x b)) (args:=[.p l 0,.slice none 0 0,.u m,.i size,.i n,.u M]) [] func92 ?_
 refine aL 0 1 ?_
 have H0:Hx a l [] x b B x b B:=⟨hm,Kx.refl _ _ _,λ_ h=>kd⟩
 have f16:IntKind.i64.wrap (K+16)=wrap64 (K+16):=by rw [IntKind.wrap_i64];unfold wrap64;omega
 cases N:(m%size != 0)
 case true =>
  rw [N] at w H
  refine ae (Hs.eng (dr:=false) (λ_ h=>h.hs)) {eq:=[(24,cZ .u64 o),(26,af H)],ov:=[(25,Js .u64 m size ab)]} 60 H0 λW hW=>?_
  refine mq 0 ?_
  refine ae (Hs.eng (dr:=true) (λ_ h=>h.hs)) {} 9 (hW.below (Below.refl _ _).drew) λI h1=>?_
  refine fz 0 (s:=do pure (.value (<- Instr.buildSlice 39 4 #[(0,.i 0),(1,.i 16),(2,.i 20),(3,.i 22)]))) (v:=.slice (some ⟨I.heap.size,0,none⟩) 4 4) (w':=I.alloc (.cells #[.i 0,.i 16,.i 20,.i 22] 2)) a4 ?_
  have O:=h1.var (bal _ _) ⟨I.heap.size,#[.i 0,.i 16,.i 20,.i 22],2,[]⟩ (heap_alloc_new _ _) (Nat.le_refl _)
  refine aK (Hs l [⟨I.heap.size,#[.i 0,.i 16,.i 20,.i 22],2,[]⟩] (ap x b)) (Rn ?_)
  have k:∀ X,Hs l [⟨I.heap.size,#[.i 0,.i 16,.i 20,.i 22],2,[]⟩] (ap x b) X->X.cell? ⟨I.heap.size,0+n.toNat,none⟩=some (.i (oo n)):=λX hX=>by
   rcases hk with rfl|rfl|rfl<;>exact (cell_of_row _ _ _ _ _ _ (hX.2 ⟨I.heap.size,#[.i 0,.i 16,.i 20,.i 22],2,[]⟩ bc)).trans rfl
  obtain rfl | rfl | rfl:=hk<;>subst w<;>exact eC (t:=12) (s:=13) (Hs.eng (dr:=true) (λ_ h=>h.hs)) {ov:=[(30,jk _ _ underlying2 rfl k)]} 60 O (λy h=>⟨rfl,b,h.mp,h.kx⟩)
 rw [N] at w H
 refine aN (Hs.eng (dr:=true) (λ_ h=>h.hs)) {eq:=[(24,cZ .u64 o),(26,af H)],ov:=[(25,Js .u64 m size ab)]} 60 H0 (λW h=>hL W h.mp) ?_
 rintro I e W2 h1 ⟨rfl,p2,k2⟩
 have O:=h1.step p2 k2
 refine ⟨_,0,rfl,fi a4,aK (Hs l [] (ap M1 b)) ?_⟩
 cases cd:(K != 0)
 case true =>
  rw [cd] at w
  subst w
  exact eC (t:=12) (s:=13) (Hs.eng (dr:=true) (λ_ h=>h.hs)) {eq:=[(40,af cd),(42,cZ .i64 f16)]} 60 O (λy h=>⟨rfl,b,h.mp,h.kx⟩)
 rw [cd] at w
 refine ae (Hs.eng (dr:=true) (λ_ h=>h.hs)) {eq:=[(40,af cd)]} 60 O λj h3=>?_
 refine fz 0 (s:=do pure (.value (<- Instr.buildSlice 39 4 #[(0,.i 0),(1,.i 17),(2,.i 21),(3,.i 23)]))) (v:=.slice (some ⟨j.heap.size,0,none⟩) 4 4) (w':=j.alloc (.cells #[.i 0,.i 17,.i 21,.i 23] 2)) a4 ?_
 have P:=h3.var (bal _ _) ⟨j.heap.size,#[.i 0,.i 17,.i 21,.i 23],2,[]⟩ (heap_alloc_new _ _) (Nat.le_refl _)
 refine aK (Hs l [⟨j.heap.size,#[.i 0,.i 17,.i 21,.i 23],2,[]⟩] (ap M1 b)) ?_
 have k:∀ X,Hs l [⟨j.heap.size,#[.i 0,.i 17,.i 21,.i 23],2,[]⟩] (ap M1 b) X->X.cell? ⟨j.heap.size,0+n.toNat,none⟩=some (.i (ig n)):=λX hX=>by
  rcases hk with rfl|rfl|rfl<;>exact (cell_of_row _ _ _ _ _ _ (hX.2 ⟨j.heap.size,#[.i 0,.i 17,.i 21,.i 23],2,[]⟩ bc)).trans rfl
 clear hm hL O H0
 cases addr:(wr||!L)
 case true =>
  rw [addr] at w
  subst w
  cases wr<;>cases L<;>first | (exact absurd addr a6) | skip
  all_goals obtain rfl | rfl | rfl:=hk<;>exact eC (t:=12) (s:=13) (Hs.eng (dr:=true) (λ_ h=>h.hs)) {ov:=[(46,jk _ _ underlying2 rfl k)],eq:=[(49,cZ .u64 o),(53,af C)],cv:=[(68,jY λW h=>Y W h.mp),(72,jY λW h=>Z W h.mp)]} 99 P (λy h=>⟨rfl,b,h.mp,h.kx⟩)
 obtain rfl:wr=false:=by cases wr;rfl;cases addr
 obtain rfl:L=true:=by cases L;cases addr;rfl
 rw [addr] at w
 cases q
 case true =>
  have hD:=hD rfl
  have hp:=hp rfl
  obtain rfl|rfl|rfl:=hk
  case inr.inr =>
   refine aN (Hs.eng (dr:=true) (λ_ h=>h.hs)) {ov:=[(46,jk _ _ underlying2 rfl k)],eq:=[(49,cZ .u64 o),(53,af C)],cv:=[(68,jY λW h=>Y W h.mp),(72,jY λW h=>Z W h.mp),(82,jY λW h=>hI W h.mp)]} 99 P (λW h=>hp W h.mp) ?_
   rintro W5 e E Q ⟨rfl,p6,k6⟩
   have h6:=Q.step p6 k6
   refine ⟨_,0,rfl,fi a4,aK (Hs l [⟨j.heap.size,#[.i 0,.i 17,.i 21,.i 23],2,[]⟩] (ap (bG M1 R) b)) ?_⟩
   rw [NN] at w
   obtain rfl:=hit1 rfl
   subst w
   obtain ⟨addr,e⟩|⟨addr,hq,e⟩|⟨addr,hq,e⟩:=vh (bG M1 R) u
   case inl=>rw [e];exact eC (t:=12) (s:=13) (Hs.eng (dr:=true) (λ_ h=>h.hs)) {eq:=[(103,af addr)]} 99 h6 (λy h=>⟨rfl,b,h.mp,h.kx⟩)
   case inr.inl=>rw [e];exact eC (t:=12) (s:=13) (Hs.eng (dr:=true) (λ_ h=>h.hs)) {eq:=[(103,af addr),(112,af hq)]} 99 h6 (λy h=>⟨rfl,b,h.mp,h.kx⟩)
   rw [e]
   refine ae (Hs.eng (dr:=true) (λ_ h=>h.hs)) {eq:=[(103,af addr),(112,af hq)]} 99 h6 λY1 y1=>?_
   refine bx (cy (i:=12) (T:=4) (v:=.bool false) y1.mp.row (by simp [ap]) a4 rfl) ?_
   have y2:=y1.fld (M':=Sh (bG M1 R)) 12 (.bool false) rfl rfl
   refine aK (Hs l [⟨j.heap.size,#[.i 0,.i 17,.i 21,.i 23],2,[]⟩] (ap (Sh (bG M1 R)) b)) ?_
   refine ae (Hs.eng (dr:=true) (λ_ h=>h.hs)) {} 99 y2 λY3 y3=>?_
   refine bx (cy (i:=11) (T:=22) (v:=.u 0) y3.mp.row (by simp [ap]) a4 rfl) ?_
   have y4:=y3.fld (M':=lB (bG M1 R)) 11 (.u 0) rfl rfl
   refine aK (Hs l [⟨j.heap.size,#[.i 0,.i 17,.i 21,.i 23],2,[]⟩] (ap (lB (bG M1 R)) b)) ?_
   exact eC (t:=12) (s:=13) (Hs.eng (dr:=true) (λ_ h=>h.hs)) {} 99 y4 (λy h=>⟨rfl,b,h.mp,h.kx⟩)
  all_goals
   subst w
   exact eC (t:=12) (s:=13) (Hs.eng (dr:=true) (λ_ h=>h.hs)) {ov:=[(46,jk _ _ underlying2 rfl k)],eq:=[(49,cZ .u64 o),(53,af C)],cv:=[(68,jY λW h=>Y W h.mp),(72,jY λW h=>Z W h.mp),(82,jY λW h=>hI W h.mp),(91,jY λW h=>hD W h.mp)]} 99 P (λy h=>⟨rfl,b,h.mp,h.kx⟩)
 obtain rfl|rfl|rfl:=hk
 case inl =>
  subst w
  exact eC (t:=12) (s:=13) (Hs.eng (dr:=true) (λ_ h=>h.hs)) {ov:=[(46,jk _ _ underlying2 rfl k)],eq:=[(49,cZ .u64 o),(53,af C)],cv:=[(68,jY λW h=>Y W h.mp),(72,jY λW h=>Z W h.mp),(82,jY λW h=>hI W h.mp)]} 99 P (λy h=>⟨rfl,b,h.mp,h.kx⟩)
 all_goals
  refine aN (Hs.eng (dr:=true) (λ_ h=>h.hs)) {ov:=[(46,jk _ _ underlying2 rfl k)],eq:=[(49,cZ .u64 o),(53,af C)],cv:=[(68,jY λW h=>Y W h.mp),(72,jY λW h=>Z W h.mp),(82,jY λW h=>hI W h.mp)]} 99 P (λW h=>by first | exact h8 rfl W h.mp | exact h9 rfl W h.mp) ?_
  rintro W5 e E Q ⟨A,d,c,f,rfl,rn,b6⟩
  refine ⟨_,0,rfl,fi a4,?_⟩
  refine jI (R:=[]) trivial {} 9 3 (cT (T:=30) (z:=.agg (il zeroD none 0 none 0)) a4 E) ?_
  refine eQ (R:=[]) trivial {} 9 (aD (g:=E.heap.size) (t:=30) (ty:=30) (cells:=#[.u D.t,.u D.cm,.bool D.so,.slice A D.xs.length d,.slice c D.ys.length f,.i D.ir]) (heap_alloc_new _ _) a4 a4 (gm D A d c f)) ?_
  have b7:=aR (bal E (.cells (Value.agg (il zeroD none 0 none 0)).cells 30)) (Nat.le_refl _) #[.u D.t,.u D.cm,.bool D.so,.slice A D.xs.length d,.slice c D.ys.length f,.i D.ir]
  have q7:=setRow_heap _ _ _ #[.u D.t,.u D.cm,.bool D.so,.slice A D.xs.length d,.slice c D.ys.length f,.i D.ir] _ _ (heap_alloc_new E (.cells (Value.agg (il zeroD none 0 none 0)).cells 30))
  have rn7:=rn.below b7
  have b8:=aa b6 b7
  have G:=(Q.below b6).var b7 ⟨E.heap.size,#[.u D.t,.u D.cm,.bool D.so,.slice A D.xs.length d,.slice c D.ys.length f,.i D.ir],30,[]⟩ q7 (Nat.le_refl _)
  generalize (E.alloc (.cells (Value.agg (il zeroD none 0 none 0)).cells 30)).setRow E.heap.size #[.u D.t,.u D.cm,.bool D.so,.slice A D.xs.length d,.slice c D.ys.length f,.i D.ir]=W8 at *
  cases is
  case false =>
   subst w
   refine aK (Hs l [⟨j.heap.size,#[.i 0,.i 17,.i 21,.i 23],2,[]⟩,⟨E.heap.size,#[.u D.t,.u D.cm,.bool D.so,.slice A D.xs.length d,.slice c D.ys.length f,.i D.ir],30,[]⟩] (ap M1 b)) ?_
   exact eC (t:=12) (s:=13) (Hs.eng (dr:=true) (λ_ h=>h.hs)) {} 99 G (λy h=>⟨rfl,b,h.mp,h.kx⟩)
  refine eQ (R:=[⟨l,ap M1 b,[]⟩,⟨j.heap.size,#[.i 0,.i 17,.i 21,.i 23],[]⟩,⟨E.heap.size,#[.u D.t,.u D.cm,.bool D.so,.slice A D.xs.length d,.slice c D.ys.length f,.i D.ir],[]⟩]) ⟨⟨_,_,G.mp.row⟩,⟨_,_,(G.rows ⟨j.heap.size,#[.i 0,.i 17,.i 21,.i 23],2,[]⟩ bc).1⟩,⟨_,_,q7⟩,trivial⟩ {} 60 (zm D A d c f G.mp.row (by simp [ap])) ?_
  obtain ⟨pD,kD⟩:=Q.mp.dev b8 D rn7
  refine aK (Hs l [⟨j.heap.size,#[.i 0,.i 17,.i 21,.i 23],2,[]⟩] (ap (ch M1 D) (lR b A d c f))) (aN (Hs.eng (dr:=true) (λ_ h=>h.hs)) {} 60 (Q.step pD kD) (λW h=>hN _ W h.mp) ?_)
  rintro W10 e W11 h10 ⟨rfl,p11,k11⟩
  have F:=h10.step p11 k11
  refine ⟨_,0,rfl,fi a4,aK (Hs l [⟨j.heap.size,#[.i 0,.i 17,.i 21,.i 23],2,[]⟩] (ap (bL (ch M1 D)) (lR b A d c f))) ?_⟩
 ·obtain rfl:V=(yd,bL (ch M1 D),0):=w
  exact eC (t:=12) (s:=13) (Hs.eng (dr:=true) (λ_ h=>h.hs)) {} 99 F (λy h=>⟨rfl,_,h.mp,h.kx⟩)
 rw [Qe] at w
 obtain rfl:=hit0 rfl
 subst w
 obtain ⟨addr,e⟩|⟨addr,hq,e⟩|⟨addr,hq,e⟩:=vh (bL (ch M1 D)) u
 case inl=>rw [e];exact eC (t:=12) (s:=13) (Hs.eng (dr:=true) (λ_ h=>h.hs)) {eq:=[(169,af addr)]} 99 F (λy h=>⟨rfl,(lR b A d c f),h.mp,h.kx⟩)
 case inr.inl=>rw [e];exact eC (t:=12) (s:=13) (Hs.eng (dr:=true) (λ_ h=>h.hs)) {eq:=[(169,af addr),(178,af hq)]} 99 F (λy h=>⟨rfl,(lR b A d c f),h.mp,h.kx⟩)
 rw [e]
 refine ae (Hs.eng (dr:=true) (λ_ h=>h.hs)) {eq:=[(169,af addr),(178,af hq)]} 99 F λY1 y1=>?_
 refine bx (cy (i:=12) (T:=4) (v:=.bool false) y1.mp.row (by simp [ap]) a4 rfl) ?_
 have y2:=y1.fld (M':=Sh (bL (ch M1 D))) 12 (.bool false) rfl rfl
 refine aK (Hs l [⟨j.heap.size,#[.i 0,.i 17,.i 21,.i 23],2,[]⟩] (ap (Sh (bL (ch M1 D))) (lR b A d c f))) ?_
 refine ae (Hs.eng (dr:=true) (λ_ h=>h.hs)) {} 99 y2 λY3 y3=>?_
 refine bx (cy (i:=11) (T:=22) (v:=.u 0) y3.mp.row (by simp [ap]) a4 rfl) ?_
 have y4:=y3.fld (M':=lB (bL (ch M1 D))) 11 (.u 0) rfl rfl
 refine aK (Hs l [⟨j.heap.size,#[.i 0,.i 17,.i 21,.i 23],2,[]⟩] (ap (lB (bL (ch M1 D))) (lR b A d c f))) ?_
 exact eC (t:=12) (s:=13) (Hs.eng (dr:=true) (λ_ h=>h.hs)) {} 99 y4 (λy h=>⟨rfl,(lR b A d c f),h.mp,h.kx⟩)
theorem KX (d f va M:Int) (hm:Mp a l x b B) (L:∀ c,Mp a l x b c->CE 134 #[.slice b.ac x.cs.length b.cc,.i x.pr,.i m] c (.i s)) (I:∀ c,Mp a l x b c->CB 197 #[.slice b.ar x.ram.length b.cr,.slice b.ac x.cs.length b.cc,.i s,.u n,.i m] c (.agg #[.u d,.i f,.bool p,.u va,.u M])) (N:p=true->∀ c,Mp a l x b c->Calls prog 137 #[.slice b.ar x.ram.length b.cr,.u va,.i 8,.u M] c λe k=>e=.returned (.tuple #[])/\Mp a l E b k/\Kx l (aJ x b) (aJ E b) c k) (K:p=false->E=x) (D:ap E b=ap x b): Calls prog 132 #[.p l 0,.slice none 0 0,.u n,.i m] B λe c=>e=.returned (.tuple #[.u d,.i f])/\Mp a l E b c/\Kx l (aJ x b) (aJ E b) B c:=by
 have fin:∀ (S:World->Prop) (w:Nat) (W:World),Hx a l [⟨w,#[.u d,.i f,.bool p,.u va,.u M],243,[]⟩] x b B x b W->Wg prog S (bodyPost prog Tryz.f132 λe c=>e=.returned (.tuple #[.u d,.i f])/\Mp a l E b c/\Kx l (aJ x b) (aJ E b) B c) Tryz.f132.ntmps [.code (ay 5 (aW Tryz.f132))] [(0,.p l 0,1),(11,.bool false,0),(13,.p w 0,2)] W:=λS w W h=>by
  refine aK (Hs l [⟨w,#[.u d,.i f,.bool p,.u va,.u M],243,[]⟩] (ap x b)) ?_;cases p with
  | false =>obtain rfl:=K rfl;exact kt (Hs.eng (dr:=true) (λ_ h=>h.hs)) {} 99 h λo r h C=>⟨.tuple #[.u d,.i f],kr,rfl,h.mp,h.kx⟩
  | true =>refine aN (Hs.eng (dr:=true) (λ_ h=>h.hs)) {} 99 h (λW h=>N rfl W h.mp) ?_;rintro V e X q ⟨rfl,U,R⟩;have H:=q.step U R;refine ⟨_,0,rfl,λ_=>D ▸ H.hs,?_⟩;exact kt (Hs.eng (dr:=true) (λ_ h=>D ▸ h.hs)) {} 99 H λo r h C=>⟨.tuple #[.u d,.i f],kr,rfl,h.mp,h.kx⟩
 have var:∀ (W o:World) (w:Nat),Hx a l [] x b B x b W->Bw W o->W.heap.size<=w->o.heap[w]?=some (.cells #[.u d,.i f,.bool p,.u va,.u M] 243 (0,0))->Hx a l [⟨w,#[.u d,.i f,.bool p,.u va,.u M],243,[]⟩] x b B x b o:=λW o w h O P Q=>h.var O _ Q P;refine bf (S:=Hx a l [] x b B x b) (args:=[.p l 0,.slice none 0 0,.u n,.i m]) [] func132 ?_;refine aL 0 1 ?_;refine ae (Hx.eng (dr:=true)) {cv:=[(23,jY λW h=>L W h.mp)]} 99 (⟨hm,Kx.refl _ _ _,λ_ h=>kd⟩:Hx a l [] x b B x b B) λkind fm=>?_;refine mr (i:=11) (j:=12) ?_ ?_;·refine lY (I kind fm.mp) λe F M2=>?_;obtain ⟨rfl,u⟩:=M2;have q:=fm.below u;refine ⟨_,0,rfl,q,?_⟩;have A:=bal F (.cells jn 243);refine fz 2 (cT (T:=243) (z:=.agg jn) a4 F) (hS:=λ_=>q.below A) ?_;have y:=aR A (Nat.le_refl _) #[.u d,.i f,.bool p,.u va,.u M];refine bx (aD (g:=F.heap.size) (t:=243) (ty:=243) (old:=jn) (cells:=#[.u d,.i f,.bool p,.u va,.u M]) (heap_alloc_new _ _) a4 rfl a4) (hS:=λ_=>q.below y) ?_;refine ae (Hx.engL (dr:=true) (λ_ h=>kd)) {} 1 (var _ _ _ q y (Nat.le_refl _) (setRow_heap _ _ _ _ _ _ (heap_alloc_new _ _))) λW h=>?_;exact an _ _ (fin _ _ _ h)
 ·have u:=bal kind (.cells jn 243);refine nI 2 (cT (T:=243) (z:=.agg jn) a4 kind) (fm.below u) ?_;refine ij (I _ (fm.below u).mp) λe Y M2=>?_;obtain ⟨rfl,A⟩:=M2;have y:=aa u A;refine ⟨_,0,rfl,λ_=>fm.below y,?_⟩;have J:=aB A (heap_alloc_new kind (.cells jn 243));have G:=aR y (Nat.le_refl _) #[.u d,.i f,.bool p,.u va,.u M];refine bx (aD (g:=kind.heap.size) (t:=243) (ty:=243) (old:=jn) (cells:=#[.u d,.i f,.bool p,.u va,.u M]) J a4 rfl a4) (hS:=λ_=>fm.below G) ?_;refine ae (Hx.engL (dr:=true) (λ_ h=>kd)) {} 1 (var _ _ _ fm G (Nat.le_refl _) (setRow_heap _ _ _ _ _ _ J)) λW h=>?_;exact an _ _ (fin _ _ _ h)
theorem O8 (a:M.cs.length=22) (hs:Sl .u64 w A.ac M.cs) (kind:Int):CE 134 #[.slice A.ac M.cs.length A.cc,.i M.pr,.i kind] w (.i (fV M.cs M.pr kind)):=by obtain ⟨b,c,e,_,d⟩:=hs 0 ab;rw [e,a];exact te b c A.cc M.cs M.pr kind w d
theorem Qf (a:M.cs.length=22) (hr:bq M.ram.length=true) (hs:tA w M A) (j:MW M) (p va kind:Int) (i:bN p=true) (d:1<=kind) (f:kind<=3) (g:U va):CB 197 #[.slice A.ar M.ram.length A.cr,.slice A.ac M.cs.length A.cc,.i p,.u va,.i kind] w (.agg (bT M.ram M.ram.length M.cs p va kind).cells):=by obtain ⟨b,h,e,_,_⟩:=hs.cs 0 ab;have c:=hs.cs;rw [e] at c;rw [e,a];exact DP A.ar M.ram.length A.cr M.ram b h A.cc M.cs p va kind w hr rfl hs.ram j.ram a c i d f g
theorem zn (hm:Mp y j E g F) (hl:iU E) (o:MW E) (r:gE E=true) (A:1<=s) (i:s<=3) (l:U m) (w:Fd) (hF:bT E.ram E.ram.length E.cs (fV E.cs E.pr s) m s=w): Calls prog 132 #[.p j 0,.slice none 0 0,.u m,.i s] F λe a=>e=.returned (.tuple #[.u w.addr,.i w.code])/\Mp y j (bG E (bo E.ram w)) g a/\Kx j (aJ E g) (aJ (bG E (bo E.ram w)) g) F a:=by obtain ⟨b,f,k,v,D,C⟩:=aI r;have u:=vb (o.cs 0) f k s;have t:=λa (h:Mp y j E g a)=>O8 (M:=E) (A:=g) (w:=a) b h.fam.msl.cs s;have n:=λa (h:Mp y j E g a)=>Qf (M:=E) (A:=g) (w:=a) b v h.fam.msl o (fV E.cs E.pr s) m s u A i l;have c:=Hy E.ram E.ram.length E.cs (fV E.cs E.pr s) m s;rw [hF] at c;simp only [hF] at n;obtain ⟨p,q,kind,va,d⟩:=w;refine KX _ kind m s _ p q va d hm t n (λe=>?_) (λe=>by rw [e];rfl) (by unfold ap bG;dsimp only;rw [kj]);obtain ⟨x,B⟩:=c e;have z:0<=d/\d<18446744073709551616:=B;subst e;exact λa h=>Bn E g y j va 8 d a hl.ram x z.1 ab h
theorem Qg (a:M.cs.length=22) (hs:Sl .u64 B b.ac M.cs) (p x s kind:Int):CE 133 #[.slice b.ac M.cs.length b.cc,.i p,.u x,.i s,.i kind] B (.bool (aE M.cs p x (bm x s) kind 4 0)):=by rw [a];exact ml b.ac b.cc M.cs p x s kind B a hs
theorem Qh {size:Int} (hs:Sl .u8 B b.ar M.ram) (hl:M.ram.length<=1048576) (h:∀ y ∈ M.ram,(Lit.int .u8 y).wf=true) (a:gU M.ram.length D size=true):CE 136 #[.slice b.ar M.ram.length b.cr,.u D,.i size] B (.u (le M.ram (D-2147483648).toNat size.toNat)):=by
 have j:=j8 a;obtain ⟨f,d⟩:∃ f:Nat,f=(D-2147483648).toNat:=⟨_,rfl⟩;obtain ⟨m,g⟩:∃ m:Nat,m=size.toNat:=⟨_,rfl⟩;have A:D=2147483648+(f:Int):=ab
 have c:size=(m:Int):=ab
 rw [<- d,<- g,A,c];exact tZ b.ar M.ram.length b.cr f m M.ram B rfl hl hs h ab ab ab
theorem FI (h:aZ a l B (aJ M b)):aZ a l B (fC b.ai M.d.xs.length b.ci M.d.xs b.ao M.d.ys.length b.co M.d.ys):=h.sub (.cons _ (.cons _ (.cons _ (List.Sublist.refl _))))
theorem KY (h:c.xs.length<=1048576) (a:c.ys.length<=1048576):(jq c y).2.1.xs.length<=1048576/\(jq c y).2.1.ys.length<=1048576:=by have:=NE c y;omega
theorem fR (kind x:Int) (w:World) (hm:Mp y j E g w) (hl:iU E) (o:MW E) (r:gE E=true) (addr:jr s=true) (u:1<=kind) (v:kind<=3) (q:U m) (hx:U x): Calls prog 92 #[.p j 0,.slice none 0 0,.u m,.i s,.i kind,.u x] w λe a=>e=.returned (.tuple #[.u (aC E m s kind x).1,.i (aC E m s kind x).2.2])/\∃ n,Mp y j (aC E m s kind x).2.1 n a/\Kx j (aJ E g) (aJ (aC E m s kind x).2.1 n) w a:=by
 obtain ⟨d,H,J,K,I,N⟩:=aI r;have b:=uo I;have c:dp E.d:=⟨o.xs,o.ys⟩;have L:s=1\/s=2\/s=4\/s=8:=of_decide_eq_true addr;have k:1<=s:=ab
 have l:s<=8:=ab
 obtain ⟨F,hF⟩:∃ F,bT E.ram E.ram.length E.cs (fV E.cs E.pr kind) m kind=F:=⟨_,rfl⟩;have i:U F.addr:=by rw [<- hF];exact tH _ _ _ _ _ _ q
 have z:bq (bG E (bo E.ram F)).ram.length=true:=by show bq (bo E.ram F).length=true;rw [kj];exact K
 have f:(bG E (bo E.ram F)).ram.length<=1048576:=by show (bo E.ram F).length<=_;rw [kj];exact hl.ram
 have M:=zf E.ram o.ram F;have A:decide (Uz.wrap (Uz.wrap (F.addr+s)-1)<F.addr)=decide (bm F.addr s<F.addr):=by rw [D3 _ _ k l]
 have B:∀ D:DV,(D.xs.length<=1048576/\D.ys.length<=1048576)->iU (ch (bG E (bo E.ram F)) D):=λD h=>⟨hl.x,hl.cs,f,h.1,h.2⟩;have size:=KY E.d (gC F.addr s) hl.xs hl.ys;have C:=FD E.d x hl.xs b.2.1 (gC F.addr s);have G:kind=1\/kind=2\/kind=3:=ab
 have p:(if kind=3 then (fL E.d x (gC F.addr s)).1 else (jq E.d (gC F.addr s)).2.1).xs.length<=1048576/\(if kind=3 then (fL E.d x (gC F.addr s)).1 else (jq E.d (gC F.addr s)).2.1).ys.length<=1048576:=by split<;>assumption
 refine D9 (M1:=bG E (bo E.ram F)) kind m s x (fV E.cs E.pr kind) F.addr F.code (decide (bm F.addr s<F.addr)) (aE E.cs (fV E.cs E.pr kind) F.addr (bm F.addr s) kind 4 0) (gU (bG E (bo E.ram F)).ram.length F.addr s) (lC (bG E (bo E.ram F)) F.addr) (le (bo E.ram F) (F.addr-2147483648).toNat s.toNat) (jq E.d (gC F.addr s)).1 (lP (bo E.ram F) (F.addr-2147483648).toNat x s.toNat) (if kind=3 then (fL E.d x (gC F.addr s)).1 else (jq E.d (gC F.addr s)).2.1) (if kind=3 then (fL E.d x (gC F.addr s)).2 else (jq E.d (gC F.addr s)).2.2) G hm k l q (λa h=>zn E g y j m kind a h hl o r u v q F hF) A (λa h=>O8 (M:=bG E (bo E.ram F)) (A:=g) d h.fam.msl.cs kind) (λa h=>Qg (M:=bG E (bo E.ram F)) d h.fam.msl.cs _ _ _ _) (λa h=>tY _ _ _ _ _ a z addr i.1 (by have:=i.2;omega)) (λt a h=>Qh (M:=bG E (bo E.ram F)) h.fam.msl.ram f M t) (λt a h=>Bn (bG E (bo E.ram F)) g y j F.addr s x a f t hx.1 (by have:=hx.2;omega) h) (λe a h=>?_) (λe a h=>?_) (λn a h=>xv _ n y j a d (B _ p) h) _ (λ_=>rfl) (λ_=>rfl) ?_;·subst e;exact Dx E.d g.ai g.ci g.ao g.co F.addr s y a.heap.size a b.1 c (by have:=h.lo;have:=h.lt;omega) (Nat.le_refl _) (FI (M:=bG E (bo E.ram F)) h.fam)
 ·subst e;exact AU E.d g.ai g.ci g.ao g.co F.addr s x y a.heap.size a b.2.1 (by have:=h.lo;have:=h.lt;omega) (Nat.le_refl _) (FI (M:=bG E (bo E.ram F)) h.fam)
 ·rcases G with rfl|rfl|rfl<;>(unfold aC;rw [hF];rfl)
theorem g9:aZ y j F (aJ au zeroA):=by
 refine ⟨λr a=>?_,λr a k e=>?_,?_⟩;·simp only [aJ,List.mem_cons,List.not_mem_nil,or_false] at a;rcases a with rfl | rfl | rfl | rfl | rfl<;>exact ⟨rfl,.inl ⟨rfl,rfl⟩⟩
 ·simp only [aJ,List.mem_cons,List.not_mem_nil,or_false] at a;rcases a with rfl|rfl|rfl|rfl|rfl<;>cases e
 ·simp only [aJ,List.pairwise_cons,List.mem_cons,List.not_mem_nil,or_false];refine ⟨λs _ k e=>?_,λs _ k e=>?_,λs _ k e=>?_,λs _ k e=>?_,λs h=>h.elim,List.Pairwise.nil⟩<;>cases e
def vi (M:MV) (size kind:Int):Bool:=gE M&&jr size&&decide (1<=kind/\kind<=3)&&!((kind==1)&&(size != 4))
def tI (M:MV) (addr size kind x:Int):Int × MV × Int:=if vi M size kind=true then aC M addr size kind x else (0,au,99)
theorem cj:(ap E g).all (·.oneCell')=true:=by unfold ap;kernel_rfl
end Go.Proofs.YtfagphfjfhpmjaaGreatDoor
