/- Own lemmas. -/
import Derived.Test.YtjifdmoehfbihaaGreatDoorAut
import Derived.Test.YtjifdmoehfbihaaGreatDoorK21
import Derived.Test.YtjifdmoehfbihaaGreatDoorK23
set_option maxRecDepth 100000
set_option maxHeartbeats 40000000
namespace Go.Proofs.YtjifdmoehfbihaaGreatDoor
open Go.RowKit Tryz
open IntKind renaming u64->Uz
set_option linter.unusedVariables false
theorem OM (a:Option Addr) (n c:Nat) (x:List Int) (w:World) (hx:x.length=n) (hs:Sl .u64 w a x):CE 67 #[.slice a n c] w (.bool (gg n x)):=by
 by_cases h:n=32;·subst h;obtain ⟨b,f,rfl,m,g⟩:=hs 0 ab;have F:Hid (gg 32 x=(x.getD 0 0==0)):=(by show _=_;unfold gg;simp);have j:w.cell? ⟨b,f,none⟩=some (.u (x.getD 0 0)):=g;generalize gg 32 x=V at *;generalize x.getD 0 0=y at *;clear hs hx g;go_enter func67,ntmps67;exact yn
 ·have F:Hid (gg n x=false):=(by show _=_;unfold gg;rw [decide_eq_false h];rfl);have d:((n:Int)==32)=false:=bh;generalize gg n x=V at *;clear hs hx h;go_enter func67,ntmps67;exact yn
theorem Eo (x:Int) (w:World):Calls prog 66 #[.u x,.i 0,.i 2] w λe b=>e=.returned (.u (bits .and .u64 x 3))/\b=w.drew:=by
 go_enter func66,ntmps66;go_wp2_with fail;go_region;all_goals go_wp2_with fail
 all_goals go_ret
 all_goals exact ⟨rfl,rfl⟩
theorem yc (D:DV) (a1:Option Addr) (c1:Nat) (a2:Option Addr) (c2:Nat) (w:World) (b:D.xs.length<=1048576) (c:D.ys.length<=1048576):CB 71 #[.agg #[.u D.t,.u D.cm,.bool D.so,.slice a1 D.xs.length c1,.slice a2 D.ys.length c2,.i D.ir]] w (.u (iQ D)):=by have g:Hid (∀ w,CB 110 #[.agg #[.u D.t,.u D.cm,.bool D.so,.slice a1 D.xs.length c1,.slice a2 D.ys.length c2,.i D.ir]] w (.u (iQ D))):=λw=>wY D a1 c1 a2 c2 w b c;have j:∀ o,Bw w (w.alloc o):=λo=>(Below.refl _ _).alloc (Nat.le_refl _) o;generalize iQ D=v at *;clear b c;go_enter func71,ntmps71;go_wp2_with fail;refine (g.out _).mono ?_;rintro e l ⟨rfl,d⟩;go_wp2_with fail;go_ret;exact ⟨rfl,aa (j _) d⟩
theorem gT (M:MV) (A:MA) (w:World) (hl:j7 M) (hs:sa w M A) (R:∀ j,U (M.cs.getD j 0)):CB 27 #[.agg (aq M A)] w (.bool (ey M)):=by
 have s:=λW (_:Bw w W)=>(Eo M.pc W).mono λe w'' ⟨T,V⟩=>And.intro T (show Bw W w'' by rw [V];exact (Below.refl _ _).drew);have z:=λW g=>OM A.ax M.x.length A.cx _ W rfl (hs.x.below g);have y:=λW g=>fh A.ac M.cs.length A.cc _ M.pr W rfl (hs.cs.below g) R;have P:=λW (_:Bw w W)=>eZ A.ar M.ram.length A.cr W hl.ram;have O:=λW (_:Bw w W)=>jU M.d.t M.d.cm M.d.so A.ai M.d.xs.length A.ci A.ao M.d.ys.length A.co M.d.ir W hl.xs hl.ys;have Q:=λW (_:Bw w W)=>yc M.d A.ai A.ci A.ao A.co W hl.xs hl.ys;have u:ey M=((bits .and .u64 M.pc 3==0)&&gg M.x.length M.x&&aX M.cs.length M.cs M.pr&&aU M.ram.length&&nD M.d.xs.length M.d.ys.length M.d.ir&&(M.hl||(M.hd==0))&&(bits .and .u64 (M.cs.getD 9 0) 2184==iQ M.d)):=by unfold ey ls iQ;cases nD M.d.xs.length M.d.ys.length M.d.ir<;>simp
 rw [u];clear u;generalize iQ M.d=X at *;generalize r:(bits .and .u64 M.pc 3==0)=p;generalize gg M.x.length M.x=q at *;generalize K:aX M.cs.length M.cs M.pr=B at *;generalize aU M.ram.length=C at *;generalize nD M.d.xs.length M.d.ys.length M.d.ir=D at *;generalize L:(M.hd==0)=E;generalize N:(bits .and .u64 (M.cs.getD 9 0) 2184==X)=F;cases B with
 | false =>
   refine bz (S:=Bs w [(aq M A,32)]) [(aq M A,32)] func27 ?_;cases p;case' true=>cases q
   all_goals exact aY (t:=2) (v:=.bool false) Bs.eng {eq:=[(6,aj r)],cv:=[(5,fW s),(10,mM z),(17,fW y)]} 300 (Bs.start _ _) (λn h=>⟨cp,h.2⟩)
 | true =>
   have J:=qo K;obtain ⟨H,I,f,i,k⟩:=hs.cs 9 ab;obtain ⟨pc,x,m,b,a,d,l,c,o⟩:=M;dsimp only at *;refine bz (S:=Bs w [(aq ⟨pc,x,m,b,a,d,l,c,o⟩ A,32)]) [(aq ⟨pc,x,m,b,a,d,l,c,o⟩ A,32)] func27 ?_;have G:∀ W,Bs w [(aq ⟨pc,x,m,b,a,d,l,c,o⟩ A,32)] W->W.cell? ⟨H,I+9,none⟩=some (.u (b.getD 9 0)):=λW h=>(h.2.cell (by exact i)).trans k;cases p;case' true =>cases q;case' true =>cases C;case' true =>cases D;case' true=>cases c<;>cases E<;>cases F
   all_goals exact aY (t:=2) (v:=.bool _) Bs.eng {eq:=[(6,aj r),(35,aj L),(47,aj N)],ov:=[(41,kN b.length A.cc .i64 9 f ab underlying23 al),(42,iR _ _ underlying22 rfl G)],cv:=[(5,fW s),(10,mM z),(17,fW y),(22,mM P),(27,fW O),(46,fW Q)]} 300 (Bs.start _ _) (λn h=>⟨rfl,h.2⟩)
theorem BH (pc:Int) (L:Option Addr) (nx cx:Nat) (pr:Int) (g cc:Nat) (ar:Option Addr) (P cr:Nat) (t cm:Int) (F:Bool) (r:Option Addr) (E u:Nat) (s:Option Addr) (no z:Nat) (C hd:Int) (hl wt:Bool) (b:Nat) (y D:Int) (w:World) (c:w.heap[b]?=some (.cells #[.u pc,.slice L nx cx,.i pr,.slice (some ⟨g,0,none⟩) 22 cc,.slice ar P cr,.u t,.u cm,.bool F,.slice r E u,.slice s no z,.i C,.u hd,.bool hl,.bool wt] 32 (0,0))) (d:w.cell? ⟨g,9,none⟩=some (.u y)) (B:w.frozen? ⟨g,9,none⟩=false) (J:g<w.heap.size) (I:∀ j,Bw w j->CB 71 #[.agg #[.u t,.u cm,.bool F,.slice r E u,.slice s no z,.i C]] j (.u D)):Calls prog 254 #[.p b 0] w λe j=>e=.returned (.tuple #[])/\∃ o,Bw w o/\j=o.setCell ⟨g,9,none⟩ (.u (bits .or .u64 (bits .andNot .u64 y 2184) D)):=by
 have K:Hid (CB 71 #[.agg #[.u t,.u cm,.bool F,.slice r E u,.slice s no z,.i C]] w.drew (.u D)):=I w.drew (Below.refl _ _).drew;have l:=aD c;have H:=aD J;have G:=aD (And.intro d B);obtain ⟨Y,Z,p2,p3,p4,p5,p6,p7,p8,p9,Q,R,S,T⟩:=aR c;clear I c J;go_enter func254,ntmps254;go_wp2_with fail;go_region_with (first | (go_at_call 71;with_reducible refine K.out.mono ?_;rintro e o ⟨rfl,m⟩;have q:=aD (aa (Below.refl w.heap.size w).drew m);clear m;obtain ⟨q0,q1,q2,q3,q4,q5,q6,q7,q8,q9,U,V,W,X⟩:=aR (bA q.out l.out);have N:=(q.out.cell (p:=⟨g,9,none⟩) H.out).trans G.out.1;have O:o.frozen? ⟨g,9,none⟩=false:=i2));all_goals go_wp2_with fail
 all_goals refine bodyPost_end (results_none rfl _ _ _) rfl ?_
 all_goals exact ⟨rfl,o,q.out,rfl⟩
def hO (M:MV):MV:=⟨M.pc,M.x,M.pr,M.cs.set 9 (bits .or .u64 (bits .andNot .u64 (M.cs.getD 9 0) 2184) (iQ M.d)),M.ram,M.d,M.hd,M.hl,M.wt⟩
theorem IS (M:MV) (A:MA):aq (hO M) A=aq M A:=by simp [aq,hO]
theorem IT (M:MV):(hO M).cs.length=M.cs.length:=by simp [hO]
theorem qD {M:MV} (h:nD M.d.xs.length M.d.ys.length M.d.ir=true):hO M=cC M:=by
 have:iQ M.d=dD M.d:=by unfold iQ;rw [h];rfl
 unfold hO cC;rw [this]
theorem wZ (M:MV) (A:MA) (b B E:Nat) (w:World) (t:M.cs.length=22) (hl:j7 M) (f:w.heap[b]?=some (.cells (aq M A) 32 (0,0))) (u:bx B E w (aI M A)) (hb:∀ q ∈ aI M A,q.v.ownBlock≠some b):Calls prog 254 #[.p b 0] w λe j=>e=.returned (.tuple #[])/\j.heap[b]?=some (.cells (aq (hO M) A) 32 (0,0))/\bx B E j (aI (hO M) A)/\jg (aI M A) w j:=by
 have c:aJ A.ac M.cs.length A.cc M.cs ∈ aI M A:=dm
 have J:=u.own _ c;have C:=u.msl;obtain ⟨g,F,a,K,H⟩:=C.cs 9 ab;have m:F=0:=by
  rcases J.2 with ⟨e,_⟩|⟨s,cap,p,e,_⟩
  ·have e2:Value.slice A.ac M.cs.length A.cc=.slice none 0 0:=e;injection e2 with e3
   rw [a] at e3;cases e3
  ·have e2:Value.slice A.ac M.cs.length A.cc=.slice (some ⟨s,0,none⟩) M.cs.length cap:=e;injection e2 with e3
   rw [a] at e3;injection e3 with e4
   injection e4
 subst m;rw [Nat.zero_add] at H;have d:(aJ A.ac M.cs.length A.cc M.cs).v.ownBlock=some g:=by show (Value.slice A.ac M.cs.length A.cc).ownBlock=_;rw [a];rfl
 have x:g≠b:=λe=>hb _ c (by rw [d,e]);have v:w.frozen? ⟨g,9,none⟩=false:=by
  rcases J.2 with ⟨e,_⟩|⟨s,cap,p,e,L,n,_⟩;·have e2:Value.slice A.ac M.cs.length A.cc=.slice none 0 0:=e;rw [a] at e2;cases e2
  ·have e2:Value.slice A.ac M.cs.length A.cc=.slice (some ⟨s,0,none⟩) M.cs.length cap:=e;rw [a] at e2;injection e2 with e3
   injection e3 with e4
   injection e4 with e5
   subst e5;exact gU n 9
 have i:=f;unfold aq at i;rw [a,t] at i;refine (BH _ _ _ _ _ g _ _ _ _ _ _ _ _ _ _ _ _ _ _ _ _ _ b (M.cs.getD 9 0) (iQ M.d) w i H v K (λj N=>yc M.d _ _ _ _ j hl.xs hl.ys)).mono ?_;rintro e j ⟨rfl,o,h,rfl⟩;have k:=u.below h;have z:=k.own _ c;refine ⟨rfl,?_,?_⟩;·rw [IS];exact gy (bA h f) ⟨g,9,none⟩ _ (λe=>x e.symm)
 ·have y:o.grownBy (o.setCell ⟨g,9,none⟩ (.u (bits .or .u64 (bits .andNot .u64 (M.cs.getD 9 0) 2184) (iQ M.d)))) (aJ A.ac M.cs.length A.cc M.cs).v.ownBlock:=(by rw [d];exact xz _ _ _ _);have D:(o.setCell ⟨g,9,none⟩ (.u (bits .or .u64 (bits .andNot .u64 (M.cs.getD 9 0) 2184) (iQ M.d)))).ownsRow B 22 1 (.slice A.ac M.cs.length A.cc) M.cs.length ((hO M).cs.map (Value.int .u64)):=(by have n:o.ownsRow B 22 1 (.slice A.ac M.cs.length A.cc) M.cs.length (M.cs.map (Value.int .u64)):=z;rw [a] at n ⊢;have G:=(n.stored 9 (.u (bits .or .u64 (bits .andNot .u64 (M.cs.getD 9 0) 2184) (iQ M.d)))).1;rw [j5] at G;exact G);have I:=bx.markL (L1:=[aJ A.ax M.x.length A.cx M.x]) (L2:=[aF A.ar M.ram.length A.cr M.ram,aF A.ai M.d.xs.length A.ci M.d.xs,aF A.ao M.d.ys.length A.co M.d.ys]) (r:=aJ A.ac M.cs.length A.cc M.cs) k y _ D;refine ⟨?_,(jg.of_below h).trans I.2⟩;have l:(hO M).cs.length=M.cs.length:=(by simp [hO]);unfold aI;rw [l];exact I.1
def qE (a:Int):Nat:=min (Lib.ctz 64 (18446744073709551615-a).toNat) 53
theorem Ly (a:Nat) (b:a<18446744073709551616) (j:Nat):(bits .and .u64 ((a:Int)/2^j) 1==1)=a.testBit j:=by
 have h:=lS (a:Int) ⟨ab,ab⟩ j;have e:=cy ((a:Int)/2^j) 1 h.1 h.2 ab;have e2:((2:Int)^1-1)=1:=rfl;rw [e2] at e;rw [e,Nat.testBit_eq_decide_div_mod_eq];have e3:((a:Int)/2^j%2^1)=((a/2^j%2:Nat):Int):=cp
 rw [e3];have:a/2^j%2=0\/a/2^j%2=1:=ab
 rcases this with h|h<;>rw [h]<;>rfl
theorem IU (a:Int) (k:Nat) (c:∀ j,j<k->(bits .and .u64 (a/2^j) 1==1)=true) (d:(bits .and .u64 (a/2^k) 1==1)=false):∀ n i,i<=k->eQ a n i=min (i+n) k:=by
 intro n;induction n with
 | zero=>intro i f;show i=min (i+0) k;omega
 | succ n g =>
   intro i f;unfold eQ;rcases Nat.lt_or_ge i k with b|e;·rw [if_pos (c i b),g (i+1) b];omega
   ·obtain rfl:i=k:=ab;rw [if_neg (by rw [d];decide)];omega
theorem OO (a:Int) (l:0<=a) (o:a<18014398509481984):qE a=eQ a 53 0:=by
 obtain ⟨n,rfl⟩:∃ n:Nat,a=n:=⟨a.toNat,ab⟩
 have i:(18446744073709551615-(n:Int)).toNat=18446744073709551615-n:=ab
 unfold qE
 rw [i]
 have c:18446744073709551615-n≠0:=ab
 have f:Lib.ctz 64 (18446744073709551615-n)=Lib.ctzFrom 64 (18446744073709551615-n):=by unfold Lib.ctz;rw [if_neg c]
 obtain ⟨m,p,g⟩:=Lib.ctzFrom_spec 64 (18446744073709551615-n) ab ab
 rw [f]
 generalize Lib.ctzFrom 64 (18446744073709551615-n)=k at *
 have b:2^k*(2*m+1)<2^64:=ab
 have h:n=2^64-(2^k*(2*m+1)+1):=ab
 have d:∀ j,j<64->n.testBit j=!(decide (k<=j)&&(2*m+1).testBit (j-k)):=by
  intro j e
  rw [h,Nat.testBit_two_pow_sub_succ b,Nat.testBit_two_pow_mul,decide_eq_true e,Bool.true_and]
 rw [IU (n:Int) k (λj e=>by rw [Ly n ab,d j ab,decide_eq_false ab];rfl)
  (by rw [Ly n ab,d k g,Nat.sub_self];simp) 53 0 ab]
 omega
def sL (l:List Int) (i:Nat):Int:=if (i==0)=true then 0 else Uz.wrap (4*l.getD (16+i) 0)
def qF (a:Int) (k:Nat):Int:=Uz.wrap (4*Uz.wrap (a/2^(k+1)*2^(k+1)))
def sM (a:Int) (k:Nat):Int:=Uz.wrap (qF a k+Uz.wrap (2^(k+3)))
def eH (l:List Int) (i:Nat):Int × Int :=
 if (ix (l.getD 16 0) i==1)=true then (sL l i,Uz.wrap (4*l.getD (17+i) 0))
 else if (ix (l.getD 16 0) i==2)=true then (Uz.wrap (4*l.getD (17+i) 0),Uz.wrap (Uz.wrap (4*l.getD (17+i) 0)+4))
 else if (ix (l.getD 16 0) i==3)=true then (qF (l.getD (17+i) 0) (qE (l.getD (17+i) 0)),sM (l.getD (17+i) 0) (qE (l.getD (17+i) 0)))
 else (0,0)
theorem Lz (a:Int) (f:0<=a) (m:a<18014398509481984) (k:Nat) (hk:k<=53):qF a k=sj a k/\Uz.wrap (sM a k-1)=xD a k/\qF a k<sM a k:=by
 have d:U a:=⟨f,ab⟩;have e:=Eh a d (k+1) ab;have n:(0:Int)<2^(k+1):=Int.pow_pos ab;have l:a/2^(k+1)*2^(k+1)<=a:=Int.ediv_mul_le _ ab;have j:0<=a/2^(k+1)*2^(k+1):=Int.mul_nonneg (lS a d (k+1)).1 ab;have g:∀ k,k<=53->(0:Int)<2^(k+3)/\(2:Int)^(k+3)<=72057594037927936:=bv
 obtain ⟨h,i⟩:=g k hk;have b:qF a k=4*(a/2^(k+1)*2^(k+1)):=by unfold qF;generalize a/2^(k+1)*2^(k+1)=z at *;rw [IntKind.wrap_u64,IntKind.wrap_u64];omega
 have c:sj a k=4*(a/2^(k+1)*2^(k+1)):=by unfold sj;rw [e];generalize a/2^(k+1)*2^(k+1)=z at *;rw [IntKind.wrap_u64];omega
 refine ⟨b.trans c.symm,?_,?_⟩;·unfold sM xD;rw [b,c]
 ·unfold sM;rw [b];generalize a/2^(k+1)*2^(k+1)=z at *;generalize (2:Int)^(k+3)=q at *;rw [IntKind.wrap_u64,IntKind.wrap_u64];omega
theorem BI {l:List Int} (hl:∀ j,U (l.getD j 0)) (c:bq 22 l=true) (i:Nat) (g:i<4):cO l i=if (eH l i).2<=(eH l i).1 then (0,0,false) else ((eH l i).1,Uz.wrap ((eH l i).2-1),true):=by
 have f:ix (l.getD 16 0) i=iS l i:=xX l (hl 16) i g;have b:=OB hl c (17+i) ab ab;unfold cO eH;rw [f];cases k:(iS l i==1) with
 | true =>
   simp only [if_true];have e:sL l i=kF l i:=by
    unfold sL kF;rcases Nat.eq_zero_or_pos i with h|h;·subst h;rfl
    ·have:(i==0)=false:=by simp;omega
     rw [this,if_neg bb,if_pos h,Int.mul_comm]
   rw [e,Int.mul_comm 4]
 | false =>
   simp only [Bool.false_eq_true,if_false];cases m:(iS l i==2) with
   | true =>simp only [if_true];generalize l.getD (17+i) 0=a at *;rw [Int.mul_comm a 4];simp only [IntKind.wrap_u64];rw [if_neg ab];congr 2;omega
   | false =>
     simp only [Bool.false_eq_true,if_false];cases n:(iS l i==3) with
     | true =>simp only [if_true];rw [OO _ b.1 b.2];obtain ⟨d,e2,e3⟩:=Lz _ b.1 b.2 (eQ (l.getD (17+i) 0) 53 0) (by have:=Lb (l.getD (17+i) 0) 53 0;omega);rw [if_neg ab,d,e2]
     | false =>simp only [Bool.false_eq_true,if_false];rfl
def mE (l:List Int) (k:Nat):Option (Nat × Int × Int × Int):=if (eH l k).2<=(eH l k).1 then none else some (k,(eH l k).1,Uz.wrap ((eH l k).2-1),cQ (l.getD 16 0) (8*k) 8)
def fU (l:List Int) (k:Nat):List (Nat × Int × Int × Int):=(List.range k).filterMap (mE l)
theorem IW {l:List Int} {k:Nat} (h:(eH l k).2<=(eH l k).1):fU l (k+1)=fU l k:=by
 unfold fU;rw [List.range_succ,List.filterMap_append];have:mE l k=none:=by unfold mE;rw [if_pos h]
 simp [this]
theorem IY {l:List Int} {k:Nat} (h:¬ (eH l k).2<=(eH l k).1):fU l (k+1)=fU l k++[(k,(eH l k).1,Uz.wrap ((eH l k).2-1),cQ (l.getD 16 0) (8*k) 8)]:=by
 unfold fU;rw [List.range_succ,List.filterMap_append];have:mE l k=some (k,(eH l k).1,Uz.wrap ((eH l k).2-1),cQ (l.getD 16 0) (8*k) 8):=by unfold mE;rw [if_neg h]
 simp [this]
theorem LA (l:List Int) (k:Nat):(fU l k).length<=k:=by unfold fU;exact Nat.le_trans (List.length_filterMap_le _ _) cp
theorem LC (l:List Int):∀ d k,fU l k <+: fU l (k+d):=by
 intro d;induction d with
 | zero=>intro k;exact List.prefix_refl _
 | succ d a =>intro k;refine (a k).trans ?_;show fU l (k+d) <+: fU l (k+d+1);unfold fU;rw [List.range_succ,List.filterMap_append];exact List.prefix_append _ _
theorem IZ {α:Type} {q:α->Bool} {xs pre a:List α} {last:α} (h:pre <+: xs) (e:pre=a++[last]) (b:∀ p ∈ a,q p=false) (hl:q last=true):xs.find? q=some last:=by
 obtain ⟨r,rfl⟩:=h;subst e;rw [List.append_assoc,List.find?_append];have:a.find? q=none:=List.find?_eq_none.2 λp c=>by rw [b p c];decide
 rw [this];simp [hl]
theorem I0 {α:Type} {q:α->Bool} {xs:List α} (a:∀ p ∈ xs,q p=false):xs.find? q=none:=List.find?_eq_none.2 λp b=>by rw [a p b];decide
def Vd (l:List Int) (i:Int):Int × Int × Bool:=match (fU l 4).find? (λp=>(p.1:Int)==i) with | some p=>(p.2.1,p.2.2.1,true) | none=>(0,0,false)
def js (x y:Int) (p:Nat × Int × Int × Int):Bool:=decide (p.2.1<=y)&&decide (x<=p.2.2.1)
def kI (l:List Int) (x y:Int):Int × Int × Int × Bool:=match (fU l 4).find? (js x y) with | some p=>(p.2.1,p.2.2.1,p.2.2.2,true) | none=>(0,0,0,false)
theorem LD {l:List Int} (hl:∀ j,U (l.getD j 0)) (a:bq 22 l=true) (k:Nat) (hk:k<4):(mE l k=none/\cO l k=(0,0,false))\/(∃ c b,mE l k=some (k,c,b,du l k)/\cO l k=(c,b,true)):=by
 rw [BI hl a k hk];unfold mE;rw [Ec l (hl 16) k];by_cases h:(eH l k).2<=(eH l k).1;·rw [if_pos h,if_pos h];exact .inl ⟨rfl,rfl⟩
 ·rw [if_neg h,if_neg h];exact .inr ⟨_,_,rfl,rfl⟩
theorem OP {l:List Int} {n:Nat} {p:Nat × Int × Int × Int} (h:p ∈ fU l n):p.1<n/\mE l p.1=some p:=by
 unfold fU at h;obtain ⟨a,d,e⟩:=List.mem_filterMap.1 h;have b:a<n:=List.mem_range.1 d;have c:p.1=a:=by
  unfold mE at e;split at e;·cases e
  ·rw [<- Option.some.inj e]
 rw [c];exact ⟨b,e⟩
theorem Ep {l:List Int} {k:Nat} {b a x y:Int} (c:cO l k=(b,a,true)):pT (cO l k) x y=!js x y (k,b,a,du l k):=by
 rw [c];unfold pT js;simp only [Bool.not_true,Bool.false_or,Bool.not_and];congr 1;·rw [<- decide_not];congr 1;exact propext ⟨λh=>ab,λh=>ab⟩
 ·rw [<- decide_not];congr 1;exact propext ⟨λh=>ab,λh=>ab⟩
def To (p x y kind:Int):Option (Nat × Int × Int × Int)->Bool
 | none=>(p==3)
 | some q=>!(decide (x<q.2.1)||decide (q.2.2.1<y))&&wI q.2.2.2 p kind
theorem I6 {l:List Int} (hl:∀ j,U (l.getD j 0)) (b:bq 22 l=true) (p x y kind:Int):∀ n k,k+n<=4->aA l p x y kind n k=To p x y kind (((List.range' k n).filterMap (mE l)).find? (js x y)):=by
 intro n;induction n with
 | zero=>intro k f;rfl
 | succ n c =>
   intro k f;rw [aA,List.range'_succ,List.filterMap_cons];rcases LD hl b k ab with ⟨e,a⟩|⟨h,d,e,a⟩;·rw [e,c (k+1) ab];have g:pT (cO l k) x y=true:=(by rw [a];rfl);rw [g,if_pos rfl]
   ·rw [e,Ep a];simp only [List.find?_cons];cases i:js x y (k,h,d,du l k) with
    | false =>rw [c (k+1) ab];rfl
    | true =>rw [a];rfl
theorem Tp:∀ z:Nat,z<256->(bits .and .u64 (z:Int) 128==0)=((z:Int)/128==0)/\(bits .and .u64 (z:Int) 128 != 0)=((z:Int)/128==1)/\(bits .and .u64 (z:Int) 4 != 0)=(bits .and .u64 ((z:Int)/4) 1==1)/\(bits .and .u64 (z:Int) 1 != 0)=(bits .and .u64 (z:Int) 1==1) /\
 (bits .and .u64 (z:Int) 2 != 0)=(bits .and .u64 ((z:Int)/2) 1==1)/\(bits .and .u64 (z:Int) 2==0)=(bits .and .u64 ((z:Int)/2) 1==0):=bv
theorem OQ {w:World} {r:Nat} {cs:Array Value} {t:TypeId} (D:DV) (a:Option Addr) (b:Nat) (b2:Option Addr) (c:Nat) (hr:w.heap[r]?=some (.cells cs t (0,0))) (hn:cs.size=14):(do Instr.storeAt 30 (.p r 5) (.agg #[.u D.t,.u D.cm,.bool D.so,.slice a D.xs.length b,.slice b2 D.ys.length c,.i D.ir]);pure Next.skip:Sem Next).run prog w=.ok .skip (FF w r D a b b2 c):=by
 have h:=run_storeCells_cells (P:=prog) r 5 [.u D.t,.u D.cm,.bool D.so,.slice a D.xs.length b,.slice b2 D.ys.length c,.i D.ir] 0 w (λj g=>by simp only [List.length_cons,List.length_nil] at g;simp [World.cell?,hr,hn];omega) (λj _=>gU hr _) (λv d=>by
  simp only [List.mem_cons,List.not_mem_nil,or_false] at d
  rcases d with rfl|rfl|rfl|rfl|rfl|rfl<;>rfl)
 have e:(prog.info? 30).map (·.size)=some 6:=al
 obtain ⟨i,f,k⟩:=Option.map_eq_some_iff.1 e
 simp [Instr.storeAt,Instr.sureAddr,storeVar,sizeOf,typeInfo,f,k,Value.cells,h,Result.andThen]
 rfl
def RD (k:Int) (M M1:MV) (b cd a c is hit:Bool) (d f e:Int) (R:List Int) (D:DV):Int × MV × Int :=
 if b=true then (0,M,n8 k) else if cd=true then (0,M1,wrap64 (d+16)) else if a=true then (0,M1,gR k)
 else if c=true then (if (k==3)=true then (0,if hit=true then lm (bL M1 R) else bL M1 R,0) else (f,M1,0))
 else if (k==2)=true then (if is=true then (e,cC (cP M1 D),0) else (0,M1,gR k))
 else if (k==3)=true then (if is=true then (0,if hit=true then lm (cC (cP M1 D)) else cC (cP M1 D),0) else (0,M1,gR k))
 else (0,M1,gR k)
def TQ (N:MV):MV:=⟨N.pc,N.x,N.pr,N.cs,N.ram,N.d,N.hd,false,N.wt⟩
theorem RE (M M1:MV) (hit:Bool) (a c b:Int) (R:List Int) (D:DV):RD 3 M M1 false false false false true hit a c b R D=(0,if hit=true then lm (cC (cP M1 D)) else cC (cP M1 D),0):=rfl
theorem OR (M M1:MV) (is hit:Bool) (a c b:Int) (R:List Int) (D:DV):RD 3 M M1 false false false true is hit a c b R D=(0,if hit=true then lm (bL M1 R) else bL M1 R,0):=rfl
theorem vB (N:MV) (a:Int):(N.hl=false/\lq N a=false)\/(N.hl=true/\(bits .andNot .u64 N.hd 7==bits .andNot .u64 a 7)=false/\lq N a=false)\/N.hl=true/\(bits .andNot .u64 N.hd 7==bits .andNot .u64 a 7)=true/\lq N a=true:=by unfold lq;cases N.hl<;>cases (bits .andNot .u64 N.hd 7==bits .andNot .u64 a 7)<;>simp
theorem Er {M M1:MV} {A:MA} {B r:Nat} {w:World} (k addr size x p u K:Int) (wr L q hit:Bool) (yl yd:Int) (R:List Int) (D:DV) (is:Bool) (hk:k=1\/k=2\/k=3) (hm:Mp B r M A w) (hs1:1<=size) (hs8:size<=8) (ha:U addr)
 (hL:∀ w',Mp B r M A w'->Calls prog 114 #[.p r 0,.slice none 0 0,.u addr,.i k] w' λe a=>e=.returned (.tuple #[.u u,.i K])/\Mp B r M1 A a/\Kx r (aI M A) (aI M1 A) w' a)
 (C:decide (Uz.wrap (Uz.wrap (u+size)-1)<u)=wr)
 (Y:∀ w',Mp B r M1 A w'->CE 116 #[.slice A.ac M1.cs.length A.cc,.i M1.pr,.i k] w' (.i p))
 (Z:∀ w',Mp B r M1 A w'->CE 115 #[.slice A.ac M1.cs.length A.cc,.i p,.u u,.i size,.i k] w' (.bool L))
 (hI:∀ w',Mp B r M1 A w'->CE 117 #[.slice A.ar M1.ram.length A.cr,.u u,.i size] w' (.bool q))
 (hD:q=true->∀ w',Mp B r M1 A w'->CE 118 #[.slice A.ar M1.ram.length A.cr,.u u,.i size] w' (.u yl))
 (hp:q=true->∀ w',Mp B r M1 A w'->Calls prog 119 #[.slice A.ar M1.ram.length A.cr,.u u,.i size,.u x] w' λe a=>e=.returned (.tuple #[])/\Mp B r (bL M1 R) A a/\Kx r (aI M1 A) (aI (bL M1 R) A) w' a)
 (h8:k=2->∀ w',Mp B r M1 A w'->Calls prog 120 #[.agg #[.u M1.d.t,.u M1.d.cm,.bool M1.d.so,.slice A.ai M1.d.xs.length A.ci,.slice A.ao M1.d.ys.length A.co,.i M1.d.ir],.u u,.i size] w' λe a=>∃ (b:Option Addr) (d:Nat) (c:Option Addr) (f:Nat),e=.returned (.tuple #[.u yd,.agg #[.u D.t,.u D.cm,.bool D.so,.slice b D.xs.length d,.slice c D.ys.length f,.i D.ir],.bool is])/\fq w' a A.ai A.ci M1.d.xs A.ao A.co M1.d.ys b d D.xs c f D.ys/\Bw w' a)
 (h9:k=3->∀ w',Mp B r M1 A w'->Calls prog 122 #[.agg #[.u M1.d.t,.u M1.d.cm,.bool M1.d.so,.slice A.ai M1.d.xs.length A.ci,.slice A.ao M1.d.ys.length A.co,.i M1.d.ir],.u u,.i size,.u x] w' λe a=>∃ (b:Option Addr) (d:Nat) (c:Option Addr) (f:Nat),e=.returned (.tuple #[.agg #[.u D.t,.u D.cm,.bool D.so,.slice b D.xs.length d,.slice c D.ys.length f,.i D.ir],.bool is])/\fq w' a A.ai A.ci M1.d.xs A.ao A.co M1.d.ys b d D.xs c f D.ys/\Bw w' a)
 (hN:∀ (J:MA) w',Mp B r (cP M1 D) J w'->Calls prog 121 #[.p r 0] w' λe a=>e=.returned (.tuple #[])/\Mp B r (cC (cP M1 D)) J a/\Kx r (aI (cP M1 D) J) (aI (cC (cP M1 D)) J) w' a) (V:Int × MV × Int) (hit1:q=true->hit=lq (bL M1 R) u) (hit0:q=false->hit=lq (cC (cP M1 D)) u)
 (l:V=RD k M M1 (addr%size != 0) (K != 0) (wr||!L) q is hit K yl yd R D) :
 Calls prog 76 #[.p r 0,.slice none 0 0,.u addr,.i size,.i k,.u x] w λe w'=>e=.returned (.tuple #[.u V.1,.i V.2.2])/\∃ J,Mp B r V.2.1 J w'/\Kx r (aI M A) (aI V.2.1 J) w w':=by
 have o:Uz.wrap size=size:=by rw [IntKind.wrap_u64];omega
 have H:(addr.tmod size != 0)=(addr%size != 0):=by rw [Int.tmod_eq_emod_of_nonneg ha.1]
 refine bz (S:=Hs r [] (aq M A)) (args:=[.p r 0,.slice none 0 0,.u addr,.i size,.i k,.u x]) [] func76 ?_
 refine aL 0 1 ?_
 have H0:Hx B r [] M A w M A w:=⟨hm,Kx.refl _ _ _,λ_ h=>l0⟩
 have f16:IntKind.i64.wrap (K+16)=wrap64 (K+16):=by rw [IntKind.wrap_i64];unfold wrap64;omega
 cases N:(addr%size != 0)
 case true =>
  rw [N] at l H
  refine ae (Hs.eng (dr:=false) (λ_ h=>h.hs)) {eq:=[(24,dI .u64 o),(26,aj H)],ov:=[(25,NC .u64 addr size ab)]} 60 H0 λW hW=>?_
  refine lg 0 ?_
  refine ae (Hs.eng (dr:=true) (λ_ h=>h.hs)) {} 9 (hW.below (Below.refl _ _).drew) λI h1=>?_
  refine dU 0 (s:=do pure (.value (<- Instr.buildSlice 39 4 #[(0,.i 0),(1,.i 16),(2,.i 20),(3,.i 22)]))) (v:=.slice (some ⟨I.heap.size,0,none⟩) 4 4) (w':=I.alloc (.cells #[.i 0,.i 16,.i 20,.i 22] 2)) al ?_
  have O:=h1.var (bal _ _) ⟨I.heap.size,#[.i 0,.i 16,.i 20,.i 22],2,[]⟩ (heap_alloc_new _ _) (Nat.le_refl _)
  refine aH (Hs r [⟨I.heap.size,#[.i 0,.i 16,.i 20,.i 22],2,[]⟩] (aq M A)) (S7 ?_)
  have n:∀ X,Hs r [⟨I.heap.size,#[.i 0,.i 16,.i 20,.i 22],2,[]⟩] (aq M A) X->X.cell? ⟨I.heap.size,0+k.toNat,none⟩=some (.i (n8 k)):=λX hX=>by
   rcases hk with rfl|rfl|rfl<;>exact (cell_of_row _ _ _ _ _ _ (hX.2 ⟨I.heap.size,#[.i 0,.i 16,.i 20,.i 22],2,[]⟩ cp)).trans rfl
  obtain rfl | rfl | rfl:=hk<;>subst l<;>exact eC (t:=12) (s:=13) (Hs.eng (dr:=true) (λ_ h=>h.hs)) {ov:=[(30,iR _ _ underlying2 rfl n)]} 60 O (λy h=>⟨rfl,A,h.mp,h.kx⟩)
 rw [N] at l H
 refine aN (Hs.eng (dr:=true) (λ_ h=>h.hs)) {eq:=[(24,dI .u64 o),(26,aj H)],ov:=[(25,NC .u64 addr size ab)]} 60 H0 (λW h=>hL W h.mp) ?_
 rintro I e W2 h1 ⟨rfl,p2,k2⟩
 have O:=h1.step p2 k2
 refine ⟨_,0,rfl,gm al,aH (Hs r [] (aq M1 A)) ?_⟩
 cases cd:(K != 0)
 case true =>
  rw [cd] at l
  subst l
  exact eC (t:=12) (s:=13) (Hs.eng (dr:=true) (λ_ h=>h.hs)) {eq:=[(40,aj cd),(42,dI .i64 f16)]} 60 O (λy h=>⟨rfl,A,h.mp,h.kx⟩)
 rw [cd] at l
 refine ae (Hs.eng (dr:=true) (λ_ h=>h.hs)) {eq:=[(40,aj cd)]} 60 O λj h3=>?_
 refine dU 0 (s:=do pure (.value (<- Instr.buildSlice 39 4 #[(0,.i 0),(1,.i 17),(2,.i 21),(3,.i 23)]))) (v:=.slice (some ⟨j.heap.size,0,none⟩) 4 4) (w':=j.alloc (.cells #[.i 0,.i 17,.i 21,.i 23] 2)) al ?_
 have P:=h3.var (bal _ _) ⟨j.heap.size,#[.i 0,.i 17,.i 21,.i 23],2,[]⟩ (heap_alloc_new _ _) (Nat.le_refl _)
 refine aH (Hs r [⟨j.heap.size,#[.i 0,.i 17,.i 21,.i 23],2,[]⟩] (aq M1 A)) ?_
 have n:∀ X,Hs r [⟨j.heap.size,#[.i 0,.i 17,.i 21,.i 23],2,[]⟩] (aq M1 A) X->X.cell? ⟨j.heap.size,0+k.toNat,none⟩=some (.i (gR k)):=λX hX=>by
  rcases hk with rfl|rfl|rfl<;>exact (cell_of_row _ _ _ _ _ _ (hX.2 ⟨j.heap.size,#[.i 0,.i 17,.i 21,.i 23],2,[]⟩ cp)).trans rfl
 clear hm hL O H0
 cases m:(wr||!L)
 case true =>
  rw [m] at l
  subst l
  cases wr<;>cases L<;>first | (exact absurd m bb) | skip
  all_goals obtain rfl | rfl | rfl:=hk<;>exact eC (t:=12) (s:=13) (Hs.eng (dr:=true) (λ_ h=>h.hs)) {ov:=[(46,iR _ _ underlying2 rfl n)],eq:=[(49,dI .u64 o),(53,aj C)],cv:=[(68,jS λW h=>Y W h.mp),(72,jS λW h=>Z W h.mp)]} 99 P (λy h=>⟨rfl,A,h.mp,h.kx⟩)
 obtain rfl:wr=false:=by cases wr;rfl;cases m
 obtain rfl:L=true:=by cases L;cases m;rfl
 rw [m] at l
 cases q
 case true =>
  have hD:=hD rfl
  have hp:=hp rfl
  obtain rfl|rfl|rfl:=hk
  case inr.inr =>
   refine aN (Hs.eng (dr:=true) (λ_ h=>h.hs)) {ov:=[(46,iR _ _ underlying2 rfl n)],eq:=[(49,dI .u64 o),(53,aj C)],cv:=[(68,jS λW h=>Y W h.mp),(72,jS λW h=>Z W h.mp),(82,jS λW h=>hI W h.mp)]} 99 P (λW h=>hp W h.mp) ?_
   rintro W5 e E Q ⟨rfl,p6,k6⟩
   have h6:=Q.step p6 k6
   refine ⟨_,0,rfl,gm al,aH (Hs r [⟨j.heap.size,#[.i 0,.i 17,.i 21,.i 23],2,[]⟩] (aq (bL M1 R) A)) ?_⟩
   rw [OR] at l
   obtain rfl:=hit1 rfl
   subst l
   obtain ⟨m,e⟩|⟨m,hq,e⟩|⟨m,hq,e⟩:=vB (bL M1 R) u
   case inl=>rw [e];exact eC (t:=12) (s:=13) (Hs.eng (dr:=true) (λ_ h=>h.hs)) {eq:=[(103,aj m)]} 99 h6 (λy h=>⟨rfl,A,h.mp,h.kx⟩)
   case inr.inl=>rw [e];exact eC (t:=12) (s:=13) (Hs.eng (dr:=true) (λ_ h=>h.hs)) {eq:=[(103,aj m),(112,aj hq)]} 99 h6 (λy h=>⟨rfl,A,h.mp,h.kx⟩)
   rw [e]
   refine ae (Hs.eng (dr:=true) (λ_ h=>h.hs)) {eq:=[(103,aj m),(112,aj hq)]} 99 h6 λY1 y1=>?_
   refine bJ (bE (i:=12) (T:=4) (v:=.bool false) y1.mp.row ni al rfl) ?_
   have y2:=y1.fld (M':=TQ (bL M1 R)) 12 (.bool false) rfl rfl
   refine aH (Hs r [⟨j.heap.size,#[.i 0,.i 17,.i 21,.i 23],2,[]⟩] (aq (TQ (bL M1 R)) A)) ?_
   refine ae (Hs.eng (dr:=true) (λ_ h=>h.hs)) {} 99 y2 λY3 y3=>?_
   refine bJ (bE (i:=11) (T:=22) (v:=.u 0) y3.mp.row ni al rfl) ?_
   have y4:=y3.fld (M':=lm (bL M1 R)) 11 (.u 0) rfl rfl
   refine aH (Hs r [⟨j.heap.size,#[.i 0,.i 17,.i 21,.i 23],2,[]⟩] (aq (lm (bL M1 R)) A)) ?_
   exact eC (t:=12) (s:=13) (Hs.eng (dr:=true) (λ_ h=>h.hs)) {} 99 y4 (λy h=>⟨rfl,A,h.mp,h.kx⟩)
  all_goals
   subst l
   exact eC (t:=12) (s:=13) (Hs.eng (dr:=true) (λ_ h=>h.hs)) {ov:=[(46,iR _ _ underlying2 rfl n)],eq:=[(49,dI .u64 o),(53,aj C)],cv:=[(68,jS λW h=>Y W h.mp),(72,jS λW h=>Z W h.mp),(82,jS λW h=>hI W h.mp),(91,jS λW h=>hD W h.mp)]} 99 P (λy h=>⟨rfl,A,h.mp,h.kx⟩)
 obtain rfl|rfl|rfl:=hk
 case inl =>
  subst l
  exact eC (t:=12) (s:=13) (Hs.eng (dr:=true) (λ_ h=>h.hs)) {ov:=[(46,iR _ _ underlying2 rfl n)],eq:=[(49,dI .u64 o),(53,aj C)],cv:=[(68,jS λW h=>Y W h.mp),(72,jS λW h=>Z W h.mp),(82,jS λW h=>hI W h.mp)]} 99 P (λy h=>⟨rfl,A,h.mp,h.kx⟩)
 all_goals
  refine aN (Hs.eng (dr:=true) (λ_ h=>h.hs)) {ov:=[(46,iR _ _ underlying2 rfl n)],eq:=[(49,dI .u64 o),(53,aj C)],cv:=[(68,jS λW h=>Y W h.mp),(72,jS λW h=>Z W h.mp),(82,jS λW h=>hI W h.mp)]} 99 P (λW h=>by first | exact h8 rfl W h.mp | exact h9 rfl W h.mp) ?_
  rintro W5 e E Q ⟨b,d,c,f,rfl,rn,b6⟩
  refine ⟨_,0,rfl,gm al,?_⟩
  refine nQ (R:=[]) trivial {} 9 3 (dW (T:=30) (z:=.agg (fM zeroD none 0 none 0)) al E) ?_
  refine cw (R:=[]) trivial {} 9 (aG (g:=E.heap.size) (t:=30) (ty:=30) (cells:=#[.u D.t,.u D.cm,.bool D.so,.slice b D.xs.length d,.slice c D.ys.length f,.i D.ir]) (heap_alloc_new _ _) al al (fw D b d c f)) ?_
  have b7:=bm (bal E (.cells (Value.agg (fM zeroD none 0 none 0)).cells 30)) (Nat.le_refl _) #[.u D.t,.u D.cm,.bool D.so,.slice b D.xs.length d,.slice c D.ys.length f,.i D.ir]
  have q7:=setRow_heap _ _ _ #[.u D.t,.u D.cm,.bool D.so,.slice b D.xs.length d,.slice c D.ys.length f,.i D.ir] _ _ (heap_alloc_new E (.cells (Value.agg (fM zeroD none 0 none 0)).cells 30))
  have rn7:=rn.below b7
  have b8:=aa b6 b7
  have G:=(Q.below b6).var b7 ⟨E.heap.size,#[.u D.t,.u D.cm,.bool D.so,.slice b D.xs.length d,.slice c D.ys.length f,.i D.ir],30,[]⟩ q7 (Nat.le_refl _)
  generalize (E.alloc (.cells (Value.agg (fM zeroD none 0 none 0)).cells 30)).setRow E.heap.size #[.u D.t,.u D.cm,.bool D.so,.slice b D.xs.length d,.slice c D.ys.length f,.i D.ir]=W8 at *
  cases is
  case false =>
   subst l
   refine aH (Hs r [⟨j.heap.size,#[.i 0,.i 17,.i 21,.i 23],2,[]⟩,⟨E.heap.size,#[.u D.t,.u D.cm,.bool D.so,.slice b D.xs.length d,.slice c D.ys.length f,.i D.ir],30,[]⟩] (aq M1 A)) ?_
   exact eC (t:=12) (s:=13) (Hs.eng (dr:=true) (λ_ h=>h.hs)) {} 99 G (λy h=>⟨rfl,A,h.mp,h.kx⟩)
  refine cw (R:=[⟨r,aq M1 A,[]⟩,⟨j.heap.size,#[.i 0,.i 17,.i 21,.i 23],[]⟩,⟨E.heap.size,#[.u D.t,.u D.cm,.bool D.so,.slice b D.xs.length d,.slice c D.ys.length f,.i D.ir],[]⟩]) ⟨⟨_,_,G.mp.row⟩,⟨_,_,(G.rows ⟨j.heap.size,#[.i 0,.i 17,.i 21,.i 23],2,[]⟩ cp).1⟩,⟨_,_,q7⟩,trivial⟩ {} 60 (OQ D b d c f G.mp.row ni) ?_
  obtain ⟨pD,kD⟩:=Q.mp.dev b8 D rn7
  refine aH (Hs r [⟨j.heap.size,#[.i 0,.i 17,.i 21,.i 23],2,[]⟩] (aq (cP M1 D) (ke A b d c f))) (aN (Hs.eng (dr:=true) (λ_ h=>h.hs)) {} 60 (Q.step pD kD) (λW h=>hN _ W h.mp) ?_)
  rintro W10 e W11 h10 ⟨rfl,p11,k11⟩
  have F:=h10.step p11 k11
  refine ⟨_,0,rfl,gm al,aH (Hs r [⟨j.heap.size,#[.i 0,.i 17,.i 21,.i 23],2,[]⟩] (aq (cC (cP M1 D)) (ke A b d c f))) ?_⟩
 ·obtain rfl:V=(yd,cC (cP M1 D),0):=l
  exact eC (t:=12) (s:=13) (Hs.eng (dr:=true) (λ_ h=>h.hs)) {} 99 F (λy h=>⟨rfl,_,h.mp,h.kx⟩)
 rw [RE] at l
 obtain rfl:=hit0 rfl
 subst l
 obtain ⟨m,e⟩|⟨m,hq,e⟩|⟨m,hq,e⟩:=vB (cC (cP M1 D)) u
 case inl=>rw [e];exact eC (t:=12) (s:=13) (Hs.eng (dr:=true) (λ_ h=>h.hs)) {eq:=[(169,aj m)]} 99 F (λy h=>⟨rfl,(ke A b d c f),h.mp,h.kx⟩)
 case inr.inl=>rw [e];exact eC (t:=12) (s:=13) (Hs.eng (dr:=true) (λ_ h=>h.hs)) {eq:=[(169,aj m),(178,aj hq)]} 99 F (λy h=>⟨rfl,(ke A b d c f),h.mp,h.kx⟩)
 rw [e]
 refine ae (Hs.eng (dr:=true) (λ_ h=>h.hs)) {eq:=[(169,aj m),(178,aj hq)]} 99 F λY1 y1=>?_
 refine bJ (bE (i:=12) (T:=4) (v:=.bool false) y1.mp.row ni al rfl) ?_
 have y2:=y1.fld (M':=TQ (cC (cP M1 D))) 12 (.bool false) rfl rfl
 refine aH (Hs r [⟨j.heap.size,#[.i 0,.i 17,.i 21,.i 23],2,[]⟩] (aq (TQ (cC (cP M1 D))) (ke A b d c f))) ?_
 refine ae (Hs.eng (dr:=true) (λ_ h=>h.hs)) {} 99 y2 λY3 y3=>?_
 refine bJ (bE (i:=11) (T:=22) (v:=.u 0) y3.mp.row ni al rfl) ?_
 have y4:=y3.fld (M':=lm (cC (cP M1 D))) 11 (.u 0) rfl rfl
 refine aH (Hs r [⟨j.heap.size,#[.i 0,.i 17,.i 21,.i 23],2,[]⟩] (aq (lm (cC (cP M1 D))) (ke A b d c f))) ?_
 exact eC (t:=12) (s:=13) (Hs.eng (dr:=true) (λ_ h=>h.hs)) {} 99 y4 (λy h=>⟨rfl,(ke A b d c f),h.mp,h.kx⟩)
theorem LE {B r:Nat} {M:MV} {A:MA} {w:World} (M2:MV) (fm:Bool) (va kind p d f m l:Int) (hm:Mp B r M A w) (L:∀ c,Mp B r M A c->CE 116 #[.slice A.ac M.cs.length A.cc,.i M.pr,.i kind] c (.i p)) (I:∀ c,Mp B r M A c->CB 177 #[.slice A.ar M.ram.length A.cr,.slice A.ac M.cs.length A.cc,.i p,.u va,.i kind] c (.agg #[.u d,.i f,.bool fm,.u m,.u l])) (N:fm=true->∀ c,Mp B r M A c->Calls prog 119 #[.slice A.ar M.ram.length A.cr,.u m,.i 8,.u l] c λe k=>e=.returned (.tuple #[])/\Mp B r M2 A k/\Kx r (aI M A) (aI M2 A) c k) (K:fm=false->M2=M) (D:aq M2 A=aq M A):Calls prog 114 #[.p r 0,.slice none 0 0,.u va,.i kind] w λe c=>e=.returned (.tuple #[.u d,.i f])/\Mp B r M2 A c/\Kx r (aI M A) (aI M2 A) w c:=by
 have fin:∀ (S:World->Prop) (b:Nat) (W:World),Hx B r [⟨b,#[.u d,.i f,.bool fm,.u m,.u l],215,[]⟩] M A w M A W->Wg prog S (bodyPost prog Tryz.f114 λe c=>e=.returned (.tuple #[.u d,.i f])/\Mp B r M2 A c/\Kx r (aI M A) (aI M2 A) w c) Tryz.f114.ntmps [.code (az 5 (aW Tryz.f114))] [(0,.p r 0,1),(11,.bool false,0),(13,.p b 0,2)] W:=λS b W h=>by
  refine aH (Hs r [⟨b,#[.u d,.i f,.bool fm,.u m,.u l],215,[]⟩] (aq M A)) ?_;cases fm with
  | false =>obtain rfl:=K rfl;exact kV (Hs.eng (dr:=true) (λ_ h=>h.hs)) {} 99 h λo a h C=>⟨.tuple #[.u d,.i f],li,rfl,h.mp,h.kx⟩
  | true =>refine aN (Hs.eng (dr:=true) (λ_ h=>h.hs)) {} 99 h (λW h=>N rfl W h.mp) ?_;rintro V e X q ⟨rfl,U,R⟩;have H:=q.step U R;refine ⟨_,0,rfl,λ_=>D ▸ H.hs,?_⟩;exact kV (Hs.eng (dr:=true) (λ_ h=>D ▸ h.hs)) {} 99 H λo a h C=>⟨.tuple #[.u d,.i f],li,rfl,h.mp,h.kx⟩
 have var:∀ (W o:World) (b:Nat),Hx B r [] M A w M A W->Bw W o->W.heap.size<=b->o.heap[b]?=some (.cells #[.u d,.i f,.bool fm,.u m,.u l] 215 (0,0))->Hx B r [⟨b,#[.u d,.i f,.bool fm,.u m,.u l],215,[]⟩] M A w M A o:=λW o b h O P Q=>h.var O _ Q P;refine bz (S:=Hx B r [] M A w M A) (args:=[.p r 0,.slice none 0 0,.u va,.i kind]) [] func114 ?_;refine aL 0 1 ?_;refine ae (Hx.eng (dr:=true)) {cv:=[(23,jS λW h=>L W h.mp)]} 99 (⟨hm,Kx.refl _ _ _,λ_ h=>l0⟩:Hx B r [] M A w M A w) λs n=>?_;refine rv (i:=11) (j:=12) ?_ ?_;·refine qb (I s n.mp) λe F E=>?_;obtain ⟨rfl,u⟩:=E;have q:=n.below u;refine ⟨_,0,rfl,q,?_⟩;have x:=bal F (.cells i7 215);refine dU 2 (dW (T:=215) (z:=.agg i7) al F) (hS:=λ_=>q.below x) ?_;have y:=bm x (Nat.le_refl _) #[.u d,.i f,.bool fm,.u m,.u l];refine bJ (aG (g:=F.heap.size) (t:=215) (ty:=215) (old:=i7) (cells:=#[.u d,.i f,.bool fm,.u m,.u l]) (heap_alloc_new _ _) al rfl al) (hS:=λ_=>q.below y) ?_;refine ae (Hx.engL (dr:=true) (λ_ h=>l0)) {} 1 (var _ _ _ q y (Nat.le_refl _) (setRow_heap _ _ _ _ _ _ (heap_alloc_new _ _))) λW h=>?_;exact ah _ _ (fin _ _ _ h)
 ·have u:=bal s (.cells i7 215);refine uS 2 (dW (T:=215) (z:=.agg i7) al s) (n.below u) ?_;refine lQ (I _ (n.below u).mp) λe Y E=>?_;obtain ⟨rfl,x⟩:=E;have y:=aa u x;refine ⟨_,0,rfl,λ_=>n.below y,?_⟩;have J:=bA x (heap_alloc_new s (.cells i7 215));have G:=bm y (Nat.le_refl _) #[.u d,.i f,.bool fm,.u m,.u l];refine bJ (aG (g:=s.heap.size) (t:=215) (ty:=215) (old:=i7) (cells:=#[.u d,.i f,.bool fm,.u m,.u l]) J al rfl al) (hS:=λ_=>n.below G) ?_;refine ae (Hx.engL (dr:=true) (λ_ h=>l0)) {} 1 (var _ _ _ n G (Nat.le_refl _) (setRow_heap _ _ _ _ _ _ J)) λW h=>?_;exact ah _ _ (fin _ _ _ h)
theorem Qk {M:MV} {A:MA} {w:World} (a:M.cs.length=22) (hs:Sl .u64 w A.ac M.cs) (kind:Int):CE 116 #[.slice A.ac M.cs.length A.cc,.i M.pr,.i kind] w (.i (fR M.cs M.pr kind)):=by obtain ⟨b,c,e,_,d⟩:=hs 0 ab;rw [e,a];exact tj b c A.cc M.cs M.pr kind w d
theorem RG {M:MV} {A:MA} {w:World} (a:M.cs.length=22) (hr:aU M.ram.length=true) (hs:sa w M A) (j:MW M) (p va kind:Int) (i:bC p=true) (d:1<=kind) (f:kind<=3) (g:U va):CB 177 #[.slice A.ar M.ram.length A.cr,.slice A.ac M.cs.length A.cc,.i p,.u va,.i kind] w (.agg (bW M.ram M.ram.length M.cs p va kind).cells):=by obtain ⟨b,h,e,_,_⟩:=hs.cs 0 ab;have c:=hs.cs;rw [e] at c;rw [e,a];exact DO A.ar M.ram.length A.cr M.ram b h A.cc M.cs p va kind w hr rfl hs.ram j.ram a c i d f g
theorem zv (M:MV) (A:MA) (B r:Nat) (va kind:Int) (w:World) (hm:Mp B r M A w) (hl:j7 M) (o:MW M) (j:ey M=true) (g:1<=kind) (i:kind<=3) (l:U va) (F:Fd) (hF:bW M.ram M.ram.length M.cs (fR M.cs M.pr kind) va kind=F):Calls prog 114 #[.p r 0,.slice none 0 0,.u va,.i kind] w λe a=>e=.returned (.tuple #[.u F.addr,.i F.code])/\Mp B r (bL M (bn M.ram F)) A a/\Kx r (aI M A) (aI (bL M (bn M.ram F)) A) w a:=by obtain ⟨b,f,k,v,D,C⟩:=ay j;have u:=vt (o.cs 0) f k kind;have t:=λa (h:Mp B r M A a)=>Qk (M:=M) (A:=A) (w:=a) b h.fam.msl.cs kind;have n:=λa (h:Mp B r M A a)=>RG (M:=M) (A:=A) (w:=a) b v h.fam.msl o (fR M.cs M.pr kind) va kind u g i l;have c:=Iq M.ram M.ram.length M.cs (fR M.cs M.pr kind) va kind;rw [hF] at c;simp only [hF] at n;obtain ⟨p,q,s,m,d⟩:=F;refine LE _ s va kind _ p q m d hm t n (λe=>?_) (λe=>by rw [e];rfl) (by unfold aq bL;dsimp only;rw [j9]);obtain ⟨x,y⟩:=c e;have z:0<=d/\d<18446744073709551616:=y;subst e;exact λa h=>uU M A B r m 8 d a hl.ram x z.1 ab h
theorem RH {M:MV} {A:MA} {w:World} (a:M.cs.length=22) (hs:Sl .u64 w A.ac M.cs) (p x s kind:Int):CE 115 #[.slice A.ac M.cs.length A.cc,.i p,.u x,.i s,.i kind] w (.bool (aA M.cs p x (aZ x s) kind 4 0)):=by rw [a];exact l4 A.ac A.cc M.cs p x s kind w a hs
theorem RJ {M:MV} {A:MA} {w:World} {addr size:Int} (hs:Sl .u8 w A.ar M.ram) (hl:M.ram.length<=1048576) (h:∀ y ∈ M.ram,(Lit.int .u8 y).wf=true) (a:gn M.ram.length addr size=true):CE 118 #[.slice A.ar M.ram.length A.cr,.u addr,.i size] w (.u (le M.ram (addr-2147483648).toNat size.toNat)):=by
 have j:=jY a;obtain ⟨f,d⟩:∃ f:Nat,f=(addr-2147483648).toNat:=⟨_,rfl⟩;obtain ⟨m,g⟩:∃ m:Nat,m=size.toNat:=⟨_,rfl⟩;have b:addr=2147483648+(f:Int):=ab
 have c:size=(m:Int):=ab
 rw [<- d,<- g,b,c];exact ui A.ar M.ram.length A.cr f m M.ram w rfl hl hs h ab ab ab
theorem Gm {B E:Nat} {w:World} {M:MV} {A:MA} (h:bx B E w (aI M A)):bx B E w (fO A.ai M.d.xs.length A.ci M.d.xs A.ao M.d.ys.length A.co M.d.ys):=h.sub (.cons _ (.cons _ (.cons _ (List.Sublist.refl _))))
theorem LF (D:DV) (k:Nat) (h:D.xs.length<=1048576) (a:D.ys.length<=1048576):(jc D k).2.1.xs.length<=1048576/\(jc D k).2.1.ys.length<=1048576:=by have:=OG D k;omega
theorem fK (M:MV) (A:MA) (B r:Nat) (addr size kind x:Int) (w:World) (hm:Mp B r M A w) (hl:j7 M) (o:MW M) (j:ey M=true) (m:iW size=true) (u:1<=kind) (v:kind<=3) (q:U addr) (hx:U x):Calls prog 76 #[.p r 0,.slice none 0 0,.u addr,.i size,.i kind,.u x] w λe a=>e=.returned (.tuple #[.u (aC M addr size kind x).1,.i (aC M addr size kind x).2.2])/\∃ n,Mp B r (aC M addr size kind x).2.1 n a/\Kx r (aI M A) (aI (aC M addr size kind x).2.1 n) w a:=by
 obtain ⟨d,H,J,K,I,N⟩:=ay j;have b:=yB I;have c:dH M.d:=⟨o.xs,o.ys⟩;have L:size=1\/size=2\/size=4\/size=8:=of_decide_eq_true m;have k:1<=size:=ab
 have l:size<=8:=ab
 obtain ⟨F,hF⟩:∃ F,bW M.ram M.ram.length M.cs (fR M.cs M.pr kind) addr kind=F:=⟨_,rfl⟩;have i:U F.addr:=by rw [<- hF];exact tM _ _ _ _ _ _ q
 have z:aU (bL M (bn M.ram F)).ram.length=true:=by show aU (bn M.ram F).length=true;rw [j9];exact K
 have f:(bL M (bn M.ram F)).ram.length<=1048576:=by show (bn M.ram F).length<=_;rw [j9];exact hl.ram
 have E:=zu M.ram o.ram F;have g:decide (Uz.wrap (Uz.wrap (F.addr+size)-1)<F.addr)=decide (aZ F.addr size<F.addr):=by rw [Ek _ _ k l]
 have y:∀ D:DV,(D.xs.length<=1048576/\D.ys.length<=1048576)->j7 (cP (bL M (bn M.ram F)) D):=λD h=>⟨hl.x,hl.cs,f,h.1,h.2⟩;have s:=LF M.d (gj F.addr size) hl.xs hl.ys;have C:=Gi M.d x hl.xs b.2.1 (gj F.addr size);have G:kind=1\/kind=2\/kind=3:=ab
 have p:(if kind=3 then (fI M.d x (gj F.addr size)).1 else (jc M.d (gj F.addr size)).2.1).xs.length<=1048576/\(if kind=3 then (fI M.d x (gj F.addr size)).1 else (jc M.d (gj F.addr size)).2.1).ys.length<=1048576:=by split<;>assumption
 refine Er (M1:=bL M (bn M.ram F)) kind addr size x (fR M.cs M.pr kind) F.addr F.code (decide (aZ F.addr size<F.addr)) (aA M.cs (fR M.cs M.pr kind) F.addr (aZ F.addr size) kind 4 0) (gn (bL M (bn M.ram F)).ram.length F.addr size) (lq (bL M (bn M.ram F)) F.addr) (le (bn M.ram F) (F.addr-2147483648).toNat size.toNat) (jc M.d (gj F.addr size)).1 (jZ (bn M.ram F) (F.addr-2147483648).toNat x size.toNat) (if kind=3 then (fI M.d x (gj F.addr size)).1 else (jc M.d (gj F.addr size)).2.1) (if kind=3 then (fI M.d x (gj F.addr size)).2 else (jc M.d (gj F.addr size)).2.2) G hm k l q (λa h=>zv M A B r addr kind a h hl o j u v q F hF) g (λa h=>Qk (M:=bL M (bn M.ram F)) (A:=A) d h.fam.msl.cs kind) (λa h=>RH (M:=bL M (bn M.ram F)) d h.fam.msl.cs _ _ _ _) (λa h=>uh _ _ _ _ _ a z m i.1 (by have:=i.2;omega)) (λt a h=>RJ (M:=bL M (bn M.ram F)) h.fam.msl.ram f E t) (λt a h=>uU (bL M (bn M.ram F)) A B r F.addr size x a f t hx.1 (by have:=hx.2;omega) h) (λe a h=>?_) (λe a h=>?_) (λn a h=>xA _ n B r a d (y _ p) h) _ (λ_=>rfl) (λ_=>rfl) ?_;·subst e;exact Dy M.d A.ai A.ci A.ao A.co F.addr size B a.heap.size a b.1 c (by have:=h.lo;have:=h.lt;omega) (Nat.le_refl _) (Gm (M:=bL M (bn M.ram F)) h.fam)
 ·subst e;exact AA M.d A.ai A.ci A.ao A.co F.addr size x B a.heap.size a b.2.1 (by have:=h.lo;have:=h.lt;omega) (Nat.le_refl _) (Gm (M:=bL M (bn M.ram F)) h.fam)
 ·rcases G with rfl|rfl|rfl<;>(unfold aC;rw [hF];rfl)
theorem oU (B E:Nat) (w:World):bx B E w (aI zeroM zeroA):=by
 refine ⟨λr a=>?_,λr a k e=>?_,?_⟩;·simp only [aI,List.mem_cons,List.not_mem_nil,or_false] at a;rcases a with rfl | rfl | rfl | rfl | rfl<;>exact ⟨rfl,.inl ⟨rfl,rfl⟩⟩
 ·simp only [aI,List.mem_cons,List.not_mem_nil,or_false] at a;rcases a with rfl|rfl|rfl|rfl|rfl<;>cases e
 ·simp only [aI,List.pairwise_cons,List.mem_cons,List.not_mem_nil,or_false];refine ⟨λs _ k e=>?_,λs _ k e=>?_,λs _ k e=>?_,λs _ k e=>?_,λs h=>h.elim,List.Pairwise.nil⟩<;>cases e
def vC (M:MV) (size kind:Int):Bool:=ey M&&iW size&&decide (1<=kind/\kind<=3)&&!((kind==1)&&(size != 4))
def tN (M:MV) (addr size kind x:Int):Int × MV × Int:=if vC M size kind=true then aC M addr size kind x else (0,zeroM,99)
theorem eX (M:MV) (A:MA):(aq M A).all (·.oneCell')=true:=by unfold aq;kernel_rfl
end Go.Proofs.YtjifdmoehfbihaaGreatDoor
