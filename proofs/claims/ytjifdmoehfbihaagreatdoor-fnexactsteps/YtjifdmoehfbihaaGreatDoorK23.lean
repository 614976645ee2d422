/- Own lemmas. -/
import Derived.Test.YtjifdmoehfbihaaGreatDoorAut
import Derived.Test.YtjifdmoehfbihaaGreatDoorK21
import Derived.Test.YtjifdmoehfbihaaGreatDoorK22
set_option maxRecDepth 100000
set_option maxHeartbeats 6400000
namespace Go.Proofs.YtjifdmoehfbihaaGreatDoor
open Go.RowKit Tryz
open IntKind renaming u64->Uz
set_option linter.unusedVariables false
theorem Me (a:Option Addr) (n c:Nat) (x:List Int) (w:World) (hx:x.length=n) (hs:Sl .u64 w a x):CE 67 #[.slice a n c] w (.bool (gh n x)):=by
 by_cases h:n=32;·subst h;obtain ⟨b,f,rfl,m,g⟩:=hs 0 al;have F:Hid (gh 32 x=(x.getD 0 0==0)):=(by show _=_;unfold gh;simp);have j:w.cell? ⟨b,f,none⟩=some (.u (x.getD 0 0)):=g;generalize gh 32 x=V at *;generalize x.getD 0 0=y at *;clear hs hx g;go_enter func67,ntmps67;exact a0a
 ·have F:Hid (gh n x=false):=(by show _=_;unfold gh;rw [decide_eq_false h];rfl);have d:((n:Int)==32)=false:=a7;generalize gh n x=V at *;clear hs hx h;go_enter func67,ntmps67;exact a0a
theorem C5 (x:Int) (w:World):Calls prog 66 #[.u x,.i 0,.i 2] w λe b=>e=.returned (.u (bits .and .u64 x 3))/\b=w.drew:=by
 go_enter func66,ntmps66;go_wp2_with fail;go_region;all_goals go_wp2_with fail
 all_goals go_ret
 all_goals exact ⟨rfl,rfl⟩
theorem wH (D:DV) (d:Option Addr) (g:Nat) (f:Option Addr) (j:Nat) (w:World) (b:D.xs.length<=1048576) (c:D.ys.length<=1048576):CB 71 #[.agg #[.u D.t,.u D.cm,.bool D.so,.slice d D.xs.length g,.slice f D.ys.length j,.i D.ir]] w (.u (g9 D)):=by have p:Hid (∀ w,CB 110 #[.agg #[.u D.t,.u D.cm,.bool D.so,.slice d D.xs.length g,.slice f D.ys.length j,.i D.ir]] w (.u (g9 D))):=λw=>vi D d g f j w b c;have q:∀ o,Bw w (w.alloc o):=λo=>(Below.refl _ _).alloc (Nat.le_refl _) o;generalize g9 D=v at *;clear b c;go_enter func71,ntmps71;go_wp2_with fail;refine (p.out _).mono ?_;rintro e r ⟨rfl,l⟩;go_wp2_with fail;go_ret;exact ⟨rfl,aa (q _) l⟩
theorem iZ (M:MV) (A:MA) (w:World) (hl:jF M) (hs:uO w M A) (R:∀ j,U (M.cs.getD j 0)):CB 27 #[.agg (aO M A)] w (.bool (gY M)):=by
 have s:=λW (_:Bw w W)=>(C5 M.pc W).mono λe w'' ⟨T,V⟩=>And.intro T (show Bw W w'' by rw [V];exact (Below.refl _ _).drew);have z:=λW g=>Me A.ax M.x.length A.cx _ W rfl (hs.x.below g);have y:=λW g=>eI A.ac M.cs.length A.cc _ M.pr W rfl (hs.cs.below g) R;have P:=λW (_:Bw w W)=>eG A.ar M.ram.length A.cr W hl.ram;have O:=λW (_:Bw w W)=>jy M.d.t M.d.cm M.d.so A.ai M.d.xs.length A.ci A.ao M.d.ys.length A.co M.d.ir W hl.xs hl.ys;have Q:=λW (_:Bw w W)=>wH M.d A.ai A.ci A.ao A.co W hl.xs hl.ys;have u:gY M=((bits .and .u64 M.pc 3==0)&&gh M.x.length M.x&&aQ M.cs.length M.cs M.pr&&be M.ram.length&&kq M.d.xs.length M.d.ys.length M.d.ir&&(M.hl||(M.hd==0))&&(bits .and .u64 (M.cs.getD 9 0) 2184==g9 M.d)):=by unfold gY kB g9;cases kq M.d.xs.length M.d.ys.length M.d.ir<;>simp
 rw [u];clear u;generalize g9 M.d=X at *;generalize r:(bits .and .u64 M.pc 3==0)=p;generalize gh M.x.length M.x=q at *;generalize K:aQ M.cs.length M.cs M.pr=B at *;generalize be M.ram.length=C at *;generalize kq M.d.xs.length M.d.ys.length M.d.ir=D at *;generalize L:(M.hd==0)=E;generalize N:(bits .and .u64 (M.cs.getD 9 0) 2184==X)=F;cases B with
 | false =>
   refine cn (S:=Bs w [(aO M A,32)]) [(aO M A,32)] func27 ?_;cases p;case' true=>cases q
   all_goals exact bm (t:=2) (v:=.bool false) Bs.eng {eq:=[(6,au r)],cv:=[(5,gB s),(10,mj z),(17,gB y)]} 300 (Bs.start _ _) (λn h=>⟨bc,h.2⟩)
 | true =>
   have J:=pE K;obtain ⟨H,I,f,i,k⟩:=hs.cs 9 al;obtain ⟨pc,x,m,b,a,d,l,c,o⟩:=M;dsimp only at *;refine cn (S:=Bs w [(aO ⟨pc,x,m,b,a,d,l,c,o⟩ A,32)]) [(aO ⟨pc,x,m,b,a,d,l,c,o⟩ A,32)] func27 ?_;have G:∀ W,Bs w [(aO ⟨pc,x,m,b,a,d,l,c,o⟩ A,32)] W->W.cell? ⟨H,I+9,none⟩=some (.u (b.getD 9 0)):=λW h=>(h.2.cell (by exact i)).trans k;cases p;case' true =>cases q;case' true =>cases C;case' true =>cases D;case' true=>cases c<;>cases E<;>cases F
   all_goals exact bm (t:=2) (v:=.bool _) Bs.eng {eq:=[(6,au r),(35,au L),(47,au N)],ov:=[(41,qY b.length A.cc .i64 9 f al underlying23 a3),(42,kR _ _ underlying22 rfl G)],cv:=[(5,gB s),(10,mj z),(17,gB y),(22,mj P),(27,gB O),(46,gB Q)]} 300 (Bs.start _ _) (λn h=>⟨rfl,h.2⟩)
theorem Ap (pc:Int) (L:Option Addr) (nx M:Nat) (pr:Int) (g cc:Nat) (ar:Option Addr) (Q cr:Nat) (t cm:Int) (F:Bool) (r:Option Addr) (E u:Nat) (s:Option Addr) (no z:Nat) (C hd:Int) (hl wt:Bool) (b:Nat) (y D:Int) (w:World) (c:w.heap[b]?=some (.cells #[.u pc,.slice L nx M,.i pr,.slice (some ⟨g,0,none⟩) 22 cc,.slice ar Q cr,.u t,.u cm,.bool F,.slice r E u,.slice s no z,.i C,.u hd,.bool hl,.bool wt] 32 (0,0))) (d:w.cell? ⟨g,9,none⟩=some (.u y)) (B:w.frozen? ⟨g,9,none⟩=false) (J:g<w.heap.size) (I:∀ j,Bw w j->CB 71 #[.agg #[.u t,.u cm,.bool F,.slice r E u,.slice s no z,.i C]] j (.u D)):Calls prog 254 #[.p b 0] w λe j=>e=.returned (.tuple #[])/\∃ o,Bw w o/\j=o.setCell ⟨g,9,none⟩ (.u (bits .or .u64 (bits .andNot .u64 y 2184) D)):=by
 have K:Hid (CB 71 #[.agg #[.u t,.u cm,.bool F,.slice r E u,.slice s no z,.i C]] w.drew (.u D)):=I w.drew (Below.refl _ _).drew;have l:=ak c;have H:=ak J;have G:=ak (And.intro d B);obtain ⟨Z,p1,p2,p3,p4,p5,p6,p7,p8,p9,R,S,T,U⟩:=ae c;clear I c J;go_enter func254,ntmps254;go_wp2_with fail;go_region_with (first | (go_at_call 71;with_reducible refine K.out.mono ?_;rintro e o ⟨rfl,m⟩;have q:=ak (aa (Below.refl w.heap.size w).drew m);clear m;obtain ⟨q0,q1,q2,q3,q4,q5,q6,q7,q8,q9,V,W,X,Y⟩:=ae (an q.out l.out);have O:=(q.out.cell (p:=⟨g,9,none⟩) H.out).trans G.out.1;have P:o.frozen? ⟨g,9,none⟩=false:=e9));all_goals go_wp2_with fail
 all_goals refine bodyPost_end (results_none rfl _ _ _) rfl ?_
 all_goals exact ⟨rfl,o,q.out,rfl⟩
def gK (M:MV):MV:=⟨M.pc,M.x,M.pr,M.cs.set 9 (bits .or .u64 (bits .andNot .u64 (M.cs.getD 9 0) 2184) (g9 M.d)),M.ram,M.d,M.hd,M.hl,M.wt⟩
theorem Gq (M:MV) (A:MA):aO (gK M) A=aO M A:=by simp [aO,gK]
theorem Gr (M:MV):(gK M).cs.length=M.cs.length:=by simp [gK]
theorem pS {M:MV} (h:kq M.d.xs.length M.d.ys.length M.d.ir=true):gK M=dH M:=by
 have:g9 M.d=cU M.d:=by unfold g9;rw [h];rfl
 unfold gK dH;rw [this]
theorem vj (M:MV) (A:MA) (b B E:Nat) (w:World) (u:M.cs.length=22) (hl:jF M) (h:w.heap[b]?=some (.cells (aO M A) 32 (0,0))) (v:bp B E w (aH M A)) (hb:∀ q ∈ aH M A,q.v.ownBlock≠some b):Calls prog 254 #[.p b 0] w λe k=>e=.returned (.tuple #[])/\k.heap[b]?=some (.cells (aO (gK M) A) 32 (0,0))/\bp B E k (aH (gK M) A)/\eU (aH M A) w k:=by
 have c:aI A.ac M.cs.length A.cc M.cs ∈ aH M A:=ck
 have K:=v.own _ c;have D:=v.msl;obtain ⟨g,G,a,L,I⟩:=D.cs 9 al;have n:G=0:=by
  rcases K.2 with ⟨e,_⟩|⟨t,cap,s,e,_⟩
  ·have d:Value.slice A.ac M.cs.length A.cc=.slice none 0 0:=e;injection d with e3
   rw [a] at e3;cases e3
  ·have d:Value.slice A.ac M.cs.length A.cc=.slice (some ⟨t,0,none⟩) M.cs.length cap:=e;injection d with e3
   rw [a] at e3;injection e3 with e4
   injection e4
 subst n;rw [Nat.zero_add] at I;have f:(aI A.ac M.cs.length A.cc M.cs).v.ownBlock=some g:=by show (Value.slice A.ac M.cs.length A.cc).ownBlock=_;rw [a];rfl
 have y:g≠b:=λe=>hb _ c (by rw [f,e]);have x:w.frozen? ⟨g,9,none⟩=false:=by
  rcases K.2 with ⟨e,_⟩|⟨t,cap,s,e,N,o,_⟩;·have d:Value.slice A.ac M.cs.length A.cc=.slice none 0 0:=e;rw [a] at d;cases d
  ·have d:Value.slice A.ac M.cs.length A.cc=.slice (some ⟨t,0,none⟩) M.cs.length cap:=e;rw [a] at d;injection d with e3
   injection e3 with e4
   injection e4 with e5
   subst e5;exact gO o 9
 have j:=h;unfold aO at j;rw [a,u] at j;refine (Ap _ _ _ _ _ g _ _ _ _ _ _ _ _ _ _ _ _ _ _ _ _ _ b (M.cs.getD 9 0) (g9 M.d) w j I x L (λk O=>wH M.d _ _ _ _ k hl.xs hl.ys)).mono ?_;rintro e k ⟨rfl,p,i,rfl⟩;have l:=v.below i;have C:=l.own _ c;refine ⟨rfl,?_,?_⟩;·rw [Gq];exact eg (an i h) ⟨g,9,none⟩ _ (λe=>y e.symm)
 ·have z:p.grownBy (p.setCell ⟨g,9,none⟩ (.u (bits .or .u64 (bits .andNot .u64 (M.cs.getD 9 0) 2184) (g9 M.d)))) (aI A.ac M.cs.length A.cc M.cs).v.ownBlock:=(by rw [f];exact vP _ _ _ _);have F:(p.setCell ⟨g,9,none⟩ (.u (bits .or .u64 (bits .andNot .u64 (M.cs.getD 9 0) 2184) (g9 M.d)))).ownsRow B 22 1 (.slice A.ac M.cs.length A.cc) M.cs.length ((gK M).cs.map (Value.int .u64)):=(by have o:p.ownsRow B 22 1 (.slice A.ac M.cs.length A.cc) M.cs.length (M.cs.map (Value.int .u64)):=C;rw [a] at o ⊢;have H:=(o.stored 9 (.u (bits .or .u64 (bits .andNot .u64 (M.cs.getD 9 0) 2184) (g9 M.d)))).1;rw [iH] at H;exact H);have J:=bp.markL (L1:=[aI A.ax M.x.length A.cx M.x]) (L2:=[aB A.ar M.ram.length A.cr M.ram,aB A.ai M.d.xs.length A.ci M.d.xs,aB A.ao M.d.ys.length A.co M.d.ys]) (r:=aI A.ac M.cs.length A.cc M.cs) l z _ F;refine ⟨?_,(eU.of_below i).trans J.2⟩;have m:(gK M).cs.length=M.cs.length:=(by simp [gK]);unfold aH;rw [m];exact J.1
def lY (a:Int):Nat:=min (Lib.ctz 64 (18446744073709551615-a).toNat) 53
theorem JF (a:Nat) (d:a<18446744073709551616) (j:Nat):(bits .and .u64 ((a:Int)/2^j) 1==1)=a.testBit j:=by
 have h:=kT (a:Int) ⟨al,al⟩ j;have e:=cj ((a:Int)/2^j) 1 h.1 h.2 al;have b:((2:Int)^1-1)=1:=rfl;rw [b] at e;rw [e,Nat.testBit_eq_decide_div_mod_eq];have c:((a:Int)/2^j%2^1)=((a/2^j%2:Nat):Int):=bc
 rw [c];have:a/2^j%2=0\/a/2^j%2=1:=al
 rcases this with h|h<;>rw [h]<;>rfl
theorem Gs (a:Int) (k:Nat) (c:∀ j,j<k->(bits .and .u64 (a/2^j) 1==1)=true) (d:(bits .and .u64 (a/2^k) 1==1)=false):∀ n i,i<=k->ey a n i=min (i+n) k:=by
 intro n;induction n with
 | zero=>intro i f;show i=min (i+0) k;omega
 | succ n g =>
   intro i f;unfold ey;rcases Nat.lt_or_ge i k with b|e;·rw [if_pos (c i b),g (i+1) b];omega
   ·obtain rfl:i=k:=al;rw [if_neg (by rw [d];decide)];omega
theorem Mf (a:Int) (l:0<=a) (o:a<18014398509481984):lY a=ey a 53 0:=by
 obtain ⟨n,rfl⟩:∃ n:Nat,a=n:=⟨a.toNat,al⟩
 have i:(18446744073709551615-(n:Int)).toNat=18446744073709551615-n:=al
 unfold lY
 rw [i]
 have c:18446744073709551615-n≠0:=al
 have f:Lib.ctz 64 (18446744073709551615-n)=Lib.ctzFrom 64 (18446744073709551615-n):=by unfold Lib.ctz;rw [if_neg c]
 obtain ⟨m,p,g⟩:=Lib.ctzFrom_spec 64 (18446744073709551615-n) al al
 rw [f]
 generalize Lib.ctzFrom 64 (18446744073709551615-n)=k at *
 have b:2^k*(2*m+1)<2^64:=al
 have h:n=2^64-(2^k*(2*m+1)+1):=al
 have d:∀ j,j<64->n.testBit j=!(decide (k<=j)&&(2*m+1).testBit (j-k)):=by
  intro j e
  rw [h,Nat.testBit_two_pow_sub_succ b,Nat.testBit_two_pow_mul,decide_eq_true e,Bool.true_and]
 rw [Gs (n:Int) k (λj e=>by rw [JF n al,d j al,decide_eq_false al];rfl)
  (by rw [JF n al,d k g,Nat.sub_self];simp) 53 0 al]
 omega
def oC (l:List Int) (i:Nat):Int:=if (i==0)=true then 0 else Uz.wrap (4*l.getD (16+i) 0)
def nT (a:Int) (k:Nat):Int:=Uz.wrap (4*Uz.wrap (a/2^(k+1)*2^(k+1)))
def oD (a:Int) (k:Nat):Int:=Uz.wrap (nT a k+Uz.wrap (2^(k+3)))
def dZ (l:List Int) (i:Nat):Int × Int :=
 if (fN (l.getD 16 0) i==1)=true then (oC l i,Uz.wrap (4*l.getD (17+i) 0))
 else if (fN (l.getD 16 0) i==2)=true then (Uz.wrap (4*l.getD (17+i) 0),Uz.wrap (Uz.wrap (4*l.getD (17+i) 0)+4))
 else if (fN (l.getD 16 0) i==3)=true then (nT (l.getD (17+i) 0) (lY (l.getD (17+i) 0)),oD (l.getD (17+i) 0) (lY (l.getD (17+i) 0)))
 else (0,0)
theorem JG (a:Int) (f:0<=a) (m:a<18014398509481984) (k:Nat) (hk:k<=53):nT a k=rh a k/\Uz.wrap (oD a k-1)=vO a k/\nT a k<oD a k:=by
 have d:U a:=⟨f,al⟩;have e:=CS a d (k+1) al;have n:(0:Int)<2^(k+1):=Int.pow_pos al;have l:a/2^(k+1)*2^(k+1)<=a:=Int.ediv_mul_le _ al;have j:0<=a/2^(k+1)*2^(k+1):=Int.mul_nonneg (kT a d (k+1)).1 al;have g:∀ k,k<=53->(0:Int)<2^(k+3)/\(2:Int)^(k+3)<=72057594037927936:=a8
 obtain ⟨h,i⟩:=g k hk;have b:nT a k=4*(a/2^(k+1)*2^(k+1)):=by unfold nT;generalize a/2^(k+1)*2^(k+1)=z at *;rw [IntKind.wrap_u64,IntKind.wrap_u64];omega
 have c:rh a k=4*(a/2^(k+1)*2^(k+1)):=by unfold rh;rw [e];generalize a/2^(k+1)*2^(k+1)=z at *;rw [IntKind.wrap_u64];omega
 refine ⟨b.trans c.symm,?_,?_⟩;·unfold oD vO;rw [b,c]
 ·unfold oD;rw [b];generalize a/2^(k+1)*2^(k+1)=z at *;generalize (2:Int)^(k+3)=q at *;rw [IntKind.wrap_u64,IntKind.wrap_u64];omega
theorem Aq {l:List Int} (hl:∀ j,U (l.getD j 0)) (c:bf 22 l=true) (i:Nat) (k:i<4):cG l i=if (dZ l i).2<=(dZ l i).1 then (0,0,false) else ((dZ l i).1,Uz.wrap ((dZ l i).2-1),true):=by
 have g:fN (l.getD 16 0) i=iD l i:=wv l (hl 16) i k;have b:=LX hl c (17+i) al al;unfold cG dZ;rw [g];cases n:(iD l i==1) with
 | true =>
   simp only [if_true];have f:oC l i=j7 l i:=by
    unfold oC j7;rcases Nat.eq_zero_or_pos i with h|h;·subst h;rfl
    ·have:(i==0)=false:=by simp;omega
     rw [this,if_neg a5,if_pos h,Int.mul_comm]
   rw [f,Int.mul_comm 4]
 | false =>
   simp only [Bool.false_eq_true,if_false];cases o:(iD l i==2) with
   | true =>simp only [if_true];generalize l.getD (17+i) 0=a at *;rw [Int.mul_comm a 4];simp only [IntKind.wrap_u64];rw [if_neg al];congr 2;omega
   | false =>
     simp only [Bool.false_eq_true,if_false];cases p:(iD l i==3) with
     | true =>simp only [if_true];rw [Mf _ b.1 b.2];obtain ⟨d,e,m⟩:=JG _ b.1 b.2 (ey (l.getD (17+i) 0) 53 0) (by have:=Jk (l.getD (17+i) 0) 53 0;omega);rw [if_neg al,d,e]
     | false =>simp only [Bool.false_eq_true,if_false];rfl
def lZ (l:List Int) (k:Nat):Option (Nat × Int × Int × Int):=if (dZ l k).2<=(dZ l k).1 then none else some (k,(dZ l k).1,Uz.wrap ((dZ l k).2-1),cI (l.getD 16 0) (8*k) 8)
def fE (l:List Int) (k:Nat):List (Nat × Int × Int × Int):=(List.range k).filterMap (lZ l)
theorem Gt {l:List Int} {k:Nat} (h:(dZ l k).2<=(dZ l k).1):fE l (k+1)=fE l k:=by
 unfold fE;rw [List.range_succ,List.filterMap_append];have:lZ l k=none:=by unfold lZ;rw [if_pos h]
 simp [this]
theorem Gu {l:List Int} {k:Nat} (h:¬ (dZ l k).2<=(dZ l k).1):fE l (k+1)=fE l k++[(k,(dZ l k).1,Uz.wrap ((dZ l k).2-1),cI (l.getD 16 0) (8*k) 8)]:=by
 unfold fE;rw [List.range_succ,List.filterMap_append];have:lZ l k=some (k,(dZ l k).1,Uz.wrap ((dZ l k).2-1),cI (l.getD 16 0) (8*k) 8):=by unfold lZ;rw [if_neg h]
 simp [this]
theorem JH (l:List Int) (k:Nat):(fE l k).length<=k:=by unfold fE;exact Nat.le_trans (List.length_filterMap_le _ _) bc
theorem JI (l:List Int):∀ d k,fE l k <+: fE l (k+d):=by
 intro d;induction d with
 | zero=>intro k;exact List.prefix_refl _
 | succ d a =>intro k;refine (a k).trans ?_;show fE l (k+d) <+: fE l (k+d+1);unfold fE;rw [List.range_succ,List.filterMap_append];exact List.prefix_append _ _
theorem Gv {α:Type} {q:α->Bool} {xs pre a:List α} {last:α} (h:pre <+: xs) (e:pre=a++[last]) (b:∀ p ∈ a,q p=false) (hl:q last=true):xs.find? q=some last:=by
 obtain ⟨r,rfl⟩:=h;subst e;rw [List.append_assoc,List.find?_append];have:a.find? q=none:=List.find?_eq_none.2 λp c=>by rw [b p c];decide
 rw [this];simp [hl]
theorem Gx {α:Type} {q:α->Bool} {xs:List α} (a:∀ p ∈ xs,q p=false):xs.find? q=none:=List.find?_eq_none.2 λp b=>by rw [a p b];decide
def Q4 (l:List Int) (i:Int):Int × Int × Bool:=match (fE l 4).find? (λp=>(p.1:Int)==i) with | some p=>(p.2.1,p.2.2.1,true) | none=>(0,0,false)
def i7 (x y:Int) (p:Nat × Int × Int × Int):Bool:=decide (p.2.1<=y)&&decide (x<=p.2.2.1)
def ke (l:List Int) (x y:Int):Int × Int × Int × Bool:=match (fE l 4).find? (i7 x y) with | some p=>(p.2.1,p.2.2.1,p.2.2.2,true) | none=>(0,0,0,false)
theorem JJ {l:List Int} (hl:∀ j,U (l.getD j 0)) (a:bf 22 l=true) (k:Nat) (hk:k<4):(lZ l k=none/\cG l k=(0,0,false))\/(∃ c b,lZ l k=some (k,c,b,de l k)/\cG l k=(c,b,true)):=by
 rw [Aq hl a k hk];unfold lZ;rw [CL l (hl 16) k];by_cases h:(dZ l k).2<=(dZ l k).1;·rw [if_pos h,if_pos h];exact .inl ⟨rfl,rfl⟩
 ·rw [if_neg h,if_neg h];exact .inr ⟨_,_,rfl,rfl⟩
theorem Mg {l:List Int} {n:Nat} {p:Nat × Int × Int × Int} (h:p ∈ fE l n):p.1<n/\lZ l p.1=some p:=by
 unfold fE at h;obtain ⟨a,d,e⟩:=List.mem_filterMap.1 h;have b:a<n:=List.mem_range.1 d;have c:p.1=a:=by
  unfold lZ at e;split at e;·cases e
  ·rw [<- Option.some.inj e]
 rw [c];exact ⟨b,e⟩
theorem C6 {l:List Int} {k:Nat} {b a x y:Int} (c:cG l k=(b,a,true)):pg (cG l k) x y=!i7 x y (k,b,a,de l k):=by
 rw [c];unfold pg i7;simp only [Bool.not_true,Bool.false_or,Bool.not_and];congr 1;·rw [<- decide_not];congr 1;exact propext ⟨λh=>al,λh=>al⟩
 ·rw [<- decide_not];congr 1;exact propext ⟨λh=>al,λh=>al⟩
def PP (p x y kind:Int):Option (Nat × Int × Int × Int)->Bool
 | none=>(p==3)
 | some q=>!(decide (x<q.2.1)||decide (q.2.2.1<y))&&u7 q.2.2.2 p kind
theorem Gy {l:List Int} (hl:∀ j,U (l.getD j 0)) (b:bf 22 l=true) (p x y kind:Int):∀ n k,k+n<=4->ay l p x y kind n k=PP p x y kind (((List.range' k n).filterMap (lZ l)).find? (i7 x y)):=by
 intro n;induction n with
 | zero=>intro k f;rfl
 | succ n c =>
   intro k f;rw [ay,List.range'_succ,List.filterMap_cons];rcases JJ hl b k al with ⟨e,a⟩|⟨h,d,e,a⟩;·rw [e,c (k+1) al];have g:pg (cG l k) x y=true:=(by rw [a];rfl);rw [g,if_pos rfl]
   ·rw [e,C6 a];simp only [List.find?_cons];cases i:i7 x y (k,h,d,de l k) with
    | false =>rw [c (k+1) al];rfl
    | true =>rw [a];rfl
theorem PQ:∀ z:Nat,z<256->(bits .and .u64 (z:Int) 128==0)=((z:Int)/128==0)/\(bits .and .u64 (z:Int) 128 != 0)=((z:Int)/128==1)/\(bits .and .u64 (z:Int) 4 != 0)=(bits .and .u64 ((z:Int)/4) 1==1)/\(bits .and .u64 (z:Int) 1 != 0)=(bits .and .u64 (z:Int) 1==1) /\
 (bits .and .u64 (z:Int) 2 != 0)=(bits .and .u64 ((z:Int)/2) 1==1)/\(bits .and .u64 (z:Int) 2==0)=(bits .and .u64 ((z:Int)/2) 1==0):=a8
theorem Mp.xrow {B r:Nat} {M:MV} {A:MA} {w:World} (h:Mp B r M A w):w.ownsRow B 22 1 (.slice A.ax M.x.length A.cx) M.x.length (M.x.map (Value.int .u64)):=h.fam.own (aI A.ax M.x.length A.cx M.x) ck
theorem Mp.crow {B r:Nat} {M:MV} {A:MA} {w:World} (h:Mp B r M A w):w.ownsRow B 22 1 (.slice A.ac M.cs.length A.cc) M.cs.length (M.cs.map (Value.int .u64)):=h.fam.own (aI A.ac M.cs.length A.cc M.cs) ck
theorem ma (zs:List Int) (i:Nat) (y:Int):(zs.map (Value.int .u64)).set i (.u y)=(zs.set i y).map (Value.int .u64):=by rw [List.map_set]
def xM (M:MV) (xs:List Int):MV:={M with x:=xs}
def cM (M:MV) (cs:List Int):MV:={M with cs:=cs}
theorem Mp.setX {B r:Nat} {M:MV} {A:MA} {w:World} (h:Mp B r M A w) (b:Nat) (hb:A.ax=some ⟨b,0,none⟩) (i:Nat) (v:Int):Mp B r (xM M (M.x.set i v)) A (w.setCell ⟨b,i,none⟩ (.u v))/\Below B w (w.setCell ⟨b,i,none⟩ (.u v)):=by
 have g:=h.xrow;rw [hb] at g;have f:=g.stored i (.u v);rw [ma] at f;have m:=((g.lt b rfl)).1;have n:w.grownBy (w.setCell ⟨b,i,none⟩ (.u v)) (aI A.ax M.x.length A.cx M.x).v.ownBlock:=by simp only [aI];rw [hb];exact f.2
 have o:=bp.mark (L1:=[]) (r:=aI A.ax M.x.length A.cx M.x) (L2:=[aI A.ac M.cs.length A.cc M.cs,aB A.ar M.ram.length A.cr M.ram,aB A.ai M.d.xs.length A.ci M.d.xs,aB A.ao M.d.ys.length A.co M.d.ys]) h.fam n ((M.x.set i v).map (Value.int .u64)) tt;have a:=h.ne (aI A.ax M.x.length A.cx M.x) ck;have d:r≠b:=λe=>a (by simp only [aI];rw [hb,e];rfl);have c:(w.setCell ⟨b,i,none⟩ (.u v)).heap.size=w.heap.size:=aY _ _ _;have j:aH (xM M (M.x.set i v)) A=[]++⟨(aI A.ax M.x.length A.cx M.x).t,(aI A.ax M.x.length A.cx M.x).v,(aI A.ax M.x.length A.cx M.x).n,(M.x.set i v).map (Value.int .u64)⟩::[aI A.ac M.cs.length A.cc M.cs,aB A.ar M.ram.length A.cr M.ram,aB A.ai M.d.xs.length A.ci M.d.xs,aB A.ao M.d.ys.length A.co M.d.ys]:=by simp [aH,xM,aI]
 refine ⟨⟨?_,?_,?_,h.lo⟩,⟨rfl,rfl,rfl,by rw [c];exact Nat.le_refl _,λk p=>Below.heap_setCell _ _ _ k a9⟩⟩;·have:=eg h.row ⟨b,i,none⟩ (.u v) d;simpa [aO,xM] using this
 ·rw [j,c];exact o.1
 ·rw [j];intro q l;simp only [List.nil_append,List.mem_cons,List.not_mem_nil,or_false] at l;rcases l with rfl|rfl|rfl|rfl|rfl;·exact a
  ·exact h.ne _ ck
  ·exact h.ne _ ck
  ·exact h.ne _ ck
  ·exact h.ne _ ck
theorem Mp.setC {B r:Nat} {M:MV} {A:MA} {w:World} (h:Mp B r M A w) (b:Nat) (hb:A.ac=some ⟨b,0,none⟩) (i:Nat) (v:Int):Mp B r (cM M (M.cs.set i v)) A (w.setCell ⟨b,i,none⟩ (.u v))/\Below B w (w.setCell ⟨b,i,none⟩ (.u v)):=by
 have g:=h.crow;rw [hb] at g;have f:=g.stored i (.u v);rw [ma] at f;have m:=((g.lt b rfl)).1;have n:w.grownBy (w.setCell ⟨b,i,none⟩ (.u v)) (aI A.ac M.cs.length A.cc M.cs).v.ownBlock:=by simp only [aI];rw [hb];exact f.2
 have o:=bp.mark (L1:=[aI A.ax M.x.length A.cx M.x]) (r:=aI A.ac M.cs.length A.cc M.cs) (L2:=[aB A.ar M.ram.length A.cr M.ram,aB A.ai M.d.xs.length A.ci M.d.xs,aB A.ao M.d.ys.length A.co M.d.ys]) h.fam n ((M.cs.set i v).map (Value.int .u64)) tt;have a:=h.ne (aI A.ac M.cs.length A.cc M.cs) ck;have d:r≠b:=λe=>a (by simp only [aI];rw [hb,e];rfl);have c:(w.setCell ⟨b,i,none⟩ (.u v)).heap.size=w.heap.size:=aY _ _ _;have j:aH (cM M (M.cs.set i v)) A=[aI A.ax M.x.length A.cx M.x]++⟨(aI A.ac M.cs.length A.cc M.cs).t,(aI A.ac M.cs.length A.cc M.cs).v,(aI A.ac M.cs.length A.cc M.cs).n,(M.cs.set i v).map (Value.int .u64)⟩::[aB A.ar M.ram.length A.cr M.ram,aB A.ai M.d.xs.length A.ci M.d.xs,aB A.ao M.d.ys.length A.co M.d.ys]:=by simp [aH,cM,aI]
 refine ⟨⟨?_,?_,?_,h.lo⟩,⟨rfl,rfl,rfl,by rw [c];exact Nat.le_refl _,λk p=>Below.heap_setCell _ _ _ k a9⟩⟩;·have:=eg h.row ⟨b,i,none⟩ (.u v) d;simpa [aO,cM] using this
 ·rw [j,c];exact o.1
 ·rw [j];intro q l;simp only [List.cons_append,List.nil_append,List.mem_cons,List.not_mem_nil,or_false] at l;rcases l with rfl|rfl|rfl|rfl|rfl;·exact h.ne _ ck
  ·exact a
  ·exact h.ne _ ck
  ·exact h.ne _ ck
  ·exact h.ne _ ck
theorem Mp.fld {B r:Nat} {M M':MV} {A:MA} {w:World} (h:Mp B r M A w) (i:Nat) (v:Value) (b:aO M' A=(aO M A).setIfInBounds i v) (a:aH M' A=aH M A):Mp B r M' A (w.setCell ⟨r,i,none⟩ v)/\Kx r (aH M A) (aH M' A) w (w.setCell ⟨r,i,none⟩ v):=by refine ⟨⟨?_,by rw [a];exact Mp.fam_set h.fam h.ne i v,by rw [a];exact h.ne,h.lo⟩,by rw [a];exact Kx.set w i v⟩;rw [b];exact bo h.row i v
theorem Er {r:Nat} {L L':List FRow} {q:FRow} (l:q ∈ L) {b:Nat} (e:q.v.ownBlock=some b) (hs:∀ q ∈ L',∃ c ∈ L,c.v=q.v) (w:World) (i:Nat) (v:Value):Kx r L L' w (w.setCell ⟨b,i,none⟩ v):=
 ⟨rfl,rfl,rfl,ex,λk _ _ j=>Below.heap_setCell w ⟨b,i,none⟩ v k (λg=>j q l (by rw [e];exact congrArg some g.symm)),λm a k d _=>by obtain ⟨c,h,f⟩:=hs m a;exact ⟨c,h,by rw [f];exact d⟩⟩
structure Kr where
 b:Nat
 cs:Array Value
 t:TypeId
 tg:List (Nat × Nat)
structure Hx (B r:Nat) (L:List Kr) (M0:MV) (A0:MA) (w0:World) (M:MV) (A:MA) (W:World):Prop where
 mp:Mp B r M A W
 kx:Kx r (aH M0 A0) (aH M A) w0 W
 rows:∀ x ∈ L,W.heap[x.b]?=some (.cells x.cs x.t (0,0))/\x.b≠r/\∀ q ∈ aH M A,q.v.ownBlock≠some x.b
section
variable {B r : Nat} {L : List Kr} {M0 M M' : MV} {A0 A A' : MA} {w0 W W' : World}
theorem Hx.step (h:Hx B r L M0 A0 w0 M A W) (p:Mp B r M' A' W') (k:Kx r (aH M A) (aH M' A') W W'):Hx B r L M0 A0 w0 M' A' W' :=
 ⟨p,h.kx.trans k,λx j=>by
  obtain ⟨b,c,d⟩:=h.rows x j
  have a:=(Array.getElem?_eq_some_iff.1 b).1
  exact ⟨(k.block x.b a c d).trans b,c,λq i e=>by obtain ⟨l,g,f⟩:=k.own q i x.b e a;exact d l g f⟩⟩
theorem Hx.below (h:Hx B r L M0 A0 w0 M A W) (k:Bw W W'):Hx B r L M0 A0 w0 M A W':=h.step (h.mp.below k) (Kx.of_below k)
def QM (r:Nat) (M:MV) (A:MA) (L:List Kr):List Rw:=⟨r,aO M A,[]⟩::L.map (λx=>⟨x.b,x.cs,x.tg⟩)
theorem Hx.eng {P:Program} {fn:Func} {dr:Bool} {Rs:Ending->World->Prop}:pd P (Hx B r L M0 A0 w0 M A) (Hx B r L M0 A0 w0 M A) (QM r M A L) dr (bodyPost P fn Rs):=
 ⟨λ_ h=>h,λW h x a=>by
  rcases List.mem_cons.1 a with rfl|a
  ·exact ⟨_,_,h.mp.row⟩
  ·obtain ⟨y,b,rfl⟩:=List.mem_map.1 a
   exact ⟨_,_,(h.rows y b).1⟩,λ_ W h=>h.below (Below.refl _ _).drew,dA⟩
theorem Hx.engL {P:Program} {fn:Func} {dr:Bool} {Rs:Ending->World->Prop} {L':List Kr} (a:∀ x ∈ L,x ∈ L'):pd P (Hx B r L M0 A0 w0 M A) (Hx B r L' M0 A0 w0 M A) (QM r M A L) dr (bodyPost P fn Rs):=
 ⟨λ_ h=>⟨h.mp,h.kx,λx b=>h.rows x (a x b)⟩,(Hx.eng (P:=P) (fn:=fn) (dr:=dr) (Rs:=Rs)).rows,λ_ W h=>h.below (Below.refl _ _).drew,dA⟩
def Hs (r:Nat) (L:List Kr) (cs:Array Value) (W:World):Prop:=W.heap[r]?=some (.cells cs 32 (0,0))/\∀ x ∈ L,W.heap[x.b]?=some (.cells x.cs x.t (0,0))
theorem Hx.hs (h:Hx B r L M0 A0 w0 M A W):Hs r L (aO M A) W:=⟨h.mp.row,λx a=>(h.rows x a).1⟩
def Q5 (r:Nat) (cs:Array Value) (L:List Kr):List Rw:=⟨r,cs,[]⟩::L.map (λx=>⟨x.b,x.cs,x.tg⟩)
theorem Hs.eng {P:Program} {fn:Func} {dr:Bool} {Rs:Ending->World->Prop} {cs:Array Value} (hs:∀ W,Hx B r L M0 A0 w0 M A W->Hs r L cs W):pd P (Hs r L cs) (Hx B r L M0 A0 w0 M A) (Q5 r cs L) dr (bodyPost P fn Rs):=
 ⟨hs,λW h x a=>by
  rcases List.mem_cons.1 a with rfl|a
  ·exact ⟨_,_,h.1⟩
  ·obtain ⟨y,b,rfl⟩:=List.mem_map.1 a
   exact ⟨_,_,h.2 y b⟩,λ_ W h=>h.below (Below.refl _ _).drew,dA⟩
theorem Hx.fld (h:Hx B r L M0 A0 w0 M A W) (i:Nat) (v:Value) (a:aO M' A=(aO M A).setIfInBounds i v) (b:aH M' A=aH M A):Hx B r L M0 A0 w0 M' A (W.setCell ⟨r,i,none⟩ v):=h.step (h.mp.fld i v a b).1 (h.mp.fld i v a b).2
theorem Hx.setX (h:Hx B r L M0 A0 w0 M A W) (b:Nat) (hb:A.ax=some ⟨b,0,none⟩) (i:Nat) (v:Int):Hx B r L M0 A0 w0 (xM M (M.x.set i v)) A (W.setCell ⟨b,i,none⟩ (.u v)):=
 h.step (h.mp.setX b hb i v).1 (Er (L:=aH M A) (q:=aI A.ax M.x.length A.cx M.x) ck (by show (Value.slice A.ax M.x.length A.cx).ownBlock=_;rw [hb];rfl) (iS (M:=M) (M':=xM M (M.x.set i v)) (show (M.x.set i v).length=M.x.length by simp) rfl rfl rfl rfl) W i _)
theorem Hx.setC (h:Hx B r L M0 A0 w0 M A W) (b:Nat) (hb:A.ac=some ⟨b,0,none⟩) (i:Nat) (v:Int):Hx B r L M0 A0 w0 (cM M (M.cs.set i v)) A (W.setCell ⟨b,i,none⟩ (.u v)):=
 h.step (h.mp.setC b hb i v).1 (Er (L:=aH M A) (q:=aI A.ac M.cs.length A.cc M.cs) ck (by show (Value.slice A.ac M.cs.length A.cc).ownBlock=_;rw [hb];rfl) (iS (M:=M) (M':=cM M (M.cs.set i v)) rfl (show (M.cs.set i v).length=M.cs.length by simp) rfl rfl rfl) W i _)
theorem Hx.var (h:Hx B r L M0 A0 w0 M A W) (hb:Bw W W') (x:Kr) (hx:W'.heap[x.b]?=some (.cells x.cs x.t (0,0))) (hn:W.heap.size<=x.b):Hx B r (L++[x]) M0 A0 w0 M A W':=by
 have b:=h.below hb;refine ⟨b.mp,b.kx,λy a=>?_⟩;rcases List.mem_append.1 a with a | a;·exact b.rows y a
 ·rw [List.mem_singleton] at a;subst a;refine ⟨hx,by have:=h.mp.lt;omega,λq c e=>?_⟩;have:=((h.mp.fam.own q c).lt y.b e).2;omega
end
theorem dQ {P:Program} {w:World} {b i:Nat} {T:TypeId} {v:Value} {t:TypeId} {cs:Array Value} (hr:w.heap[b]?=some (.cells cs t (0,0))) (e:i<cs.size) (c:(P.info? T).map (·.size)=some 1) (hv:v.cells=#[v]) (f:v.oneCell'=true:=by rfl):(do Instr.storeAt T (.p b i) v;pure Next.skip:Sem Next).run P w=.ok .skip (w.setCell ⟨b,i,none⟩ v):=by
 obtain ⟨t,h,g⟩:=Option.map_eq_some_iff.1 c;have d:w.cell? ⟨b,i,none⟩=some cs[i]:=by simp [World.cell?,hr,e]
 have a:(store ⟨b,i,none⟩ v).run P w=.ok () (w.setCell ⟨b,i,none⟩ v):=by rw [run_store P w _ v _ f];simp [d,gO hr i]
 simp [Instr.storeAt,Instr.sureAddr,storeVar,sizeOf,typeInfo,h,g,hv,storeCells,Addr.add,Result.andThen,a]
theorem JK {B r:Nat} {M:MV} {A:MA} {w:World} (M2:MV) (fm:Bool) (va kind p d f m l:Int) (hm:Mp B r M A w) (K:∀ c,Mp B r M A c->CE 116 #[.slice A.ac M.cs.length A.cc,.i M.pr,.i kind] c (.i p)) (H:∀ c,Mp B r M A c->CB 177 #[.slice A.ar M.ram.length A.cr,.slice A.ac M.cs.length A.cc,.i p,.u va,.i kind] c (.agg #[.u d,.i f,.bool fm,.u m,.u l])) (L:fm=true->∀ c,Mp B r M A c->Calls prog 119 #[.slice A.ar M.ram.length A.cr,.u m,.i 8,.u l] c λe k=>e=.returned (.tuple #[])/\Mp B r M2 A k/\Kx r (aH M A) (aH M2 A) c k) (J:fm=false->M2=M) (C:aO M2 A=aO M A):Calls prog 114 #[.p r 0,.slice none 0 0,.u va,.i kind] w λe c=>e=.returned (.tuple #[.u d,.i f])/\Mp B r M2 A c/\Kx r (aH M A) (aH M2 A) w c:=by
 have fin:∀ (S:World->Prop) (b:Nat) (W:World),Hx B r [⟨b,#[.u d,.i f,.bool fm,.u m,.u l],215,[]⟩] M A w M A W->Wg prog S (bodyPost prog Tryz.f114 λe c=>e=.returned (.tuple #[.u d,.i f])/\Mp B r M2 A c/\Kx r (aH M A) (aH M2 A) w c) Tryz.f114.ntmps [.code (aG 5 (bD Tryz.f114))] [(0,.p r 0,1),(11,.bool false,0),(13,.p b 0,2)] W:=λS b W h=>by
  refine aR (Hs r [⟨b,#[.u d,.i f,.bool fm,.u m,.u l],215,[]⟩] (aO M A)) ?_;cases fm with
  | false =>obtain rfl:=J rfl;exact lm (Hs.eng (dr:=true) (λ_ h=>h.hs)) {} 99 h λW' a h y=>⟨.tuple #[.u d,.i f],ko,rfl,h.mp,h.kx⟩
  | true =>refine aW (Hs.eng (dr:=true) (λ_ h=>h.hs)) {} 99 h (λW h=>L rfl W h.mp) ?_;rintro U e V o ⟨rfl,R,Q⟩;have G:=o.step R Q;refine ⟨_,0,rfl,λ_=>C ▸ G.hs,?_⟩;exact lm (Hs.eng (dr:=true) (λ_ h=>C ▸ h.hs)) {} 99 G λW' a h y=>⟨.tuple #[.u d,.i f],ko,rfl,h.mp,h.kx⟩
 have var:∀ (W W':World) (b:Nat),Hx B r [] M A w M A W->Bw W W'->W.heap.size<=b->W'.heap[b]?=some (.cells #[.u d,.i f,.bool fm,.u m,.u l] 215 (0,0))->Hx B r [⟨b,#[.u d,.i f,.bool fm,.u m,.u l],215,[]⟩] M A w M A W':=λW W' b h N O P=>h.var N _ P O;refine cn (S:=Hx B r [] M A w M A) (args:=[.p r 0,.slice none 0 0,.u va,.i kind]) [] func114 ?_;refine aL 0 1 ?_;refine af (Hx.eng (dr:=true)) {cv:=[(23,mt λW h=>K W h.mp)]} 99 (⟨hm,Kx.refl _ _ _,λ_ h=>ow⟩:Hx B r [] M A w M A w) λq n=>?_;refine tG (i:=11) (j:=12) ?_ ?_;·refine sx (H q n.mp) λe E D=>?_;obtain ⟨rfl,s⟩:=D;have o:=n.below s;refine ⟨_,0,rfl,o,?_⟩;have u:=bal E (.cells iL 215);refine iQ 2 (gF (T:=215) (z:=.agg iL) a3 E) (hS:=λ_=>o.below u) ?_;have x:=ch u (Nat.le_refl _) #[.u d,.i f,.bool fm,.u m,.u l];refine bM (bj (g:=E.heap.size) (t:=215) (ty:=215) (old:=iL) (cells:=#[.u d,.i f,.bool fm,.u m,.u l]) (heap_alloc_new _ _) a3 rfl a3) (hS:=λ_=>o.below x) ?_;refine af (Hx.engL (dr:=true) (λ_ h=>ow)) {} 1 (var _ _ _ o x (Nat.le_refl _) (setRow_heap _ _ _ _ _ _ (heap_alloc_new _ _))) λW h=>?_;exact aE _ _ (fin _ _ _ h)
 ·have s:=bal q (.cells iL 215);refine vZ 2 (gF (T:=215) (z:=.agg iL) a3 q) (n.below s) ?_;refine mr (H _ (n.below s).mp) λe X D=>?_;obtain ⟨rfl,u⟩:=D;have x:=aa s u;refine ⟨_,0,rfl,λ_=>n.below x,?_⟩;have I:=an u (heap_alloc_new q (.cells iL 215));have F:=ch x (Nat.le_refl _) #[.u d,.i f,.bool fm,.u m,.u l];refine bM (bj (g:=q.heap.size) (t:=215) (ty:=215) (old:=iL) (cells:=#[.u d,.i f,.bool fm,.u m,.u l]) I a3 rfl a3) (hS:=λ_=>n.below F) ?_;refine af (Hx.engL (dr:=true) (λ_ h=>ow)) {} 1 (var _ _ _ n F (Nat.le_refl _) (setRow_heap _ _ _ _ _ _ I)) λW h=>?_;exact aE _ _ (fin _ _ _ h)
theorem Es {M:MV} {A:MA} {w:World} (a:M.cs.length=22) (hs:Sl .u64 w A.ac M.cs) (kind:Int):CE 116 #[.slice A.ac M.cs.length A.cc,.i M.pr,.i kind] w (.i (eC M.cs M.pr kind)):=by obtain ⟨b,c,e,_,d⟩:=hs 0 al;rw [e,a];exact rY b c A.cc M.cs M.pr kind w d
theorem OC {M:MV} {A:MA} {w:World} (a:M.cs.length=22) (hr:be M.ram.length=true) (hs:uO w M A) (j:MW M) (p va kind:Int) (i:bI p=true) (d:1<=kind) (f:kind<=3) (g:U va):CB 177 #[.slice A.ar M.ram.length A.cr,.slice A.ac M.cs.length A.cc,.i p,.u va,.i kind] w (.agg (bO M.ram M.ram.length M.cs p va kind).cells):=by obtain ⟨b,h,e,_,_⟩:=hs.cs 0 al;have c:=hs.cs;rw [e] at c;rw [e,a];exact Cr A.ar M.ram.length A.cr M.ram b h A.cc M.cs p va kind w hr rfl hs.ram j.ram a c i d f g
theorem qD (M:MV) (A:MA) (B r:Nat) (va kind:Int) (w:World) (hm:Mp B r M A w) (hl:jF M) (o:MW M) (j:gY M=true) (g:1<=kind) (i:kind<=3) (l:U va) (F:Fd) (hF:bO M.ram M.ram.length M.cs (eC M.cs M.pr kind) va kind=F):Calls prog 114 #[.p r 0,.slice none 0 0,.u va,.i kind] w λe a=>e=.returned (.tuple #[.u F.addr,.i F.code])/\Mp B r (bz M (aN M.ram F)) A a/\Kx r (aH M A) (aH (bz M (aN M.ram F)) A) w a:=by obtain ⟨b,f,k,v,D,C⟩:=aF j;have u:=t9 (o.cs 0) f k kind;have t:=λa (h:Mp B r M A a)=>Es (M:=M) (A:=A) (w:=a) b h.fam.msl.cs kind;have n:=λa (h:Mp B r M A a)=>OC (M:=M) (A:=A) (w:=a) b v h.fam.msl o (eC M.cs M.pr kind) va kind u g i l;have c:=FL M.ram M.ram.length M.cs (eC M.cs M.pr kind) va kind;rw [hF] at c;simp only [hF] at n;obtain ⟨p,q,s,m,d⟩:=F;refine JK _ s va kind _ p q m d hm t n (λe=>?_) (λe=>by rw [e];rfl) (by unfold aO bz;dsimp only;rw [jH]);obtain ⟨x,y⟩:=c e;have z:0<=d/\d<18446744073709551616:=y;subst e;exact λa h=>zN M A B r m 8 d a hl.ram x z.1 al h
theorem C7 {M:MV} {A:MA} {w:World} (a:M.cs.length=22) (hs:Sl .u64 w A.ac M.cs) (p x s kind:Int):CE 115 #[.slice A.ac M.cs.length A.cc,.i p,.u x,.i s,.i kind] w (.bool (ay M.cs p x (aM x s) kind 4 0)):=by rw [a];exact ls A.ac A.cc M.cs p x s kind w a hs
theorem JL {M:MV} {A:MA} {w:World} {addr size:Int} (hs:Sl .u8 w A.ar M.ram) (hl:M.ram.length<=1048576) (h:∀ y ∈ M.ram,(Lit.int .u8 y).wf=true) (a:fQ M.ram.length addr size=true):CE 118 #[.slice A.ar M.ram.length A.cr,.u addr,.i size] w (.u (le M.ram (addr-2147483648).toNat size.toNat)):=by
 have j:=jB a;obtain ⟨f,d⟩:∃ f:Nat,f=(addr-2147483648).toNat:=⟨_,rfl⟩;obtain ⟨m,g⟩:∃ m:Nat,m=size.toNat:=⟨_,rfl⟩;have b:addr=2147483648+(f:Int):=al
 have c:size=(m:Int):=al
 rw [<- d,<- g,b,c];exact sR A.ar M.ram.length A.cr f m M.ram w rfl hl hs h al al al
theorem Et {B E:Nat} {w:World} {M:MV} {A:MA} (h:bp B E w (aH M A)):bp B E w (iB A.ai M.d.xs.length A.ci M.d.xs A.ao M.d.ys.length A.co M.d.ys):=h.sub (.cons _ (.cons _ (.cons _ (List.Sublist.refl _))))
theorem JM (D:DV) (k:Nat) (h:D.xs.length<=1048576) (a:D.ys.length<=1048576):(jc D k).2.1.xs.length<=1048576/\(jc D k).2.1.ys.length<=1048576:=by have:=L8 D k;omega
theorem fu (M:MV) (A:MA) (B r:Nat) (addr size kind x:Int) (w:World) (hm:Mp B r M A w) (hl:jF M) (s:MW M) (j:gY M=true) (m:ic size=true) (E:1<=kind) (G:kind<=3) (n:U addr) (hx:U x):Calls prog 76 #[.p r 0,.slice none 0 0,.u addr,.i size,.i kind,.u x] w λe a=>e=.returned (.tuple #[.u (aC M addr size kind x).1,.i (aC M addr size kind x).2.2])/\∃ A',Mp B r (aC M addr size kind x).2.1 A' a/\Kx r (aH M A) (aH (aC M addr size kind x).2.1 A') w a:=by
 obtain ⟨b,y,H,I,z,K⟩:=aF j;have f:=xr z;have g:dO M.d:=⟨s.xs,s.ys⟩;have J:size=1\/size=2\/size=4\/size=8:=of_decide_eq_true m;have k:1<=size:=al
 have l:size<=8:=al
 obtain ⟨F,hF⟩:∃ F,bO M.ram M.ram.length M.cs (eC M.cs M.pr kind) addr kind=F:=⟨_,rfl⟩;have d:U F.addr:=by rw [<- hF];exact sB _ _ _ _ _ _ n
 have p:be (bz M (aN M.ram F)).ram.length=true:=by show be (aN M.ram F).length=true;rw [jH];exact I
 have i:(bz M (aN M.ram F)).ram.length<=1048576:=by show (aN M.ram F).length<=_;rw [jH];exact hl.ram
 have v:=yc M.ram s.ram F;have c:decide (Uz.wrap (Uz.wrap (F.addr+size)-1)<F.addr)=decide (aM F.addr size<F.addr):=by rw [CU _ _ k l]
 have u:∀ D:DV,(D.xs.length<=1048576/\D.ys.length<=1048576)->jF (dy (bz M (aN M.ram F)) D):=λD h=>⟨hl.x,hl.cs,i,h.1,h.2⟩;have o:=JM M.d (gg F.addr size) hl.xs hl.ys;have q:=Em M.d x hl.xs f.2.1 (gg F.addr size);have C:kind=1\/kind=2\/kind=3:=al
 rcases C with rfl | rfl | rfl;·exact CV M (bz M (aN M.ram F)) A B r addr size x (eC M.cs M.pr 1) F.addr F.code (addr%size != 0) (F.code != 0) (decide (aM F.addr size<F.addr)) (ay M.cs (eC M.cs M.pr 1) F.addr (aM F.addr size) 1 4 0) (fQ (bz M (aN M.ram F)).ram.length F.addr size) (le (aN M.ram F) (F.addr-2147483648).toNat size.toNat) (aC M addr size 1 x) w hm k l n rfl rfl (λa h=>qD M A B r addr 1 a h hl s j al al n F hF) c (λa h=>Es (M:=bz M (aN M.ram F)) (A:=A) b h.fam.msl.cs 1) (λa h=>C7 (M:=bz M (aN M.ram F)) b h.fam.msl.cs _ _ _ _) (λa h=>mq _ _ _ _ _ a p m d.1 (by have:=d.2;omega)) (λt a h=>JL (M:=bz M (aN M.ram F)) h.fam.msl.ram i v t) (by unfold aC;rw [hF];rfl)
 ·exact CY M (bz M (aN M.ram F)) A B r addr size x (eC M.cs M.pr 2) F.addr F.code (addr%size != 0) (F.code != 0) (decide (aM F.addr size<F.addr)) (ay M.cs (eC M.cs M.pr 2) F.addr (aM F.addr size) 2 4 0) (fQ (bz M (aN M.ram F)).ram.length F.addr size) (le (aN M.ram F) (F.addr-2147483648).toNat size.toNat) (jc M.d (gg F.addr size)).1 (jc M.d (gg F.addr size)).2.1 (jc M.d (gg F.addr size)).2.2 (aC M addr size 2 x) w hm k l n rfl rfl (λa h=>qD M A B r addr 2 a h hl s j al al n F hF) c (λa h=>Es (M:=bz M (aN M.ram F)) (A:=A) b h.fam.msl.cs 2) (λa h=>C7 (M:=bz M (aN M.ram F)) b h.fam.msl.cs _ _ _ _) (λa h=>mq _ _ _ _ _ a p m d.1 (by have:=d.2;omega)) (λt a h=>JL (M:=bz M (aN M.ram F)) h.fam.msl.ram i v t) (λa h=>BU M.d A.ai A.ci A.ao A.co F.addr size B a.heap.size a f.1 g (by have:=h.lo;have:=h.lt;omega) (Nat.le_refl _) (Et (M:=bz M (aN M.ram F)) h.fam)) (λA' a h=>vQ _ A' B r a b (u _ o) h) (by unfold aC;rw [hF];rfl)
 ·exact C0 M (bz M (aN M.ram F)) A B r addr size x (eC M.cs M.pr 3) F.addr F.code (addr%size != 0) (F.code != 0) (decide (aM F.addr size<F.addr)) (ay M.cs (eC M.cs M.pr 3) F.addr (aM F.addr size) 3 4 0) (fQ (bz M (aN M.ram F)).ram.length F.addr size) (jZ (aN M.ram F) (F.addr-2147483648).toNat x size.toNat) (fy M.d x (gg F.addr size)).1 (fy M.d x (gg F.addr size)).2 (nG (bz M (aN M.ram F)) F.addr) (aC M addr size 3 x) w hm k l n rfl rfl (λa h=>qD M A B r addr 3 a h hl s j al al n F hF) c (λa h=>Es (M:=bz M (aN M.ram F)) (A:=A) b h.fam.msl.cs 3) (λa h=>C7 (M:=bz M (aN M.ram F)) b h.fam.msl.cs _ _ _ _) (λa h=>mq _ _ _ _ _ a p m d.1 (by have:=d.2;omega)) (λt a h=>zN (bz M (aN M.ram F)) A B r F.addr size x a i t hx.1 (by have:=hx.2;omega) h) (ju _ _ _ _) rfl (λa h=>zg M.d A.ai A.ci A.ao A.co F.addr size x B a.heap.size a f.2.1 (by have:=h.lo;have:=h.lt;omega) (Nat.le_refl _) (Et (M:=bz M (aN M.ram F)) h.fam)) (λA' a h=>vQ _ A' B r a b (u _ q) h) (by unfold aC;rw [hF];rfl)
theorem qE (B E:Nat) (w:World):bp B E w (aH bx zeroA):=by
 refine ⟨λr a=>?_,λr a k e=>?_,?_⟩;·simp only [aH,List.mem_cons,List.not_mem_nil,or_false] at a;rcases a with rfl | rfl | rfl | rfl | rfl<;>exact ⟨rfl,.inl ⟨rfl,rfl⟩⟩
 ·simp only [aH,List.mem_cons,List.not_mem_nil,or_false] at a;rcases a with rfl|rfl|rfl|rfl|rfl<;>cases e
 ·simp only [aH,List.pairwise_cons,List.mem_cons,List.not_mem_nil,or_false];refine ⟨λs _ k e=>?_,λs _ k e=>?_,λs _ k e=>?_,λs _ k e=>?_,λs h=>h.elim,List.Pairwise.nil⟩<;>cases e
def ui (M:MV) (size kind:Int):Bool:=gY M&&ic size&&decide (1<=kind/\kind<=3)&&!((kind==1)&&(size != 4))
def sC (M:MV) (addr size kind x:Int):Int × MV × Int:=if ui M size kind=true then aC M addr size kind x else (0,bx,99)
theorem gA (M:MV) (A:MA):(aO M A).all (·.oneCell')=true:=by unfold aO;kernel_rfl
end Go.Proofs.YtjifdmoehfbihaaGreatDoor
