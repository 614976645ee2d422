/- Own lemmas. -/
import Derived.Test.YtfekjlcnnjhofaaGreatDoorAut
import Derived.Test.YtfekjlcnnjhofaaGreatDoorK12H
import Derived.Test.YtfekjlcnnjhofaaGreatDoorK11
set_option maxRecDepth 100000
set_option maxHeartbeats 40000000
namespace Go.Proofs.YtfekjlcnnjhofaaGreatDoor
open Go.RowKit Tryz
open IntKind renaming u64->Uz
open Bool renaming false_eq_true->I5,and_eq_true->K0,and_false->K1,true_and->L0,or_false->L6
open Go renaming bits->A5,heap_alloc_new->A6,Calls->A8,World->A9,setRow_heap->C5,Addr->C6,cell_of_row->D1
open Go.RowKit renaming wrap64->D8
open Instr renaming buildSlice->N1,storeAt->O1
open IntKind renaming wrap_u64->D2
open List renaming not_mem_nil->F0,filterMap_append->F3,mem_cons->G1,range_succ->H8,find?_eq_none->I1
open Nat renaming le_refl->D3,zero_add->D4
open Value renaming slice->I2,agg->I3,int->I4
set_option linter.unusedVariables false
variable {s l:Nat} {x:List Int} {p w:A9} {a A:MA} {b k:Int} {B:Type} {r M:MV} (m:DV) (D t:MV) (E:MA) (c:List Int) (d:Bool) (g y:Int) (R:Option C6) (f j n:Nat) (z:Bool) (C F:Int) (K:A9)
theorem CH (pc cc:Nat) (ar:Option C6) (P cr:Nat) (t cm:Int) (F:Bool) (r:Option C6) (E u:Nat) (s:Option C6) (no z:Nat) (pr hd:Int) (hl wt:Bool) (b:Nat) (y D:Int) (w:A9) (c:w.heap[b]?=some (.cells #[.u g,.slice R f j,.i C,.slice (some ⟨pc,0,none⟩) 22 cc,.slice ar P cr,.u t,.u cm,.bool F,.slice r E u,.slice s no z,.i pr,.u hd,.bool hl,.bool wt] 29 (0,0))) (d:w.cell? ⟨pc,9,none⟩=some (.u y)) (B:w.frozen? ⟨pc,9,none⟩=false) (J:pc<w.heap.size) (I:∀ cx,Bw w cx->CB 36 #[.agg #[.u t,.u cm,.bool F,.slice r E u,.slice s no z,.i pr]] cx (.u D)): A8 prog 42 #[.p b 0] w λe cx=>e=.returned (.tuple #[])/\∃ o,Bw w o/\cx=o.setCell ⟨pc,9,none⟩ (.u (A5 .or .u64 (A5 .andNot .u64 y 2184) D)):=by
 have K:Hid (CB 36 #[.agg #[.u t,.u cm,.bool F,.slice r E u,.slice s no z,.i pr]] w.drew (.u D)):=I w.drew (Below.refl _ _).drew;have l:=aq c;have H:=aq J;have G:=aq (And.intro d B);obtain ⟨Y,Z,p2,p3,p4,p5,p6,p7,p8,p9,Q,L,S,T⟩:=aX c;clear I c J;go_enter func42,ntmps42;go_wp2_with fail;go_region_with (first | (go_at_call 36;with_reducible refine K.out.mono ?_;rintro e o ⟨rfl,m⟩;have q:=aq (aa (Below.refl w.heap.size w).drew m);clear m;obtain ⟨q0,q1,q2,q3,q4,q5,q6,q7,q8,q9,U,V,W,X⟩:=aX (aD q.out l.out);have N:=(q.out.cell (p:=⟨pc,9,none⟩) H.out).trans G.out.1;have O:o.frozen? ⟨pc,9,none⟩=false:=(by have A:=G.out.2;have M:=q.out.block pc H.out;unfold World.frozen? at A ⊢;dsimp only at A ⊢;rw [M];exact A)));all_goals go_wp2_with fail
 all_goals refine bodyPost_end (results_none rfl _ _ _) rfl ?_
 all_goals exact ⟨rfl,o,q.out,rfl⟩
def iC (M:MV):MV:=⟨M.pc,M.x,M.pr,M.cs.set 9 (A5 .or .u64 (A5 .andNot .u64 (M.cs.getD 9 0) 2184) (hO M.d)),M.ram,M.d,M.hd,M.hl,M.wt⟩
theorem J0:ak (iC D) E=ak D E:=by simp [ak,iC]
theorem J1:(iC D).cs.length=D.cs.length:=by simp [iC]
theorem oS (h:lA M.d.xs.length M.d.ys.length M.d.ir):iC M=bK M:=by
 have:hO M.d=dM M.d:=by unfold hO;rw [h];rfl
 unfold iC bK;rw [this]
theorem xK (t:D.cs.length=22) (hl:iR D) (A:K.heap[f]?=some (.cells (ak D E) 29 (0,0))) (u:bj j n K (aF D E)) (hb:∀ q ∈ aF D E,q.v.ownBlock≠some f): A8 prog 42 #[.p f 0] K λe b=>e=.returned (.tuple #[])/\b.heap[f]?=some (.cells (ak (iC D) E) 29 (0,0))/\bj j n b (aF (iC D) E)/\jD (aF D E) K b:=by
 have c:aG E.ac D.cs.length E.cc D.cs ∈ aF D E:=ef
 have J:=u.own _ c;have C:=u.msl;obtain ⟨g,F,a,w,H⟩:=C.cs 9 ab;have m:F=0:=by
  rcases J.2 with ⟨e,_⟩|⟨s,cap,p,e,_⟩
  ·have e2:I2 E.ac D.cs.length E.cc=.slice none 0 0:=e;injection e2 with e3
   rw [a] at e3;cases e3
  ·have e2:I2 E.ac D.cs.length E.cc=.slice (some ⟨s,0,none⟩) D.cs.length cap:=e;injection e2 with e3
   rw [a] at e3;injection e3 with e4
   injection e4
 subst m;rw [D4] at H;have d:(aG E.ac D.cs.length E.cc D.cs).v.ownBlock=some g:=by show (I2 E.ac D.cs.length E.cc).ownBlock=_;rw [a];rfl
 have x:g≠f:=λe=>hb _ c (by rw [d,e]);have v:K.frozen? ⟨g,9,none⟩=false:=by
  rcases J.2 with ⟨e,_⟩|⟨s,cap,p,e,L,B,_⟩;·have e2:I2 E.ac D.cs.length E.cc=.slice none 0 0:=e;rw [a] at e2;cases e2
  ·have e2:I2 E.ac D.cs.length E.cc=.slice (some ⟨s,0,none⟩) D.cs.length cap:=e;rw [a] at e2;injection e2 with e3
   injection e3 with e4
   injection e4 with e5
   subst e5;exact dD B 9
 have i:=A;unfold ak at i;rw [a,t] at i;refine (CH _ _ _ _ _ g _ _ _ _ _ _ _ _ _ _ _ _ _ _ _ _ _ f (D.cs.getD 9 0) (hO D.d) K i H v w (λb N=>su D.d _ _ _ _ b hl.xs hl.ys)).mono ?_;rintro e b ⟨rfl,o,h,rfl⟩;have k:=u.below h;have z:=k.own _ c;refine ⟨rfl,?_,?_⟩;·rw [J0];exact fT (aD h A) ⟨g,9,none⟩ _ (λe=>x e.symm)
 ·have y:o.grownBy (o.setCell ⟨g,9,none⟩ (.u (A5 .or .u64 (A5 .andNot .u64 (D.cs.getD 9 0) 2184) (hO D.d)))) (aG E.ac D.cs.length E.cc D.cs).v.ownBlock:=(by rw [d];exact yv _ _ _ _);have M:(o.setCell ⟨g,9,none⟩ (.u (A5 .or .u64 (A5 .andNot .u64 (D.cs.getD 9 0) 2184) (hO D.d)))).ownsRow j 24 1 (.slice E.ac D.cs.length E.cc) D.cs.length ((iC D).cs.map (I4 .u64)):=(by have B:o.ownsRow j 24 1 (.slice E.ac D.cs.length E.cc) D.cs.length (D.cs.map (I4 .u64)):=z;rw [a] at B ⊢;have G:=(B.stored 9 (.u (A5 .or .u64 (A5 .andNot .u64 (D.cs.getD 9 0) 2184) (hO D.d)))).1;rw [ky] at G;exact G);have I:=bj.markL (L1:=[aG E.ax D.x.length E.cx D.x]) (L2:=[aE E.ar D.ram.length E.cr D.ram,aE E.ai D.d.xs.length E.ci D.d.xs,aE E.ao D.d.ys.length E.co D.d.ys]) (r:=aG E.ac D.cs.length E.cc D.cs) k y _ M;refine ⟨?_,(jD.of_below h).trans I.2⟩;have l:(iC D).cs.length=D.cs.length:=(by simp [iC]);unfold aF;rw [l];exact I.1
def rl (a:Int):Nat:=min (Lib.ctz 64 (18446744073709551615-a).toNat) 53
theorem MN (b:f<18446744073709551616) (j:Nat):(A5 .and .u64 ((f:Int)/2^j) 1==1)=f.testBit j:=by
 have h:=mq (f:Int) ⟨ab,ab⟩ j;have e:=cE ((f:Int)/2^j) 1 h.1 h.2 ab;have e2:((2:Int)^1-1)=1:=rfl;rw [e2] at e;rw [e,Nat.testBit_eq_decide_div_mod_eq];have e3:((f:Int)/2^j%2^1)=((f/2^j%2:Nat):Int):=di
 rw [e3];have:f/2^j%2=0\/f/2^j%2=1:=ab
 rcases this with h|h<;>rw [h]<;>rfl
theorem J2 (c:∀ j,j<f->(A5 .and .u64 (g/2^j) 1==1)) (d:(A5 .and .u64 (g/2^f) 1==1)=false):∀ n i,i<=f->fh g n i=min (i+n) f:=by
 intro n;induction n with
 | zero=>intro i k;show i=min (i+0) f;omega
 | succ n a =>
   intro i k;unfold fh;rcases Nat.lt_or_ge i f with b|e;·rw [JZ8 (c i b),a (i+1) b];omega
   ·obtain rfl:i=f:=ab;rw [JZ9 (by rw [d];decide)];omega
theorem PP (l:0<=g) (o:g<18014398509481984):rl g=fh g 53 0:=by
 obtain ⟨n,rfl⟩:∃ n:Nat,g=n:=⟨g.toNat,ab⟩
 have i:(18446744073709551615-(n:Int)).toNat=18446744073709551615-n:=ab
 unfold rl
 rw [i]
 have c:18446744073709551615-n≠0:=ab
 have f:Lib.ctz 64 (18446744073709551615-n)=Lib.ctzFrom 64 (18446744073709551615-n):=by unfold Lib.ctz;rw [JZ9 c]
 obtain ⟨m,p,a⟩:=Lib.ctzFrom_spec 64 (18446744073709551615-n) ab ab
 rw [f]
 generalize Lib.ctzFrom 64 (18446744073709551615-n)=k at *
 have b:2^k*(2*m+1)<2^64:=ab
 have h:n=2^64-(2^k*(2*m+1)+1):=ab
 have d:∀ j,j<64->n.testBit j=!(decide (k<=j)&&(2*m+1).testBit (j-k)):=by
  intro j e
  rw [h,Nat.testBit_two_pow_sub_succ b,Nat.testBit_two_pow_mul,decide_eq_true e,L0]
 rw [J2 (n:Int) k (λj e=>by rw [MN n ab,d j ab,decide_eq_false ab];rfl)
  (by rw [MN n ab,d k a,Nat.sub_self];simp) 53 0 ab]
 omega
def tL (l:List Int) (i:Nat):Int:=if (i==0)=true then 0 else Uz.wrap (4*l.getD (16+i) 0)
def rm (a:Int) (k:Nat):Int:=Uz.wrap (4*Uz.wrap (a/2^(k+1)*2^(k+1)))
def tM (a:Int) (k:Nat):Int:=Uz.wrap (rm a k+Uz.wrap (2^(k+3)))
def eZ (l:List Int) (i:Nat):Int × Int :=
 if (iT (l.getD 16 0) i==1)=true then (tL l i,Uz.wrap (4*l.getD (17+i) 0))
 else if (iT (l.getD 16 0) i==2)=true then (Uz.wrap (4*l.getD (17+i) 0),Uz.wrap (Uz.wrap (4*l.getD (17+i) 0)+4))
 else if (iT (l.getD 16 0) i==3)=true then (rm (l.getD (17+i) 0) (rl (l.getD (17+i) 0)),tM (l.getD (17+i) 0) (rl (l.getD (17+i) 0)))
 else (0,0)
theorem MO (f:0<=g) (m:g<18014398509481984) (k:Nat) (hk:k<=53):rm g k=tz g k/\Uz.wrap (tM g k-1)=yB g k/\rm g k<tM g k:=by
 have d:U g:=⟨f,ab⟩;have e:=Fl g d (k+1) ab;have n:(0:Int)<2^(k+1):=Int.pow_pos ab;have l:g/2^(k+1)*2^(k+1)<=g:=Int.ediv_mul_le _ ab;have j:0<=g/2^(k+1)*2^(k+1):=Int.mul_nonneg (mq g d (k+1)).1 ab;have a:∀ k,k<=53->(0:Int)<2^(k+3)/\(2:Int)^(k+3)<=72057594037927936:=cp
 obtain ⟨h,i⟩:=a k hk;have b:rm g k=4*(g/2^(k+1)*2^(k+1)):=by unfold rm;generalize g/2^(k+1)*2^(k+1)=z at *;rw [D2,D2];omega
 have c:tz g k=4*(g/2^(k+1)*2^(k+1)):=by unfold tz;rw [e];generalize g/2^(k+1)*2^(k+1)=z at *;rw [D2];omega
 refine ⟨b.trans c.symm,?_,?_⟩;·unfold tM yB;rw [b,c]
 ·unfold tM;rw [b];generalize g/2^(k+1)*2^(k+1)=z at *;generalize (2:Int)^(k+3)=q at *;rw [D2,D2];omega
theorem CI (hl:∀ j,U (x.getD j 0)) (c:bD 22 x) (i:Nat) (g:i<4): dj x i=if (eZ x i).2<=(eZ x i).1 then (0,0,false) else ((eZ x i).1,Uz.wrap ((eZ x i).2-1),true):=by
 have f:iT (x.getD 16 0) i=jn x i:=yM x (hl 16) i g;have b:=PL hl c (17+i) ab ab;unfold dj eZ;rw [f];cases k:(jn x i==1) with
 | true =>
   simp only [if_true];have e:tL x i=lm x i:=by
    unfold tL lm;rcases Nat.eq_zero_or_pos i with h|h;·subst h;rfl
    ·have:(i==0)=false:=by simp;omega
     rw [this,JZ9 bc,JZ8 h,Int.mul_comm]
   rw [e,Int.mul_comm 4]
 | false =>
   simp only [I5,if_false];cases m:(jn x i==2) with
   | true =>simp only [if_true];generalize x.getD (17+i) 0=a at *;rw [Int.mul_comm a 4];simp only [D2];rw [JZ9 ab];congr 2;omega
   | false =>
     simp only [I5,if_false];cases n:(jn x i==3) with
     | true =>simp only [if_true];rw [PP _ b.1 b.2];obtain ⟨d,e2,e3⟩:=MO _ b.1 b.2 (fh (x.getD (17+i) 0) 53 0) (by have:=MI (x.getD (17+i) 0) 53 0;omega);rw [JZ9 ab,d,e2]
     | false =>simp only [I5,if_false];rfl
def mZ (l:List Int) (k:Nat):Option (Nat × Int × Int × Int):=if (eZ l k).2<=(eZ l k).1 then none else some (k,(eZ l k).1,Uz.wrap ((eZ l k).2-1),de (l.getD 16 0) (8*k) 8)
def gm (l:List Int) (k:Nat):List (Nat × Int × Int × Int):=(List.range k).filterMap (mZ l)
theorem J3 (h:(eZ x s).2<=(eZ x s).1):gm x (s+1)=gm x s:=by
 unfold gm;rw [H8,F3];have:mZ x s=none:=by unfold mZ;rw [JZ8 h]
 simp [this]
theorem J4 (h:¬ (eZ x s).2<=(eZ x s).1):gm x (s+1)=gm x s++[(s,(eZ x s).1,Uz.wrap ((eZ x s).2-1),de (x.getD 16 0) (8*s) 8)]:=by
 unfold gm;rw [H8,F3];have:mZ x s=some (s,(eZ x s).1,Uz.wrap ((eZ x s).2-1),de (x.getD 16 0) (8*s) 8):=by unfold mZ;rw [JZ9 h]
 simp [this]
theorem MP:(gm c f).length<=f:=by unfold gm;exact Nat.le_trans (List.length_filterMap_le _ _) di
theorem MQ:∀ d k,gm c k <+: gm c (k+d):=by
 intro d;induction d with
 | zero=>intro k;exact List.prefix_refl _
 | succ d a =>intro k;refine (a k).trans ?_;show gm c (k+d) <+: gm c (k+d+1);unfold gm;rw [H8,F3];exact List.prefix_append _ _
theorem J5 {q:B->Bool} {xs pre a:List B} {last:B} (h:pre <+: xs) (e:pre=a++[last]) (b:∀ p ∈ a,q p=false) (hl:q last):xs.find? q=some last:=by
 obtain ⟨r,rfl⟩:=h;subst e;rw [List.append_assoc,List.find?_append];have:a.find? q=none:=I1.2 λp c=>by rw [b p c];decide
 rw [this];simp [hl]
theorem J6 {q:B->Bool} {xs:List B} (a:∀ p ∈ xs,q p=false):xs.find? q=none:=I1.2 λp b=>by rw [a p b];decide
def WP (l:List Int) (i:Int):Int × Int × Bool:=match (gm l 4).find? (λp=>(p.1:Int)==i) with | some p=>(p.2.1,p.2.2.1,true) | none=>(0,0,false)
def jL (x y:Int) (p:Nat × Int × Int × Int):Bool:=decide (p.2.1<=y)&&decide (x<=p.2.2.1)
def lq (l:List Int) (x y:Int):Int × Int × Int × Bool:=match (gm l 4).find? (jL x y) with | some p=>(p.2.1,p.2.2.1,p.2.2.2,true) | none=>(0,0,0,false)
theorem MR (hl:∀ j,U (x.getD j 0)) (a:bD 22 x) (k:Nat) (hk:k<4): (mZ x k=none/\dj x k=(0,0,false))\/(∃ c b,mZ x k=some (k,c,b,dW x k)/\dj x k=(c,b,true)):=by
 rw [CI hl a k hk];unfold mZ;rw [Fg x (hl 16) k];by_cases h:(eZ x k).2<=(eZ x k).1;·rw [JZ8 h,JZ8 h];exact .inl ⟨rfl,rfl⟩
 ·rw [JZ9 h,JZ9 h];exact .inr ⟨_,_,rfl,rfl⟩
theorem PQ {p:Nat × Int × Int × Int} (h:p ∈ gm x s):p.1<s/\mZ x p.1=some p:=by
 unfold gm at h;obtain ⟨a,d,e⟩:=List.mem_filterMap.1 h;have b:a<s:=List.mem_range.1 d;have c:p.1=a:=by
  unfold mZ at e;split at e;·cases e
  ·rw [<- Option.some.inj e]
 rw [c];exact ⟨b,e⟩
theorem Fu {l y:Int} (c:dj x s=(b,k,true)):qM (dj x s) l y=!jL l y (s,b,k,dW x s):=by
 rw [c];unfold qM jL;simp only [Bool.not_true,Bool.false_or,Bool.not_and];congr 1;·rw [<- decide_not];congr 1;exact propext ⟨λh=>ab,λh=>ab⟩
 ·rw [<- decide_not];congr 1;exact propext ⟨λh=>ab,λh=>ab⟩
def UM (p x y kind:Int):Option (Nat × Int × Int × Int)->Bool
 | none=>(p==3)
 | some q=>!(decide (x<q.2.1)||decide (q.2.2.1<y))&&xE q.2.2.2 p kind
theorem J7 (hl:∀ j,U (x.getD j 0)) (b:bD 22 x) (p l y kind:Int):∀ n k,k+n<=4->aJ x p l y kind n k=UM p l y kind (((List.range' k n).filterMap (mZ x)).find? (jL l y)):=by
 intro n;induction n with
 | zero=>intro k f;rfl
 | succ n c =>
   intro k f;rw [aJ,List.range'_succ,List.filterMap_cons];rcases MR hl b k ab with ⟨e,a⟩|⟨h,d,e,a⟩;·rw [e,c (k+1) ab];have g:qM (dj x k) l y:=(by rw [a];rfl);rw [g,JZ8 rfl]
   ·rw [e,Fu a];simp only [List.find?_cons];cases i:jL l y (k,h,d,dW x k) with
    | false =>rw [c (k+1) ab];rfl
    | true =>rw [a];rfl
theorem UN:∀ z:Nat,z<256->(A5 .and .u64 (z:Int) 128==0)=((z:Int)/128==0)/\(A5 .and .u64 (z:Int) 128 != 0)=((z:Int)/128==1)/\(A5 .and .u64 (z:Int) 4 != 0)=(A5 .and .u64 ((z:Int)/4) 1==1)/\(A5 .and .u64 (z:Int) 1 != 0)=(A5 .and .u64 (z:Int) 1==1) /\
 (A5 .and .u64 (z:Int) 2 != 0)=(A5 .and .u64 ((z:Int)/2) 1==1)/\(A5 .and .u64 (z:Int) 2==0)=(A5 .and .u64 ((z:Int)/2) 1==0):=cp
theorem gC:bj f j K (aF zeroM zeroA):=by
 refine ⟨λr a=>?_,λr a k e=>?_,?_⟩;·simp only [aF,G1,F0,or_false] at a;rcases a with rfl | rfl | rfl | rfl | rfl<;>exact ⟨rfl,.inl ⟨rfl,rfl⟩⟩
 ·simp only [aF,G1,F0,or_false] at a;rcases a with rfl|rfl|rfl|rfl|rfl<;>cases e
 ·simp only [aF,List.pairwise_cons,G1,F0,or_false];refine ⟨λs _ k e=>?_,λs _ k e=>?_,λs _ k e=>?_,λs _ k e=>?_,λs h=>h.elim,List.Pairwise.nil⟩<;>cases e
theorem An {cs:Array Value} {t:TypeId} (b2:Option C6) (c:Nat) (hr:p.heap[s]?=some (.cells cs t (0,0))) (hn:cs.size=14): (do O1 27 (.p s 5) (.agg #[.u m.t,.u m.cm,.bool m.so,.slice R m.xs.length f,.slice b2 m.ys.length c,.i m.ir]);pure Next.skip:Sem Next).run prog p=.ok .skip (G4 p s m R f b2 c):=by
 have h:=run_storeCells_cells (P:=prog) s 5 [.u m.t,.u m.cm,.bool m.so,.slice R m.xs.length f,.slice b2 m.ys.length c,.i m.ir] 0 p (λj g=>by simp only [List.length_cons,List.length_nil] at g;simp [World.cell?,hr,hn];omega) (λj _=>dD hr _) (λv d=>by
  simp only [G1,F0,or_false] at d
  rcases d with rfl|rfl|rfl|rfl|rfl|rfl<;>rfl)
 have e:(prog.info? 27).map (·.size)=some 6:=ba
 obtain ⟨i,b,k⟩:=Option.map_eq_some_iff.1 e
 simp [O1,Instr.sureAddr,storeVar,sizeOf,typeInfo,b,k,Value.cells,h,Result.andThen]
 rfl
def Ta (k:Int) (M M1:MV) (b cd a c is hit:Bool) (d f e:Int) (R:List Int) (D:DV):Int × MV × Int :=
 if b=true then (0,M,oM k) else if cd=true then (0,M1,D8 (d+16)) else if a=true then (0,M1,ig k)
 else if c=true then (if (k==3)=true then (0,if hit=true then lP (bN M1 R) else bN M1 R,0) else (f,M1,0))
 else if (k==2)=true then (if is=true then (e,bK (bW M1 D),0) else (0,M1,ig k))
 else if (k==3)=true then (if is=true then (0,if hit=true then lP (bK (bW M1 D)) else bK (bW M1 D),0) else (0,M1,ig k))
 else (0,M1,ig k)
def Vm (N:MV):MV:=⟨N.pc,N.x,N.pr,N.cs,N.ram,N.d,N.hd,false,N.wt⟩
theorem Tb (R:List Int) (M:DV):Ta 3 D t false false false false true d g y C R M=(0,if d=true then lP (bK (bW t M)) else bK (bW t M),0):=rfl
theorem PS (b:Int) (R:List Int) (M:DV):Ta 3 D t false false false true d z C F b R M=(0,if z=true then lP (bN t R) else bN t R,0):=rfl
theorem wj:(D.hl=false/\lQ D g=false)\/(D.hl/\(A5 .andNot .u64 D.hd 7==A5 .andNot .u64 g 7)=false/\lQ D g=false)\/D.hl/\(A5 .andNot .u64 D.hd 7==A5 .andNot .u64 g 7)/\lQ D g:=by unfold lQ;cases D.hl<;>cases (A5 .andNot .u64 D.hd 7==A5 .andNot .u64 g 7)<;>simp
theorem Fv {M M1:MV} {r:Nat} (k addr size x w u K:Int) (wr L q hit:Bool) (yl yd:Int) (R:List Int) (D:DV) (is:Bool) (hk:k=1\/k=2\/k=3) (hm:Mp l r M a p) (hs1:1<=size) (hs8:size<=8) (ha:U addr) (hL:∀ w',Mp l r M a w'->A8 prog 91 #[.p r 0,.slice none 0 0,.u addr,.i k] w' λe A=>e=.returned (.tuple #[.u u,.i K])/\Mp l r M1 a A/\Kx r (aF M a) (aF M1 a) w' A) (C:decide (Uz.wrap (Uz.wrap (u+size)-1)<u)=wr) (Y:∀ w',Mp l r M1 a w'->CE 93 #[.slice a.ac M1.cs.length a.cc,.i M1.pr,.i k] w' (.i w)) (Z:∀ w',Mp l r M1 a w'->CE 92 #[.slice a.ac M1.cs.length a.cc,.i w,.u u,.i size,.i k] w' (.bool L)) (hI:∀ w',Mp l r M1 a w'->CE 94 #[.slice a.ar M1.ram.length a.cr,.u u,.i size] w' (.bool q)) (hD:q->∀ w',Mp l r M1 a w'->CE 95 #[.slice a.ar M1.ram.length a.cr,.u u,.i size] w' (.u yl)) (hp:q->∀ w',Mp l r M1 a w'->A8 prog 55 #[.slice a.ar M1.ram.length a.cr,.u u,.i size,.u x] w' λe A=>e=.returned (.tuple #[])/\Mp l r (bN M1 R) a A/\Kx r (aF M1 a) (aF (bN M1 R) a) w' A) (h8:k=2->∀ w',Mp l r M1 a w'->A8 prog 96 #[.agg #[.u M1.d.t,.u M1.d.cm,.bool M1.d.so,.slice a.ai M1.d.xs.length a.ci,.slice a.ao M1.d.ys.length a.co,.i M1.d.ir],.u u,.i size] w' λe A=>∃ (b:Option C6) (d:Nat) (c:Option C6) (f:Nat),e=.returned (.tuple #[.u yd,.agg #[.u D.t,.u D.cm,.bool D.so,.slice b D.xs.length d,.slice c D.ys.length f,.i D.ir],.bool is])/\fE w' A a.ai a.ci M1.d.xs a.ao a.co M1.d.ys b d D.xs c f D.ys/\Bw w' A) (h9:k=3->∀ w',Mp l r M1 a w'->A8 prog 97 #[.agg #[.u M1.d.t,.u M1.d.cm,.bool M1.d.so,.slice a.ai M1.d.xs.length a.ci,.slice a.ao M1.d.ys.length a.co,.i M1.d.ir],.u u,.i size,.u x] w' λe A=>∃ (b:Option C6) (d:Nat) (c:Option C6) (f:Nat),e=.returned (.tuple #[.agg #[.u D.t,.u D.cm,.bool D.so,.slice b D.xs.length d,.slice c D.ys.length f,.i D.ir],.bool is])/\fE w' A a.ai a.ci M1.d.xs a.ao a.co M1.d.ys b d D.xs c f D.ys/\Bw w' A) (hN:∀ (J:MA) w',Mp l r (bW M1 D) J w'->A8 prog 23 #[.p r 0] w' λe A=>e=.returned (.tuple #[])/\Mp l r (bK (bW M1 D)) J A/\Kx r (aF (bW M1 D) J) (aF (bK (bW M1 D)) J) w' A) (V:Int × MV × Int) (hit1:q->hit=lQ (bN M1 R) u) (hit0:q=false->hit=lQ (bK (bW M1 D)) u) (B:V=Ta k M M1 (addr%size != 0) (K != 0) (wr||!L) q is hit K yl yd R D):
 A8 prog 66 #[.p r 0,.slice none 0 0,.u addr,.i size,.i k,.u x] p λe w'=>e=.returned (.tuple #[.u V.1,.i V.2.2])/\∃ J,Mp l r V.2.1 J w'/\Kx r (aF M a) (aF V.2.1 J) p w':=by
 have o:Uz.wrap size=size:=by rw [D2];omega
 have H:(addr.tmod size != 0)=(addr%size != 0):=by rw [Int.tmod_eq_emod_of_nonneg ha.1]
 refine br (S:=Hs r [] (ak M a)) (args:=[.p r 0,.slice none 0 0,.u addr,.i size,.i k,.u x]) [] func66 ?_
 refine aP 0 1 ?_
 have H0:Hx l r [] M a p M a p:=⟨hm,Kx.refl _ _ _,λ_ h=>ni⟩
 have f16:IntKind.i64.wrap (K+16)=D8 (K+16):=by rw [IntKind.wrap_i64];unfold D8;omega
 cases N:(addr%size != 0)
 case true =>
  rw [N] at B H
  refine ae (Hs.eng (dr:=false) (λ_ h=>h.hs)) {eq:=[(24,cR .u64 o),(26,an H)],ov:=[(25,Lh .u64 addr size ab)]} 60 H0 λW hW=>?_
  refine lN 0 ?_
  refine ae (Hs.eng (dr:=true) (λ_ h=>h.hs)) {} 9 (hW.below (Below.refl _ _).drew) λI h1=>?_
  refine dt 0 (s:=do pure (.value (<- N1 56 4 #[(0,.i 0),(1,.i 16),(2,.i 20),(3,.i 22)]))) (v:=.slice (some ⟨I.heap.size,0,none⟩) 4 4) (w':=I.alloc (.cells #[.i 0,.i 16,.i 20,.i 22] 2)) ba ?_
  have O:=h1.var (bal _ _) ⟨I.heap.size,#[.i 0,.i 16,.i 20,.i 22],2,[]⟩ (A6 _ _) (D3 _)
  refine aL (Hs r [⟨I.heap.size,#[.i 0,.i 16,.i 20,.i 22],2,[]⟩] (ak M a)) (Uw ?_)
  have n:∀ X,Hs r [⟨I.heap.size,#[.i 0,.i 16,.i 20,.i 22],2,[]⟩] (ak M a) X->X.cell? ⟨I.heap.size,0+k.toNat,none⟩=some (.i (oM k)):=λX hX=>by
   rcases hk with rfl|rfl|rfl<;>exact (D1 _ _ _ _ _ _ (hX.2 ⟨I.heap.size,#[.i 0,.i 16,.i 20,.i 22],2,[]⟩ di)).trans rfl
  obtain rfl | rfl | rfl:=hk<;>subst B<;>exact eO (t:=12) (s:=13) (Hs.eng (dr:=true) (λ_ h=>h.hs)) {ov:=[(30,iP _ _ underlying2 rfl n)]} 60 O (λy h=>⟨rfl,a,h.mp,h.kx⟩)
 rw [N] at B H
 refine aT (Hs.eng (dr:=true) (λ_ h=>h.hs)) {eq:=[(24,cR .u64 o),(26,an H)],ov:=[(25,Lh .u64 addr size ab)]} 60 H0 (λW h=>hL W h.mp) ?_
 rintro I e W2 h1 ⟨rfl,p2,k2⟩
 have O:=h1.step p2 k2
 refine ⟨_,0,rfl,gi ba,aL (Hs r [] (ak M1 a)) ?_⟩
 cases cd:(K != 0)
 case true =>
  rw [cd] at B
  subst B
  exact eO (t:=12) (s:=13) (Hs.eng (dr:=true) (λ_ h=>h.hs)) {eq:=[(40,an cd),(42,cR .i64 f16)]} 60 O (λy h=>⟨rfl,a,h.mp,h.kx⟩)
 rw [cd] at B
 refine ae (Hs.eng (dr:=true) (λ_ h=>h.hs)) {eq:=[(40,an cd)]} 60 O λj h3=>?_
 refine dt 0 (s:=do pure (.value (<- N1 56 4 #[(0,.i 0),(1,.i 17),(2,.i 21),(3,.i 23)]))) (v:=.slice (some ⟨j.heap.size,0,none⟩) 4 4) (w':=j.alloc (.cells #[.i 0,.i 17,.i 21,.i 23] 2)) ba ?_
 have P:=h3.var (bal _ _) ⟨j.heap.size,#[.i 0,.i 17,.i 21,.i 23],2,[]⟩ (A6 _ _) (D3 _)
 refine aL (Hs r [⟨j.heap.size,#[.i 0,.i 17,.i 21,.i 23],2,[]⟩] (ak M1 a)) ?_
 have n:∀ X,Hs r [⟨j.heap.size,#[.i 0,.i 17,.i 21,.i 23],2,[]⟩] (ak M1 a) X->X.cell? ⟨j.heap.size,0+k.toNat,none⟩=some (.i (ig k)):=λX hX=>by
  rcases hk with rfl|rfl|rfl<;>exact (D1 _ _ _ _ _ _ (hX.2 ⟨j.heap.size,#[.i 0,.i 17,.i 21,.i 23],2,[]⟩ di)).trans rfl
 clear hm hL O H0
 cases m:(wr||!L)
 case true =>
  rw [m] at B
  subst B
  cases wr<;>cases L<;>first | (exact absurd m bc) | skip
  all_goals obtain rfl | rfl | rfl:=hk<;>exact eO (t:=12) (s:=13) (Hs.eng (dr:=true) (λ_ h=>h.hs)) {ov:=[(46,iP _ _ underlying2 rfl n)],eq:=[(49,cR .u64 o),(53,an C)],cv:=[(68,kj λW h=>Y W h.mp),(72,kj λW h=>Z W h.mp)]} 99 P (λy h=>⟨rfl,a,h.mp,h.kx⟩)
 obtain rfl:wr=false:=by cases wr;rfl;cases m
 obtain rfl:L:=by cases L;cases m;rfl
 rw [m] at B
 cases q
 case true =>
  have hD:=hD rfl
  have hp:=hp rfl
  obtain rfl|rfl|rfl:=hk
  case inr.inr =>
   refine aT (Hs.eng (dr:=true) (λ_ h=>h.hs)) {ov:=[(46,iP _ _ underlying2 rfl n)],eq:=[(49,cR .u64 o),(53,an C)],cv:=[(68,kj λW h=>Y W h.mp),(72,kj λW h=>Z W h.mp),(82,kj λW h=>hI W h.mp)]} 99 P (λW h=>hp W h.mp) ?_
   rintro W5 e E Q ⟨rfl,p6,k6⟩
   have h6:=Q.step p6 k6
   refine ⟨_,0,rfl,gi ba,aL (Hs r [⟨j.heap.size,#[.i 0,.i 17,.i 21,.i 23],2,[]⟩] (ak (bN M1 R) a)) ?_⟩
   rw [PS] at B
   obtain rfl:=hit1 rfl
   subst B
   obtain ⟨m,e⟩|⟨m,hq,e⟩|⟨m,hq,e⟩:=wj (bN M1 R) u
   case inl=>rw [e];exact eO (t:=12) (s:=13) (Hs.eng (dr:=true) (λ_ h=>h.hs)) {eq:=[(103,an m)]} 99 h6 (λy h=>⟨rfl,a,h.mp,h.kx⟩)
   case inr.inl=>rw [e];exact eO (t:=12) (s:=13) (Hs.eng (dr:=true) (λ_ h=>h.hs)) {eq:=[(103,an m),(112,an hq)]} 99 h6 (λy h=>⟨rfl,a,h.mp,h.kx⟩)
   rw [e]
   refine ae (Hs.eng (dr:=true) (λ_ h=>h.hs)) {eq:=[(103,an m),(112,an hq)]} 99 h6 λY1 y1=>?_
   refine bE (bG (i:=12) (T:=4) (v:=.bool false) y1.mp.row ro ba rfl) ?_
   have y2:=y1.fld (M':=Vm (bN M1 R)) 12 (.bool false) rfl rfl
   refine aL (Hs r [⟨j.heap.size,#[.i 0,.i 17,.i 21,.i 23],2,[]⟩] (ak (Vm (bN M1 R)) a)) ?_
   refine ae (Hs.eng (dr:=true) (λ_ h=>h.hs)) {} 99 y2 λY3 y3=>?_
   refine bE (bG (i:=11) (T:=24) (v:=.u 0) y3.mp.row ro ba rfl) ?_
   have y4:=y3.fld (M':=lP (bN M1 R)) 11 (.u 0) rfl rfl
   refine aL (Hs r [⟨j.heap.size,#[.i 0,.i 17,.i 21,.i 23],2,[]⟩] (ak (lP (bN M1 R)) a)) ?_
   exact eO (t:=12) (s:=13) (Hs.eng (dr:=true) (λ_ h=>h.hs)) {} 99 y4 (λy h=>⟨rfl,a,h.mp,h.kx⟩)
  all_goals
   subst B
   exact eO (t:=12) (s:=13) (Hs.eng (dr:=true) (λ_ h=>h.hs)) {ov:=[(46,iP _ _ underlying2 rfl n)],eq:=[(49,cR .u64 o),(53,an C)],cv:=[(68,kj λW h=>Y W h.mp),(72,kj λW h=>Z W h.mp),(82,kj λW h=>hI W h.mp),(91,kj λW h=>hD W h.mp)]} 99 P (λy h=>⟨rfl,a,h.mp,h.kx⟩)
 obtain rfl|rfl|rfl:=hk
 case inl =>
  subst B
  exact eO (t:=12) (s:=13) (Hs.eng (dr:=true) (λ_ h=>h.hs)) {ov:=[(46,iP _ _ underlying2 rfl n)],eq:=[(49,cR .u64 o),(53,an C)],cv:=[(68,kj λW h=>Y W h.mp),(72,kj λW h=>Z W h.mp),(82,kj λW h=>hI W h.mp)]} 99 P (λy h=>⟨rfl,a,h.mp,h.kx⟩)
 all_goals
  refine aT (Hs.eng (dr:=true) (λ_ h=>h.hs)) {ov:=[(46,iP _ _ underlying2 rfl n)],eq:=[(49,cR .u64 o),(53,an C)],cv:=[(68,kj λW h=>Y W h.mp),(72,kj λW h=>Z W h.mp),(82,kj λW h=>hI W h.mp)]} 99 P (λW h=>by first | exact h8 rfl W h.mp | exact h9 rfl W h.mp) ?_
  rintro W5 e E Q ⟨b,d,c,f,rfl,rn,b6⟩
  refine ⟨_,0,rfl,gi ba,?_⟩
  refine gz (R:=[]) trivial {} 9 3 (ct (T:=27) (z:=.agg (fl zeroD none 0 none 0)) ba E) ?_
  refine bx (R:=[]) trivial {} 9 (av (g:=E.heap.size) (t:=27) (ty:=27) (cells:=#[.u D.t,.u D.cm,.bool D.so,.slice b D.xs.length d,.slice c D.ys.length f,.i D.ir]) (A6 _ _) ba ba (fp D b d c f)) ?_
  have b7:=aI (bal E (.cells (I3 (fl zeroD none 0 none 0)).cells 27)) (D3 _) #[.u D.t,.u D.cm,.bool D.so,.slice b D.xs.length d,.slice c D.ys.length f,.i D.ir]
  have q7:=C5 _ _ _ #[.u D.t,.u D.cm,.bool D.so,.slice b D.xs.length d,.slice c D.ys.length f,.i D.ir] _ _ (A6 E (.cells (I3 (fl zeroD none 0 none 0)).cells 27))
  have rn7:=rn.below b7
  have b8:=aa b6 b7
  have G:=(Q.below b6).var b7 ⟨E.heap.size,#[.u D.t,.u D.cm,.bool D.so,.slice b D.xs.length d,.slice c D.ys.length f,.i D.ir],27,[]⟩ q7 (D3 _)
  generalize (E.alloc (.cells (I3 (fl zeroD none 0 none 0)).cells 27)).setRow E.heap.size #[.u D.t,.u D.cm,.bool D.so,.slice b D.xs.length d,.slice c D.ys.length f,.i D.ir]=W8 at *
  cases is
  case false =>
   subst B
   refine aL (Hs r [⟨j.heap.size,#[.i 0,.i 17,.i 21,.i 23],2,[]⟩,⟨E.heap.size,#[.u D.t,.u D.cm,.bool D.so,.slice b D.xs.length d,.slice c D.ys.length f,.i D.ir],27,[]⟩] (ak M1 a)) ?_
   exact eO (t:=12) (s:=13) (Hs.eng (dr:=true) (λ_ h=>h.hs)) {} 99 G (λy h=>⟨rfl,a,h.mp,h.kx⟩)
  refine bx (R:=[⟨r,ak M1 a,[]⟩,⟨j.heap.size,#[.i 0,.i 17,.i 21,.i 23],[]⟩,⟨E.heap.size,#[.u D.t,.u D.cm,.bool D.so,.slice b D.xs.length d,.slice c D.ys.length f,.i D.ir],[]⟩]) ⟨⟨_,_,G.mp.row⟩,⟨_,_,(G.rows ⟨j.heap.size,#[.i 0,.i 17,.i 21,.i 23],2,[]⟩ di).1⟩,⟨_,_,q7⟩,trivial⟩ {} 60 (An D b d c f G.mp.row ro) ?_
  obtain ⟨pD,kD⟩:=Q.mp.dev b8 D rn7
  refine aL (Hs r [⟨j.heap.size,#[.i 0,.i 17,.i 21,.i 23],2,[]⟩] (ak (bW M1 D) (jG a b d c f))) (aT (Hs.eng (dr:=true) (λ_ h=>h.hs)) {} 60 (Q.step pD kD) (λW h=>hN _ W h.mp) ?_)
  rintro W10 e W11 h10 ⟨rfl,p11,k11⟩
  have F:=h10.step p11 k11
  refine ⟨_,0,rfl,gi ba,aL (Hs r [⟨j.heap.size,#[.i 0,.i 17,.i 21,.i 23],2,[]⟩] (ak (bK (bW M1 D)) (jG a b d c f))) ?_⟩
 ·obtain rfl:V=(yd,bK (bW M1 D),0):=B
  exact eO (t:=12) (s:=13) (Hs.eng (dr:=true) (λ_ h=>h.hs)) {} 99 F (λy h=>⟨rfl,_,h.mp,h.kx⟩)
 rw [Tb] at B
 obtain rfl:=hit0 rfl
 subst B
 obtain ⟨m,e⟩|⟨m,hq,e⟩|⟨m,hq,e⟩:=wj (bK (bW M1 D)) u
 case inl=>rw [e];exact eO (t:=12) (s:=13) (Hs.eng (dr:=true) (λ_ h=>h.hs)) {eq:=[(169,an m)]} 99 F (λy h=>⟨rfl,(jG a b d c f),h.mp,h.kx⟩)
 case inr.inl=>rw [e];exact eO (t:=12) (s:=13) (Hs.eng (dr:=true) (λ_ h=>h.hs)) {eq:=[(169,an m),(178,an hq)]} 99 F (λy h=>⟨rfl,(jG a b d c f),h.mp,h.kx⟩)
 rw [e]
 refine ae (Hs.eng (dr:=true) (λ_ h=>h.hs)) {eq:=[(169,an m),(178,an hq)]} 99 F λY1 y1=>?_
 refine bE (bG (i:=12) (T:=4) (v:=.bool false) y1.mp.row ro ba rfl) ?_
 have y2:=y1.fld (M':=Vm (bK (bW M1 D))) 12 (.bool false) rfl rfl
 refine aL (Hs r [⟨j.heap.size,#[.i 0,.i 17,.i 21,.i 23],2,[]⟩] (ak (Vm (bK (bW M1 D))) (jG a b d c f))) ?_
 refine ae (Hs.eng (dr:=true) (λ_ h=>h.hs)) {} 99 y2 λY3 y3=>?_
 refine bE (bG (i:=11) (T:=24) (v:=.u 0) y3.mp.row ro ba rfl) ?_
 have y4:=y3.fld (M':=lP (bK (bW M1 D))) 11 (.u 0) rfl rfl
 refine aL (Hs r [⟨j.heap.size,#[.i 0,.i 17,.i 21,.i 23],2,[]⟩] (ak (lP (bK (bW M1 D))) (jG a b d c f))) ?_
 exact eO (t:=12) (s:=13) (Hs.eng (dr:=true) (λ_ h=>h.hs)) {} 99 y4 (λy h=>⟨rfl,(jG a b d c f),h.mp,h.kx⟩)
theorem MS (va kind w fm f m M:Int) (hm:Mp s l r a p) (L:∀ c,Mp s l r a c->CE 93 #[.slice a.ac r.cs.length a.cc,.i r.pr,.i kind] c (.i w)) (I:∀ c,Mp s l r a c->CB 114 #[.slice a.ar r.ram.length a.cr,.slice a.ac r.cs.length a.cc,.i w,.u va,.i kind] c (.agg #[.u fm,.i f,.bool d,.u m,.u M])) (N:d->∀ c,Mp s l r a c->A8 prog 55 #[.slice a.ar r.ram.length a.cr,.u m,.i 8,.u M] c λe k=>e=.returned (.tuple #[])/\Mp s l D a k/\Kx l (aF r a) (aF D a) c k) (K:d=false->D=r) (M2:ak D a=ak r a): A8 prog 91 #[.p l 0,.slice none 0 0,.u va,.i kind] p λe c=>e=.returned (.tuple #[.u fm,.i f])/\Mp s l D a c/\Kx l (aF r a) (aF D a) p c:=by
 have fin:∀ (S:A9->Prop) (b:Nat) (W:A9),Hx s l [⟨b,#[.u fm,.i f,.bool d,.u m,.u M],169,[]⟩] r a p r a W->Wg prog S (bodyPost prog Tryz.f91 λe c=>e=.returned (.tuple #[.u fm,.i f])/\Mp s l D a c/\Kx l (aF r a) (aF D a) p c) Tryz.f91.ntmps [.code (au 5 (aM Tryz.f91))] [(0,.p l 0,1),(11,.bool false,0),(13,.p b 0,2)] W:=λS b W h=>by
  refine aL (Hs l [⟨b,#[.u fm,.i f,.bool d,.u m,.u M],169,[]⟩] (ak r a)) ?_;cases d with
  | false =>obtain rfl:=K rfl;exact kJ (Hs.eng (dr:=true) (λ_ h=>h.hs)) {} 99 h λo A h C=>⟨.tuple #[.u fm,.i f],l7,rfl,h.mp,h.kx⟩
  | true =>refine aT (Hs.eng (dr:=true) (λ_ h=>h.hs)) {} 99 h (λW h=>N rfl W h.mp) ?_;rintro V e X q ⟨rfl,U,R⟩;have H:=q.step U R;refine ⟨_,0,rfl,λ_=>M2 ▸ H.hs,?_⟩;exact kJ (Hs.eng (dr:=true) (λ_ h=>M2 ▸ h.hs)) {} 99 H λo A h C=>⟨.tuple #[.u fm,.i f],l7,rfl,h.mp,h.kx⟩
 have var:∀ (W o:A9) (b:Nat),Hx s l [] r a p r a W->Bw W o->W.heap.size<=b->o.heap[b]?=some (.cells #[.u fm,.i f,.bool d,.u m,.u M] 169 (0,0))->Hx s l [⟨b,#[.u fm,.i f,.bool d,.u m,.u M],169,[]⟩] r a p r a o:=λW o b h O P Q=>h.var O _ Q P;refine br (S:=Hx s l [] r a p r a) (args:=[.p l 0,.slice none 0 0,.u va,.i kind]) [] func91 ?_;refine aP 0 1 ?_;refine ae (Hx.eng (dr:=true)) {cv:=[(23,kj λW h=>L W h.mp)]} 99 (⟨hm,Kx.refl _ _ _,λ_ h=>ni⟩:Hx s l [] r a p r a p) λB n=>?_;refine kN (i:=11) (j:=12) ?_ ?_;·refine kl (I B n.mp) λe F E=>?_;obtain ⟨rfl,u⟩:=E;have q:=n.below u;refine ⟨_,0,rfl,q,?_⟩;have x:=bal F (.cells jx 169);refine dt 2 (ct (T:=169) (z:=.agg jx) ba F) (hS:=λ_=>q.below x) ?_;have y:=aI x (D3 _) #[.u fm,.i f,.bool d,.u m,.u M];refine bE (av (g:=F.heap.size) (t:=169) (ty:=169) (old:=jx) (cells:=#[.u fm,.i f,.bool d,.u m,.u M]) (A6 _ _) ba rfl ba) (hS:=λ_=>q.below y) ?_;refine ae (Hx.engL (dr:=true) (λ_ h=>ni)) {} 1 (var _ _ _ q y (D3 _) (C5 _ _ _ _ _ _ (A6 _ _))) λW h=>?_;exact af _ _ (fin _ _ _ h)
 ·have u:=bal B (.cells jx 169);refine mt 2 (ct (T:=169) (z:=.agg jx) ba B) (n.below u) ?_;refine io (I _ (n.below u).mp) λe Y E=>?_;obtain ⟨rfl,x⟩:=E;have y:=aa u x;refine ⟨_,0,rfl,λ_=>n.below y,?_⟩;have J:=aD x (A6 B (.cells jx 169));have G:=aI y (D3 _) #[.u fm,.i f,.bool d,.u m,.u M];refine bE (av (g:=B.heap.size) (t:=169) (ty:=169) (old:=jx) (cells:=#[.u fm,.i f,.bool d,.u m,.u M]) J ba rfl ba) (hS:=λ_=>n.below G) ?_;refine ae (Hx.engL (dr:=true) (λ_ h=>ni)) {} 1 (var _ _ _ n G (D3 _) (C5 _ _ _ _ _ _ J)) λW h=>?_;exact af _ _ (fin _ _ _ h)
theorem RH (a:M.cs.length=22) (hs:Sl .u64 w A.ac M.cs) (kind:Int):CE 93 #[.slice A.ac M.cs.length A.cc,.i M.pr,.i kind] w (.i (gg M.cs M.pr kind)):=by obtain ⟨b,c,e,_,d⟩:=hs 0 ab;rw [e,a];exact uh b c A.cc M.cs M.pr kind w d
theorem Tc (a:M.cs.length=22) (hr:bf M.ram.length) (hs:oe w M A) (j:MW M) (p va kind:Int) (i:bZ p) (d:1<=kind) (f:kind<=3) (g:U va):CB 114 #[.slice A.ar M.ram.length A.cr,.slice A.ac M.cs.length A.cc,.i p,.u va,.i kind] w (.agg (cj M.ram M.ram.length M.cs p va kind).cells):=by obtain ⟨b,h,e,_,_⟩:=hs.cs 0 ab;have c:=hs.cs;rw [e] at c;rw [e,a];exact EX A.ar M.ram.length A.cr M.ram b h A.cc M.cs p va kind w hr rfl hs.ram j.ram a c i d f g
theorem Ao (hm:Mp f j D E K) (hl:iR D) (o:MW D) (r:dJ D) (g:1<=F) (i:F<=3) (l:U C) (kind:Fd) (hF:cj D.ram D.ram.length D.cs (gg D.cs D.pr F) C F=kind): A8 prog 91 #[.p j 0,.slice none 0 0,.u C,.i F] K λe a=>e=.returned (.tuple #[.u kind.addr,.i kind.code])/\Mp f j (bN D (bz D.ram kind)) E a/\Kx j (aF D E) (aF (bN D (bz D.ram kind)) E) K a:=by obtain ⟨b,B,k,v,M,va⟩:=aN r;have u:=wi (o.cs 0) B k F;have t:=λa (h:Mp f j D E a)=>RH (M:=D) (A:=E) (w:=a) b h.fam.msl.cs F;have n:=λa (h:Mp f j D E a)=>Tc (M:=D) (A:=E) (w:=a) b v h.fam.msl o (gg D.cs D.pr F) C F u g i l;have c:=JF D.ram D.ram.length D.cs (gg D.cs D.pr F) C F;rw [hF] at c;simp only [hF] at n;obtain ⟨p,q,s,m,d⟩:=kind;refine MS _ s C F _ p q m d hm t n (λe=>?_) (λe=>by rw [e];rfl) (by unfold ak bN;dsimp only;rw [kB]);obtain ⟨x,y⟩:=c e;have z:0<=d/\d<18446744073709551616:=y;subst e;exact λa h=>vJ D E f j m 8 d a hl.ram x z.1 ab h
theorem Td (A:M.cs.length=22) (hs:Sl .u64 p a.ac M.cs) (w x s kind:Int):CE 92 #[.slice a.ac M.cs.length a.cc,.i w,.u x,.i s,.i kind] p (.bool (aJ M.cs w x (bu x s) kind 4 0)):=by rw [A];exact mF a.ac a.cc M.cs w x s kind p A hs
theorem Te (hs:Sl .u8 p a.ar M.ram) (hl:M.ram.length<=1048576) (h:∀ y ∈ M.ram,(Lit.int .u8 y).wf) (A:gQ M.ram.length b k):CE 95 #[.slice a.ar M.ram.length a.cr,.u b,.i k] p (.u (le M.ram (b-2147483648).toNat k.toNat)):=by
 have j:=ku A;obtain ⟨f,d⟩:∃ f:Nat,f=(b-2147483648).toNat:=⟨_,rfl⟩;obtain ⟨m,g⟩:∃ m:Nat,m=k.toNat:=⟨_,rfl⟩;have addr:b=2147483648+(f:Int):=ab
 have c:k=(m:Int):=ab
 rw [<- d,<- g,addr,c];exact uZ a.ar M.ram.length a.cr f m M.ram p rfl hl hs h ab ab ab
theorem Hq (h:bj s l p (aF M a)):bj s l p (eX a.ai M.d.xs.length a.ci M.d.xs a.ao M.d.ys.length a.co M.d.ys):=h.sub (.cons _ (.cons _ (.cons _ (List.Sublist.refl _))))
theorem MT (h:m.xs.length<=1048576) (a:m.ys.length<=1048576):(jz m f).2.1.xs.length<=1048576/\(jz m f).2.1.ys.length<=1048576:=by have:=Pn m f;omega
theorem fY (kind x:Int) (w:A9) (hm:Mp f j D E w) (hl:iR D) (o:MW D) (r:dJ D) (m:jt F) (u:1<=kind) (v:kind<=3) (q:U C) (hx:U x): A8 prog 66 #[.p j 0,.slice none 0 0,.u C,.i F,.i kind,.u x] w λe a=>e=.returned (.tuple #[.u (aH D C F kind x).1,.i (aH D C F kind x).2.2])/\∃ n,Mp f j (aH D C F kind x).2.1 n a/\Kx j (aF D E) (aF (aH D C F kind x).2.1 n) w a:=by
 obtain ⟨d,H,J,K,I,N⟩:=aN r;have b:=vf I;have c:cS D.d:=⟨o.xs,o.ys⟩;have L:F=1\/F=2\/F=4\/F=8:=of_decide_eq_true m;have k:1<=F:=ab
 have l:F<=8:=ab
 obtain ⟨size,hF⟩:∃ size,cj D.ram D.ram.length D.cs (gg D.cs D.pr kind) C kind=size:=⟨_,rfl⟩;have i:U size.addr:=by rw [<- hF];exact uE _ _ _ _ _ _ q
 have z:bf (bN D (bz D.ram size)).ram.length:=by show bf (bz D.ram size).length;rw [kB];exact K
 have B:(bN D (bz D.ram size)).ram.length<=1048576:=by show (bz D.ram size).length<=_;rw [kB];exact hl.ram
 have A:=Am D.ram o.ram size;have g:decide (Uz.wrap (Uz.wrap (size.addr+F)-1)<size.addr)=decide (bu size.addr F<size.addr):=by rw [Fq _ _ k l]
 have y:∀ M:DV,(M.xs.length<=1048576/\M.ys.length<=1048576)->iR (bW (bN D (bz D.ram size)) M):=λM h=>⟨hl.x,hl.cs,B,h.1,h.2⟩;have s:=MT D.d (gF size.addr F) hl.xs hl.ys;have addr:=GO D.d x hl.xs b.2.1 (gF size.addr F);have G:kind=1\/kind=2\/kind=3:=ab
 have p:(if kind=3 then (fU D.d x (gF size.addr F)).1 else (jz D.d (gF size.addr F)).2.1).xs.length<=1048576/\(if kind=3 then (fU D.d x (gF size.addr F)).1 else (jz D.d (gF size.addr F)).2.1).ys.length<=1048576:=by split<;>assumption
 refine Fv (M1:=bN D (bz D.ram size)) kind C F x (gg D.cs D.pr kind) size.addr size.code (decide (bu size.addr F<size.addr)) (aJ D.cs (gg D.cs D.pr kind) size.addr (bu size.addr F) kind 4 0) (gQ (bN D (bz D.ram size)).ram.length size.addr F) (lQ (bN D (bz D.ram size)) size.addr) (le (bz D.ram size) (size.addr-2147483648).toNat F.toNat) (jz D.d (gF size.addr F)).1 (kU (bz D.ram size) (size.addr-2147483648).toNat x F.toNat) (if kind=3 then (fU D.d x (gF size.addr F)).1 else (jz D.d (gF size.addr F)).2.1) (if kind=3 then (fU D.d x (gF size.addr F)).2 else (jz D.d (gF size.addr F)).2.2) G hm k l q (λa h=>Ao D E f j C kind a h hl o r u v q size hF) g (λa h=>RH (M:=bN D (bz D.ram size)) (A:=E) d h.fam.msl.cs kind) (λa h=>Td (M:=bN D (bz D.ram size)) d h.fam.msl.cs _ _ _ _) (λa h=>uY _ _ _ _ _ a z m i.1 (by have:=i.2;omega)) (λt a h=>Te (M:=bN D (bz D.ram size)) h.fam.msl.ram B A t) (λt a h=>vJ (bN D (bz D.ram size)) E f j size.addr F x a B t hx.1 (by have:=hx.2;omega) h) (λe a h=>?_) (λe a h=>?_) (λn a h=>rU _ n f j a d (y _ p) h) _ (λ_=>rfl) (λ_=>rfl) ?_;·subst e;exact EP D.d E.ai E.ci E.ao E.co size.addr F f a.heap.size a b.1 c (by have:=h.lo;have:=h.lt;omega) (D3 _) (Hq (M:=bN D (bz D.ram size)) h.fam)
 ·subst e;exact B9 D.d E.ai E.ci E.ao E.co size.addr F x f a.heap.size a b.2.1 (by have:=h.lo;have:=h.lt;omega) (D3 _) (Hq (M:=bN D (bz D.ram size)) h.fam)
 ·rcases G with rfl|rfl|rfl<;>(unfold aH;rw [hF];rfl)
theorem lW {fn:Func} {t u v x:Tmp} (h:fn.results=#[.tmp t,.tmp u,.tmp v,.tmp x]) (tmps:Array Value) (P:Program) (w:A9):(results fn tmps).run P w=.ok (.tuple #[tmps.getD t undef,tmps.getD u undef,tmps.getD v undef,tmps.getD x undef]) w:=by simp [results,h]
def dq (s:Int) (m:Bool):Int:=match m with | true=>D8 (A5 .and .u64 (s/2048) 3) | false=>D8 (aw s 8)
def iU (s:Int):Int:=A5 .or .u64 (A5 .or .u64 (A5 .andNot .u64 s 6152) (Uz.wrap (aw s 7*8))) 128
def cP (s:Int) (m:Bool):Int:=match m with
 | true=>if (dq s true != 3)=true then A5 .andNot .u64 (iU s) 131072 else iU s
 | false=>A5 .or .u64 (A5 .or .u64 (A5 .andNot .u64 s 131330) (Uz.wrap (aw s 5*2))) 32
def eE (l:List Int) (m:Bool):Int:=match m with | true=>l.getD 6 0 | false=>l.getD 12 0
theorem CJ (base g cap:Nat) (l:List Int) (m:Bool) (w:A9) (h:ey w base g cap l):A8 prog 109 #[.slice (some ⟨g,0,none⟩) 22 cap,.bool m] w λe L => e=.returned (.tuple #[.i (dq (l.getD 0 0) m),.u (eE l m)])/\ey L base g cap (l.set 0 (cP (l.getD 0 0) m))/\w.grownBy L (some g):=by
 have H:Hid (ey w base g cap l):=h;have I:=h.cell 0 ab;clear h;cases m with
 | true =>
   have G:Hid (l.getD 6 0=eE l true):=(rfl:l.getD 6 0=eE l true);generalize eE l true=K at *;have b:cP (l.getD 0 0) true=if (dq (l.getD 0 0) true != 3)=true then A5 .andNot .u64 (iU (l.getD 0 0)) 131072 else iU (l.getD 0 0):=rfl
   have u:iU (l.getD 0 0)=A5 .or .u64 (A5 .or .u64 (A5 .andNot .u64 (l.getD 0 0) 6152) (Uz.wrap (aw (l.getD 0 0) 7*8))) 128:=rfl;have o:D8 (A5 .and .u64 (l.getD 0 0/2048) 3)=dq (l.getD 0 0) true:=rfl;rw [u] at b;clear u;generalize dq (l.getD 0 0) true=M at *;generalize cP (l.getD 0 0) true=A at *;obtain ⟨s,z⟩:∃ y,l.getD 0 0=y:=⟨_,rfl⟩;rw [z] at I b o;clear z;cases J:(M != 3) with
   | true =>
     rw [JZ8 J] at b;have F:Hid (A=A5 .andNot .u64 (A5 .or .u64 (A5 .or .u64 (A5 .andNot .u64 s 6152) (Uz.wrap (aw s 7*8))) 128) 131072):=b;clear b;go_enter func109,ntmps109;go_wp2_with (first | (refine qn rfl (.tmp 30) (.tmp 29) rfl rfl H.out 0 ab _ rfl rfl ?_;intro j r q;have p:Hid (ey j _ _ _ _):=r;have t:Hid (w.grownBy j (some g)):=q;clear r q;have c:j.cell? ⟨g,6,none⟩=some (.u K):=qh) | (go_at_call 88;with_reducible refine (LT _ _).mono ?_;rintro e E ⟨rfl,d⟩;have f:=d.symm;subst f));go_quiet (fail)
     go_wp2_with fail;exact a0j
   | false =>
     rw [JZ9 (by rw [J];decide)] at b;have F:Hid (A=A5 .or .u64 (A5 .or .u64 (A5 .andNot .u64 s 6152) (Uz.wrap (aw s 7*8))) 128):=b;clear b;go_enter func109,ntmps109;go_wp2_with (first | (refine qn rfl (.tmp 30) (.tmp 29) rfl rfl H.out 0 ab _ rfl rfl ?_;intro j r q;have p:Hid (ey j _ _ _ _):=r;have t:Hid (w.grownBy j (some g)):=q;clear r q;have c:j.cell? ⟨g,6,none⟩=some (.u K):=qh) | (go_at_call 88;with_reducible refine (LT _ _).mono ?_;rintro e E ⟨rfl,d⟩;have f:=d.symm;subst f));go_quiet (fail)
     go_wp2_with fail;exact a0j
 | false =>
   have C:Hid (l.getD 12 0=eE l false):=(rfl:l.getD 12 0=eE l false);generalize eE l false=D at *;have B:cP (l.getD 0 0) false=A5 .or .u64 (A5 .or .u64 (A5 .andNot .u64 (l.getD 0 0) 131330) (Uz.wrap (aw (l.getD 0 0) 5*2))) 32:=rfl;have o:dq (l.getD 0 0) false=D8 (aw (l.getD 0 0) 8):=rfl;rw [o];clear o;generalize cP (l.getD 0 0) false=A at *;obtain ⟨s,z⟩:∃ y,l.getD 0 0=y:=⟨_,rfl⟩;rw [z] at I B ⊢;have F:Hid (A=A5 .or .u64 (A5 .or .u64 (A5 .andNot .u64 s 131330) (Uz.wrap (aw s 5*2))) 32):=B;clear B z;go_enter func109,ntmps109;go_wp2_with (first | (refine qn rfl (.tmp 46) (.tmp 45) rfl rfl H.out 0 ab _ rfl rfl ?_;intro j r q;have p:Hid (ey j _ _ _ _):=r;have t:Hid (w.grownBy j (some g)):=q;clear r q;have c:j.cell? ⟨g,12,none⟩=some (.u D):=by (have e:=p.out.cell 12 ab;rw [gq _ _ _ _ ab,C.out] at e;exact e)) | (go_at_call 88;with_reducible refine (SQ _ _).mono ?_;rintro e E ⟨rfl,d⟩;have f:=d.symm;subst f) | (go_at_call 88;with_reducible refine (SP _ _).mono ?_;rintro e E ⟨rfl,d⟩;have f:=d.symm;subst f));go_quiet (fail)
   go_wp2_with fail;exact a0j
def Vn (k:Int):Bool:=decide (0<=k/\k<=15)
def Ap (n:Nat) (l:List Int) (p k:Int):Bool:=bm n l p&&Vn k
def sB (n:Nat) (l:List Int) (p pc k:Int) (i:Bool) (v:Int):List Int:=match Ap n l p k with
 | true=>iO l (cU l p k.toNat i) p (gG k i) pc v | false=>[]
def Fw (n:Nat) (l:List Int) (p k:Int) (i:Bool):Int:=match Ap n l p k with
 | true=>te (cU l p k.toNat i) | false=>0
def Fx (n:Nat) (l:List Int) (p k:Int) (i:Bool):Int:=match Ap n l p k with
 | true=>dX (od l (cU l p k.toNat i)) k (mV l (cU l p k.toNat i) i) | false=>0
theorem lX:(iO c d g y C F).length=c.length:=by cases d<;>simp [iO]
def lY (n:Nat) (l:List Int) (p:Int) (m:Bool):Bool:=bm n l p&&!(m&&(p != 3))&&!(p==0)
def jS (n:Nat) (l:List Int) (p:Int) (m:Bool):List Int:=match lY n l p m with
 | true=>l.set 0 (cP (l.getD 0 0) m) | false=>[]
def rp (n:Nat) (l:List Int) (p:Int) (m:Bool):Int:=match lY n l p m with
 | true=>dq (l.getD 0 0) m | false=>0
def rq (n:Nat) (l:List Int) (p:Int) (m:Bool):Int:=match lY n l p m with
 | true=>eE l m | false=>0
theorem dP (h:U g):aw g f=de g f 1:=by have a:=mq g h f;have:=cE (g/2^f) 1 a.1 a.2 ab;unfold aw de;exact this
theorem PT (h:U g):mO g y=A5 .or .u64 (A5 .or .u64 (A5 .andNot .u64 g 6280) (Uz.wrap (de g 3 1*128))) (Uz.wrap (y*2048)):=by unfold mO;rw [dP g 3 h]
theorem MU:∀ i,i<64->bt 0 i=false:=by decide +kernel
theorem MX (h:U g):ml g ((0:Int)==1)=A5 .or .u64 (A5 .or .u64 (A5 .andNot .u64 g 290) (Uz.wrap (de g 1 1*32))) 0:=by show A5 .or .u64 (A5 .andNot .u64 g 290) (Uz.wrap (aw g 1*32))=_;rw [dP g 1 h];exact bF _ _ (ah _ _ _) (ah _ _ _) λi a=>by rw [cC _ 0,MU i a,L6]
theorem MY (h:U g):ml g ((1:Int)==1)=A5 .or .u64 (A5 .or .u64 (A5 .andNot .u64 g 290) (Uz.wrap (de g 1 1*32))) 256:=by show A5 .or .u64 (A5 .or .u64 (A5 .andNot .u64 g 290) (Uz.wrap (aw g 1*32))) 256=_;rw [dP g 1 h]
theorem CL (h:U g):iU g=A5 .or .u64 (A5 .or .u64 (A5 .andNot .u64 g 6280) (Uz.wrap (de g 7 1*8))) 128:=by
 have e:∀ i,i<64->∀ a c:Bool,((a&&!bt 6152 i||c)||bt 128 i)=((a&&!bt 6280 i||c)||bt 128 i):=cp
 unfold iU;rw [dP g 7 h];exact bF _ _ (ah _ _ _) (ah _ _ _) λi b=>by rw [cC,cC,cC,cC,aB _ _ _ b,aB _ _ _ b,e i b]
theorem MZ (h:U g):dq g true=D8 (de g 11 2):=by have a:=mq g h 11;have:=cE (g/2^11) 2 a.1 a.2 ab;show D8 (A5 .and .u64 (g/2048) 3)=_;exact congrArg D8 this
theorem CM (h:U g):dq g false=D8 (de g 8 1):=by show D8 (aw g 8)=_;rw [dP g 8 h]
theorem oT (h:U g) (i j k:Nat):bt (Uz.wrap (de g k 1*2^j)) i=(decide (i=j)&&decide (i<64)&&bt g k):=by
 rw [nC _ (tq _ _ _ ab),lI _ h _ _ _ ab];by_cases a:i=j;·subst a;simp
 ·by_cases b:j<=i
  ·have:¬ (i-j<1):=by omega
   simp [a,this]
  ·simp [a,b]
theorem M9 (h:U g):cP g false=A5 .andNot .u64 (A5 .or .u64 (A5 .or .u64 (A5 .andNot .u64 g 290) (Uz.wrap (de g 5 1*2))) 32) 131072:=by
 have e:∀ i,i<64->∀ a c:Bool,((a&&!bt 131330 i||(decide (i=1)&&decide (i<64)&&c))||bt 32 i)=(((a&&!bt 290 i||(decide (i=1)&&decide (i<64)&&c))||bt 32 i)&&!bt 131072 i):=cp
 show A5 .or .u64 (A5 .or .u64 (A5 .andNot .u64 g 131330) (Uz.wrap (aw g 5*2))) 32=_;rw [dP g 5 h];have f:∀ i,bt (Uz.wrap (de g 5 1*2)) i=(decide (i=1)&&decide (i<64)&&bt g 5):=λi=>oT g h i 1 5;exact bF _ _ (ah _ _ _) (ah _ _ _) λi b=>by rw [aB _ 131072 _ b,cC,cC,cC,cC,aB _ _ _ b,aB _ _ _ b,f i,e i b]
theorem J8 (h:U g) (d:(dq g true != 3)):cP g true=A5 .andNot .u64 (A5 .or .u64 (A5 .or .u64 (A5 .andNot .u64 g 6280) (Uz.wrap (de g 7 1*8))) 128) 131072:=by show (if (dq g true != 3)=true then A5 .andNot .u64 (iU g) 131072 else iU g)=_;rw [JZ8 d,CL g h]
theorem J9 (h:U g) (d:(dq g true != 3)=false):cP g true=A5 .or .u64 (A5 .or .u64 (A5 .andNot .u64 g 6280) (Uz.wrap (de g 7 1*8))) 128:=by show (if (dq g true != 3)=true then A5 .andNot .u64 (iU g) 131072 else iU g)=_;rw [JZ9 (by rw [d];decide),CL g h]
theorem Fy (h:U g):dq g false=0\/dq g false=1:=by
 rw [CM g h];have:=kL g 8 1;have e:(2:Int)^1=2:=bc
 unfold D8;omega
theorem Ka (h:U g):(dq g false != 3):=by rcases Fy g h with e|e<;>rw [e]<;>rfl
theorem Hr:(A5 .and .u64 g 1 != 0)=(A5 .and .u64 g 1==1):=by rw [SZ];cases bt g 0<;>rfl
def wk (l:List Int) (p:Int):Bool:=decide (p<3)||((p==3)&&(de (l.getD 0 0) 3 1==1))
def wm (l:List Int) (p:Int):Bool:=decide (p<1)||((p==1)&&(de (l.getD 0 0) 1 1==1))
def Hu (l:List Int) (p:Int):Int :=
 match (decide (dh (A5 .andNot .u64 (kv l) (l.getD 2 0))>=0)&&wk l p) with
 | true=>dh (A5 .andNot .u64 (kv l) (l.getD 2 0))
 | false=>match (decide (dh (A5 .and .u64 (kv l) (l.getD 2 0))>=0)&&wm l p) with
   | true=>dh (A5 .and .u64 (kv l) (l.getD 2 0))
   | false=>-1
theorem Kb (h:decide (dh g>=0)=false):dh g=-1:=by
 rcases uX g eG with e|⟨n,_,e,_⟩;·exact e
 ·have:dh g=(n:Int):=e;rw [this] at h;simp at h
theorem Na (b:bZ g) (h:U (c.getD 0 0)):wk c g=Bq c g:=by
 have a:g=0\/g=1\/g=3:=by simpa [bZ,or_assoc] using b
 unfold wk Bq;rw [dP _ 3 h];rcases a with rfl|rfl|rfl<;>rfl
theorem Nb (b:bZ g) (h:U (c.getD 0 0)):wm c g=Bt c g:=by
 have a:g=0\/g=1\/g=3:=by simpa [bZ,or_assoc] using b
 unfold wm Bt;rw [dP _ 1 h];rcases a with rfl|rfl|rfl<;>rfl
theorem PV (l:List Int) (p:Int) (a:bZ p) (h:U (l.getD 0 0)):Hu l p=fS l p:=by
 unfold Hu fS GB;rw [Na l p a h,Nb l p a h,Bool.and_comm];have e:=Kb (A5 .and .u64 (kv l) (l.getD 2 0));generalize dh (A5 .and .u64 (kv l) (l.getD 2 0))=c at *;generalize dh (A5 .andNot .u64 (kv l) (l.getD 2 0))=b at *;cases Bq l p&&decide (b>=0)
 ·cases Bt l p;·rw [K1]
  ·rw [Bool.and_true];cases d:decide (c>=0);·exact (e d).symm
   ·rfl
 ·rfl
theorem PW (h:A5 .and .u64 b k=b) (i:Nat) (e:bt b i):bt k i:=by rw [<- h,aA,K0] at e;exact e.2
theorem PY (hx:U b) (h:∀ i,i<64->bt b i->bt k i):A5 .and .u64 b k=b :=
 bF _ _ (ah _ _ _) hx λi a=>by
  rw [aA]
  cases e:bt b i with
  | false=>rfl
  | true=>rw [h i a e];rfl
theorem yP (h:U g):aw g f=if bt g f=true then 1 else 0:=by unfold aw;rw [SZ,jF g h,D4]
theorem P0 (h:U g):de g f 1=if bt g f=true then 1 else 0:=by rw [<- dP g f h,yP g f h]
theorem Aq (hx:U g) (a:∀ i,i<64->bt g i->bt 924074 i) (b:(!bt g 11&&bt g 12)=false):fL 0 g:=by have e:mst g=g:=(sp g hx).mpr ⟨PY hx a,b⟩;show (mst g==g);rw [e];exact beq_self_eq_true _
theorem Fz (hx:U g) (h:fL 0 g):(∀ i,bt g i->bt 924074 i)/\(!bt g 11&&bt g 12)=false:=by
 have e:mst g=g:=by have:(mst g==g):=h;simpa using this
 obtain ⟨a,b⟩:=(sp g hx).mp e;exact ⟨PW a,b⟩
theorem sD (h:U g) (i:Nat) (a:i<64):bt (iU g) i=((bt g i&&!bt 6152 i||(decide (i=3)&&decide (i<64)&&bt g 7))||bt 128 i):=by have f:bt (Uz.wrap (de g 7 1*8)) i=(decide (i=3)&&decide (i<64)&&bt g 7):=oT g h i 3 7;unfold iU;rw [dP g 7 h,cC,cC,aB _ _ _ a,f]
theorem sF (h:U g) (i:Nat) (a:i<64):bt (cP g false) i=((bt g i&&!bt 131330 i||(decide (i=1)&&decide (i<64)&&bt g 5))||bt 32 i):=by have f:bt (Uz.wrap (de g 5 1*2)) i=(decide (i=1)&&decide (i<64)&&bt g 5):=oT g h i 1 5;show bt (A5 .or .u64 (A5 .or .u64 (A5 .andNot .u64 g 131330) (Uz.wrap (aw g 5*2))) 32) i=_;rw [dP g 5 h,cC,cC,aB _ _ _ a,f]
theorem wo (h:U g) (i:Nat) (a:i<64):bt (mO g y) i=((bt g i&&!bt 6280 i||(decide (i=7)&&decide (i<64)&&bt g 3))||bt (Uz.wrap (y*2048)) i):=by have f:bt (Uz.wrap (de g 3 1*128)) i=(decide (i=7)&&decide (i<64)&&bt g 3):=oT g h i 7 3;unfold mO;rw [dP g 3 h,cC,cC,aB _ _ _ a,f]
theorem wq (h:U g) (i:Nat) (a:i<64):bt (ml g z) i=((bt g i&&!bt 290 i||(decide (i=5)&&decide (i<64)&&bt g 1))||(z&&decide (i=8))):=by
 have f:bt (Uz.wrap (de g 1 1*32)) i=(decide (i=5)&&decide (i<64)&&bt g 1):=oT g h i 5 1;have e:∀ i,i<64->bt 256 i=decide (i=8):=cp
 cases z with
 | true =>show bt (A5 .or .u64 (A5 .or .u64 (A5 .andNot .u64 g 290) (Uz.wrap (aw g 1*32))) 256) i=_;rw [dP g 1 h,cC,cC,aB _ _ _ a,f,e i a,L0]
 | false =>show bt (A5 .or .u64 (A5 .andNot .u64 g 290) (Uz.wrap (aw g 1*32))) i=_;rw [dP g 1 h,cC,aB _ _ _ a,f,Bool.false_and,L6]
theorem rr:U (cP g z):=by
 cases z with
 | true=>unfold cP;show U (if _ then _ else _);split<;>exact ah _ _ _
 | false=>unfold cP;exact ah _ _ _
theorem Hv:U (mO g y):=ah _ _ _
theorem Hy:U (ml g z):=by cases z<;>(unfold ml;exact ah _ _ _)
theorem Tf (k:Nat) (hk:k<16) (i:Bool):U (gG k i):=by
 cases i with
 | true=>unfold gG;exact ah _ _ _
 | false=>show U (k:Int);exact ⟨ab,ab⟩
theorem Wp:Uz.wrap ((0:Int)*2048)=0:=by decide
theorem Wq:Uz.wrap ((1:Int)*2048)=2048:=by decide
theorem Wr:Uz.wrap ((3:Int)*2048)=6144:=by decide
theorem tN:cP g true=if (dq g true != 3)=true then A5 .andNot .u64 (iU g) 131072 else iU g:=rfl
theorem CN (h:U g) (m:Bool) (j:fL 0 g):fL 0 (cP g m):=by
 obtain ⟨k,l⟩:=Fz g h j;cases m with
 | false =>
   have e:∀ i,i<64->∀ a c:Bool,(a->bt 924074 i)->((a&&!bt 131330 i||(decide (i=1)&&decide (i<64)&&c))||bt 32 i)->bt 924074 i:=cp;refine Aq _ (rr g false) (λi f d=>?_) ?_;·rw [sF g h i f] at d;exact e i f _ _ (k i) d
   ·have n:∀ a c:Bool,((a&&!bt 131330 11||(decide (11=1)&&decide (11<64)&&c))||bt 32 11)=a:=cp;have s:∀ a c:Bool,((a&&!bt 131330 12||(decide (12=1)&&decide (12<64)&&c))||bt 32 12)=a:=cp;rw [sF g h 11 ab,sF g h 12 ab,n,s];exact l
 | true =>
   have e:∀ i,i<64->∀ a c:Bool,(a->bt 924074 i)->((a&&!bt 6152 i||(decide (i=3)&&decide (i<64)&&c))||bt 128 i)->bt 924074 i:=cp;have s:∀ a c:Bool,((a&&!bt 6152 12||(decide (12=3)&&decide (12<64)&&c))||bt 128 12)=false:=cp;refine Aq _ (rr g true) (λi f d=>?_) ?_
   ·have b:bt (iU g) i:=by
     revert d;rw [tN];split;·rw [aB _ _ _ f];intro d;exact (K0 _ _ ▸ d).1
     ·exact id
    rw [sD g h i f] at b;exact e i f _ _ (k i) b
   ·have b:bt (cP g true) 12=false:=by
     rw [tN];split;·rw [aB _ _ _ ab,sD g h 12 ab,s];rfl
     ·rw [sD g h 12 ab,s]
    rw [b,K1]
theorem Nc (h:U g) (m:bZ y) (s:fL 0 g):fL 0 (mO g y):=by
 obtain ⟨l,n⟩:=Fz g h s;have f:y=0\/y=1\/y=3:=by simpa [bZ,or_assoc] using m
 refine Aq _ (Hv g y) (λi j b=>?_) ?_
 ·rw [wo g y h i j] at b;have e:∀ i,i<64->∀ a c:Bool,(a->bt 924074 i)->(((a&&!bt 6280 i||(decide (i=7)&&decide (i<64)&&c))||bt 0 i)->bt 924074 i)/\(((a&&!bt 6280 i||(decide (i=7)&&decide (i<64)&&c))||bt 2048 i)->bt 924074 i)/\(((a&&!bt 6280 i||(decide (i=7)&&decide (i<64)&&c))||bt 6144 i)->bt 924074 i):=cp;have e:=e i j _ (bt g 3) (l i);rcases f with rfl|rfl|rfl;·rw [Wp] at b;exact e.1 b
  ·rw [Wq] at b;exact e.2.1 b
  ·rw [Wr] at b;exact e.2.2 b
 ·rw [wo g y h 11 ab,wo g y h 12 ab];have k:∀ a c d:Bool,(!((a&&!bt 6280 11||(decide (11=7)&&decide (11<64)&&c))||bt 0 11)&&((d&&!bt 6280 12||(decide (12=7)&&decide (12<64)&&c))||bt 0 12))=false/\(!((a&&!bt 6280 11||(decide (11=7)&&decide (11<64)&&c))||bt 2048 11)&&((d&&!bt 6280 12||(decide (12=7)&&decide (12<64)&&c))||bt 2048 12))=false/\(!((a&&!bt 6280 11||(decide (11=7)&&decide (11<64)&&c))||bt 6144 11)&&((d&&!bt 6280 12||(decide (12=7)&&decide (12<64)&&c))||bt 6144 12))=false:=cp;have k:=k (bt g 11) (bt g 3) (bt g 12);rcases f with rfl|rfl|rfl;·rw [Wp];exact k.1
  ·rw [Wq];exact k.2.1
  ·rw [Wr];exact k.2.2
theorem Nd (h:U g) (d:fL 0 g):fL 0 (ml g z):=by
 obtain ⟨j,k⟩:=Fz g h d;refine Aq _ (Hy g z) (λi s f=>?_) ?_;·rw [wq g z h i s] at f;have e:∀ i,i<64->∀ a c z:Bool,(a->bt 924074 i)->((a&&!bt 290 i||(decide (i=5)&&decide (i<64)&&c))||(z&&decide (i=8)))->bt 924074 i:=cp;exact e i s _ _ _ (j i) f
 ·have l:∀ a c z:Bool,((a&&!bt 290 11||(decide (11=5)&&decide (11<64)&&c))||(z&&decide (11=8)))=a:=cp;have m:∀ a c z:Bool,((a&&!bt 290 12||(decide (12=5)&&decide (12<64)&&c))||(z&&decide (12=8)))=a:=cp;rw [wq g z h 11 ab,wq g z h 12 ab,l,m];exact k
theorem Hz:∀ k,k<16->∀ i:Bool,fL 7 (gG (k:Nat) i)/\fL 13 (gG (k:Nat) i):=by decide +kernel
theorem H5:fL 8 g/\fL 14 g:=⟨beq_self_eq_true g,beq_self_eq_true g⟩
theorem RJ (h:U g):fL 6 (A5 .andNot .u64 g 3)/\fL 12 (A5 .andNot .u64 g 3):=⟨oQ g h 6 ab ab ab,oQ g h 12 ab ab ab⟩
theorem Nf (hz:c.length=22) (hl:∀ j,U (c.getD j 0)) (a:bD 22 c) (d:Bool) (p pc v:Int) (e:bZ p) (b:U pc) (k:Nat) (hk:k<16) (i:Bool):bD 22 (iO c d p (gG k i) pc v):=by
 have l:fL 0 (c.getD 0 0):=eI a 0 ab;cases d with
 | true =>refine cJ _ x7 ?_ 0 ab _ (Nd _ _ (hl 0) l);refine cJ _ x7 ?_ 14 ab _ (H5 v).2;refine cJ _ x7 ?_ 12 ab _ (RJ pc b).2;exact cJ _ hz a 13 ab _ (Hz k hk i).2
 | false =>refine cJ _ x7 ?_ 0 ab _ (Nc _ p (hl 0) e l);refine cJ _ x7 ?_ 8 ab _ (H5 v).1;refine cJ _ x7 ?_ 6 ab _ (RJ pc b).1;exact cJ _ hz a 7 ab _ (Hz k hk i).1
theorem P1 (hl:∀ j,U (c.getD j 0)) (d:Bool) (p pc v:Int) (hv:U v) (k:Nat) (hk:k<16) (i:Bool):∀ j,U ((iO c d p (gG k i) pc v).getD j 0):=by
 have a:=Tf k hk i;cases d with
 | true=>exact jJ _ (jJ _ (jJ _ (jJ _ hl 13 _ a) 12 _ (ah _ _ _)) 14 _ hv) 0 _ (Hy _ _)
 | false=>exact jJ _ (jJ _ (jJ _ (jJ _ hl 7 _ a) 6 _ (ah _ _ _)) 8 _ hv) 0 _ (Hv _ _)
theorem P3 (h:U g):A5 .and .u64 g 3=g%4:=cE g 2 h.1 h.2 ab
theorem Ws (h:fL 6 g\/fL 12 g):A5 .and .u64 g 3=0:=by
 have e:A5 .andNot .u64 g 3=g:=by
  rcases h with h|h;·have:(A5 .andNot .u64 g 3==g):=h;simpa using this
  ·have:(A5 .andNot .u64 g 3==g):=h;simpa using this
 refine bF _ _ (ah _ _ _) ⟨bc,bc⟩ λi c=>?_;have k:∀ a b:Bool,((a&&!b)&&b)=false:=bc
 rw [aA,<- e,aB _ _ _ c,k,MU i c]
theorem WQ (k:Nat) (j:Bool) (h:fL 4 g\/fL 10 g):A5 .and .u64 (dX g k j) 3=0:=by
 have e:A5 .andNot .u64 g 2=g:=by
  rcases h with h|h;·have:(A5 .andNot .u64 g 2==g):=h;simpa using this
  ·have:(A5 .andNot .u64 g 2==g):=h;simpa using this
 have f:A5 .and .u64 (A5 .andNot .u64 g 1) 3=0:=by refine bF _ _ (ah _ _ _) ⟨bc,bc⟩ λi b=>?_;have k:∀ i,i<64->∀ a:Bool,(((a&&!bt 2 i)&&!bt 1 i)&&bt 3 i)=bt 0 i:=cp;rw [aA,<- e,aB _ _ _ b,aB _ _ _ b,k i b]
 cases j with
 | false=>exact f
 | true =>show A5 .and .u64 (Uz.wrap (A5 .andNot .u64 g 1+Uz.wrap (4*k))) 3=0;rw [P3 _ (ah _ _ _)] at f;rw [P3 _ (aW _),D2,D2];omega
