/- Own lemmas. -/
import Derived.Test.YtjifdmoehfbihaaGreatDoorAuj
import Derived.Test.YtjifdmoehfbihaaGreatDoorJ12H
import Derived.Test.YtjifdmoehfbihaaGreatDoorJ11
set_option maxRecDepth 100000
set_option maxHeartbeats 40000000
namespace Go.Proofs.YtjifdmoehfbihaaGreatDoor
open Go.RowKit Tryz
open IntKind renaming u64->Uz
set_option linter.unusedVariables false
variable {s:List Int} {l x:Nat} {p w:World} {a A:MA} {b k:Int} {B:Type} {r M:MV} (m:DV) (D t:MV) (E:MA) (c:List Int) (d:Bool) (g y:Int) (R:Option Addr) (f j n:Nat) (z:Bool) (C F:Int) (K:World)
theorem CH (pc cc:Nat) (ar:Option Addr) (P cr:Nat) (t cm:Int) (F:Bool) (r:Option Addr) (E u:Nat) (s:Option Addr) (no z:Nat) (pr hd:Int) (hl wt:Bool) (b:Nat) (y D:Int) (w:World) (c:w.heap[b]?=some (.cells #[.u g,.slice R f j,.i C,.slice (some ⟨pc,0,none⟩) 22 cc,.slice ar P cr,.u t,.u cm,.bool F,.slice r E u,.slice s no z,.i pr,.u hd,.bool hl,.bool wt] 32 (0,0))) (d:w.cell? ⟨pc,9,none⟩=some (.u y)) (B:w.frozen? ⟨pc,9,none⟩=false) (J:pc<w.heap.size) (I:∀ cx,Bw w cx->CB 71 #[.agg #[.u t,.u cm,.bool F,.slice r E u,.slice s no z,.i pr]] cx (.u D)): Calls prog 254 #[.p b 0] w λe cx=>e=.returned (.tuple #[])/\∃ o,Bw w o/\cx=o.setCell ⟨pc,9,none⟩ (.u (bits .or .u64 (bits .andNot .u64 y 2184) D)):=by
 have K:Hid (CB 71 #[.agg #[.u t,.u cm,.bool F,.slice r E u,.slice s no z,.i pr]] w.drew (.u D)):=I w.drew (Below.refl _ _).drew;have l:=aG c;have H:=aG J;have G:=aG (And.intro d B);obtain ⟨Y,Z,p2,p3,p4,p5,p6,p7,p8,p9,Q,L,S,T⟩:=be c;clear I c J;go_enter func254,ntmps254;go_wp2_with fail;go_region_with (first | (go_at_call 71;with_reducible refine K.out.mono ?_;rintro e o ⟨rfl,m⟩;have q:=aG (aa (Below.refl w.heap.size w).drew m);clear m;obtain ⟨q0,q1,q2,q3,q4,q5,q6,q7,q8,q9,U,V,W,X⟩:=be (br q.out l.out);have N:=(q.out.cell (p:=⟨pc,9,none⟩) H.out).trans G.out.1;have O:o.frozen? ⟨pc,9,none⟩=false:=(by have A:=G.out.2;have M:=q.out.block pc H.out;unfold World.frozen? at A ⊢;dsimp only at A ⊢;rw [M];exact A)));all_goals go_wp2_with fail
 all_goals refine bodyPost_end (results_none rfl _ _ _) rfl ?_
 all_goals exact ⟨rfl,o,q.out,rfl⟩
def iA (M:MV):MV:=⟨M.pc,M.x,M.pr,M.cs.set 9 (bits .or .u64 (bits .andNot .u64 (M.cs.getD 9 0) 2184) (jj M.d)),M.ram,M.d,M.hd,M.hl,M.wt⟩
theorem JX:aj (iA D) E=aj D E:=by simp [aj,iA]
theorem JY:(iA D).cs.length=D.cs.length:=by simp [iA]
theorem rj (h:nZ M.d.xs.length M.d.ys.length M.d.ir=true):iA M=cL M:=by
 have:jj M.d=dO M.d:=by unfold jj;rw [h];rfl
 unfold iA cL;rw [this]
theorem xU (t:D.cs.length=22) (hl:kV D) (A:K.heap[f]?=some (.cells (aj D E) 32 (0,0))) (u:bz j n K (aH D E)) (hb:∀ q ∈ aH D E,q.v.ownBlock≠some f): Calls prog 254 #[.p f 0] K λe b=>e=.returned (.tuple #[])/\b.heap[f]?=some (.cells (aj (iA D) E) 32 (0,0))/\bz j n b (aH (iA D) E)/\jz (aH D E) K b:=by
 have c:aK E.ac D.cs.length E.cc D.cs ∈ aH D E:=dv
 have J:=u.own _ c;have C:=u.msl;obtain ⟨g,F,a,w,H⟩:=C.cs 9 ab;have m:F=0:=by
  rcases J.2 with ⟨e,_⟩|⟨s,cap,p,e,_⟩
  ·have e2:Value.slice E.ac D.cs.length E.cc=.slice none 0 0:=e;injection e2 with e3
   rw [a] at e3;cases e3
  ·have e2:Value.slice E.ac D.cs.length E.cc=.slice (some ⟨s,0,none⟩) D.cs.length cap:=e;injection e2 with e3
   rw [a] at e3;injection e3 with e4
   injection e4
 subst m;rw [Nat.zero_add] at H;have d:(aK E.ac D.cs.length E.cc D.cs).v.ownBlock=some g:=by show (Value.slice E.ac D.cs.length E.cc).ownBlock=_;rw [a];rfl
 have x:g≠f:=λe=>hb _ c (by rw [d,e]);have v:K.frozen? ⟨g,9,none⟩=false:=by
  rcases J.2 with ⟨e,_⟩|⟨s,cap,p,e,L,B,_⟩;·have e2:Value.slice E.ac D.cs.length E.cc=.slice none 0 0:=e;rw [a] at e2;cases e2
  ·have e2:Value.slice E.ac D.cs.length E.cc=.slice (some ⟨s,0,none⟩) D.cs.length cap:=e;rw [a] at e2;injection e2 with e3
   injection e3 with e4
   injection e4 with e5
   subst e5;exact ic B 9
 have i:=A;unfold aj at i;rw [a,t] at i;refine (CH _ _ _ _ _ g _ _ _ _ _ _ _ _ _ _ _ _ _ _ _ _ _ f (D.cs.getD 9 0) (jj D.d) K i H v w (λb N=>yV D.d _ _ _ _ b hl.xs hl.ys)).mono ?_;rintro e b ⟨rfl,o,h,rfl⟩;have k:=u.below h;have z:=k.own _ c;refine ⟨rfl,?_,?_⟩;·rw [JX];exact gL (br h A) ⟨g,9,none⟩ _ (λe=>x e.symm)
 ·have y:o.grownBy (o.setCell ⟨g,9,none⟩ (.u (bits .or .u64 (bits .andNot .u64 (D.cs.getD 9 0) 2184) (jj D.d)))) (aK E.ac D.cs.length E.cc D.cs).v.ownBlock:=(by rw [d];exact yC _ _ _ _);have M:(o.setCell ⟨g,9,none⟩ (.u (bits .or .u64 (bits .andNot .u64 (D.cs.getD 9 0) 2184) (jj D.d)))).ownsRow j 22 1 (.slice E.ac D.cs.length E.cc) D.cs.length ((iA D).cs.map (Value.int .u64)):=(by have B:o.ownsRow j 22 1 (.slice E.ac D.cs.length E.cc) D.cs.length (D.cs.map (Value.int .u64)):=z;rw [a] at B ⊢;have G:=(B.stored 9 (.u (bits .or .u64 (bits .andNot .u64 (D.cs.getD 9 0) 2184) (jj D.d)))).1;rw [kv] at G;exact G);have I:=bz.markL (L1:=[aK E.ax D.x.length E.cx D.x]) (L2:=[aF E.ar D.ram.length E.cr D.ram,aF E.ai D.d.xs.length E.ci D.d.xs,aF E.ao D.d.ys.length E.co D.d.ys]) (r:=aK E.ac D.cs.length E.cc D.cs) k y _ M;refine ⟨?_,(jz.of_below h).trans I.2⟩;have l:(iA D).cs.length=D.cs.length:=(by simp [iA]);unfold aH;rw [l];exact I.1
def rk (a:Int):Nat:=min (Lib.ctz 64 (18446744073709551615-a).toNat) 53
theorem MP (b:f<18446744073709551616) (j:Nat):(bits .and .u64 ((f:Int)/2^j) 1==1)=f.testBit j:=by
 have h:=mj (f:Int) ⟨ab,ab⟩ j;have e:=cK ((f:Int)/2^j) 1 h.1 h.2 ab;have e2:((2:Int)^1-1)=1:=rfl;rw [e2] at e;rw [e,Nat.testBit_eq_decide_div_mod_eq];have e3:((f:Int)/2^j%2^1)=((f/2^j%2:Nat):Int):=cp
 rw [e3];have:f/2^j%2=0\/f/2^j%2=1:=ab
 rcases this with h|h<;>rw [h]<;>rfl
theorem JZ (c:∀ j,j<f->(bits .and .u64 (g/2^j) 1==1)=true) (d:(bits .and .u64 (g/2^f) 1==1)=false):∀ n i,i<=f->fl g n i=min (i+n) f:=by
 intro n;induction n with
 | zero=>intro i k;show i=min (i+0) f;omega
 | succ n a =>
   intro i k;unfold fl;rcases Nat.lt_or_ge i f with b|e;·rw [if_pos (c i b),a (i+1) b];omega
   ·obtain rfl:i=f:=ab;rw [if_neg (by rw [d];decide)];omega
theorem Qe (l:0<=g) (o:g<18014398509481984):rk g=fl g 53 0:=by
 obtain ⟨n,rfl⟩:∃ n:Nat,g=n:=⟨g.toNat,ab⟩
 have i:(18446744073709551615-(n:Int)).toNat=18446744073709551615-n:=ab
 unfold rk
 rw [i]
 have c:18446744073709551615-n≠0:=ab
 have f:Lib.ctz 64 (18446744073709551615-n)=Lib.ctzFrom 64 (18446744073709551615-n):=by unfold Lib.ctz;rw [if_neg c]
 obtain ⟨m,p,a⟩:=Lib.ctzFrom_spec 64 (18446744073709551615-n) ab ab
 rw [f]
 generalize Lib.ctzFrom 64 (18446744073709551615-n)=k at *
 have b:2^k*(2*m+1)<2^64:=ab
 have h:n=2^64-(2^k*(2*m+1)+1):=ab
 have d:∀ j,j<64->n.testBit j=!(decide (k<=j)&&(2*m+1).testBit (j-k)):=by
  intro j e
  rw [h,Nat.testBit_two_pow_sub_succ b,Nat.testBit_two_pow_mul,decide_eq_true e,Bool.true_and]
 rw [JZ (n:Int) k (λj e=>by rw [MP n ab,d j ab,decide_eq_false ab];rfl)
  (by rw [MP n ab,d k a,Nat.sub_self];simp) 53 0 ab]
 omega
def tO (l:List Int) (i:Nat):Int:=if (i==0)=true then 0 else Uz.wrap (4*l.getD (16+i) 0)
def rl (a:Int) (k:Nat):Int:=Uz.wrap (4*Uz.wrap (a/2^(k+1)*2^(k+1)))
def tP (a:Int) (k:Nat):Int:=Uz.wrap (rl a k+Uz.wrap (2^(k+3)))
def fh (l:List Int) (i:Nat):Int × Int :=
 if (iP (l.getD 16 0) i==1)=true then (tO l i,Uz.wrap (4*l.getD (17+i) 0))
 else if (iP (l.getD 16 0) i==2)=true then (Uz.wrap (4*l.getD (17+i) 0),Uz.wrap (Uz.wrap (4*l.getD (17+i) 0)+4))
 else if (iP (l.getD 16 0) i==3)=true then (rl (l.getD (17+i) 0) (rk (l.getD (17+i) 0)),tP (l.getD (17+i) 0) (rk (l.getD (17+i) 0)))
 else (0,0)
theorem MQ (f:0<=g) (m:g<18014398509481984) (k:Nat) (hk:k<=53):rl g k=tD g k/\Uz.wrap (tP g k-1)=yI g k/\rl g k<tP g k:=by
 have d:U g:=⟨f,ab⟩;have e:=Fq g d (k+1) ab;have n:(0:Int)<2^(k+1):=Int.pow_pos ab;have l:g/2^(k+1)*2^(k+1)<=g:=Int.ediv_mul_le _ ab;have j:0<=g/2^(k+1)*2^(k+1):=Int.mul_nonneg (mj g d (k+1)).1 ab;have a:∀ k,k<=53->(0:Int)<2^(k+3)/\(2:Int)^(k+3)<=72057594037927936:=cb
 obtain ⟨h,i⟩:=a k hk;have b:rl g k=4*(g/2^(k+1)*2^(k+1)):=by unfold rl;generalize g/2^(k+1)*2^(k+1)=z at *;rw [IntKind.wrap_u64,IntKind.wrap_u64];omega
 have c:tD g k=4*(g/2^(k+1)*2^(k+1)):=by unfold tD;rw [e];generalize g/2^(k+1)*2^(k+1)=z at *;rw [IntKind.wrap_u64];omega
 refine ⟨b.trans c.symm,?_,?_⟩;·unfold tP yI;rw [b,c]
 ·unfold tP;rw [b];generalize g/2^(k+1)*2^(k+1)=z at *;generalize (2:Int)^(k+3)=q at *;rw [IntKind.wrap_u64,IntKind.wrap_u64];omega
theorem CI (hl:∀ j,U (s.getD j 0)) (c:bo 22 s=true) (i:Nat) (g:i<4): cG s i=if (fh s i).2<=(fh s i).1 then (0,0,false) else ((fh s i).1,Uz.wrap ((fh s i).2-1),true):=by
 have f:iP (s.getD 16 0) i=iN s i:=yR s (hl 16) i g;have b:=Qa hl c (17+i) ab ab;unfold cG fh;rw [f];cases k:(iN s i==1) with
 | true =>
   simp only [if_true];have e:tO s i=jE s i:=by
    unfold tO jE;rcases Nat.eq_zero_or_pos i with h|h;·subst h;rfl
    ·have:(i==0)=false:=by simp;omega
     rw [this,if_neg bc,if_pos h,Int.mul_comm]
   rw [e,Int.mul_comm 4]
 | false =>
   simp only [Bool.false_eq_true,if_false];cases m:(iN s i==2) with
   | true =>simp only [if_true];generalize s.getD (17+i) 0=a at *;rw [Int.mul_comm a 4];simp only [IntKind.wrap_u64];rw [if_neg ab];congr 2;omega
   | false =>
     simp only [Bool.false_eq_true,if_false];cases n:(iN s i==3) with
     | true =>simp only [if_true];rw [Qe _ b.1 b.2];obtain ⟨d,e2,e3⟩:=MQ _ b.1 b.2 (fl (s.getD (17+i) 0) 53 0) (by have:=MJ (s.getD (17+i) 0) 53 0;omega);rw [if_neg ab,d,e2]
     | false =>simp only [Bool.false_eq_true,if_false];rfl
def m0 (l:List Int) (k:Nat):Option (Nat × Int × Int × Int):=if (fh l k).2<=(fh l k).1 then none else some (k,(fh l k).1,Uz.wrap ((fh l k).2-1),dg (l.getD 16 0) (8*k) 8)
def fZ (l:List Int) (k:Nat):List (Nat × Int × Int × Int):=(List.range k).filterMap (m0 l)
theorem J0 (h:(fh s l).2<=(fh s l).1):fZ s (l+1)=fZ s l:=by
 unfold fZ;rw [List.range_succ,List.filterMap_append];have:m0 s l=none:=by unfold m0;rw [if_pos h]
 simp [this]
theorem J1 (h:¬ (fh s l).2<=(fh s l).1):fZ s (l+1)=fZ s l++[(l,(fh s l).1,Uz.wrap ((fh s l).2-1),dg (s.getD 16 0) (8*l) 8)]:=by
 unfold fZ;rw [List.range_succ,List.filterMap_append];have:m0 s l=some (l,(fh s l).1,Uz.wrap ((fh s l).2-1),dg (s.getD 16 0) (8*l) 8):=by unfold m0;rw [if_neg h]
 simp [this]
theorem MR:(fZ c f).length<=f:=by unfold fZ;exact Nat.le_trans (List.length_filterMap_le _ _) cp
theorem MS:∀ d k,fZ c k <+: fZ c (k+d):=by
 intro d;induction d with
 | zero=>intro k;exact List.prefix_refl _
 | succ d a =>intro k;refine (a k).trans ?_;show fZ c (k+d) <+: fZ c (k+d+1);unfold fZ;rw [List.range_succ,List.filterMap_append];exact List.prefix_append _ _
theorem yW {q:B->Bool} {xs pre a:List B} {last:B} (h:pre <+: xs) (e:pre=a++[last]) (b:∀ p ∈ a,q p=false) (hl:q last=true):xs.find? q=some last:=by
 obtain ⟨r,rfl⟩:=h;subst e;rw [List.append_assoc,List.find?_append];have:a.find? q=none:=List.find?_eq_none.2 λp c=>by rw [b p c];decide
 rw [this];simp [hl]
theorem yX {q:B->Bool} {xs:List B} (a:∀ p ∈ xs,q p=false):xs.find? q=none:=List.find?_eq_none.2 λp b=>by rw [a p b];decide
def MT (l:List Int) (i:Int):Int × Int × Bool:=match (fZ l 4).find? (λp=>(p.1:Int)==i) with | some p=>(p.2.1,p.2.2.1,true) | none=>(0,0,false)
def jJ (x y:Int) (p:Nat × Int × Int × Int):Bool:=decide (p.2.1<=y)&&decide (x<=p.2.2.1)
def kZ (l:List Int) (x y:Int):Int × Int × Int × Bool:=match (fZ l 4).find? (jJ x y) with | some p=>(p.2.1,p.2.2.1,p.2.2.2,true) | none=>(0,0,0,false)
theorem wI (hl:∀ j,U (s.getD j 0)) (a:bo 22 s=true) (k:Nat) (hk:k<4): (m0 s k=none/\cG s k=(0,0,false))\/(∃ c b,m0 s k=some (k,c,b,db s k)/\cG s k=(c,b,true)):=by
 rw [CI hl a k hk];unfold m0;rw [Fi s (hl 16) k];by_cases h:(fh s k).2<=(fh s k).1;·rw [if_pos h,if_pos h];exact .inl ⟨rfl,rfl⟩
 ·rw [if_neg h,if_neg h];exact .inr ⟨_,_,rfl,rfl⟩
theorem Hk {p:Nat × Int × Int × Int} (h:p ∈ fZ s l):p.1<l/\m0 s p.1=some p:=by
 unfold fZ at h;obtain ⟨a,d,e⟩:=List.mem_filterMap.1 h;have b:a<l:=List.mem_range.1 d;have c:p.1=a:=by
  unfold m0 at e;split at e;·cases e
  ·rw [<- Option.some.inj e]
 rw [c];exact ⟨b,e⟩
theorem Qf (hl:∀ j,U (s.getD j 0)) (a:bo 22 s=true) (i:Int):MT s i=rZ 22 s i:=by
 unfold MT rZ LE;rw [a,Bool.true_and];cases g:(fZ s 4).find? (λp=>(p.1:Int)==i) with
 | some p =>
   have d:=Hk (List.mem_of_find?_eq_some g);have o:(p.1:Int)=i:=(by have:=List.find?_some g;simpa using this);have f:decide (0<=i/\i<=3)=true:=(by have:=d.1;simp;omega);rw [f];simp only;have n:i.toNat=p.1:=ab;rw [n];rcases wI hl a p.1 d.1 with ⟨e,_⟩|⟨k,h,e,c⟩;·rw [d.2] at e;cases e
   ·rw [d.2] at e;rw [c];have:=Option.some.inj e;rw [this]
 | none =>
   cases f:decide (0<=i/\i<=3) with
   | false=>rfl
   | true =>
     have m:0<=i/\i<=3:=i3;simp only;rcases wI hl a i.toNat ab with ⟨_,c⟩|⟨k,h,e,c⟩;·rw [c]
     ·have b:((i.toNat,k,h,db s i.toNat):Nat × Int × Int × Int) ∈ fZ s 4:=List.mem_filterMap.2 ⟨i.toNat,List.mem_range.2 ab,e⟩;have:=List.find?_eq_none.1 g _ b;exfalso;apply this;simp;omega
theorem Fw {x y:Int} (c:cG s l=(b,k,true)):pT (cG s l) x y=!jJ x y (l,b,k,db s l):=by
 rw [c];unfold pT jJ;simp only [Bool.not_true,Bool.false_or,Bool.not_and];congr 1;·rw [<- decide_not];congr 1;exact propext ⟨λh=>ab,λh=>ab⟩
 ·rw [<- decide_not];congr 1;exact propext ⟨λh=>ab,λh=>ab⟩
def U7 (p x y kind:Int):Option (Nat × Int × Int × Int)->Bool
 | none=>(p==3)
 | some q=>!(decide (x<q.2.1)||decide (q.2.2.1<y))&&vL q.2.2.2 p kind
theorem J2 (hl:∀ j,U (s.getD j 0)) (b:bo 22 s=true) (p x y kind:Int):∀ n k,k+n<=4->ay s p x y kind n k=U7 p x y kind (((List.range' k n).filterMap (m0 s)).find? (jJ x y)):=by
 intro n;induction n with
 | zero=>intro k f;rfl
 | succ n c =>
   intro k f;rw [ay,List.range'_succ,List.filterMap_cons];rcases wI hl b k ab with ⟨e,a⟩|⟨h,d,e,a⟩;·rw [e,c (k+1) ab];have g:pT (cG s k) x y=true:=(by rw [a];rfl);rw [g,if_pos rfl]
   ·rw [e,Fw a];simp only [List.find?_cons];cases i:jJ x y (k,h,d,db s k) with
    | false =>rw [c (k+1) ab];rfl
    | true =>rw [a];rfl
theorem U8:∀ z:Nat,z<256->(bits .and .u64 (z:Int) 128==0)=((z:Int)/128==0)/\(bits .and .u64 (z:Int) 128 != 0)=((z:Int)/128==1)/\(bits .and .u64 (z:Int) 4 != 0)=(bits .and .u64 ((z:Int)/4) 1==1)/\(bits .and .u64 (z:Int) 1 != 0)=(bits .and .u64 (z:Int) 1==1) /\
 (bits .and .u64 (z:Int) 2 != 0)=(bits .and .u64 ((z:Int)/2) 1==1)/\(bits .and .u64 (z:Int) 2==0)=(bits .and .u64 ((z:Int)/2) 1==0):=cb
theorem j7:bz f j K (aH aq zeroA):=by
 refine ⟨λr a=>?_,λr a k e=>?_,?_⟩;·simp only [aH,List.mem_cons,List.not_mem_nil,or_false] at a;rcases a with rfl | rfl | rfl | rfl | rfl<;>exact ⟨rfl,.inl ⟨rfl,rfl⟩⟩
 ·simp only [aH,List.mem_cons,List.not_mem_nil,or_false] at a;rcases a with rfl|rfl|rfl|rfl|rfl<;>cases e
 ·simp only [aH,List.pairwise_cons,List.mem_cons,List.not_mem_nil,or_false];refine ⟨λs _ k e=>?_,λs _ k e=>?_,λs _ k e=>?_,λs _ k e=>?_,λs h=>h.elim,List.Pairwise.nil⟩<;>cases e
theorem Qg {cs:Array Value} {t:TypeId} (b2:Option Addr) (c:Nat) (hr:p.heap[l]?=some (.cells cs t (0,0))) (hn:cs.size=14): (do Instr.storeAt 30 (.p l 5) (.agg #[.u m.t,.u m.cm,.bool m.so,.slice R m.xs.length f,.slice b2 m.ys.length c,.i m.ir]);pure Next.skip:Sem Next).run prog p=.ok .skip (GW p l m R f b2 c):=by
 have h:=run_storeCells_cells (P:=prog) l 5 [.u m.t,.u m.cm,.bool m.so,.slice R m.xs.length f,.slice b2 m.ys.length c,.i m.ir] 0 p (λj g=>by simp only [List.length_cons,List.length_nil] at g;simp [World.cell?,hr,hn];omega) (λj _=>ic hr _) (λv d=>by
  simp only [List.mem_cons,List.not_mem_nil,or_false] at d
  rcases d with rfl|rfl|rfl|rfl|rfl|rfl<;>rfl)
 have e:(prog.info? 30).map (·.size)=some 6:=ba
 obtain ⟨i,b,k⟩:=Option.map_eq_some_iff.1 e
 simp [Instr.storeAt,Instr.sureAddr,storeVar,sizeOf,typeInfo,b,k,Value.cells,h,Result.andThen]
 rfl
def Tw (k:Int) (M M1:MV) (b cd a c is hit:Bool) (d f e:Int) (R:List Int) (D:DV):Int × MV × Int :=
 if b=true then (0,M,oL k) else if cd=true then (0,M1,wrap64 (d+16)) else if a=true then (0,M1,hH k)
 else if c=true then (if (k==3)=true then (0,if hit=true then lL (bP M1 R) else bP M1 R,0) else (f,M1,0))
 else if (k==2)=true then (if is=true then (e,cL (dc M1 D),0) else (0,M1,hH k))
 else if (k==3)=true then (if is=true then (0,if hit=true then lL (cL (dc M1 D)) else cL (dc M1 D),0) else (0,M1,hH k))
 else (0,M1,hH k)
def VD (N:MV):MV:=⟨N.pc,N.x,N.pr,N.cs,N.ram,N.d,N.hd,false,N.wt⟩
theorem Tx (R:List Int) (M:DV):Tw 3 D t false false false false true d g y C R M=(0,if d=true then lL (cL (dc t M)) else cL (dc t M),0):=rfl
theorem Qh (b:Int) (R:List Int) (M:DV):Tw 3 D t false false false true d z C F b R M=(0,if z=true then lL (bP t R) else bP t R,0):=rfl
theorem wJ:(D.hl=false/\lM D g=false)\/(D.hl=true/\(bits .andNot .u64 D.hd 7==bits .andNot .u64 g 7)=false/\lM D g=false)\/D.hl=true/\(bits .andNot .u64 D.hd 7==bits .andNot .u64 g 7)=true/\lM D g=true:=by unfold lM;cases D.hl<;>cases (bits .andNot .u64 D.hd 7==bits .andNot .u64 g 7)<;>simp
theorem Fx {M1:MV} (k addr size B w u K:Int) (wr L q hit:Bool) (yl yd:Int) (R:List Int) (D:DV) (is:Bool) (hk:k=1\/k=2\/k=3) (hm:Mp l x r a p) (hs1:1<=size) (hs8:size<=8) (ha:U addr) (hL:∀ w',Mp l x r a w'->Calls prog 114 #[.p x 0,.slice none 0 0,.u addr,.i k] w' λe M=>e=.returned (.tuple #[.u u,.i K])/\Mp l x M1 a M/\Kx x (aH r a) (aH M1 a) w' M) (C:decide (Uz.wrap (Uz.wrap (u+size)-1)<u)=wr) (Y:∀ w',Mp l x M1 a w'->CE 116 #[.slice a.ac M1.cs.length a.cc,.i M1.pr,.i k] w' (.i w)) (Z:∀ w',Mp l x M1 a w'->CE 115 #[.slice a.ac M1.cs.length a.cc,.i w,.u u,.i size,.i k] w' (.bool L)) (hI:∀ w',Mp l x M1 a w'->CE 117 #[.slice a.ar M1.ram.length a.cr,.u u,.i size] w' (.bool q)) (hD:q=true->∀ w',Mp l x M1 a w'->CE 118 #[.slice a.ar M1.ram.length a.cr,.u u,.i size] w' (.u yl)) (hp:q=true->∀ w',Mp l x M1 a w'->Calls prog 119 #[.slice a.ar M1.ram.length a.cr,.u u,.i size,.u B] w' λe M=>e=.returned (.tuple #[])/\Mp l x (bP M1 R) a M/\Kx x (aH M1 a) (aH (bP M1 R) a) w' M) (h8:k=2->∀ w',Mp l x M1 a w'->Calls prog 120 #[.agg #[.u M1.d.t,.u M1.d.cm,.bool M1.d.so,.slice a.ai M1.d.xs.length a.ci,.slice a.ao M1.d.ys.length a.co,.i M1.d.ir],.u u,.i size] w' λe M=>∃ (b:Option Addr) (d:Nat) (c:Option Addr) (f:Nat),e=.returned (.tuple #[.u yd,.agg #[.u D.t,.u D.cm,.bool D.so,.slice b D.xs.length d,.slice c D.ys.length f,.i D.ir],.bool is])/\fJ w' M a.ai a.ci M1.d.xs a.ao a.co M1.d.ys b d D.xs c f D.ys/\Bw w' M) (h9:k=3->∀ w',Mp l x M1 a w'->Calls prog 122 #[.agg #[.u M1.d.t,.u M1.d.cm,.bool M1.d.so,.slice a.ai M1.d.xs.length a.ci,.slice a.ao M1.d.ys.length a.co,.i M1.d.ir],.u u,.i size,.u B] w' λe M=>∃ (b:Option Addr) (d:Nat) (c:Option Addr) (f:Nat),e=.returned (.tuple #[.agg #[.u D.t,.u D.cm,.bool D.so,.slice b D.xs.length d,.slice c D.ys.length f,.i D.ir],.bool is])/\fJ w' M a.ai a.ci M1.d.xs a.ao a.co M1.d.ys b d D.xs c f D.ys/\Bw w' M) (hN:∀ (J:MA) w',Mp l x (dc M1 D) J w'->Calls prog 121 #[.p x 0] w' λe M=>e=.returned (.tuple #[])/\Mp l x (cL (dc M1 D)) J M/\Kx x (aH (dc M1 D) J) (aH (cL (dc M1 D)) J) w' M) (V:Int × MV × Int) (hit1:q=true->hit=lM (bP M1 R) u) (hit0:q=false->hit=lM (cL (dc M1 D)) u) (A:V=Tw k r M1 (addr%size != 0) (K != 0) (wr||!L) q is hit K yl yd R D):
 Calls prog 76 #[.p x 0,.slice none 0 0,.u addr,.i size,.i k,.u B] p λe w'=>e=.returned (.tuple #[.u V.1,.i V.2.2])/\∃ J,Mp l x V.2.1 J w'/\Kx x (aH r a) (aH V.2.1 J) p w':=by
 have o:Uz.wrap size=size:=by rw [IntKind.wrap_u64];omega
 have H:(addr.tmod size != 0)=(addr%size != 0):=by rw [Int.tmod_eq_emod_of_nonneg ha.1]
 refine bD (S:=Hs x [] (aj r a)) (args:=[.p x 0,.slice none 0 0,.u addr,.i size,.i k,.u B]) [] func76 ?_
 refine aN 0 1 ?_
 have H0:Hx l x [] r a p r a p:=⟨hm,Kx.refl _ _ _,λ_ h=>l7⟩
 have f16:IntKind.i64.wrap (K+16)=wrap64 (K+16):=by rw [IntKind.wrap_i64];unfold wrap64;omega
 cases N:(addr%size != 0)
 case true =>
  rw [N] at A H
  refine ae (Hs.eng (dr:=false) (λ_ h=>h.hs)) {eq:=[(24,dP .u64 o),(26,ak H)],ov:=[(25,Pb .u64 addr size ab)]} 60 H0 λW hW=>?_
  refine lJ 0 ?_
  refine ae (Hs.eng (dr:=true) (λ_ h=>h.hs)) {} 9 (hW.below (Below.refl _ _).drew) λI h1=>?_
  refine dM 0 (s:=do pure (.value (<- Instr.buildSlice 39 4 #[(0,.i 0),(1,.i 16),(2,.i 20),(3,.i 22)]))) (v:=.slice (some ⟨I.heap.size,0,none⟩) 4 4) (w':=I.alloc (.cells #[.i 0,.i 16,.i 20,.i 22] 2)) ba ?_
  have O:=h1.var (bal _ _) ⟨I.heap.size,#[.i 0,.i 16,.i 20,.i 22],2,[]⟩ (heap_alloc_new _ _) (Nat.le_refl _)
  refine aJ (Hs x [⟨I.heap.size,#[.i 0,.i 16,.i 20,.i 22],2,[]⟩] (aj r a)) (UP ?_)
  have n:∀ X,Hs x [⟨I.heap.size,#[.i 0,.i 16,.i 20,.i 22],2,[]⟩] (aj r a) X->X.cell? ⟨I.heap.size,0+k.toNat,none⟩=some (.i (oL k)):=λX hX=>by
   rcases hk with rfl|rfl|rfl<;>exact (cell_of_row _ _ _ _ _ _ (hX.2 ⟨I.heap.size,#[.i 0,.i 16,.i 20,.i 22],2,[]⟩ cp)).trans rfl
  obtain rfl | rfl | rfl:=hk<;>subst A<;>exact eY (t:=12) (s:=13) (Hs.eng (dr:=true) (λ_ h=>h.hs)) {ov:=[(30,je _ _ underlying2 rfl n)]} 60 O (λy h=>⟨rfl,a,h.mp,h.kx⟩)
 rw [N] at A H
 refine aW (Hs.eng (dr:=true) (λ_ h=>h.hs)) {eq:=[(24,dP .u64 o),(26,ak H)],ov:=[(25,Pb .u64 addr size ab)]} 60 H0 (λW h=>hL W h.mp) ?_
 rintro I e W2 h1 ⟨rfl,p2,k2⟩
 have O:=h1.step p2 k2
 refine ⟨_,0,rfl,gE ba,aJ (Hs x [] (aj M1 a)) ?_⟩
 cases cd:(K != 0)
 case true =>
  rw [cd] at A
  subst A
  exact eY (t:=12) (s:=13) (Hs.eng (dr:=true) (λ_ h=>h.hs)) {eq:=[(40,ak cd),(42,dP .i64 f16)]} 60 O (λy h=>⟨rfl,a,h.mp,h.kx⟩)
 rw [cd] at A
 refine ae (Hs.eng (dr:=true) (λ_ h=>h.hs)) {eq:=[(40,ak cd)]} 60 O λj h3=>?_
 refine dM 0 (s:=do pure (.value (<- Instr.buildSlice 39 4 #[(0,.i 0),(1,.i 17),(2,.i 21),(3,.i 23)]))) (v:=.slice (some ⟨j.heap.size,0,none⟩) 4 4) (w':=j.alloc (.cells #[.i 0,.i 17,.i 21,.i 23] 2)) ba ?_
 have P:=h3.var (bal _ _) ⟨j.heap.size,#[.i 0,.i 17,.i 21,.i 23],2,[]⟩ (heap_alloc_new _ _) (Nat.le_refl _)
 refine aJ (Hs x [⟨j.heap.size,#[.i 0,.i 17,.i 21,.i 23],2,[]⟩] (aj M1 a)) ?_
 have n:∀ X,Hs x [⟨j.heap.size,#[.i 0,.i 17,.i 21,.i 23],2,[]⟩] (aj M1 a) X->X.cell? ⟨j.heap.size,0+k.toNat,none⟩=some (.i (hH k)):=λX hX=>by
  rcases hk with rfl|rfl|rfl<;>exact (cell_of_row _ _ _ _ _ _ (hX.2 ⟨j.heap.size,#[.i 0,.i 17,.i 21,.i 23],2,[]⟩ cp)).trans rfl
 clear hm hL O H0
 cases m:(wr||!L)
 case true =>
  rw [m] at A
  subst A
  cases wr<;>cases L<;>first | (exact absurd m bc) | skip
  all_goals obtain rfl | rfl | rfl:=hk<;>exact eY (t:=12) (s:=13) (Hs.eng (dr:=true) (λ_ h=>h.hs)) {ov:=[(46,je _ _ underlying2 rfl n)],eq:=[(49,dP .u64 o),(53,ak C)],cv:=[(68,kj λW h=>Y W h.mp),(72,kj λW h=>Z W h.mp)]} 99 P (λy h=>⟨rfl,a,h.mp,h.kx⟩)
 obtain rfl:wr=false:=by cases wr;rfl;cases m
 obtain rfl:L=true:=by cases L;cases m;rfl
 rw [m] at A
 cases q
 case true =>
  have hD:=hD rfl
  have hp:=hp rfl
  obtain rfl|rfl|rfl:=hk
  case inr.inr =>
   refine aW (Hs.eng (dr:=true) (λ_ h=>h.hs)) {ov:=[(46,je _ _ underlying2 rfl n)],eq:=[(49,dP .u64 o),(53,ak C)],cv:=[(68,kj λW h=>Y W h.mp),(72,kj λW h=>Z W h.mp),(82,kj λW h=>hI W h.mp)]} 99 P (λW h=>hp W h.mp) ?_
   rintro W5 e E Q ⟨rfl,p6,k6⟩
   have h6:=Q.step p6 k6
   refine ⟨_,0,rfl,gE ba,aJ (Hs x [⟨j.heap.size,#[.i 0,.i 17,.i 21,.i 23],2,[]⟩] (aj (bP M1 R) a)) ?_⟩
   rw [Qh] at A
   obtain rfl:=hit1 rfl
   subst A
   obtain ⟨m,e⟩|⟨m,hq,e⟩|⟨m,hq,e⟩:=wJ (bP M1 R) u
   case inl=>rw [e];exact eY (t:=12) (s:=13) (Hs.eng (dr:=true) (λ_ h=>h.hs)) {eq:=[(103,ak m)]} 99 h6 (λy h=>⟨rfl,a,h.mp,h.kx⟩)
   case inr.inl=>rw [e];exact eY (t:=12) (s:=13) (Hs.eng (dr:=true) (λ_ h=>h.hs)) {eq:=[(103,ak m),(112,ak hq)]} 99 h6 (λy h=>⟨rfl,a,h.mp,h.kx⟩)
   rw [e]
   refine ae (Hs.eng (dr:=true) (λ_ h=>h.hs)) {eq:=[(103,ak m),(112,ak hq)]} 99 h6 λY1 y1=>?_
   refine bM (bJ (i:=12) (T:=4) (v:=.bool false) y1.mp.row nn ba rfl) ?_
   have y2:=y1.fld (M':=VD (bP M1 R)) 12 (.bool false) rfl rfl
   refine aJ (Hs x [⟨j.heap.size,#[.i 0,.i 17,.i 21,.i 23],2,[]⟩] (aj (VD (bP M1 R)) a)) ?_
   refine ae (Hs.eng (dr:=true) (λ_ h=>h.hs)) {} 99 y2 λY3 y3=>?_
   refine bM (bJ (i:=11) (T:=22) (v:=.u 0) y3.mp.row nn ba rfl) ?_
   have y4:=y3.fld (M':=lL (bP M1 R)) 11 (.u 0) rfl rfl
   refine aJ (Hs x [⟨j.heap.size,#[.i 0,.i 17,.i 21,.i 23],2,[]⟩] (aj (lL (bP M1 R)) a)) ?_
   exact eY (t:=12) (s:=13) (Hs.eng (dr:=true) (λ_ h=>h.hs)) {} 99 y4 (λy h=>⟨rfl,a,h.mp,h.kx⟩)
  all_goals
   subst A
   exact eY (t:=12) (s:=13) (Hs.eng (dr:=true) (λ_ h=>h.hs)) {ov:=[(46,je _ _ underlying2 rfl n)],eq:=[(49,dP .u64 o),(53,ak C)],cv:=[(68,kj λW h=>Y W h.mp),(72,kj λW h=>Z W h.mp),(82,kj λW h=>hI W h.mp),(91,kj λW h=>hD W h.mp)]} 99 P (λy h=>⟨rfl,a,h.mp,h.kx⟩)
 obtain rfl|rfl|rfl:=hk
 case inl =>
  subst A
  exact eY (t:=12) (s:=13) (Hs.eng (dr:=true) (λ_ h=>h.hs)) {ov:=[(46,je _ _ underlying2 rfl n)],eq:=[(49,dP .u64 o),(53,ak C)],cv:=[(68,kj λW h=>Y W h.mp),(72,kj λW h=>Z W h.mp),(82,kj λW h=>hI W h.mp)]} 99 P (λy h=>⟨rfl,a,h.mp,h.kx⟩)
 all_goals
  refine aW (Hs.eng (dr:=true) (λ_ h=>h.hs)) {ov:=[(46,je _ _ underlying2 rfl n)],eq:=[(49,dP .u64 o),(53,ak C)],cv:=[(68,kj λW h=>Y W h.mp),(72,kj λW h=>Z W h.mp),(82,kj λW h=>hI W h.mp)]} 99 P (λW h=>by first | exact h8 rfl W h.mp | exact h9 rfl W h.mp) ?_
  rintro W5 e E Q ⟨b,d,c,f,rfl,rn,b6⟩
  refine ⟨_,0,rfl,gE ba,?_⟩
  refine kz (R:=[]) trivial {} 9 3 (dQ (T:=30) (z:=.agg (gh zeroD none 0 none 0)) ba E) ?_
  refine ct (R:=[]) trivial {} 9 (aD (g:=E.heap.size) (t:=30) (ty:=30) (cells:=#[.u D.t,.u D.cm,.bool D.so,.slice b D.xs.length d,.slice c D.ys.length f,.i D.ir]) (heap_alloc_new _ _) ba ba (fM D b d c f)) ?_
  have b7:=aS (bal E (.cells (Value.agg (gh zeroD none 0 none 0)).cells 30)) (Nat.le_refl _) #[.u D.t,.u D.cm,.bool D.so,.slice b D.xs.length d,.slice c D.ys.length f,.i D.ir]
  have q7:=setRow_heap _ _ _ #[.u D.t,.u D.cm,.bool D.so,.slice b D.xs.length d,.slice c D.ys.length f,.i D.ir] _ _ (heap_alloc_new E (.cells (Value.agg (gh zeroD none 0 none 0)).cells 30))
  have rn7:=rn.below b7
  have b8:=aa b6 b7
  have G:=(Q.below b6).var b7 ⟨E.heap.size,#[.u D.t,.u D.cm,.bool D.so,.slice b D.xs.length d,.slice c D.ys.length f,.i D.ir],30,[]⟩ q7 (Nat.le_refl _)
  generalize (E.alloc (.cells (Value.agg (gh zeroD none 0 none 0)).cells 30)).setRow E.heap.size #[.u D.t,.u D.cm,.bool D.so,.slice b D.xs.length d,.slice c D.ys.length f,.i D.ir]=W8 at *
  cases is
  case false =>
   subst A
   refine aJ (Hs x [⟨j.heap.size,#[.i 0,.i 17,.i 21,.i 23],2,[]⟩,⟨E.heap.size,#[.u D.t,.u D.cm,.bool D.so,.slice b D.xs.length d,.slice c D.ys.length f,.i D.ir],30,[]⟩] (aj M1 a)) ?_
   exact eY (t:=12) (s:=13) (Hs.eng (dr:=true) (λ_ h=>h.hs)) {} 99 G (λy h=>⟨rfl,a,h.mp,h.kx⟩)
  refine ct (R:=[⟨x,aj M1 a,[]⟩,⟨j.heap.size,#[.i 0,.i 17,.i 21,.i 23],[]⟩,⟨E.heap.size,#[.u D.t,.u D.cm,.bool D.so,.slice b D.xs.length d,.slice c D.ys.length f,.i D.ir],[]⟩]) ⟨⟨_,_,G.mp.row⟩,⟨_,_,(G.rows ⟨j.heap.size,#[.i 0,.i 17,.i 21,.i 23],2,[]⟩ cp).1⟩,⟨_,_,q7⟩,trivial⟩ {} 60 (Qg D b d c f G.mp.row nn) ?_
  obtain ⟨pD,kD⟩:=Q.mp.dev b8 D rn7
  refine aJ (Hs x [⟨j.heap.size,#[.i 0,.i 17,.i 21,.i 23],2,[]⟩] (aj (dc M1 D) (kC a b d c f))) (aW (Hs.eng (dr:=true) (λ_ h=>h.hs)) {} 60 (Q.step pD kD) (λW h=>hN _ W h.mp) ?_)
  rintro W10 e W11 h10 ⟨rfl,p11,k11⟩
  have F:=h10.step p11 k11
  refine ⟨_,0,rfl,gE ba,aJ (Hs x [⟨j.heap.size,#[.i 0,.i 17,.i 21,.i 23],2,[]⟩] (aj (cL (dc M1 D)) (kC a b d c f))) ?_⟩
 ·obtain rfl:V=(yd,cL (dc M1 D),0):=A
  exact eY (t:=12) (s:=13) (Hs.eng (dr:=true) (λ_ h=>h.hs)) {} 99 F (λy h=>⟨rfl,_,h.mp,h.kx⟩)
 rw [Tx] at A
 obtain rfl:=hit0 rfl
 subst A
 obtain ⟨m,e⟩|⟨m,hq,e⟩|⟨m,hq,e⟩:=wJ (cL (dc M1 D)) u
 case inl=>rw [e];exact eY (t:=12) (s:=13) (Hs.eng (dr:=true) (λ_ h=>h.hs)) {eq:=[(169,ak m)]} 99 F (λy h=>⟨rfl,(kC a b d c f),h.mp,h.kx⟩)
 case inr.inl=>rw [e];exact eY (t:=12) (s:=13) (Hs.eng (dr:=true) (λ_ h=>h.hs)) {eq:=[(169,ak m),(178,ak hq)]} 99 F (λy h=>⟨rfl,(kC a b d c f),h.mp,h.kx⟩)
 rw [e]
 refine ae (Hs.eng (dr:=true) (λ_ h=>h.hs)) {eq:=[(169,ak m),(178,ak hq)]} 99 F λY1 y1=>?_
 refine bM (bJ (i:=12) (T:=4) (v:=.bool false) y1.mp.row nn ba rfl) ?_
 have y2:=y1.fld (M':=VD (cL (dc M1 D))) 12 (.bool false) rfl rfl
 refine aJ (Hs x [⟨j.heap.size,#[.i 0,.i 17,.i 21,.i 23],2,[]⟩] (aj (VD (cL (dc M1 D))) (kC a b d c f))) ?_
 refine ae (Hs.eng (dr:=true) (λ_ h=>h.hs)) {} 99 y2 λY3 y3=>?_
 refine bM (bJ (i:=11) (T:=22) (v:=.u 0) y3.mp.row nn ba rfl) ?_
 have y4:=y3.fld (M':=lL (cL (dc M1 D))) 11 (.u 0) rfl rfl
 refine aJ (Hs x [⟨j.heap.size,#[.i 0,.i 17,.i 21,.i 23],2,[]⟩] (aj (lL (cL (dc M1 D))) (kC a b d c f))) ?_
 exact eY (t:=12) (s:=13) (Hs.eng (dr:=true) (λ_ h=>h.hs)) {} 99 y4 (λy h=>⟨rfl,(kC a b d c f),h.mp,h.kx⟩)
theorem MU (va kind w fm f m B:Int) (hm:Mp l x r a p) (L:∀ c,Mp l x r a c->CE 116 #[.slice a.ac r.cs.length a.cc,.i r.pr,.i kind] c (.i w)) (I:∀ c,Mp l x r a c->CB 177 #[.slice a.ar r.ram.length a.cr,.slice a.ac r.cs.length a.cc,.i w,.u va,.i kind] c (.agg #[.u fm,.i f,.bool d,.u m,.u B])) (N:d=true->∀ c,Mp l x r a c->Calls prog 119 #[.slice a.ar r.ram.length a.cr,.u m,.i 8,.u B] c λe k=>e=.returned (.tuple #[])/\Mp l x D a k/\Kx x (aH r a) (aH D a) c k) (K:d=false->D=r) (M2:aj D a=aj r a): Calls prog 114 #[.p x 0,.slice none 0 0,.u va,.i kind] p λe c=>e=.returned (.tuple #[.u fm,.i f])/\Mp l x D a c/\Kx x (aH r a) (aH D a) p c:=by
 have fin:∀ (S:World->Prop) (b:Nat) (W:World),Hx l x [⟨b,#[.u fm,.i f,.bool d,.u m,.u B],215,[]⟩] r a p r a W->Wg prog S (bodyPost prog Tryz.f114 λe c=>e=.returned (.tuple #[.u fm,.i f])/\Mp l x D a c/\Kx x (aH r a) (aH D a) p c) Tryz.f114.ntmps [.code (aw 5 (aM Tryz.f114))] [(0,.p x 0,1),(11,.bool false,0),(13,.p b 0,2)] W:=λS b W h=>by
  refine aJ (Hs x [⟨b,#[.u fm,.i f,.bool d,.u m,.u B],215,[]⟩] (aj r a)) ?_;cases d with
  | false =>obtain rfl:=K rfl;exact lE (Hs.eng (dr:=true) (λ_ h=>h.hs)) {} 99 h λo A h C=>⟨.tuple #[.u fm,.i f],lr,rfl,h.mp,h.kx⟩
  | true =>refine aW (Hs.eng (dr:=true) (λ_ h=>h.hs)) {} 99 h (λW h=>N rfl W h.mp) ?_;rintro V e X q ⟨rfl,U,R⟩;have H:=q.step U R;refine ⟨_,0,rfl,λ_=>M2 ▸ H.hs,?_⟩;exact lE (Hs.eng (dr:=true) (λ_ h=>M2 ▸ h.hs)) {} 99 H λo A h C=>⟨.tuple #[.u fm,.i f],lr,rfl,h.mp,h.kx⟩
 have var:∀ (W o:World) (b:Nat),Hx l x [] r a p r a W->Bw W o->W.heap.size<=b->o.heap[b]?=some (.cells #[.u fm,.i f,.bool d,.u m,.u B] 215 (0,0))->Hx l x [⟨b,#[.u fm,.i f,.bool d,.u m,.u B],215,[]⟩] r a p r a o:=λW o b h O P Q=>h.var O _ Q P;refine bD (S:=Hx l x [] r a p r a) (args:=[.p x 0,.slice none 0 0,.u va,.i kind]) [] func114 ?_;refine aN 0 1 ?_;refine ae (Hx.eng (dr:=true)) {cv:=[(23,kj λW h=>L W h.mp)]} 99 (⟨hm,Kx.refl _ _ _,λ_ h=>l7⟩:Hx l x [] r a p r a p) λs n=>?_;refine oI (i:=11) (j:=12) ?_ ?_;·refine nE (I s n.mp) λe F E=>?_;obtain ⟨rfl,u⟩:=E;have q:=n.below u;refine ⟨_,0,rfl,q,?_⟩;have M:=bal F (.cells ju 215);refine dM 2 (dQ (T:=215) (z:=.agg ju) ba F) (hS:=λ_=>q.below M) ?_;have y:=aS M (Nat.le_refl _) #[.u fm,.i f,.bool d,.u m,.u B];refine bM (aD (g:=F.heap.size) (t:=215) (ty:=215) (old:=ju) (cells:=#[.u fm,.i f,.bool d,.u m,.u B]) (heap_alloc_new _ _) ba rfl ba) (hS:=λ_=>q.below y) ?_;refine ae (Hx.engL (dr:=true) (λ_ h=>l7)) {} 1 (var _ _ _ q y (Nat.le_refl _) (setRow_heap _ _ _ _ _ _ (heap_alloc_new _ _))) λW h=>?_;exact af _ _ (fin _ _ _ h)
 ·have u:=bal s (.cells ju 215);refine qL 2 (dQ (T:=215) (z:=.agg ju) ba s) (n.below u) ?_;refine jy (I _ (n.below u).mp) λe Y E=>?_;obtain ⟨rfl,M⟩:=E;have y:=aa u M;refine ⟨_,0,rfl,λ_=>n.below y,?_⟩;have J:=br M (heap_alloc_new s (.cells ju 215));have G:=aS y (Nat.le_refl _) #[.u fm,.i f,.bool d,.u m,.u B];refine bM (aD (g:=s.heap.size) (t:=215) (ty:=215) (old:=ju) (cells:=#[.u fm,.i f,.bool d,.u m,.u B]) J ba rfl ba) (hS:=λ_=>n.below G) ?_;refine ae (Hx.engL (dr:=true) (λ_ h=>l7)) {} 1 (var _ _ _ n G (Nat.le_refl _) (setRow_heap _ _ _ _ _ _ J)) λW h=>?_;exact af _ _ (fin _ _ _ h)
theorem Sh (a:M.cs.length=22) (hs:Sl .u64 w A.ac M.cs) (kind:Int):CE 116 #[.slice A.ac M.cs.length A.cc,.i M.pr,.i kind] w (.i (fO M.cs M.pr kind)):=by obtain ⟨b,c,e,_,d⟩:=hs 0 ab;rw [e,a];exact um b c A.cc M.cs M.pr kind w d
theorem Ty (a:M.cs.length=22) (hr:bf M.ram.length=true) (hs:pn w M A) (j:MW M) (p va kind:Int) (i:cg p=true) (d:1<=kind) (f:kind<=3) (g:U va):CB 177 #[.slice A.ar M.ram.length A.cr,.slice A.ac M.cs.length A.cc,.i p,.u va,.i kind] w (.agg (bN M.ram M.ram.length M.cs p va kind).cells):=by obtain ⟨b,h,e,_,_⟩:=hs.cs 0 ab;have c:=hs.cs;rw [e] at c;rw [e,a];exact EZ A.ar M.ram.length A.cr M.ram b h A.cc M.cs p va kind w hr rfl hs.ram j.ram a c i d f g
theorem Aq (hm:Mp f j D E K) (hl:kV D) (o:MW D) (r:dU D=true) (g:1<=F) (i:F<=3) (l:U C) (kind:Fd) (hF:bN D.ram D.ram.length D.cs (fO D.cs D.pr F) C F=kind): Calls prog 114 #[.p j 0,.slice none 0 0,.u C,.i F] K λe a=>e=.returned (.tuple #[.u kind.addr,.i kind.code])/\Mp f j (bP D (bp D.ram kind)) E a/\Kx j (aH D E) (aH (bP D (bp D.ram kind)) E) K a:=by obtain ⟨b,B,k,v,M,va⟩:=aC r;have u:=wH (o.cs 0) B k F;have t:=λa (h:Mp f j D E a)=>Sh (M:=D) (A:=E) (w:=a) b h.fam.msl.cs F;have n:=λa (h:Mp f j D E a)=>Ty (M:=D) (A:=E) (w:=a) b v h.fam.msl o (fO D.cs D.pr F) C F u g i l;have c:=JE D.ram D.ram.length D.cs (fO D.cs D.pr F) C F;rw [hF] at c;simp only [hF] at n;obtain ⟨p,q,s,m,d⟩:=kind;refine MU _ s C F _ p q m d hm t n (λe=>?_) (λe=>by rw [e];rfl) (by unfold aj bP;dsimp only;rw [kB]);obtain ⟨x,y⟩:=c e;have z:0<=d/\d<18446744073709551616:=y;subst e;exact λa h=>vV D E f j m 8 d a hl.ram x z.1 ab h
theorem TA (A:M.cs.length=22) (hs:Sl .u64 p a.ac M.cs) (w x s kind:Int):CE 115 #[.slice a.ac M.cs.length a.cc,.i w,.u x,.i s,.i kind] p (.bool (ay M.cs w x (aU x s) kind 4 0)):=by rw [A];exact mB a.ac a.cc M.cs w x s kind p A hs
theorem TB (hs:Sl .u8 p a.ar M.ram) (hl:M.ram.length<=1048576) (h:∀ y ∈ M.ram,(Lit.int .u8 y).wf=true) (A:gi M.ram.length b k=true):CE 118 #[.slice a.ar M.ram.length a.cr,.u b,.i k] p (.u (le M.ram (b-2147483648).toNat k.toNat)):=by
 have j:=iR A;obtain ⟨f,d⟩:∃ f:Nat,f=(b-2147483648).toNat:=⟨_,rfl⟩;obtain ⟨m,g⟩:∃ m:Nat,m=k.toNat:=⟨_,rfl⟩;have addr:b=2147483648+(f:Int):=ab
 have c:k=(m:Int):=ab
 rw [<- d,<- g,addr,c];exact vi a.ar M.ram.length a.cr f m M.ram p rfl hl hs h ab ab ab
theorem Hm (h:bz l x p (aH M a)):bz l x p (gj a.ai M.d.xs.length a.ci M.d.xs a.ao M.d.ys.length a.co M.d.ys):=h.sub (.cons _ (.cons _ (.cons _ (List.Sublist.refl _))))
theorem MX (h:m.xs.length<=1048576) (a:m.ys.length<=1048576):(jw m f).2.1.xs.length<=1048576/\(jw m f).2.1.ys.length<=1048576:=by have:=PA m f;omega
theorem gc (kind x:Int) (w:World) (hm:Mp f j D E w) (hl:kV D) (o:MW D) (r:dU D=true) (m:jp F=true) (u:1<=kind) (v:kind<=3) (q:U C) (hx:U x): Calls prog 76 #[.p j 0,.slice none 0 0,.u C,.i F,.i kind,.u x] w λe a=>e=.returned (.tuple #[.u (aE D C F kind x).1,.i (aE D C F kind x).2.2])/\∃ n,Mp f j (aE D C F kind x).2.1 n a/\Kx j (aH D E) (aH (aE D C F kind x).2.1 n) w a:=by
 obtain ⟨d,H,J,K,I,N⟩:=aC r;have b:=zD I;have c:dW D.d:=⟨o.xs,o.ys⟩;have L:F=1\/F=2\/F=4\/F=8:=of_decide_eq_true m;have k:1<=F:=ab
 have l:F<=8:=ab
 obtain ⟨size,hF⟩:∃ size,bN D.ram D.ram.length D.cs (fO D.cs D.pr kind) C kind=size:=⟨_,rfl⟩;have i:U size.addr:=by rw [<- hF];exact uK _ _ _ _ _ _ q
 have z:bf (bP D (bp D.ram size)).ram.length=true:=by show bf (bp D.ram size).length=true;rw [kB];exact K
 have B:(bP D (bp D.ram size)).ram.length<=1048576:=by show (bp D.ram size).length<=_;rw [kB];exact hl.ram
 have A:=Ap D.ram o.ram size;have g:decide (Uz.wrap (Uz.wrap (size.addr+F)-1)<size.addr)=decide (aU size.addr F<size.addr):=by rw [Ft _ _ k l]
 have y:∀ M:DV,(M.xs.length<=1048576/\M.ys.length<=1048576)->kV (dc (bP D (bp D.ram size)) M):=λM h=>⟨hl.x,hl.cs,B,h.1,h.2⟩;have s:=MX D.d (gD size.addr F) hl.xs hl.ys;have addr:=GN D.d x hl.xs b.2.1 (gD size.addr F);have G:kind=1\/kind=2\/kind=3:=ab
 have p:(if kind=3 then (fX D.d x (gD size.addr F)).1 else (jw D.d (gD size.addr F)).2.1).xs.length<=1048576/\(if kind=3 then (fX D.d x (gD size.addr F)).1 else (jw D.d (gD size.addr F)).2.1).ys.length<=1048576:=by split<;>assumption
 refine Fx (M1:=bP D (bp D.ram size)) kind C F x (fO D.cs D.pr kind) size.addr size.code (decide (aU size.addr F<size.addr)) (ay D.cs (fO D.cs D.pr kind) size.addr (aU size.addr F) kind 4 0) (gi (bP D (bp D.ram size)).ram.length size.addr F) (lM (bP D (bp D.ram size)) size.addr) (le (bp D.ram size) (size.addr-2147483648).toNat F.toNat) (jw D.d (gD size.addr F)).1 (jT (bp D.ram size) (size.addr-2147483648).toNat x F.toNat) (if kind=3 then (fX D.d x (gD size.addr F)).1 else (jw D.d (gD size.addr F)).2.1) (if kind=3 then (fX D.d x (gD size.addr F)).2 else (jw D.d (gD size.addr F)).2.2) G hm k l q (λa h=>Aq D E f j C kind a h hl o r u v q size hF) g (λa h=>Sh (M:=bP D (bp D.ram size)) (A:=E) d h.fam.msl.cs kind) (λa h=>TA (M:=bP D (bp D.ram size)) d h.fam.msl.cs _ _ _ _) (λa h=>vh _ _ _ _ _ a z m i.1 (by have:=i.2;omega)) (λt a h=>TB (M:=bP D (bp D.ram size)) h.fam.msl.ram B A t) (λt a h=>vV (bP D (bp D.ram size)) E f j size.addr F x a B t hx.1 (by have:=hx.2;omega) h) (λe a h=>?_) (λe a h=>?_) (λn a h=>yD _ n f j a d (y _ p) h) _ (λ_=>rfl) (λ_=>rfl) ?_;·subst e;exact ER D.d E.ai E.ci E.ao E.co size.addr F f a.heap.size a b.1 c (by have:=h.lo;have:=h.lt;omega) (Nat.le_refl _) (Hm (M:=bP D (bp D.ram size)) h.fam)
 ·subst e;exact B7 D.d E.ai E.ci E.ao E.co size.addr F x f a.heap.size a b.2.1 (by have:=h.lo;have:=h.lt;omega) (Nat.le_refl _) (Hm (M:=bP D (bp D.ram size)) h.fam)
 ·rcases G with rfl|rfl|rfl<;>(unfold aE;rw [hF];rfl)
theorem lQ {fn:Func} {t u v x:Tmp} (h:fn.results=#[.tmp t,.tmp u,.tmp v,.tmp x]) (tmps:Array Value) (P:Program) (w:World):(results fn tmps).run P w=.ok (.tuple #[tmps.getD t undef,tmps.getD u undef,tmps.getD v undef,tmps.getD x undef]) w:=by simp [results,h]
def dy (s:Int) (m:Bool):Int:=match m with | true=>wrap64 (bits .and .u64 (s/2048) 3) | false=>wrap64 (ap s 8)
def iQ (s:Int):Int:=bits .or .u64 (bits .or .u64 (bits .andNot .u64 s 6152) (Uz.wrap (ap s 7*8))) 128
def cO (s:Int) (m:Bool):Int:=match m with
 | true=>if (dy s true != 3)=true then bits .andNot .u64 (iQ s) 131072 else iQ s
 | false=>bits .or .u64 (bits .or .u64 (bits .andNot .u64 s 131330) (Uz.wrap (ap s 5*2))) 32
def eQ (l:List Int) (m:Bool):Int:=match m with | true=>l.getD 6 0 | false=>l.getD 12 0
theorem CJ (l:List Int) (m:Bool) (w:World) (h:eG w f j n l): Calls prog 135 #[.slice (some ⟨j,0,none⟩) 22 n,.bool m] w λe L => e=.returned (.tuple #[.i (dy (l.getD 0 0) m),.u (eQ l m)])/\eG L f j n (l.set 0 (cO (l.getD 0 0) m))/\w.grownBy L (some j):=by
 have H:Hid (eG w f j n l):=h;have I:=h.cell 0 ab;clear h;cases m with
 | true =>
   have G:Hid (l.getD 6 0=eQ l true):=(rfl:l.getD 6 0=eQ l true);generalize eQ l true=K at *;have b:cO (l.getD 0 0) true=if (dy (l.getD 0 0) true != 3)=true then bits .andNot .u64 (iQ (l.getD 0 0)) 131072 else iQ (l.getD 0 0):=rfl
   have u:iQ (l.getD 0 0)=bits .or .u64 (bits .or .u64 (bits .andNot .u64 (l.getD 0 0) 6152) (Uz.wrap (ap (l.getD 0 0) 7*8))) 128:=rfl;have o:wrap64 (bits .and .u64 (l.getD 0 0/2048) 3)=dy (l.getD 0 0) true:=rfl;rw [u] at b;clear u;generalize dy (l.getD 0 0) true=M at *;generalize cO (l.getD 0 0) true=A at *;obtain ⟨s,z⟩:∃ y,l.getD 0 0=y:=⟨_,rfl⟩;rw [z] at I b o;clear z;cases J:(M != 3) with
   | true =>
     rw [if_pos J] at b;have F:Hid (A=bits .andNot .u64 (bits .or .u64 (bits .or .u64 (bits .andNot .u64 s 6152) (Uz.wrap (ap s 7*8))) 128) 131072):=b;clear b;go_enter func135,ntmps135;go_wp2_with (first | (refine qi rfl (.tmp 30) (.tmp 29) rfl rfl H.out 0 ab _ rfl rfl ?_;intro g r q;have p:Hid (eG g _ _ _ _):=r;have t:Hid (w.grownBy g (some j)):=q;clear r q;have c:g.cell? ⟨j,6,none⟩=some (.u K):=m5) | (go_at_call 111;with_reducible refine (LQ _ _).mono ?_;rintro e E ⟨rfl,d⟩;have base:=d.symm;subst base));go_quiet (fail)
     go_wp2_with fail;exact a0c
   | false =>
     rw [if_neg (by rw [J];decide)] at b;have F:Hid (A=bits .or .u64 (bits .or .u64 (bits .andNot .u64 s 6152) (Uz.wrap (ap s 7*8))) 128):=b;clear b;go_enter func135,ntmps135;go_wp2_with (first | (refine qi rfl (.tmp 30) (.tmp 29) rfl rfl H.out 0 ab _ rfl rfl ?_;intro g r q;have p:Hid (eG g _ _ _ _):=r;have t:Hid (w.grownBy g (some j)):=q;clear r q;have c:g.cell? ⟨j,6,none⟩=some (.u K):=m5) | (go_at_call 111;with_reducible refine (LQ _ _).mono ?_;rintro e E ⟨rfl,d⟩;have base:=d.symm;subst base));go_quiet (fail)
     go_wp2_with fail;exact a0c
 | false =>
   have C:Hid (l.getD 12 0=eQ l false):=(rfl:l.getD 12 0=eQ l false);generalize eQ l false=D at *;have B:cO (l.getD 0 0) false=bits .or .u64 (bits .or .u64 (bits .andNot .u64 (l.getD 0 0) 131330) (Uz.wrap (ap (l.getD 0 0) 5*2))) 32:=rfl;have o:dy (l.getD 0 0) false=wrap64 (ap (l.getD 0 0) 8):=rfl;rw [o];clear o;generalize cO (l.getD 0 0) false=A at *;obtain ⟨s,z⟩:∃ y,l.getD 0 0=y:=⟨_,rfl⟩;rw [z] at I B ⊢;have F:Hid (A=bits .or .u64 (bits .or .u64 (bits .andNot .u64 s 131330) (Uz.wrap (ap s 5*2))) 32):=B;clear B z;go_enter func135,ntmps135;go_wp2_with (first | (refine qi rfl (.tmp 46) (.tmp 45) rfl rfl H.out 0 ab _ rfl rfl ?_;intro g r q;have p:Hid (eG g _ _ _ _):=r;have t:Hid (w.grownBy g (some j)):=q;clear r q;have c:g.cell? ⟨j,12,none⟩=some (.u D):=by (have e:=p.out.cell 12 ab;rw [cR _ _ _ _ ab,C.out] at e;exact e)) | (go_at_call 111;with_reducible refine (Tk _ _).mono ?_;rintro e E ⟨rfl,d⟩;have base:=d.symm;subst base) | (go_at_call 111;with_reducible refine (Tj _ _).mono ?_;rintro e E ⟨rfl,d⟩;have base:=d.symm;subst base));go_quiet (fail)
   go_wp2_with fail;exact a0c
def VE (k:Int):Bool:=decide (0<=k/\k<=15)
def Ar (n:Nat) (l:List Int) (p k:Int):Bool:=bj n l p&&VE k
def sE (n:Nat) (l:List Int) (p pc k:Int) (i:Bool) (v:Int):List Int:=match Ar n l p k with
 | true=>ij l (du l p k.toNat i) p (gG k i) pc v | false=>[]
def Fy (n:Nat) (l:List Int) (p k:Int) (i:Bool):Int:=match Ar n l p k with
 | true=>tl (du l p k.toNat i) | false=>0
def Fz (n:Nat) (l:List Int) (p k:Int) (i:Bool):Int:=match Ar n l p k with
 | true=>ei (n8 l (du l p k.toNat i)) k (mU l (du l p k.toNat i) i) | false=>0
theorem lR:(ij c d g y C F).length=c.length:=by cases d<;>simp [ij]
def lS (n:Nat) (l:List Int) (p:Int) (m:Bool):Bool:=bj n l p&&!(m&&(p != 3))&&!(p==0)
def jR (n:Nat) (l:List Int) (p:Int) (m:Bool):List Int:=match lS n l p m with
 | true=>l.set 0 (cO (l.getD 0 0) m) | false=>[]
def rm (n:Nat) (l:List Int) (p:Int) (m:Bool):Int:=match lS n l p m with
 | true=>dy (l.getD 0 0) m | false=>0
def rp (n:Nat) (l:List Int) (p:Int) (m:Bool):Int:=match lS n l p m with
 | true=>eQ l m | false=>0
theorem dV (h:U g):ap g f=dg g f 1:=by have a:=mj g h f;have:=cK (g/2^f) 1 a.1 a.2 ab;unfold ap dg;exact this
theorem Qi (h:U g):mg g y=bits .or .u64 (bits .or .u64 (bits .andNot .u64 g 6280) (Uz.wrap (dg g 3 1*128))) (Uz.wrap (y*2048)):=by unfold mg;rw [dV g 3 h]
theorem MY:∀ i,i<64->bt 0 i=false:=by decide +kernel
theorem MZ (h:U g):lA g ((0:Int)==1)=bits .or .u64 (bits .or .u64 (bits .andNot .u64 g 290) (Uz.wrap (dg g 1 1*32))) 0:=by show bits .or .u64 (bits .andNot .u64 g 290) (Uz.wrap (ap g 1*32))=_;rw [dV g 1 h];exact bA _ _ (ah _ _ _) (ah _ _ _) λi a=>by rw [cC _ 0,MY i a,Bool.or_false]
theorem M9 (h:U g):lA g ((1:Int)==1)=bits .or .u64 (bits .or .u64 (bits .andNot .u64 g 290) (Uz.wrap (dg g 1 1*32))) 256:=by show bits .or .u64 (bits .or .u64 (bits .andNot .u64 g 290) (Uz.wrap (ap g 1*32))) 256=_;rw [dV g 1 h]
theorem CL (h:U g):iQ g=bits .or .u64 (bits .or .u64 (bits .andNot .u64 g 6280) (Uz.wrap (dg g 7 1*8))) 128:=by
 have e:∀ i,i<64->∀ a c:Bool,((a&&!bt 6152 i||c)||bt 128 i)=((a&&!bt 6280 i||c)||bt 128 i):=cb
 unfold iQ;rw [dV g 7 h];exact bA _ _ (ah _ _ _) (ah _ _ _) λi b=>by rw [cC,cC,cC,cC,aA _ _ _ b,aA _ _ _ b,e i b]
theorem Na (h:U g):dy g true=wrap64 (dg g 11 2):=by have a:=mj g h 11;have:=cK (g/2^11) 2 a.1 a.2 ab;show wrap64 (bits .and .u64 (g/2048) 3)=_;exact congrArg wrap64 this
theorem CM (h:U g):dy g false=wrap64 (dg g 8 1):=by show wrap64 (ap g 8)=_;rw [dV g 8 h]
theorem oT (h:U g) (i j k:Nat):bt (Uz.wrap (dg g k 1*2^j)) i=(decide (i=j)&&decide (i<64)&&bt g k):=by
 rw [nB _ (qE _ _ _ ab),kM _ h _ _ _ ab];by_cases a:i=j;·subst a;simp
 ·by_cases b:j<=i
  ·have:¬ (i-j<1):=by omega
   simp [a,this]
  ·simp [a,b]
theorem Nb (h:U g):cO g false=bits .andNot .u64 (bits .or .u64 (bits .or .u64 (bits .andNot .u64 g 290) (Uz.wrap (dg g 5 1*2))) 32) 131072:=by
 have e:∀ i,i<64->∀ a c:Bool,((a&&!bt 131330 i||(decide (i=1)&&decide (i<64)&&c))||bt 32 i)=(((a&&!bt 290 i||(decide (i=1)&&decide (i<64)&&c))||bt 32 i)&&!bt 131072 i):=cb
 show bits .or .u64 (bits .or .u64 (bits .andNot .u64 g 131330) (Uz.wrap (ap g 5*2))) 32=_;rw [dV g 5 h];have f:∀ i,bt (Uz.wrap (dg g 5 1*2)) i=(decide (i=1)&&decide (i<64)&&bt g 5):=λi=>oT g h i 1 5;exact bA _ _ (ah _ _ _) (ah _ _ _) λi b=>by rw [aA _ 131072 _ b,cC,cC,cC,cC,aA _ _ _ b,aA _ _ _ b,f i,e i b]
theorem J3 (h:U g) (d:(dy g true != 3)=true):cO g true=bits .andNot .u64 (bits .or .u64 (bits .or .u64 (bits .andNot .u64 g 6280) (Uz.wrap (dg g 7 1*8))) 128) 131072:=by show (if (dy g true != 3)=true then bits .andNot .u64 (iQ g) 131072 else iQ g)=_;rw [if_pos d,CL g h]
theorem J4 (h:U g) (d:(dy g true != 3)=false):cO g true=bits .or .u64 (bits .or .u64 (bits .andNot .u64 g 6280) (Uz.wrap (dg g 7 1*8))) 128:=by show (if (dy g true != 3)=true then bits .andNot .u64 (iQ g) 131072 else iQ g)=_;rw [if_neg (by rw [d];decide),CL g h]
theorem FA (h:U g):dy g false=0\/dy g false=1:=by
 rw [CM g h];have:=kL g 8 1;have e:(2:Int)^1=2:=bc
 unfold wrap64;omega
theorem J5 (h:U g):(dy g false != 3)=true:=by rcases FA g h with e|e<;>rw [e]<;>rfl
theorem Ho:(bits .and .u64 g 1 != 0)=(bits .and .u64 g 1==1):=by rw [Tt];cases bt g 0<;>rfl
def wK (l:List Int) (p:Int):Bool:=decide (p<3)||((p==3)&&(dg (l.getD 0 0) 3 1==1))
def wM (l:List Int) (p:Int):Bool:=decide (p<1)||((p==1)&&(dg (l.getD 0 0) 1 1==1))
def Hp (l:List Int) (p:Int):Int :=
 match (decide (dA (bits .andNot .u64 (ku l) (l.getD 2 0))>=0)&&wK l p) with
 | true=>dA (bits .andNot .u64 (ku l) (l.getD 2 0))
 | false=>match (decide (dA (bits .and .u64 (ku l) (l.getD 2 0))>=0)&&wM l p) with
   | true=>dA (bits .and .u64 (ku l) (l.getD 2 0))
   | false=>-1
theorem J6 (h:decide (dA g>=0)=false):dA g=-1:=by
 rcases vg g eR with e|⟨n,_,e,_⟩;·exact e
 ·have:dA g=(n:Int):=e;rw [this] at h;simp at h
theorem Nc (b:cg g=true) (h:U (c.getD 0 0)):wK c g=Bl c g:=by
 have a:g=0\/g=1\/g=3:=by simpa [cg,or_assoc] using b
 unfold wK Bl;rw [dV _ 3 h];rcases a with rfl|rfl|rfl<;>rfl
theorem Nd (b:cg g=true) (h:U (c.getD 0 0)):wM c g=Bm c g:=by
 have a:g=0\/g=1\/g=3:=by simpa [cg,or_assoc] using b
 unfold wM Bm;rw [dV _ 1 h];rcases a with rfl|rfl|rfl<;>rfl
theorem Qj (l:List Int) (p:Int) (a:cg p=true) (h:U (l.getD 0 0)):Hp l p=fW l p:=by
 unfold Hp fW Gy;rw [Nc l p a h,Nd l p a h,Bool.and_comm];have e:=J6 (bits .and .u64 (ku l) (l.getD 2 0));generalize dA (bits .and .u64 (ku l) (l.getD 2 0))=c at *;generalize dA (bits .andNot .u64 (ku l) (l.getD 2 0))=b at *;cases Bl l p&&decide (b>=0)
 ·cases Bm l p;·rw [Bool.and_false]
  ·rw [Bool.and_true];cases d:decide (c>=0);·exact (e d).symm
   ·rfl
 ·rfl
theorem Qk (h:bits .and .u64 b k=b) (i:Nat) (e:bt b i=true):bt k i=true:=by rw [<- h,az,Bool.and_eq_true] at e;exact e.2
theorem Ql (hx:U b) (h:∀ i,i<64->bt b i=true->bt k i=true):bits .and .u64 b k=b :=
 bA _ _ (ah _ _ _) hx λi a=>by
  rw [az]
  cases e:bt b i with
  | false=>rfl
  | true=>rw [h i a e];rfl
theorem yY (h:U g):ap g f=if bt g f=true then 1 else 0:=by unfold ap;rw [Tt,jD g h,Nat.zero_add]
theorem Qm (h:U g):dg g f 1=if bt g f=true then 1 else 0:=by rw [<- dV g f h,yY g f h]
theorem VF (h:U g):dg g 11 2=(if bt g 11=true then 1 else 0)+(if bt g 12=true then 2 else 0):=by
 have e:∀ i,i<64->∀ p q o:Bool,(decide (i<2)&&(if i=0 then p else if i=1 then q else o))=bt ((if p=true then 1 else 0)+(if q=true then 2 else 0)) i:=cb
 refine bA _ _ (qE _ _ _ ab) (by constructor<;>(cases bt g 11<;>cases bt g 12<;>decide)) λi c=>?_;rw [kM g h _ _ _ ab,<- e i c (bt g 11) (bt g 12) (bt g (i+11))];by_cases a:i=0;·subst a;rfl
 ·by_cases b:i=1;·subst b;rfl
  ·rw [if_neg a,if_neg b]
theorem As (hx:U g) (a:∀ i,i<64->bt g i=true->bt 924074 i=true) (b:(!bt g 11&&bt g 12)=false):fq 0 g=true:=by have e:mst g=g:=(su g hx).mpr ⟨Ql hx a,b⟩;show (mst g==g)=true;rw [e];exact beq_self_eq_true _
theorem FC (hx:U g) (h:fq 0 g=true):(∀ i,bt g i=true->bt 924074 i=true)/\(!bt g 11&&bt g 12)=false:=by
 have e:mst g=g:=by have:(mst g==g)=true:=h;simpa using this
 obtain ⟨a,b⟩:=(su g hx).mp e;exact ⟨Qk a,b⟩
theorem sF (h:U g) (i:Nat) (a:i<64):bt (iQ g) i=((bt g i&&!bt 6152 i||(decide (i=3)&&decide (i<64)&&bt g 7))||bt 128 i):=by have f:bt (Uz.wrap (dg g 7 1*8)) i=(decide (i=3)&&decide (i<64)&&bt g 7):=oT g h i 3 7;unfold iQ;rw [dV g 7 h,cC,cC,aA _ _ _ a,f]
theorem sG (h:U g) (i:Nat) (a:i<64):bt (cO g false) i=((bt g i&&!bt 131330 i||(decide (i=1)&&decide (i<64)&&bt g 5))||bt 32 i):=by have f:bt (Uz.wrap (dg g 5 1*2)) i=(decide (i=1)&&decide (i<64)&&bt g 5):=oT g h i 1 5;show bt (bits .or .u64 (bits .or .u64 (bits .andNot .u64 g 131330) (Uz.wrap (ap g 5*2))) 32) i=_;rw [dV g 5 h,cC,cC,aA _ _ _ a,f]
theorem wO (h:U g) (i:Nat) (a:i<64):bt (mg g y) i=((bt g i&&!bt 6280 i||(decide (i=7)&&decide (i<64)&&bt g 3))||bt (Uz.wrap (y*2048)) i):=by have f:bt (Uz.wrap (dg g 3 1*128)) i=(decide (i=7)&&decide (i<64)&&bt g 3):=oT g h i 7 3;unfold mg;rw [dV g 3 h,cC,cC,aA _ _ _ a,f]
theorem wP (h:U g) (i:Nat) (a:i<64):bt (lA g z) i=((bt g i&&!bt 290 i||(decide (i=5)&&decide (i<64)&&bt g 1))||(z&&decide (i=8))):=by
 have f:bt (Uz.wrap (dg g 1 1*32)) i=(decide (i=5)&&decide (i<64)&&bt g 1):=oT g h i 5 1;have e:∀ i,i<64->bt 256 i=decide (i=8):=cb
 cases z with
 | true =>show bt (bits .or .u64 (bits .or .u64 (bits .andNot .u64 g 290) (Uz.wrap (ap g 1*32))) 256) i=_;rw [dV g 1 h,cC,cC,aA _ _ _ a,f,e i a,Bool.true_and]
 | false =>show bt (bits .or .u64 (bits .andNot .u64 g 290) (Uz.wrap (ap g 1*32))) i=_;rw [dV g 1 h,cC,aA _ _ _ a,f,Bool.false_and,Bool.or_false]
theorem rq:U (cO g z):=by
 cases z with
 | true=>unfold cO;show U (if _ then _ else _);split<;>exact ah _ _ _
 | false=>unfold cO;exact ah _ _ _
theorem Hq:U (mg g y):=ah _ _ _
theorem Hr:U (lA g z):=by cases z<;>(unfold lA;exact ah _ _ _)
theorem TC (hk:f<16) (i:Bool):U (gG f i):=by
 cases i with
 | true=>unfold gG;exact ah _ _ _
 | false=>show U (f:Int);exact ⟨ab,ab⟩
theorem WC:Uz.wrap ((0:Int)*2048)=0:=by decide
theorem WD:Uz.wrap ((1:Int)*2048)=2048:=by decide
theorem WE:Uz.wrap ((3:Int)*2048)=6144:=by decide
theorem tQ:cO g true=if (dy g true != 3)=true then bits .andNot .u64 (iQ g) 131072 else iQ g:=rfl
theorem CN (h:U g) (m:Bool) (j:fq 0 g=true):fq 0 (cO g m)=true:=by
 obtain ⟨k,l⟩:=FC g h j;cases m with
 | false =>
   have e:∀ i,i<64->∀ a c:Bool,(a=true->bt 924074 i=true)->((a&&!bt 131330 i||(decide (i=1)&&decide (i<64)&&c))||bt 32 i)=true->bt 924074 i=true:=cb;refine As _ (rq g false) (λi f d=>?_) ?_;·rw [sG g h i f] at d;exact e i f _ _ (k i) d
   ·have n:∀ a c:Bool,((a&&!bt 131330 11||(decide (11=1)&&decide (11<64)&&c))||bt 32 11)=a:=cb;have s:∀ a c:Bool,((a&&!bt 131330 12||(decide (12=1)&&decide (12<64)&&c))||bt 32 12)=a:=cb;rw [sG g h 11 ab,sG g h 12 ab,n,s];exact l
 | true =>
   have e:∀ i,i<64->∀ a c:Bool,(a=true->bt 924074 i=true)->((a&&!bt 6152 i||(decide (i=3)&&decide (i<64)&&c))||bt 128 i)=true->bt 924074 i=true:=cb;have s:∀ a c:Bool,((a&&!bt 6152 12||(decide (12=3)&&decide (12<64)&&c))||bt 128 12)=false:=cb;refine As _ (rq g true) (λi f d=>?_) ?_
   ·have b:bt (iQ g) i=true:=by
     revert d;rw [tQ];split;·rw [aA _ _ _ f];intro d;exact (Bool.and_eq_true _ _ ▸ d).1
     ·exact id
    rw [sF g h i f] at b;exact e i f _ _ (k i) b
   ·have b:bt (cO g true) 12=false:=by
     rw [tQ];split;·rw [aA _ _ _ ab,sF g h 12 ab,s];rfl
     ·rw [sF g h 12 ab,s]
    rw [b,Bool.and_false]
theorem Nf (h:U g) (m:cg y=true) (s:fq 0 g=true):fq 0 (mg g y)=true:=by
 obtain ⟨l,n⟩:=FC g h s;have f:y=0\/y=1\/y=3:=by simpa [cg,or_assoc] using m
 refine As _ (Hq g y) (λi j b=>?_) ?_
 ·rw [wO g y h i j] at b;have e:∀ i,i<64->∀ a c:Bool,(a=true->bt 924074 i=true)->(((a&&!bt 6280 i||(decide (i=7)&&decide (i<64)&&c))||bt 0 i)=true->bt 924074 i=true)/\(((a&&!bt 6280 i||(decide (i=7)&&decide (i<64)&&c))||bt 2048 i)=true->bt 924074 i=true)/\(((a&&!bt 6280 i||(decide (i=7)&&decide (i<64)&&c))||bt 6144 i)=true->bt 924074 i=true):=cb;have e:=e i j _ (bt g 3) (l i);rcases f with rfl|rfl|rfl;·rw [WC] at b;exact e.1 b
  ·rw [WD] at b;exact e.2.1 b
  ·rw [WE] at b;exact e.2.2 b
 ·rw [wO g y h 11 ab,wO g y h 12 ab];have k:∀ a c d:Bool,(!((a&&!bt 6280 11||(decide (11=7)&&decide (11<64)&&c))||bt 0 11)&&((d&&!bt 6280 12||(decide (12=7)&&decide (12<64)&&c))||bt 0 12))=false/\(!((a&&!bt 6280 11||(decide (11=7)&&decide (11<64)&&c))||bt 2048 11)&&((d&&!bt 6280 12||(decide (12=7)&&decide (12<64)&&c))||bt 2048 12))=false/\(!((a&&!bt 6280 11||(decide (11=7)&&decide (11<64)&&c))||bt 6144 11)&&((d&&!bt 6280 12||(decide (12=7)&&decide (12<64)&&c))||bt 6144 12))=false:=cb;have k:=k (bt g 11) (bt g 3) (bt g 12);rcases f with rfl|rfl|rfl;·rw [WC];exact k.1
  ·rw [WD];exact k.2.1
  ·rw [WE];exact k.2.2
theorem Ng (h:U g) (d:fq 0 g=true):fq 0 (lA g z)=true:=by
 obtain ⟨j,k⟩:=FC g h d;refine As _ (Hr g z) (λi s f=>?_) ?_;·rw [wP g z h i s] at f;have e:∀ i,i<64->∀ a c z:Bool,(a=true->bt 924074 i=true)->((a&&!bt 290 i||(decide (i=5)&&decide (i<64)&&c))||(z&&decide (i=8)))=true->bt 924074 i=true:=cb;exact e i s _ _ _ (j i) f
 ·have l:∀ a c z:Bool,((a&&!bt 290 11||(decide (11=5)&&decide (11<64)&&c))||(z&&decide (11=8)))=a:=cb;have m:∀ a c z:Bool,((a&&!bt 290 12||(decide (12=5)&&decide (12<64)&&c))||(z&&decide (12=8)))=a:=cb;rw [wP g z h 11 ab,wP g z h 12 ab,l,m];exact k
theorem Hu:∀ k,k<16->∀ i:Bool,fq 7 (gG (k:Nat) i)=true/\fq 13 (gG (k:Nat) i)=true:=by decide +kernel
theorem Hv:fq 8 g=true/\fq 14 g=true:=⟨beq_self_eq_true g,beq_self_eq_true g⟩
theorem Si (h:U g):fq 6 (bits .andNot .u64 g 3)=true/\fq 12 (bits .andNot .u64 g 3)=true:=⟨oR g h 6 ab ab ab,oR g h 12 ab ab ab⟩
theorem Nh (hz:c.length=22) (hl:∀ j,U (c.getD j 0)) (a:bo 22 c=true) (d:Bool) (p pc v:Int) (e:cg p=true) (b:U pc) (k:Nat) (hk:k<16) (i:Bool):bo 22 (ij c d p (gG k i) pc v)=true:=by
 have l:fq 0 (c.getD 0 0)=true:=eC a 0 ab;cases d with
 | true =>refine cE _ vo ?_ 0 ab _ (Ng _ _ (hl 0) l);refine cE _ vo ?_ 14 ab _ (Hv v).2;refine cE _ vo ?_ 12 ab _ (Si pc b).2;exact cE _ hz a 13 ab _ (Hu k hk i).2
 | false =>refine cE _ vo ?_ 0 ab _ (Nf _ p (hl 0) e l);refine cE _ vo ?_ 8 ab _ (Hv v).1;refine cE _ vo ?_ 6 ab _ (Si pc b).1;exact cE _ hz a 7 ab _ (Hu k hk i).1
theorem Qn (hl:∀ j,U (c.getD j 0)) (d:Bool) (p pc v:Int) (hv:U v) (k:Nat) (hk:k<16) (i:Bool):∀ j,U ((ij c d p (gG k i) pc v).getD j 0):=by
 have a:=TC k hk i;cases d with
 | true=>exact iZ _ (iZ _ (iZ _ (iZ _ hl 13 _ a) 12 _ (ah _ _ _)) 14 _ hv) 0 _ (Hr _ _)
 | false=>exact iZ _ (iZ _ (iZ _ (iZ _ hl 7 _ a) 6 _ (ah _ _ _)) 8 _ hv) 0 _ (Hq _ _)
theorem Qo (h:U g):bits .and .u64 g 3=g%4:=cK g 2 h.1 h.2 ab
theorem WF (h:fq 6 g=true\/fq 12 g=true):bits .and .u64 g 3=0:=by
 have e:bits .andNot .u64 g 3=g:=by
  rcases h with h|h;·have:(bits .andNot .u64 g 3==g)=true:=h;simpa using this
  ·have:(bits .andNot .u64 g 3==g)=true:=h;simpa using this
 refine bA _ _ (ah _ _ _) ⟨bc,bc⟩ λi c=>?_;have k:∀ a b:Bool,((a&&!b)&&b)=false:=bc
 rw [az,<- e,aA _ _ _ c,k,MY i c]
theorem WW (h:fq 4 g=true\/fq 10 g=true):bits .and .u64 (ei g f z) 3=0:=by
 have e:bits .andNot .u64 g 2=g:=by
  rcases h with h|h;·have:(bits .andNot .u64 g 2==g)=true:=h;simpa using this
  ·have:(bits .andNot .u64 g 2==g)=true:=h;simpa using this
 have k:bits .and .u64 (bits .andNot .u64 g 1) 3=0:=by refine bA _ _ (ah _ _ _) ⟨bc,bc⟩ λi b=>?_;have f:∀ i,i<64->∀ a:Bool,(((a&&!bt 2 i)&&!bt 1 i)&&bt 3 i)=bt 0 i:=cb;rw [az,<- e,aA _ _ _ b,aA _ _ _ b,f i b]
 cases z with
 | false=>exact k
 | true =>show bits .and .u64 (Uz.wrap (bits .andNot .u64 g 1+Uz.wrap (4*f))) 3=0;rw [Qo _ (ah _ _ _)] at k;rw [Qo _ (aT _),IntKind.wrap_u64,IntKind.wrap_u64];omega
end Go.Proofs.YtjifdmoehfbihaaGreatDoor
