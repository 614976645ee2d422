/- Own lemmas. -/
import Derived.Test.YtlidafnochnddaaGreatDoorAut
import Derived.Test.YtlidafnochnddaaGreatDoorK15H
import Derived.Test.YtlidafnochnddaaGreatDoorK12
import Derived.Test.YtlidafnochnddaaGreatDoorK14
set_option maxRecDepth 100000
set_option maxHeartbeats 6400000
namespace Go.Proofs.YtlidafnochnddaaGreatDoor
open Go.RowKit Tryz
open IntKind renaming u64->Uz
open Below renaming refl->T0
open Bool renaming false_eq_true->R4,and_eq_true->R5,and_false->S1,true_and->S2,or_false->S5
open Go renaming bits->A0,World->A5,Addr->A6,Value->F0,TypeId->F3
open IntKind renaming wrap_u64->G3
open List renaming mem_cons->H1,mem_append->H2,pairwise_append->H3,not_mem_nil->H5,mem_append_right->H8,filterMap_append->I4,mem_append_left->I5,range_succ->K0,getElem?_eq_getElem->K1,pairwise_cons->K4,find?_eq_none->L4,append_assoc->L5
open Nat renaming le_refl->M5,zero_add->M7,eq_zero_or_pos->N1,lt_or_ge->P2
open Value renaming int->L6,slice->L7
set_option linter.unusedVariables false
variable {s w:Nat} {x l:A5} {b a:List FRow} {p:List Int} {k r:Int} {B:F3} {M L:Array F0} {A:MV} {E:MA} {D:Type} (t:MV) (c:MA) (d:List Int) (g:Int) (m:A5) (y:DV) (T:Option A6) (f j:Nat) (n:List Int) (o:Option A6) (Q:Nat) (z:A5) (C:Bool) (F:Int)
theorem MX (hx:n.length=f) (c:Sl .u64 z T n): CE 74 #[.slice T f j] z (.bool (jz f n)):=by
 by_cases h:f=32;·subst h;obtain ⟨b,g,rfl,o,x⟩:=c 0 aa;have F:Hid (jz 32 n=(n.getD 0 0==0)):=(by show _=_;unfold jz;simp);have l:z.cell? ⟨b,g,none⟩=some (.u (n.getD 0 0)):=x;generalize jz 32 n=V at *;generalize n.getD 0 0=y at *;clear c hx x;go_enter func74,ntmps74;exact o6
 ·have F:Hid (jz f n=false):=(by show _=_;unfold jz;rw [decide_eq_false h];rfl);have d:((f:Int)==32)=false:=bb;generalize jz f n=V at *;clear c hx h;go_enter func74,ntmps74;exact o6
theorem Dk:Calls prog 73 #[.u g,.i 0,.i 2] m λe b=>e=.returned (.u (A0 .and .u64 g 3))/\b=m.drew:=by
 go_enter func73,ntmps73;go_wp2_with fail;go_region;all_goals go_wp2_with fail
 all_goals go_ret
 all_goals exact ⟨rfl,rfl⟩
theorem rl (b:y.xs.length<=1048576) (c:y.ys.length<=1048576): CB 71 #[.agg #[.u y.t,.u y.cm,.bool y.so,.slice T y.xs.length f,.slice o y.ys.length Q,.i y.ir]] z (.u (fL y)):=by have p:Hid (∀ z,CB 103 #[.agg #[.u y.t,.u y.cm,.bool y.so,.slice T y.xs.length f,.slice o y.ys.length Q,.i y.ir]] z (.u (fL y))):=λz=>wh y T f o Q z b c;have q:∀ g,Bw z (z.alloc g):=λg=>(T0 _ _).alloc (M5 _) g;generalize fL y=v at *;clear b c;go_enter func71,ntmps71;go_wp2_with fail;refine (p.out _).mono ?_;rintro e r ⟨rfl,l⟩;go_wp2_with fail;go_ret;exact ⟨rfl,ae (q _) l⟩
theorem dN (M:MV) (A:MA) (w:A5) (hl:iW M) (m:D7 w M A) (T:∀ j,U (M.cs.getD j 0)):CB 49 #[.agg (aJ M A)] w (.bool (eW M)):=by
 have u:=λW (_:Bw w W)=>(Dk M.pc W).mono λe w'' ⟨V,X⟩=>And.intro V (show Bw W w'' by rw [X];exact (T0 _ _).drew);have B:=λW g=>MX A.ax M.x.length A.cx _ W rfl (m.x.below g);have z:=λW g=>d9 A.ac M.cs.length A.cc _ M.pr W rfl (m.cs.below g) T;have Q:=λW (_:Bw w W)=>de A.ar M.ram.length A.cr W hl.ram;have P:=λW (_:Bw w W)=>fG M.d.t M.d.cm M.d.so A.ai M.d.xs.length A.ci A.ao M.d.ys.length A.co M.d.ir W hl.xs hl.ys;have R:=λW (_:Bw w W)=>rl M.d A.ai A.ci A.ao A.co W hl.xs hl.ys;have y:eW M=((A0 .and .u64 M.pc 3==0)&&jz M.x.length M.x&&aQ M.cs.length M.cs M.pr&&bA M.ram.length&&lm M.d.xs.length M.d.ys.length M.d.ir&&(M.hl||(M.hd==0))&&(A0 .and .u64 (M.cs.getD 9 0) 2184==fL M.d)):=by unfold eW ly fL;cases lm M.d.xs.length M.d.ys.length M.d.ir<;>simp
 rw [y];clear y;generalize fL M.d=Y at *;generalize s:(A0 .and .u64 M.pc 3==0)=q;generalize jz M.x.length M.x=r at *;generalize L:aQ M.cs.length M.cs M.pr=C at *;generalize bA M.ram.length=D at *;generalize lm M.d.xs.length M.d.ys.length M.d.ir=E at *;generalize N:(M.hd==0)=F;generalize O:(A0 .and .u64 (M.cs.getD 9 0) 2184==Y)=G;cases C with
 | false =>
   refine cF (S:=Bs w [(aJ M A,36)]) [(aJ M A,36)] func49 ?_;cases q;case' true=>cases r
   all_goals exact bg (t:=2) (v:=.bool false) Bs.eng {eq:=[(6,aD s)],cv:=[(5,fu u),(10,wU B),(17,fu z)]} 300 (Bs.start _ _) (λo h=>⟨bh,h.2⟩)
 | true =>
   have K:=nN L;obtain ⟨I,J,f,i,k⟩:=m.cs 9 aa;obtain ⟨pc,x,n,b,a,d,l,c,p⟩:=M;dsimp only at *;refine cF (S:=Bs w [(aJ ⟨pc,x,n,b,a,d,l,c,p⟩ A,36)]) [(aJ ⟨pc,x,n,b,a,d,l,c,p⟩ A,36)] func49 ?_;have H:∀ W,Bs w [(aJ ⟨pc,x,n,b,a,d,l,c,p⟩ A,36)] W->W.cell? ⟨I,J+9,none⟩=some (.u (b.getD 9 0)):=λW h=>(h.2.cell (by exact i)).trans k;cases q;case' true =>cases r;case' true =>cases D;case' true =>cases E;case' true=>cases c<;>cases F<;>cases G
   all_goals exact bg (t:=2) (v:=.bool _) Bs.eng {eq:=[(6,aD s),(35,aD N),(47,aD O)],ov:=[(41,pA b.length A.cc .i64 9 f aa underlying31 ab),(42,lw _ _ underlying32 rfl H)],cv:=[(5,fu u),(10,wU B),(17,fu z),(22,wU Q),(27,fu P),(46,fu R)]} 300 (Bs.start _ _) (λo h=>⟨rfl,h.2⟩)
theorem AR (pc cc:Nat) (ar:Option A6) (Q cr:Nat) (t cm:Int) (pr:Bool) (r:Option A6) (E u:Nat) (s:Option A6) (no z:Nat) (C hd:Int) (hl wt:Bool) (b:Nat) (y D:Int) (w:A5) (c:w.heap[b]?=some (.cells #[.u g,.slice T f j,.i F,.slice (some ⟨pc,0,none⟩) 22 cc,.slice ar Q cr,.u t,.u cm,.bool pr,.slice r E u,.slice s no z,.i C,.u hd,.bool hl,.bool wt] 36 (0,0))) (d:w.cell? ⟨pc,9,none⟩=some (.u y)) (B:w.frozen? ⟨pc,9,none⟩=false) (J:pc<w.heap.size) (I:∀ M,Bw w M->CB 71 #[.agg #[.u t,.u cm,.bool pr,.slice r E u,.slice s no z,.i C]] M (.u D)): Calls prog 47 #[.p b 0] w λe M=>e=.returned (.tuple #[])/\∃ o,Bw w o/\M=o.setCell ⟨pc,9,none⟩ (.u (A0 .or .u64 (A0 .andNot .u64 y 2184) D)):=by
 have K:Hid (CB 71 #[.agg #[.u t,.u cm,.bool pr,.slice r E u,.slice s no z,.i C]] w.drew (.u D)):=I w.drew (T0 _ _).drew;have l:=ah c;have H:=ah J;have G:=ah (And.intro d B);obtain ⟨Z,p1,p2,p3,p4,p5,p6,p7,p8,p9,R,S,L,U⟩:=br c;clear I c J;go_enter func47,ntmps47;go_wp2_with fail;go_region_with (first | (go_at_call 71;with_reducible refine K.out.mono ?_;rintro e o ⟨rfl,m⟩;have q:=ah (ae (T0 w.heap.size w).drew m);clear m;obtain ⟨q0,q1,q2,q3,q4,q5,q6,q7,q8,q9,V,W,X,Y⟩:=br (aA q.out l.out);have O:=(q.out.cell (p:=⟨pc,9,none⟩) H.out).trans G.out.1;have P:o.frozen? ⟨pc,9,none⟩=false:=(by have A:=G.out.2;have N:=q.out.block pc H.out;unfold World.frozen? at A ⊢;dsimp only at A ⊢;rw [N];exact A)));all_goals go_wp2_with fail
 all_goals refine bodyPost_end (results_none rfl _ _ _) rfl ?_
 all_goals exact ⟨rfl,o,q.out,rfl⟩
def ge (M:MV):MV:=⟨M.pc,M.x,M.pr,M.cs.set 9 (A0 .or .u64 (A0 .andNot .u64 (M.cs.getD 9 0) 2184) (fL M.d)),M.ram,M.d,M.hd,M.hl,M.wt⟩
theorem xl:aJ (ge t) c=aJ t c:=by simp [aJ,ge]
theorem GN:(ge t).cs.length=t.cs.length:=by simp [ge]
theorem lZ {M:MV} (h:lm M.d.xs.length M.d.ys.length M.d.ir):ge M=dU M:=by
 have:fL M.d=dK M.d:=by unfold fL;rw [h];rfl
 unfold ge dU;rw [this]
theorem oT (u:t.cs.length=22) (hl:iW t) (h:z.heap[f]?=some (.cells (aJ t c) 36 (0,0))) (v:bi j Q z (aU t c)) (hb:∀ q ∈ aU t c,q.v.ownBlock≠some f): Calls prog 47 #[.p f 0] z λe k=>e=.returned (.tuple #[])/\k.heap[f]?=some (.cells (aJ (ge t) c) 36 (0,0))/\bi j Q k (aU (ge t) c)/\jy (aU t c) z k:=by
 have A:aK c.ac t.cs.length c.cc t.cs ∈ aU t c:=d5
 have K:=v.own _ A;have D:=v.msl;obtain ⟨g,G,a,L,I⟩:=D.cs 9 aa;have n:G=0:=by
  rcases K.2 with ⟨e,_⟩|⟨M,cap,s,e,_⟩
  ·have d:L7 c.ac t.cs.length c.cc=.slice none 0 0:=e;injection d with e3
   rw [a] at e3;cases e3
  ·have d:L7 c.ac t.cs.length c.cc=.slice (some ⟨M,0,none⟩) t.cs.length cap:=e;injection d with e3
   rw [a] at e3;injection e3 with e4
   injection e4
 subst n;rw [M7] at I;have b:(aK c.ac t.cs.length c.cc t.cs).v.ownBlock=some g:=by show (L7 c.ac t.cs.length c.cc).ownBlock=_;rw [a];rfl
 have y:g≠f:=λe=>hb _ A (by rw [b,e]);have x:z.frozen? ⟨g,9,none⟩=false:=by
  rcases K.2 with ⟨e,_⟩|⟨M,cap,s,e,N,o,_⟩;·have d:L7 c.ac t.cs.length c.cc=.slice none 0 0:=e;rw [a] at d;cases d
  ·have d:L7 c.ac t.cs.length c.cc=.slice (some ⟨M,0,none⟩) t.cs.length cap:=e;rw [a] at d;injection d with e3
   injection e3 with e4
   injection e4 with e5
   subst e5;exact fK o 9
 have B:=h;unfold aJ at B;rw [a,u] at B;refine (AR _ _ _ _ _ g _ _ _ _ _ _ _ _ _ _ _ _ _ _ _ _ _ f (t.cs.getD 9 0) (fL t.d) z B I x L (λk O=>rl t.d _ _ _ _ k hl.xs hl.ys)).mono ?_;rintro e k ⟨rfl,p,i,rfl⟩;have l:=v.below i;have C:=l.own _ A;refine ⟨rfl,?_,?_⟩;·rw [xl];exact mt (aA i h) ⟨g,9,none⟩ _ (λe=>y e.symm)
 ·have w:p.grownBy (p.setCell ⟨g,9,none⟩ (.u (A0 .or .u64 (A0 .andNot .u64 (t.cs.getD 9 0) 2184) (fL t.d)))) (aK c.ac t.cs.length c.cc t.cs).v.ownBlock:=(by rw [b];exact Gj _ _ _ _);have F:(p.setCell ⟨g,9,none⟩ (.u (A0 .or .u64 (A0 .andNot .u64 (t.cs.getD 9 0) 2184) (fL t.d)))).ownsRow j 32 1 (.slice c.ac t.cs.length c.cc) t.cs.length ((ge t).cs.map (L6 .u64)):=(by have o:p.ownsRow j 32 1 (.slice c.ac t.cs.length c.cc) t.cs.length (t.cs.map (L6 .u64)):=C;rw [a] at o ⊢;have H:=(o.stored 9 (.u (A0 .or .u64 (A0 .andNot .u64 (t.cs.getD 9 0) 2184) (fL t.d)))).1;rw [rG] at H;exact H);have J:=bi.markL (L1:=[aK c.ax t.x.length c.cx t.x]) (L2:=[aI c.ar t.ram.length c.cr t.ram,aI c.ai t.d.xs.length c.ci t.d.xs,aI c.ao t.d.ys.length c.co t.d.ys]) (r:=aK c.ac t.cs.length c.cc t.cs) l w _ F;refine ⟨?_,(jy.of_below i).trans J.2⟩;have m:(ge t).cs.length=t.cs.length:=(by simp [ge]);unfold aU;rw [m];exact J.1
def qr (a:Int):Nat:=min (Lib.ctz 64 (18446744073709551615-a).toNat) 53
theorem JW (d:f<18446744073709551616) (j:Nat):(A0 .and .u64 ((f:Int)/2^j) 1==1)=f.testBit j:=by
 have h:=kX (f:Int) ⟨aa,aa⟩ j;have e:=gR ((f:Int)/2^j) 1 h.1 h.2 aa;have b:((2:Int)^1-1)=1:=rfl;rw [b] at e;rw [e,Nat.testBit_eq_decide_div_mod_eq];have c:((f:Int)/2^j%2^1)=((f/2^j%2:Nat):Int):=bh
 rw [c];have:f/2^j%2=0\/f/2^j%2=1:=aa
 rcases this with h|h<;>rw [h]<;>rfl
theorem GO (b:∀ j,j<f->(A0 .and .u64 (g/2^j) 1==1)) (c:(A0 .and .u64 (g/2^f) 1==1)=false):∀ n i,i<=f->trailN g n i=min (i+n) f:=by
 intro n;induction n with
 | zero=>intro i e;show i=min (i+0) f;omega
 | succ n k =>
   intro i e;unfold trailN;rcases P2 i f with bZ|d;·rw [JZ8 (b i bZ),k (i+1) bZ];omega
   ·obtain rfl:i=f:=aa;rw [JZ9 (by rw [c];decide)];omega
theorem MY (i:0<=g) (l:g<18014398509481984):qr g=trailN g 53 0:=by
 obtain ⟨n,rfl⟩:∃ n:Nat,g=n:=⟨g.toNat,aa⟩
 have h:(18446744073709551615-(n:Int)).toNat=18446744073709551615-n:=aa
 unfold qr
 rw [h]
 have b:18446744073709551615-n≠0:=aa
 have e:Lib.ctz 64 (18446744073709551615-n)=Lib.ctzFrom 64 (18446744073709551615-n):=by unfold Lib.ctz;rw [JZ9 b]
 obtain ⟨m,o,f⟩:=Lib.ctzFrom_spec 64 (18446744073709551615-n) aa aa
 rw [e]
 generalize Lib.ctzFrom 64 (18446744073709551615-n)=k at *
 have bZ:2^k*(2*m+1)<2^64:=aa
 have a:n=2^64-(2^k*(2*m+1)+1):=aa
 have c:∀ j,j<64->n.testBit j=!(decide (k<=j)&&(2*m+1).testBit (j-k)):=by
  intro j d
  rw [a,Nat.testBit_two_pow_sub_succ bZ,Nat.testBit_two_pow_mul,decide_eq_true d,S2]
 rw [GO (n:Int) k (λj d=>by rw [JW n aa,c j aa,decide_eq_false aa];rfl)
  (by rw [JW n aa,c k f,Nat.sub_self];simp) 53 0 aa]
 omega
def sd (l:List Int) (i:Nat):Int:=if (i==0)=true then 0 else Uz.wrap (4*l.getD (16+i) 0)
def qs (a:Int) (k:Nat):Int:=Uz.wrap (4*Uz.wrap (a/2^(k+1)*2^(k+1)))
def se (a:Int) (k:Nat):Int:=Uz.wrap (qs a k+Uz.wrap (2^(k+3)))
def dL (l:List Int) (i:Nat):Int × Int :=
 if (gC (l.getD 16 0) i==1)=true then (sd l i,Uz.wrap (4*l.getD (17+i) 0))
 else if (gC (l.getD 16 0) i==2)=true then (Uz.wrap (4*l.getD (17+i) 0),Uz.wrap (Uz.wrap (4*l.getD (17+i) 0)+4))
 else if (gC (l.getD 16 0) i==3)=true then (qs (l.getD (17+i) 0) (qr (l.getD (17+i) 0)),se (l.getD (17+i) 0) (qr (l.getD (17+i) 0)))
 else (0,0)
theorem JX (f:0<=g) (m:g<18014398509481984) (k:Nat) (hk:k<=53):qs g k=regLo g k/\Uz.wrap (se g k-1)=regHi g k/\qs g k<se g k:=by
 have d:U g:=⟨f,aa⟩;have e:=Df g d (k+1) aa;have n:(0:Int)<2^(k+1):=Int.pow_pos aa;have l:g/2^(k+1)*2^(k+1)<=g:=Int.ediv_mul_le _ aa;have j:0<=g/2^(k+1)*2^(k+1):=Int.mul_nonneg (kX g d (k+1)).1 aa;have a:∀ k,k<=53->(0:Int)<2^(k+3)/\(2:Int)^(k+3)<=72057594037927936:=bv
 obtain ⟨h,i⟩:=a k hk;have b:qs g k=4*(g/2^(k+1)*2^(k+1)):=by unfold qs;generalize g/2^(k+1)*2^(k+1)=z at *;rw [G3,G3];omega
 have c:regLo g k=4*(g/2^(k+1)*2^(k+1)):=by unfold regLo;rw [e];generalize g/2^(k+1)*2^(k+1)=z at *;rw [G3];omega
 refine ⟨b.trans c.symm,?_,?_⟩;·unfold se regHi;rw [b,c]
 ·unfold se;rw [b];generalize g/2^(k+1)*2^(k+1)=z at *;generalize (2:Int)^(k+3)=q at *;rw [G3,G3];omega
theorem AS {l:List Int} (hl:∀ j,U (l.getD j 0)) (c:bp 22 l) (i:Nat) (k:i<4):regionV l i=if (dL l i).2<=(dL l i).1 then (0,0,false) else ((dL l i).1,Uz.wrap ((dL l i).2-1),true):=by
 have g:gC (l.getD 16 0) i=kindOf l i:=xg l (hl 16) i k;have b:=MH hl c (17+i) aa aa;unfold regionV dL;rw [g];cases n:(kindOf l i==1) with
 | true =>
   simp only [if_true];have f:sd l i=regFrom l i:=by
    unfold sd regFrom;rcases N1 i with h|h;·subst h;rfl
    ·have:(i==0)=false:=by simp;omega
     rw [this,JZ9 ba,JZ8 h,Int.mul_comm]
   rw [f,Int.mul_comm 4]
 | false =>
   simp only [R4,if_false];cases o:(kindOf l i==2) with
   | true =>simp only [if_true];generalize l.getD (17+i) 0=a at *;rw [Int.mul_comm a 4];simp only [G3];rw [JZ9 aa];congr 2;omega
   | false =>
     simp only [R4,if_false];cases p:(kindOf l i==3) with
     | true =>simp only [if_true];rw [MY _ b.1 b.2];obtain ⟨d,e,m⟩:=JX _ b.1 b.2 (trailN (l.getD (17+i) 0) 53 0) (by have:=JD (l.getD (17+i) 0) 53 0;omega);rw [JZ9 aa,d,e]
     | false =>simp only [R4,if_false];rfl
def l4 (l:List Int) (k:Nat):Option (Nat × Int × Int × Int):=if (dL l k).2<=(dL l k).1 then none else some (k,(dL l k).1,Uz.wrap ((dL l k).2-1),aG (l.getD 16 0) (8*k) 8)
def eY (l:List Int) (k:Nat):List (Nat × Int × Int × Int):=(List.range k).filterMap (l4 l)
theorem GP (h:(dL p s).2<=(dL p s).1):eY p (s+1)=eY p s:=by
 unfold eY;rw [K0,I4];have:l4 p s=none:=by unfold l4;rw [JZ8 h]
 simp [this]
theorem GQ (h:¬ (dL p s).2<=(dL p s).1):eY p (s+1)=eY p s++[(s,(dL p s).1,Uz.wrap ((dL p s).2-1),aG (p.getD 16 0) (8*s) 8)]:=by
 unfold eY;rw [K0,I4];have:l4 p s=some (s,(dL p s).1,Uz.wrap ((dL p s).2-1),aG (p.getD 16 0) (8*s) 8):=by unfold l4;rw [JZ9 h]
 simp [this]
theorem JY:(eY d f).length<=f:=by unfold eY;exact Nat.le_trans (List.length_filterMap_le _ _) bh
theorem JZ:∀ l k,eY d k <+: eY d (k+l):=by
 intro l;induction l with
 | zero=>intro k;exact List.prefix_refl _
 | succ l a =>intro k;refine (a k).trans ?_;show eY d (k+l) <+: eY d (k+l+1);unfold eY;rw [K0,I4];exact List.prefix_append _ _
theorem GS {q:D->Bool} {xs pre a:List D} {last:D} (h:pre <+: xs) (e:pre=a++[last]) (c:∀ p ∈ a,q p=false) (hl:q last):xs.find? q=some last:=by
 obtain ⟨r,rfl⟩:=h;subst e;rw [L5,List.find?_append];have:a.find? q=none:=L4.2 λp d=>by rw [c p d];decide
 rw [this];simp [hl]
theorem GT {q:D->Bool} {xs:List D} (b:∀ p ∈ xs,q p=false):xs.find? q=none:=L4.2 λp c=>by rw [b p c];decide
def Tt (l:List Int) (i:Int):Int × Int × Bool:=match (eY l 4).find? (λp=>(p.1:Int)==i) with | some p=>(p.2.1,p.2.2.1,true) | none=>(0,0,false)
def iD (x y:Int) (p:Nat × Int × Int × Int):Bool:=decide (p.2.1<=y)&&decide (x<=p.2.2.1)
def kh (l:List Int) (x y:Int):Int × Int × Int × Bool:=match (eY l 4).find? (iD x y) with | some p=>(p.2.1,p.2.2.1,p.2.2.2,true) | none=>(0,0,0,false)
theorem J0 (hl:∀ j,U (p.getD j 0)) (a:bp 22 p) (k:Nat) (hk:k<4): (l4 p k=none/\regionV p k=(0,0,false))\/(∃ c b,l4 p k=some (k,c,b,jV p k)/\regionV p k=(c,b,true)):=by
 rw [AS hl a k hk];unfold l4;rw [Da p (hl 16) k];by_cases h:(dL p k).2<=(dL p k).1;·rw [JZ8 h,JZ8 h];exact .inl ⟨rfl,rfl⟩
 ·rw [JZ9 h,JZ9 h];exact .inr ⟨_,_,rfl,rfl⟩
theorem MZ {l:Nat × Int × Int × Int} (h:l ∈ eY p s):l.1<s/\l4 p l.1=some l:=by
 unfold eY at h;obtain ⟨a,d,e⟩:=List.mem_filterMap.1 h;have b:a<s:=List.mem_range.1 d;have c:l.1=a:=by
  unfold l4 at e;split at e;·cases e
  ·rw [<- Option.some.inj e]
 rw [c];exact ⟨b,e⟩
theorem Dl {x y:Int} (c:regionV p s=(k,r,true)):skipB (regionV p s) x y=!iD x y (s,k,r,jV p s):=by
 rw [c];unfold skipB iD;simp only [Bool.not_true,Bool.false_or,Bool.not_and];congr 1;·rw [<- decide_not];congr 1;exact propext ⟨λh=>aa,λh=>aa⟩
 ·rw [<- decide_not];congr 1;exact propext ⟨λh=>aa,λh=>aa⟩
def Ru (p x y kind:Int):Option (Nat × Int × Int × Int)->Bool
 | none=>(p==3)
 | some q=>!(decide (x<q.2.1)||decide (q.2.2.1<y))&&letB q.2.2.2 p kind
theorem GU (hl:∀ j,U (p.getD j 0)) (b:bp 22 p) (l x y kind:Int):∀ n k,k+n<=4->permRest p l x y kind n k=Ru l x y kind (((List.range' k n).filterMap (l4 p)).find? (iD x y)):=by
 intro n;induction n with
 | zero=>intro k f;rfl
 | succ n c =>
   intro k f;rw [permRest,List.range'_succ,List.filterMap_cons];rcases J0 hl b k aa with ⟨e,a⟩|⟨h,d,e,a⟩;·rw [e,c (k+1) aa];have g:skipB (regionV p k) x y:=(by rw [a];rfl);rw [g,JZ8 rfl]
   ·rw [e,Dl a];simp only [List.find?_cons];cases i:iD x y (k,h,d,jV p k) with
    | false =>rw [c (k+1) aa];rfl
    | true =>rw [a];rfl
theorem Rv:∀ z:Nat,z<256->(A0 .and .u64 (z:Int) 128==0)=((z:Int)/128==0)/\(A0 .and .u64 (z:Int) 128 != 0)=((z:Int)/128==1)/\(A0 .and .u64 (z:Int) 4 != 0)=(A0 .and .u64 ((z:Int)/4) 1==1)/\(A0 .and .u64 (z:Int) 1 != 0)=(A0 .and .u64 (z:Int) 1==1) /\
 (A0 .and .u64 (z:Int) 2 != 0)=(A0 .and .u64 ((z:Int)/2) 1==1)/\(A0 .and .u64 (z:Int) 2==0)=(A0 .and .u64 ((z:Int)/2) 1==0):=bv
theorem fH:bi f j z (aU au zeroA):=by
 refine ⟨λr a=>?_,λr a k e=>?_,?_⟩;·simp only [aU,H1,H5,or_false] at a;rcases a with rfl | rfl | rfl | rfl | rfl<;>exact ⟨rfl,.inl ⟨rfl,rfl⟩⟩
 ·simp only [aU,H1,H5,or_false] at a;rcases a with rfl|rfl|rfl|rfl|rfl<;>cases e
 ·simp only [aU,K4,H1,H5,or_false];refine ⟨λs _ k e=>?_,λs _ k e=>?_,λs _ k e=>?_,λs _ k e=>?_,λs h=>h.elim,List.Pairwise.nil⟩<;>cases e
theorem bi.sub (h:bi s w x b) (L:a.Sublist b):bi s w x a :=
 ⟨λq L'=>h.own q (L.subset L'),λq L'=>h.hi q (L.subset L'),h.ne.sublist L⟩
theorem bi.ins {f:Nat} {q:FRow} (h:bi s w x (b++a)) (j:x.ownsRow w q.t 1 q.v q.n q.xs) (l:s<=w) (m:x.heap.size<=f) (n:w<=f):bi s f x (b++q::a):=by
 have L1:=H3.1 h.ne;have d:∀ B ∈ b++a,∀ k,B.v.ownBlock=some k->k<w:=λB L2 k e=>h.hi B L2 k e;have i:∀ k,q.v.ownBlock=some k->w<=k/\k<x.heap.size:=λk e=>j.lt k e;refine ⟨λB L2=>?_,λB L2 k e=>?_,H3.2 ⟨L1.1,K4.2 ⟨λB L2 k e c=>?_,L1.2.1⟩,λB L2 t g k e c=>?_⟩⟩
 ·rcases H2.1 L2 with L2|L2;·exact h.own B (I5 _ L2)
  ·rcases H1.1 L2 with rfl|L2;·exact cS j l
   ·exact h.own B (H8 _ L2)
 ·rcases H2.1 L2 with L2|L2;·have:=d B (I5 _ L2) k e;omega
  ·rcases H1.1 L2 with rfl|L2;·have:=i k e;omega
   ·have:=d B (H8 _ L2) k e;omega
 ·have:=i k e;have:=d B (H8 _ L2) k c;omega
 ·rcases H1.1 g with rfl|g;·have:=i k c;have:=d B (I5 _ L2) k e;omega
  ·exact L1.2.2 B L2 t g k e c
theorem bi.app {c:Nat} (h:bi s w x b) (L1:bi w c x a) (f:s<=w) (i:w<=c):bi s c x (b++a):=by
 refine ⟨λB L2=>?_,λB L2 k e=>?_,H3.2 ⟨h.ne,L1.ne,λB L2 t g k e d=>?_⟩⟩
 ·rcases H2.1 L2 with L2|L2;·exact h.own B L2
  ·exact cS (L1.own B L2) f
 ·rcases H2.1 L2 with L2|L2;·have:=h.hi B L2 k e;omega
  ·exact L1.hi B L2 k e
 ·have:=h.hi B L2 k e;have:=((L1.own t g).lt k d).1;omega
def pn (A:MA) (a:Option A6) (c:Nat) (b:Option A6) (d:Nat):MA:=⟨A.ax,A.cx,A.ac,A.cc,A.ar,A.cr,a,c,b,d⟩
theorem EJ (h:bi s x.heap.size x (aU A E)) (k:s<=x.heap.size) (hb:Bw x l) (D:DV) {d:Option A6} {f:Nat} {e:Option A6} {g:Nat} (w':Renew x l E.ai E.ci A.d.xs E.ao E.co A.d.ys d f D.xs e g D.ys):bi s l.heap.size l (aU (dg A D) (pn E d f e g)):=by
 have c:=h.below hb;rcases w' with ⟨⟨rfl,rfl,i⟩,rfl,rfl,j⟩|⟨a,rfl,rfl,j⟩|⟨⟨rfl,rfl,i⟩,a⟩|a;·unfold aU dg pn;dsimp only;rw [i,j];exact c.low (M5 _) hb.size
 ·have b:bi s x.heap.size l ([aK E.ax A.x.length E.cx A.x,aK E.ac A.cs.length E.cc A.cs,aI E.ar A.ram.length E.cr A.ram]++[aI E.ao A.d.ys.length E.co A.d.ys]):=c.sub (by unfold aU;simp);unfold aU dg pn;dsimp only;rw [j];exact b.ins (q:=aI d D.xs.length f D.xs) a k (M5 _) hb.size
 ·have b:bi s x.heap.size l ([aK E.ax A.x.length E.cx A.x,aK E.ac A.cs.length E.cc A.cs,aI E.ar A.ram.length E.cr A.ram,aI E.ai A.d.xs.length E.ci A.d.xs]++[]):=c.sub (by unfold aU;simp);unfold aU dg pn;dsimp only;rw [i];exact b.ins (q:=aI e D.ys.length g D.ys) a k (M5 _) hb.size
 ·have b:bi s x.heap.size l [aK E.ax A.x.length E.cx A.x,aK E.ac A.cs.length E.cc A.cs,aI E.ar A.ram.length E.cr A.ram]:=c.sub (by unfold aU;simp);exact b.app a k hb.size
theorem EK {i:Option A6} {w':Nat} {j:Option A6} {m:Nat} (r:Renew x l E.ai E.ci A.d.xs E.ao E.co A.d.ys i w' y.xs j m y.ys):∀ q ∈ aU (dg A y) (pn E i w' j m),∀ k,q.v.ownBlock=some k->k<x.heap.size->∃ q0 ∈ aU A E,q0.v.ownBlock=some k:=by
 intro q p k e c;simp only [aU,dg,pn,H1,H5,or_false] at p;have g:∀ (b:Option A6) (d:Nat) (f:List Int),l.ownsRow x.heap.size 5 1 (.slice b f.length d) f.length (f.map (L6 .u8))->∀ k,(L7 b f.length d).ownBlock=some k->k<x.heap.size->False:=λb d f h k e c=>by have:=(h.lt k e).1;omega
 have m4:aI E.ai A.d.xs.length E.ci A.d.xs ∈ aU A E:=d5
 have s:aI E.ao A.d.ys.length E.co A.d.ys ∈ aU A E:=d5
 rcases p with rfl|rfl|rfl|rfl|rfl;·exact ⟨_,d5,e⟩
 ·exact ⟨aK E.ac A.cs.length E.cc A.cs,d5,e⟩
 ·exact ⟨aI E.ar A.ram.length E.cr A.ram,d5,e⟩
 ·rcases r with ⟨⟨rfl,rfl,n⟩,_⟩|⟨a,_⟩|⟨⟨rfl,rfl,n⟩,_⟩|a;·rw [n] at e;exact ⟨_,m4,e⟩
  ·exact (g _ _ _ a k e c).elim
  ·rw [n] at e;exact ⟨_,m4,e⟩
  ·exact (g _ _ _ (a.own (aI i y.xs.length w' y.xs) (by simp [oK])) k e c).elim
 ·rcases r with ⟨_,rfl,rfl,o⟩|⟨_,rfl,rfl,o⟩|⟨_,a⟩|a;·rw [o] at e;exact ⟨_,s,e⟩
  ·rw [o] at e;exact ⟨_,s,e⟩
  ·exact (g _ _ _ a k e c).elim
  ·exact (g _ _ _ (a.own (aI j y.ys.length m y.ys) (by simp [oK])) k e c).elim
def J1 (w:A5) (r:Nat) (D:DV) (a:Option A6) (c:Nat) (b:Option A6) (d:Nat):World:=(((((w.setCell ⟨r,5,none⟩ (.u D.t)).setCell ⟨r,6,none⟩ (.u D.cm)).setCell ⟨r,7,none⟩ (.bool D.so)).setCell ⟨r,8,none⟩ (.slice a D.xs.length c)).setCell ⟨r,9,none⟩ (.slice b D.ys.length d)).setCell ⟨r,10,none⟩ (.i D.ir)
theorem Kx.put6r:Kx s b b m (J1 m s y T f o Q):=
 (((((Kx.set m 5 _).trans (Kx.set _ 6 _)).trans (Kx.set _ 7 _)).trans (Kx.set _ 8 _)).trans (Kx.set _ 9 _)).trans (Kx.set _ 10 _)
theorem Mp.fam_set (h:bi s x.heap.size x b) (r:∀ q ∈ b,q.v.ownBlock≠some w) (i:Nat) (v:F0):bi s (x.setCell ⟨w,i,none⟩ v).heap.size (x.setCell ⟨w,i,none⟩ v) b :=
 ⟨λq a=>dp (h.own q a) (λk e=>Below.heap_setCell x ⟨w,i,none⟩ v k (λc=>r q a (by rw [show w=k from c.symm];exact e))),λq a k e=>by rw [cy];exact h.hi q a k e,h.ne⟩
theorem Mp.dev (h:Mp s w A E x) (hb:Bw x l) (D:DV) {b:Option A6} {d:Nat} {c:Option A6} {f:Nat} (j:Renew x l E.ai E.ci A.d.xs E.ao E.co A.d.ys b d D.xs c f D.ys):Mp s w (dg A D) (pn E b d c f) (J1 l w D b d c f)/\Kx w (aU A E) (aU (dg A D) (pn E b d c f)) x (J1 l w D b d c f):=by
 have bZ:=h.lt;have B:s<=x.heap.size:=by have:=h.lo;omega
 have g:=EK D j;have a:∀ q ∈ aU (dg A D) (pn E b d c f),q.v.ownBlock≠some w:=λq v e=>by obtain ⟨y,p,o⟩:=g q v w e bZ;exact h.ne y p o
 have t:=EJ h.fam B hb D j;refine ⟨⟨?_,?_,a,h.lo⟩,?_⟩;·have i:=aA hb h.row;unfold aJ at i;have R1:=bj i 5 (.u D.t);have R2:=bj R1 6 (.u D.cm);have w':=bj R2 7 (.bool D.so);have m:=bj w' 8 (.slice b D.xs.length d);have n:=bj m 9 (.slice c D.ys.length f);exact bj n 10 (.i D.ir)
 ·exact Mp.fam_set (Mp.fam_set (Mp.fam_set (Mp.fam_set (Mp.fam_set (Mp.fam_set t a 5 _) a 6 _) a 7 _) a 8 _) a 9 _) a 10 _
 ·have M:Kx w (aU A E) (aU (dg A D) (pn E b d c f)) x l:=⟨hb.os,hb.tape,hb.output,hb.size,λk u _ _=>hb.block k u,g⟩;exact M.trans (Kx.put6r l D b d c f)
theorem oB:(d.map (L6 .u64)).set f (.u F)=(d.set f F).map (L6 .u64):=by rw [List.map_set]
def xM (M:MV) (xs:List Int):MV:={M with x:=xs}
def cM (M:MV) (cs:List Int):MV:={M with cs:=cs}
theorem jO {P:Program} (t ty:F3) (old cells:Array F0) (d:m.heap[f]?=some (.cells old t (0,0))) (b:(P.info? ty).map (·.size)=some cells.size) (h:j+cells.size<=old.size) (c:cells.all (·.oneCell')): (storeVar ty ⟨f,j,none⟩ (.agg cells)).run P m=.ok () (m.setRow f (old.toList.take j++cells.toList++old.toList.drop (j+cells.size)).toArray):=by
 have:=run_storeCells_at (P:=P) f j t cells.toList 0 old m d bb (λv g=>(Array.all_eq_true_iff_forall_mem.1 c) v ck);cases a:P.info? ty with
 | none=>simp [a] at b
 | some i =>have e:cells.size=i.size:=(by simp [a] at b;omega);simp only [Nat.add_zero,Array.length_toList] at this;simp only [L5] at this ⊢;simp [storeVar,sizeOf,typeInfo,a,Value.cells,e,this]
structure Kr where
 b:Nat
 cs:Array F0
 t:F3
 tg:List (Nat × Nat)
theorem Qe (h:y.xs.length<=1048576) (a:y.ys.length<=1048576):(ml y f).2.1.xs.length<=1048576/\(ml y f).2.1.ys.length<=1048576:=by have:=MO y f;omega
theorem kJ {fn:Func} {t u v x:Tmp} (h:fn.results=#[.tmp t,.tmp u,.tmp v,.tmp x]) (tmps:Array F0) (P:Program) (w:A5):(results fn tmps).run P w=.ok (.tuple #[tmps.getD t undef,tmps.getD u undef,tmps.getD v undef,tmps.getD x undef]) w:=by simp [results,h]
def dX (s:Int) (m:Bool):Int:=match m with | true=>wrap64 (A0 .and .u64 (s/2048) 3) | false=>wrap64 (bu s 8)
def i9 (s:Int):Int:=A0 .or .u64 (A0 .or .u64 (A0 .andNot .u64 s 6152) (Uz.wrap (bu s 7*8))) 128
def dY (s:Int) (m:Bool):Int:=match m with
 | true=>if (dX s true != 3)=true then A0 .andNot .u64 (i9 s) 131072 else i9 s
 | false=>A0 .or .u64 (A0 .or .u64 (A0 .andNot .u64 s 131330) (Uz.wrap (bu s 5*2))) 32
def jn (l:List Int) (m:Bool):Int:=match m with | true=>l.getD 6 0 | false=>l.getD 12 0
def Sn (k:Int):Bool:=decide (0<=k/\k<=15)
def yU (n:Nat) (l:List Int) (p k:Int):Bool:=aQ n l p&&Sn k
def rm (n:Nat) (l:List Int) (p pc k:Int) (i:Bool) (v:Int):List Int:=match yU n l p k with
 | true=>iQ l (dj l p k.toNat i) p (gE k i) pc v | false=>[]
def Dm (n:Nat) (l:List Int) (p k:Int) (i:Bool):Int:=match yU n l p k with
 | true=>tD (dj l p k.toNat i) | false=>0
def Dn (n:Nat) (l:List Int) (p k:Int) (i:Bool):Int:=match yU n l p k with
 | true=>ew (pC l (dj l p k.toNat i)) k (wZ l (dj l p k.toNat i) i) | false=>0
theorem uP (t pc v:Int):(iQ d C F t pc v).length=d.length:=by cases C<;>simp [iQ]
def kK (n:Nat) (l:List Int) (p:Int) (m:Bool):Bool:=aQ n l p&&!(m&&(p != 3))&&!(p==0)
def iO (n:Nat) (l:List Int) (p:Int) (m:Bool):List Int:=match kK n l p m with
 | true=>l.set 0 (dY (l.getD 0 0) m) | false=>[]
def qt (n:Nat) (l:List Int) (p:Int) (m:Bool):Int:=match kK n l p m with
 | true=>dX (l.getD 0 0) m | false=>0
def qu (n:Nat) (l:List Int) (p:Int) (m:Bool):Int:=match kK n l p m with
 | true=>jn l m | false=>0
theorem cR (h:U g):bu g f=aG g f 1:=by have a:=kX g h f;have:=gR (g/2^f) 1 a.1 a.2 aa;unfold bu aG;exact this
theorem M6 (h:U g):mW g F=A0 .or .u64 (A0 .or .u64 (A0 .andNot .u64 g 6280) (Uz.wrap (aG g 3 1*128))) (Uz.wrap (F*2048)):=by unfold mW;rw [cR g 3 h]
theorem J2:∀ i,i<64->bt 0 i=false:=by decide +kernel
theorem J3 (h:U g):lI g ((0:Int)==1)=A0 .or .u64 (A0 .or .u64 (A0 .andNot .u64 g 290) (Uz.wrap (aG g 1 1*32))) 0:=by show A0 .or .u64 (A0 .andNot .u64 g 290) (Uz.wrap (bu g 1*32))=_;rw [cR g 1 h];exact aS _ _ (af _ _ _) (af _ _ _) λi a=>by rw [bC _ 0,J2 i a,S5]
theorem J4 (h:U g):lI g ((1:Int)==1)=A0 .or .u64 (A0 .or .u64 (A0 .andNot .u64 g 290) (Uz.wrap (aG g 1 1*32))) 256:=by show A0 .or .u64 (A0 .or .u64 (A0 .andNot .u64 g 290) (Uz.wrap (bu g 1*32))) 256=_;rw [cR g 1 h]
theorem AU (h:U g):i9 g=A0 .or .u64 (A0 .or .u64 (A0 .andNot .u64 g 6280) (Uz.wrap (aG g 7 1*8))) 128:=by
 have e:∀ i,i<64->∀ a c:Bool,((a&&!bt 6152 i||c)||bt 128 i)=((a&&!bt 6280 i||c)||bt 128 i):=bv
 unfold i9;rw [cR g 7 h];exact aS _ _ (af _ _ _) (af _ _ _) λi b=>by rw [bC,bC,bC,bC,aw _ _ _ b,aw _ _ _ b,e i b]
theorem J5 (h:U g):dX g true=wrap64 (aG g 11 2):=by have a:=kX g h 11;have:=gR (g/2^11) 2 a.1 a.2 aa;show wrap64 (A0 .and .u64 (g/2048) 3)=_;exact congrArg wrap64 this
theorem AV (h:U g):dX g false=wrap64 (aG g 8 1):=by show wrap64 (bu g 8)=_;rw [cR g 8 h]
theorem nV (h:U g) (i j k:Nat):bt (Uz.wrap (aG g k 1*2^j)) i=(decide (i=j)&&decide (i<64)&&bt g k):=by
 rw [my _ (rJ _ _ _ aa),kA _ h _ _ _ aa];by_cases a:i=j;·subst a;simp
 ·by_cases b:j<=i
  ·have:¬ (i-j<1):=by omega
   simp [a,this]
  ·simp [a,b]
theorem J6 (h:U g):dY g false=A0 .andNot .u64 (A0 .or .u64 (A0 .or .u64 (A0 .andNot .u64 g 290) (Uz.wrap (aG g 5 1*2))) 32) 131072:=by
 have e:∀ i,i<64->∀ a c:Bool,((a&&!bt 131330 i||(decide (i=1)&&decide (i<64)&&c))||bt 32 i)=(((a&&!bt 290 i||(decide (i=1)&&decide (i<64)&&c))||bt 32 i)&&!bt 131072 i):=bv
 show A0 .or .u64 (A0 .or .u64 (A0 .andNot .u64 g 131330) (Uz.wrap (bu g 5*2))) 32=_;rw [cR g 5 h];have f:∀ i,bt (Uz.wrap (aG g 5 1*2)) i=(decide (i=1)&&decide (i<64)&&bt g 5):=λi=>nV g h i 1 5;exact aS _ _ (af _ _ _) (af _ _ _) λi b=>by rw [aw _ 131072 _ b,bC,bC,bC,bC,aw _ _ _ b,aw _ _ _ b,f i,e i b]
theorem GV (h:U g) (d:(dX g true != 3)):dY g true=A0 .andNot .u64 (A0 .or .u64 (A0 .or .u64 (A0 .andNot .u64 g 6280) (Uz.wrap (aG g 7 1*8))) 128) 131072:=by show (if (dX g true != 3)=true then A0 .andNot .u64 (i9 g) 131072 else i9 g)=_;rw [JZ8 d,AU g h]
theorem GW (h:U g) (d:(dX g true != 3)=false):dY g true=A0 .or .u64 (A0 .or .u64 (A0 .andNot .u64 g 6280) (Uz.wrap (aG g 7 1*8))) 128:=by show (if (dX g true != 3)=true then A0 .andNot .u64 (i9 g) 131072 else i9 g)=_;rw [JZ9 (by rw [d];decide),AU g h]
theorem Do (h:U g):dX g false=0\/dX g false=1:=by
 rw [AV g h];have:=jI g 8 1;have e:(2:Int)^1=2:=ba
 unfold wrap64;omega
theorem GX (h:U g):(dX g false != 3):=by rcases Do g h with e|e<;>rw [e]<;>rfl
theorem EL:(A0 .and .u64 g 1 != 0)=(A0 .and .u64 g 1==1):=by rw [P3];cases bt g 0<;>rfl
def uQ (l:List Int) (p:Int):Bool:=decide (p<3)||((p==3)&&(aG (l.getD 0 0) 3 1==1))
def uR (l:List Int) (p:Int):Bool:=decide (p<1)||((p==1)&&(aG (l.getD 0 0) 1 1==1))
def EM (l:List Int) (p:Int):Int :=
 match (decide (dA (A0 .andNot .u64 (kV l) (l.getD 2 0))>=0)&&uQ l p) with
 | true=>dA (A0 .andNot .u64 (kV l) (l.getD 2 0))
 | false=>match (decide (dA (A0 .and .u64 (kV l) (l.getD 2 0))>=0)&&uR l p) with
   | true=>dA (A0 .and .u64 (kV l) (l.getD 2 0))
   | false=>-1
theorem GY (h:decide (dA g>=0)=false):dA g=-1:=by
 rcases tL g eS with e|⟨n,_,e,_⟩;·exact e
 ·have:dA g=(n:Int):=e;rw [this] at h;simp at h
theorem J7 (b:di g) (h:U (d.getD 0 0)):uQ d g=D4 d g:=by
 have a:g=0\/g=1\/g=3:=by simpa [di,or_assoc] using b
 unfold uQ D4;rw [cR _ 3 h];rcases a with rfl|rfl|rfl<;>rfl
theorem J8 (b:di g) (h:U (d.getD 0 0)):uR d g=D5 d g:=by
 have a:g=0\/g=1\/g=3:=by simpa [di,or_assoc] using b
 unfold uR D5;rw [cR _ 1 h];rcases a with rfl|rfl|rfl<;>rfl
theorem M9 (l:List Int) (p:Int) (a:di p) (h:U (l.getD 0 0)):EM l p=iN l p:=by
 unfold EM iN If;rw [J7 l p a h,J8 l p a h,Bool.and_comm];have e:=GY (A0 .and .u64 (kV l) (l.getD 2 0));generalize dA (A0 .and .u64 (kV l) (l.getD 2 0))=c at *;generalize dA (A0 .andNot .u64 (kV l) (l.getD 2 0))=b at *;cases D4 l p&&decide (b>=0)
 ·cases D5 l p;·rw [S1]
  ·rw [Bool.and_true];cases d:decide (c>=0);·exact (e d).symm
   ·rfl
 ·rfl
theorem Na (h:A0 .and .u64 k r=k) (i:Nat) (e:bt k i):bt r i:=by rw [<- h,aq,R5] at e;exact e.2
theorem Nb (hx:U k) (h:∀ i,i<64->bt k i->bt r i):A0 .and .u64 k r=k :=
 aS _ _ (af _ _ _) hx λi a=>by
  rw [aq]
  cases e:bt k i with
  | false=>rfl
  | true=>rw [h i a e];rfl
theorem xm (h:U g):bu g f=if bt g f=true then 1 else 0:=by unfold bu;rw [P3,it g h,M7]
theorem Nc (h:U g):aG g f 1=if bt g f=true then 1 else 0:=by rw [<- cR g f h,xm g f h]
theorem yV (hx:U g) (a:∀ i,i<64->bt g i->bt 924074 i) (b:(!bt g 11&&bt g 12)=false):fS 0 g:=by have e:mst g=g:=(qY g hx).mpr ⟨Nb hx a,b⟩;show (mst g==g);rw [e];exact beq_self_eq_true _
theorem Dp (hx:U g) (h:fS 0 g):(∀ i,bt g i->bt 924074 i)/\(!bt g 11&&bt g 12)=false:=by
 have e:mst g=g:=by have:(mst g==g):=h;simpa using this
 obtain ⟨a,b⟩:=(qY g hx).mp e;exact ⟨Na a,b⟩
theorem rn (h:U g) (i:Nat) (a:i<64):bt (i9 g) i=((bt g i&&!bt 6152 i||(decide (i=3)&&decide (i<64)&&bt g 7))||bt 128 i):=by have f:bt (Uz.wrap (aG g 7 1*8)) i=(decide (i=3)&&decide (i<64)&&bt g 7):=nV g h i 3 7;unfold i9;rw [cR g 7 h,bC,bC,aw _ _ _ a,f]
theorem ro (h:U g) (i:Nat) (a:i<64):bt (dY g false) i=((bt g i&&!bt 131330 i||(decide (i=1)&&decide (i<64)&&bt g 5))||bt 32 i):=by have f:bt (Uz.wrap (aG g 5 1*2)) i=(decide (i=1)&&decide (i<64)&&bt g 5):=nV g h i 1 5;show bt (A0 .or .u64 (A0 .or .u64 (A0 .andNot .u64 g 131330) (Uz.wrap (bu g 5*2))) 32) i=_;rw [cR g 5 h,bC,bC,aw _ _ _ a,f]
theorem uS (h:U g) (i:Nat) (a:i<64):bt (mW g F) i=((bt g i&&!bt 6280 i||(decide (i=7)&&decide (i<64)&&bt g 3))||bt (Uz.wrap (F*2048)) i):=by have f:bt (Uz.wrap (aG g 3 1*128)) i=(decide (i=7)&&decide (i<64)&&bt g 3):=nV g h i 7 3;unfold mW;rw [cR g 3 h,bC,bC,aw _ _ _ a,f]
theorem uT (h:U g) (i:Nat) (a:i<64):bt (lI g C) i=((bt g i&&!bt 290 i||(decide (i=5)&&decide (i<64)&&bt g 1))||(C&&decide (i=8))):=by
 have f:bt (Uz.wrap (aG g 1 1*32)) i=(decide (i=5)&&decide (i<64)&&bt g 1):=nV g h i 5 1;have e:∀ i,i<64->bt 256 i=decide (i=8):=bv
 cases C with
 | true =>show bt (A0 .or .u64 (A0 .or .u64 (A0 .andNot .u64 g 290) (Uz.wrap (bu g 1*32))) 256) i=_;rw [cR g 1 h,bC,bC,aw _ _ _ a,f,e i a,S2]
 | false =>show bt (A0 .or .u64 (A0 .andNot .u64 g 290) (Uz.wrap (bu g 1*32))) i=_;rw [cR g 1 h,bC,aw _ _ _ a,f,Bool.false_and,S5]
theorem qw:U (dY g C):=by
 cases C with
 | true=>unfold dY;show U (if _ then _ else _);split<;>exact af _ _ _
 | false=>unfold dY;exact af _ _ _
theorem EN:U (mW g F):=af _ _ _
theorem EO:U (lI g C):=by cases C<;>(unfold lI;exact af _ _ _)
theorem Qf (k:Nat) (hk:k<16) (i:Bool):U (gE k i):=by
 cases i with
 | true=>unfold gE;exact af _ _ _
 | false=>show U (k:Int);exact ⟨aa,aa⟩
theorem Td:Uz.wrap ((0:Int)*2048)=0:=by decide
theorem Te:Uz.wrap ((1:Int)*2048)=2048:=by decide
theorem Tf:Uz.wrap ((3:Int)*2048)=6144:=by decide
theorem sf:dY g true=if (dX g true != 3)=true then A0 .andNot .u64 (i9 g) 131072 else i9 g:=rfl
theorem AW (h:U g) (m:Bool) (j:fS 0 g):fS 0 (dY g m):=by
 obtain ⟨k,l⟩:=Dp g h j;cases m with
 | false =>
   have e:∀ i,i<64->∀ a c:Bool,(a->bt 924074 i)->((a&&!bt 131330 i||(decide (i=1)&&decide (i<64)&&c))||bt 32 i)->bt 924074 i:=bv;refine yV _ (qw g false) (λi f d=>?_) ?_;·rw [ro g h i f] at d;exact e i f _ _ (k i) d
   ·have n:∀ a c:Bool,((a&&!bt 131330 11||(decide (11=1)&&decide (11<64)&&c))||bt 32 11)=a:=bv;have s:∀ a c:Bool,((a&&!bt 131330 12||(decide (12=1)&&decide (12<64)&&c))||bt 32 12)=a:=bv;rw [ro g h 11 aa,ro g h 12 aa,n,s];exact l
 | true =>
   have e:∀ i,i<64->∀ a c:Bool,(a->bt 924074 i)->((a&&!bt 6152 i||(decide (i=3)&&decide (i<64)&&c))||bt 128 i)->bt 924074 i:=bv;have s:∀ a c:Bool,((a&&!bt 6152 12||(decide (12=3)&&decide (12<64)&&c))||bt 128 12)=false:=bv;refine yV _ (qw g true) (λi f d=>?_) ?_
   ·have b:bt (i9 g) i:=by
     revert d;rw [sf];split;·rw [aw _ _ _ f];intro d;exact (R5 _ _ ▸ d).1
     ·exact id
    rw [rn g h i f] at b;exact e i f _ _ (k i) b
   ·have b:bt (dY g true) 12=false:=by
     rw [sf];split;·rw [aw _ _ _ aa,rn g h 12 aa,s];rfl
     ·rw [rn g h 12 aa,s]
    rw [b,S1]
theorem J9 (h:U g) (m:di F) (s:fS 0 g):fS 0 (mW g F):=by
 obtain ⟨l,n⟩:=Dp g h s;have f:F=0\/F=1\/F=3:=by simpa [di,or_assoc] using m
 refine yV _ (EN g F) (λi j b=>?_) ?_
 ·rw [uS g F h i j] at b;have e:∀ i,i<64->∀ a c:Bool,(a->bt 924074 i)->(((a&&!bt 6280 i||(decide (i=7)&&decide (i<64)&&c))||bt 0 i)->bt 924074 i)/\(((a&&!bt 6280 i||(decide (i=7)&&decide (i<64)&&c))||bt 2048 i)->bt 924074 i)/\(((a&&!bt 6280 i||(decide (i=7)&&decide (i<64)&&c))||bt 6144 i)->bt 924074 i):=bv;have e:=e i j _ (bt g 3) (l i);rcases f with rfl|rfl|rfl;·rw [Td] at b;exact e.1 b
  ·rw [Te] at b;exact e.2.1 b
  ·rw [Tf] at b;exact e.2.2 b
 ·rw [uS g F h 11 aa,uS g F h 12 aa];have k:∀ a c d:Bool,(!((a&&!bt 6280 11||(decide (11=7)&&decide (11<64)&&c))||bt 0 11)&&((d&&!bt 6280 12||(decide (12=7)&&decide (12<64)&&c))||bt 0 12))=false/\(!((a&&!bt 6280 11||(decide (11=7)&&decide (11<64)&&c))||bt 2048 11)&&((d&&!bt 6280 12||(decide (12=7)&&decide (12<64)&&c))||bt 2048 12))=false/\(!((a&&!bt 6280 11||(decide (11=7)&&decide (11<64)&&c))||bt 6144 11)&&((d&&!bt 6280 12||(decide (12=7)&&decide (12<64)&&c))||bt 6144 12))=false:=bv;have k:=k (bt g 11) (bt g 3) (bt g 12);rcases f with rfl|rfl|rfl;·rw [Td];exact k.1
  ·rw [Te];exact k.2.1
  ·rw [Tf];exact k.2.2
theorem Ka (h:U g) (d:fS 0 g):fS 0 (lI g C):=by
 obtain ⟨j,k⟩:=Dp g h d;refine yV _ (EO g C) (λi s f=>?_) ?_;·rw [uT g C h i s] at f;have e:∀ i,i<64->∀ a c C:Bool,(a->bt 924074 i)->((a&&!bt 290 i||(decide (i=5)&&decide (i<64)&&c))||(C&&decide (i=8)))->bt 924074 i:=bv;exact e i s _ _ _ (j i) f
 ·have l:∀ a c C:Bool,((a&&!bt 290 11||(decide (11=5)&&decide (11<64)&&c))||(C&&decide (11=8)))=a:=bv;have m:∀ a c C:Bool,((a&&!bt 290 12||(decide (12=5)&&decide (12<64)&&c))||(C&&decide (12=8)))=a:=bv;rw [uT g C h 11 aa,uT g C h 12 aa,l,m];exact k
theorem EP:∀ k,k<16->∀ i:Bool,fS 7 (gE (k:Nat) i)/\fS 13 (gE (k:Nat) i):=by decide +kernel
theorem EQ:fS 8 g/\fS 14 g:=⟨beq_self_eq_true g,beq_self_eq_true g⟩
theorem ON (h:U g):fS 6 (A0 .andNot .u64 g 3)/\fS 12 (A0 .andNot .u64 g 3):=⟨nR g h 6 aa aa aa,nR g h 12 aa aa aa⟩
theorem Kb (hz:d.length=22) (hl:∀ j,U (d.getD j 0)) (a:bp 22 d) (l:Bool) (p pc v:Int) (e:di p) (b:U pc) (k:Nat) (hk:k<16) (i:Bool):bp 22 (iQ d l p (gE k i) pc v):=by
 have c:fS 0 (d.getD 0 0):=dx a 0 aa;cases l with
 | true =>refine bM _ mr ?_ 0 aa _ (Ka _ _ (hl 0) c);refine bM _ mr ?_ 14 aa _ (EQ v).2;refine bM _ mr ?_ 12 aa _ (ON pc b).2;exact bM _ hz a 13 aa _ (EP k hk i).2
 | false =>refine bM _ mr ?_ 0 aa _ (J9 _ p (hl 0) e c);refine bM _ mr ?_ 8 aa _ (EQ v).1;refine bM _ mr ?_ 6 aa _ (ON pc b).1;exact bM _ hz a 7 aa _ (EP k hk i).1
theorem Nd (hl:∀ j,U (d.getD j 0)) (l:Bool) (p pc v:Int) (hv:U v) (k:Nat) (hk:k<16) (i:Bool):∀ j,U ((iQ d l p (gE k i) pc v).getD j 0):=by
 have a:=Qf k hk i;cases l with
 | true=>exact iA _ (iA _ (iA _ (iA _ hl 13 _ a) 12 _ (af _ _ _)) 14 _ hv) 0 _ (EO _ _)
 | false=>exact iA _ (iA _ (iA _ (iA _ hl 7 _ a) 6 _ (af _ _ _)) 8 _ hv) 0 _ (EN _ _)
theorem Nf (h:U g):A0 .and .u64 g 3=g%4:=gR g 2 h.1 h.2 aa
theorem Tg (h:fS 6 g\/fS 12 g):A0 .and .u64 g 3=0:=by
 have e:A0 .andNot .u64 g 3=g:=by
  rcases h with h|h;·have:(A0 .andNot .u64 g 3==g):=h;simpa using this
  ·have:(A0 .andNot .u64 g 3==g):=h;simpa using this
 refine aS _ _ (af _ _ _) ⟨ba,ba⟩ λi c=>?_;have k:∀ a b:Bool,((a&&!b)&&b)=false:=ba
 rw [aq,<- e,aw _ _ _ c,k,J2 i c]
theorem Tu (k:Nat) (j:Bool) (h:fS 4 g\/fS 10 g):A0 .and .u64 (ew g k j) 3=0:=by
 have e:A0 .andNot .u64 g 2=g:=by
  rcases h with h|h;·have:(A0 .andNot .u64 g 2==g):=h;simpa using this
  ·have:(A0 .andNot .u64 g 2==g):=h;simpa using this
 have f:A0 .and .u64 (A0 .andNot .u64 g 1) 3=0:=by refine aS _ _ (af _ _ _) ⟨ba,ba⟩ λi b=>?_;have k:∀ i,i<64->∀ a:Bool,(((a&&!bt 2 i)&&!bt 1 i)&&bt 3 i)=bt 0 i:=bv;rw [aq,<- e,aw _ _ _ b,aw _ _ _ b,k i b]
 cases j with
 | false=>exact f
 | true =>show A0 .and .u64 (Uz.wrap (A0 .andNot .u64 g 1+Uz.wrap (4*k))) 3=0;rw [Nf _ (af _ _ _)] at f;rw [Nf _ (bq _),G3,G3];omega
