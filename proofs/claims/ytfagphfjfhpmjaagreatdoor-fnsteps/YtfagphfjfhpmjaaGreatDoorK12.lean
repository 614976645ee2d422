/- Own lemmas. -/
import Derived.Test.YtfagphfjfhpmjaaGreatDoorAut
import Derived.Test.YtfagphfjfhpmjaaGreatDoorK11
import Derived.Test.YtfagphfjfhpmjaaGreatDoorK12H
set_option maxRecDepth 100000
set_option maxHeartbeats 40000000
namespace Go.Proofs.YtfagphfjfhpmjaaGreatDoor
open Go.RowKit Tryz
open IntKind renaming u64->Uz
set_option linter.unusedVariables false
variable {s x:Nat} {l w:World} {b:List Int} {p:TypeId} {r a:Array Value} {k A:MA} {B m:Int} {D:List FRow} {L:Type} {M:MV} (E:DV) (T c:MV) (v:MA) (d:List Int) (g:Bool) (o y:Int) (R:Option Addr) (f j n:Nat) (z:World) (C:Bool) (F K:Int)
theorem Cq (g cc:Nat) (ar:Option Addr) (P cr:Nat) (t cm:Int) (pr:Bool) (r:Option Addr) (E u:Nat) (s:Option Addr) (no z:Nat) (C hd:Int) (hl wt:Bool) (b:Nat) (y D:Int) (w:World) (c:w.heap[b]?=some (.cells #[.u o,.slice R f j,.i F,.slice (some ⟨g,0,none⟩) 22 cc,.slice ar P cr,.u t,.u cm,.bool pr,.slice r E u,.slice s no z,.i C,.u hd,.bool hl,.bool wt] 32 (0,0))) (d:w.cell? ⟨g,9,none⟩=some (.u y)) (B:w.frozen? ⟨g,9,none⟩=false) (J:g<w.heap.size) (I:∀ cx,Bw w cx->CB 81 #[.agg #[.u t,.u cm,.bool pr,.slice r E u,.slice s no z,.i C]] cx (.u D)): Calls prog 128 #[.p b 0] w λe cx=>e=.returned (.tuple #[])/\∃ pc,Bw w pc/\cx=pc.setCell ⟨g,9,none⟩ (.u (bits .or .u64 (bits .andNot .u64 y 2184) D)):=by
 have K:Hid (CB 81 #[.agg #[.u t,.u cm,.bool pr,.slice r E u,.slice s no z,.i C]] w.drew (.u D)):=I w.drew (Below.refl _ _).drew;have l:=aE c;have H:=aE J;have G:=aE (And.intro d B);obtain ⟨Y,Z,p2,p3,p4,p5,p6,p7,p8,p9,Q,L,S,T⟩:=aZ c;clear I c J;go_enter func128,ntmps128;go_wp2_with fail;go_region_with (first | (go_at_call 81;with_reducible refine K.out.mono ?_;rintro e pc ⟨rfl,m⟩;have q:=aE (aa (Below.refl w.heap.size w).drew m);clear m;obtain ⟨q0,q1,q2,q3,q4,q5,q6,q7,q8,q9,U,V,W,X⟩:=aZ (bq q.out l.out);have N:=(q.out.cell (p:=⟨g,9,none⟩) H.out).trans G.out.1;have O:pc.frozen? ⟨g,9,none⟩=false:=i5));all_goals go_wp2_with fail
 all_goals refine bodyPost_end (results_none rfl _ _ _) rfl ?_
 all_goals exact ⟨rfl,pc,q.out,rfl⟩
def iw (M:MV):MV:=⟨M.pc,M.x,M.pr,M.cs.set 9 (bits .or .u64 (bits .andNot .u64 (M.cs.getD 9 0) 2184) (i7 M.d)),M.ram,M.d,M.hd,M.hl,M.wt⟩
theorem JH:aj (iw T) v=aj T v:=by simp [aj,iw]
theorem JI:(iw T).cs.length=T.cs.length:=by simp [iw]
theorem rl (h:nY M.d.xs.length M.d.ys.length M.d.ir=true):iw M=cK M:=by
 have:i7 M.d=dP M.d:=by unfold i7;rw [h];rfl
 unfold iw cK;rw [this]
theorem xJ (t:T.cs.length=22) (hl:jR T) (b:z.heap[f]?=some (.cells (aj T v) 32 (0,0))) (u:bA j n z (aG T v)) (hb:∀ q ∈ aG T v,q.v.ownBlock≠some f): Calls prog 128 #[.p f 0] z λe B=>e=.returned (.tuple #[])/\B.heap[f]?=some (.cells (aj (iw T) v) 32 (0,0))/\bA j n B (aG (iw T) v)/\jv (aG T v) z B:=by
 have c:aJ v.ac T.cs.length v.cc T.cs ∈ aG T v:=dv
 have J:=u.own _ c;have C:=u.msl;obtain ⟨g,F,a,K,H⟩:=C.cs 9 ab;have m:F=0:=by
  rcases J.2 with ⟨e,_⟩|⟨s,cap,p,e,_⟩
  ·have e2:Value.slice v.ac T.cs.length v.cc=.slice none 0 0:=e;injection e2 with e3
   rw [a] at e3;cases e3
  ·have e2:Value.slice v.ac T.cs.length v.cc=.slice (some ⟨s,0,none⟩) T.cs.length cap:=e;injection e2 with e3
   rw [a] at e3;injection e3 with e4
   injection e4
 subst m;rw [Nat.zero_add] at H;have d:(aJ v.ac T.cs.length v.cc T.cs).v.ownBlock=some g:=by show (Value.slice v.ac T.cs.length v.cc).ownBlock=_;rw [a];rfl
 have x:g≠f:=λe=>hb _ c (by rw [d,e]);have A:z.frozen? ⟨g,9,none⟩=false:=by
  rcases J.2 with ⟨e,_⟩|⟨s,cap,p,e,L,E,_⟩;·have e2:Value.slice v.ac T.cs.length v.cc=.slice none 0 0:=e;rw [a] at e2;cases e2
  ·have e2:Value.slice v.ac T.cs.length v.cc=.slice (some ⟨s,0,none⟩) T.cs.length cap:=e;rw [a] at e2;injection e2 with e3
   injection e3 with e4
   injection e4 with e5
   subst e5;exact hO E 9
 have i:=b;unfold aj at i;rw [a,t] at i;refine (Cq _ _ _ _ _ g _ _ _ _ _ _ _ _ _ _ _ _ _ _ _ _ _ f (T.cs.getD 9 0) (i7 T.d) z i H A K (λB N=>yN T.d _ _ _ _ B hl.xs hl.ys)).mono ?_;rintro e B ⟨rfl,o,h,rfl⟩;have k:=u.below h;have w:=k.own _ c;refine ⟨rfl,?_,?_⟩;·rw [JH];exact gH (bq h b) ⟨g,9,none⟩ _ (λe=>x e.symm)
 ·have y:o.grownBy (o.setCell ⟨g,9,none⟩ (.u (bits .or .u64 (bits .andNot .u64 (T.cs.getD 9 0) 2184) (i7 T.d)))) (aJ v.ac T.cs.length v.cc T.cs).v.ownBlock:=(by rw [d];exact yr _ _ _ _);have D:(o.setCell ⟨g,9,none⟩ (.u (bits .or .u64 (bits .andNot .u64 (T.cs.getD 9 0) 2184) (i7 T.d)))).ownsRow j 22 1 (.slice v.ac T.cs.length v.cc) T.cs.length ((iw T).cs.map (Value.int .u64)):=(by have E:o.ownsRow j 22 1 (.slice v.ac T.cs.length v.cc) T.cs.length (T.cs.map (Value.int .u64)):=w;rw [a] at E ⊢;have G:=(E.stored 9 (.u (bits .or .u64 (bits .andNot .u64 (T.cs.getD 9 0) 2184) (i7 T.d)))).1;rw [ks] at G;exact G);have I:=bA.markL (L1:=[aJ v.ax T.x.length v.cx T.x]) (L2:=[aD v.ar T.ram.length v.cr T.ram,aD v.ai T.d.xs.length v.ci T.d.xs,aD v.ao T.d.ys.length v.co T.d.ys]) (r:=aJ v.ac T.cs.length v.cc T.cs) k y _ D;refine ⟨?_,(jv.of_below h).trans I.2⟩;have l:(iw T).cs.length=T.cs.length:=(by simp [iw]);unfold aG;rw [l];exact I.1
def rm (a:Int):Nat:=min (Lib.ctz 64 (18446744073709551615-a).toNat) 53
theorem Mm (b:f<18446744073709551616) (j:Nat):(bits .and .u64 ((f:Int)/2^j) 1==1)=f.testBit j:=by
 have h:=mj (f:Int) ⟨ab,ab⟩ j;have e:=cI ((f:Int)/2^j) 1 h.1 h.2 ab;have e2:((2:Int)^1-1)=1:=rfl;rw [e2] at e;rw [e,Nat.testBit_eq_decide_div_mod_eq];have e3:((f:Int)/2^j%2^1)=((f/2^j%2:Nat):Int):=cp
 rw [e3];have:f/2^j%2=0\/f/2^j%2=1:=ab
 rcases this with h|h<;>rw [h]<;>rfl
theorem JJ (c:∀ j,j<f->(bits .and .u64 (o/2^j) 1==1)=true) (d:(bits .and .u64 (o/2^f) 1==1)=false):∀ n i,i<=f->fj o n i=min (i+n) f:=by
 intro n;induction n with
 | zero=>intro i k;show i=min (i+0) f;omega
 | succ n g =>
   intro i k;unfold fj;rcases Nat.lt_or_ge i f with b|e;·rw [if_pos (c i b),g (i+1) b];omega
   ·obtain rfl:i=f:=ab;rw [if_neg (by rw [d];decide)];omega
theorem Pt (l:0<=o) (a:o<18014398509481984):rm o=fj o 53 0:=by
 obtain ⟨n,rfl⟩:∃ n:Nat,o=n:=⟨o.toNat,ab⟩
 have i:(18446744073709551615-(n:Int)).toNat=18446744073709551615-n:=ab
 unfold rm
 rw [i]
 have c:18446744073709551615-n≠0:=ab
 have f:Lib.ctz 64 (18446744073709551615-n)=Lib.ctzFrom 64 (18446744073709551615-n):=by unfold Lib.ctz;rw [if_neg c]
 obtain ⟨m,p,g⟩:=Lib.ctzFrom_spec 64 (18446744073709551615-n) ab ab
 rw [f]
 generalize Lib.ctzFrom 64 (18446744073709551615-n)=k at *
 have b:2^k*(2*m+1)<2^64:=ab
 have h:n=2^64-(2^k*(2*m+1)+1):=ab
 have d:∀ j,j<64->n.testBit j=!(decide (k<=j)&&(2*m+1).testBit (j-k)):=by
  intro j e
  rw [h,Nat.testBit_two_pow_sub_succ b,Nat.testBit_two_pow_mul,decide_eq_true e,Bool.true_and]
 rw [JJ (n:Int) k (λj e=>by rw [Mm n ab,d j ab,decide_eq_false ab];rfl)
  (by rw [Mm n ab,d k g,Nat.sub_self];simp) 53 0 ab]
 omega
def tJ (l:List Int) (i:Nat):Int:=if (i==0)=true then 0 else Uz.wrap (4*l.getD (16+i) 0)
def rp (a:Int) (k:Nat):Int:=Uz.wrap (4*Uz.wrap (a/2^(k+1)*2^(k+1)))
def tK (a:Int) (k:Nat):Int:=Uz.wrap (rp a k+Uz.wrap (2^(k+3)))
def fd (l:List Int) (i:Nat):Int × Int :=
 if (iI (l.getD 16 0) i==1)=true then (tJ l i,Uz.wrap (4*l.getD (17+i) 0))
 else if (iI (l.getD 16 0) i==2)=true then (Uz.wrap (4*l.getD (17+i) 0),Uz.wrap (Uz.wrap (4*l.getD (17+i) 0)+4))
 else if (iI (l.getD 16 0) i==3)=true then (rp (l.getD (17+i) 0) (rm (l.getD (17+i) 0)),tK (l.getD (17+i) 0) (rm (l.getD (17+i) 0)))
 else (0,0)
theorem Mn (f:0<=o) (m:o<18014398509481984) (k:Nat) (hk:k<=53):rp o k=tu o k/\Uz.wrap (tK o k-1)=yz o k/\rp o k<tK o k:=by
 have d:U o:=⟨f,ab⟩;have e:=E9 o d (k+1) ab;have n:(0:Int)<2^(k+1):=Int.pow_pos ab;have l:o/2^(k+1)*2^(k+1)<=o:=Int.ediv_mul_le _ ab;have j:0<=o/2^(k+1)*2^(k+1):=Int.mul_nonneg (mj o d (k+1)).1 ab;have g:∀ k,k<=53->(0:Int)<2^(k+3)/\(2:Int)^(k+3)<=72057594037927936:=cb
 obtain ⟨h,i⟩:=g k hk;have b:rp o k=4*(o/2^(k+1)*2^(k+1)):=by unfold rp;generalize o/2^(k+1)*2^(k+1)=z at *;rw [IntKind.wrap_u64,IntKind.wrap_u64];omega
 have c:tu o k=4*(o/2^(k+1)*2^(k+1)):=by unfold tu;rw [e];generalize o/2^(k+1)*2^(k+1)=z at *;rw [IntKind.wrap_u64];omega
 refine ⟨b.trans c.symm,?_,?_⟩;·unfold tK yz;rw [b,c]
 ·unfold tK;rw [b];generalize o/2^(k+1)*2^(k+1)=z at *;generalize (2:Int)^(k+3)=q at *;rw [IntKind.wrap_u64,IntKind.wrap_u64];omega
theorem Cr (hl:∀ j,U (b.getD j 0)) (c:bE 22 b=true) (i:Nat) (g:i<4): cZ b i=if (fd b i).2<=(fd b i).1 then (0,0,false) else ((fd b i).1,Uz.wrap ((fd b i).2-1),true):=by
 have f:iI (b.getD 16 0) i=i9 b i:=yK b (hl 16) i g;have l:=Po hl c (17+i) ab ab;unfold cZ fd;rw [f];cases k:(i9 b i==1) with
 | true =>
   simp only [if_true];have e:tJ b i=kV b i:=by
    unfold tJ kV;rcases Nat.eq_zero_or_pos i with h|h;·subst h;rfl
    ·have:(i==0)=false:=by simp;omega
     rw [this,if_neg bc,if_pos h,Int.mul_comm]
   rw [e,Int.mul_comm 4]
 | false =>
   simp only [Bool.false_eq_true,if_false];cases m:(i9 b i==2) with
   | true =>simp only [if_true];generalize b.getD (17+i) 0=a at *;rw [Int.mul_comm a 4];simp only [IntKind.wrap_u64];rw [if_neg ab];congr 2;omega
   | false =>
     simp only [Bool.false_eq_true,if_false];cases n:(i9 b i==3) with
     | true =>simp only [if_true];rw [Pt _ l.1 l.2];obtain ⟨d,e2,e3⟩:=Mn _ l.1 l.2 (fj (b.getD (17+i) 0) 53 0) (by have:=Mg (b.getD (17+i) 0) 53 0;omega);rw [if_neg ab,d,e2]
     | false =>simp only [Bool.false_eq_true,if_false];rfl
def mW (l:List Int) (k:Nat):Option (Nat × Int × Int × Int):=if (fd l k).2<=(fd l k).1 then none else some (k,(fd l k).1,Uz.wrap ((fd l k).2-1),dc (l.getD 16 0) (8*k) 8)
def gi (l:List Int) (k:Nat):List (Nat × Int × Int × Int):=(List.range k).filterMap (mW l)
theorem JK (h:(fd b s).2<=(fd b s).1):gi b (s+1)=gi b s:=by
 unfold gi;rw [List.range_succ,List.filterMap_append];have:mW b s=none:=by unfold mW;rw [if_pos h]
 simp [this]
theorem JL (h:¬ (fd b s).2<=(fd b s).1):gi b (s+1)=gi b s++[(s,(fd b s).1,Uz.wrap ((fd b s).2-1),dc (b.getD 16 0) (8*s) 8)]:=by
 unfold gi;rw [List.range_succ,List.filterMap_append];have:mW b s=some (s,(fd b s).1,Uz.wrap ((fd b s).2-1),dc (b.getD 16 0) (8*s) 8):=by unfold mW;rw [if_neg h]
 simp [this]
theorem Mo:(gi d f).length<=f:=by unfold gi;exact Nat.le_trans (List.length_filterMap_le _ _) cp
theorem Mq:∀ l k,gi d k <+: gi d (k+l):=by
 intro l;induction l with
 | zero=>intro k;exact List.prefix_refl _
 | succ l a =>intro k;refine (a k).trans ?_;show gi d (k+l) <+: gi d (k+l+1);unfold gi;rw [List.range_succ,List.filterMap_append];exact List.prefix_append _ _
theorem JM {q:L->Bool} {xs pre a:List L} {last:L} (h:pre <+: xs) (e:pre=a++[last]) (b:∀ p ∈ a,q p=false) (hl:q last=true):xs.find? q=some last:=by
 obtain ⟨r,rfl⟩:=h;subst e;rw [List.append_assoc,List.find?_append];have:a.find? q=none:=List.find?_eq_none.2 λp c=>by rw [b p c];decide
 rw [this];simp [hl]
theorem JN {q:L->Bool} {xs:List L} (a:∀ p ∈ xs,q p=false):xs.find? q=none:=List.find?_eq_none.2 λp b=>by rw [a p b];decide
def VW (l:List Int) (i:Int):Int × Int × Bool:=match (gi l 4).find? (λp=>(p.1:Int)==i) with | some p=>(p.2.1,p.2.2.1,true) | none=>(0,0,false)
def jG (x y:Int) (p:Nat × Int × Int × Int):Bool:=decide (p.2.1<=y)&&decide (x<=p.2.2.1)
def kX (l:List Int) (x y:Int):Int × Int × Int × Bool:=match (gi l 4).find? (jG x y) with | some p=>(p.2.1,p.2.2.1,p.2.2.2,true) | none=>(0,0,0,false)
theorem Mr (hl:∀ j,U (b.getD j 0)) (a:bE 22 b=true) (k:Nat) (hk:k<4): (mW b k=none/\cZ b k=(0,0,false))\/(∃ c l,mW b k=some (k,c,l,dJ b k)/\cZ b k=(c,l,true)):=by
 rw [Cr hl a k hk];unfold mW;rw [EZ b (hl 16) k];by_cases h:(fd b k).2<=(fd b k).1;·rw [if_pos h,if_pos h];exact .inl ⟨rfl,rfl⟩
 ·rw [if_neg h,if_neg h];exact .inr ⟨_,_,rfl,rfl⟩
theorem Pu {p:Nat × Int × Int × Int} (h:p ∈ gi b s):p.1<s/\mW b p.1=some p:=by
 unfold gi at h;obtain ⟨a,d,e⟩:=List.mem_filterMap.1 h;have l:a<s:=List.mem_range.1 d;have c:p.1=a:=by
  unfold mW at e;split at e;·cases e
  ·rw [<- Option.some.inj e]
 rw [c];exact ⟨l,e⟩
theorem Fe {x y:Int} (c:cZ b s=(B,m,true)):qI (cZ b s) x y=!jG x y (s,B,m,dJ b s):=by
 rw [c];unfold qI jG;simp only [Bool.not_true,Bool.false_or,Bool.not_and];congr 1;·rw [<- decide_not];congr 1;exact propext ⟨λh=>ab,λh=>ab⟩
 ·rw [<- decide_not];congr 1;exact propext ⟨λh=>ab,λh=>ab⟩
def Uj (p x y kind:Int):Option (Nat × Int × Int × Int)->Bool
 | none=>(p==3)
 | some q=>!(decide (x<q.2.1)||decide (q.2.2.1<y))&&xD q.2.2.2 p kind
theorem JO (hl:∀ j,U (b.getD j 0)) (l:bE 22 b=true) (p x y kind:Int):∀ n k,k+n<=4->aB b p x y kind n k=Uj p x y kind (((List.range' k n).filterMap (mW b)).find? (jG x y)):=by
 intro n;induction n with
 | zero=>intro k f;rfl
 | succ n c =>
   intro k f;rw [aB,List.range'_succ,List.filterMap_cons];rcases Mr hl l k ab with ⟨e,a⟩|⟨h,d,e,a⟩;·rw [e,c (k+1) ab];have g:qI (cZ b k) x y=true:=(by rw [a];rfl);rw [g,if_pos rfl]
   ·rw [e,Fe a];simp only [List.find?_cons];cases i:jG x y (k,h,d,dJ b k) with
    | false =>rw [c (k+1) ab];rfl
    | true =>rw [a];rfl
theorem Uk:∀ z:Nat,z<256->(bits .and .u64 (z:Int) 128==0)=((z:Int)/128==0)/\(bits .and .u64 (z:Int) 128 != 0)=((z:Int)/128==1)/\(bits .and .u64 (z:Int) 4 != 0)=(bits .and .u64 ((z:Int)/4) 1==1)/\(bits .and .u64 (z:Int) 1 != 0)=(bits .and .u64 (z:Int) 1==1) /\
 (bits .and .u64 (z:Int) 2 != 0)=(bits .and .u64 ((z:Int)/2) 1==1)/\(bits .and .u64 (z:Int) 2==0)=(bits .and .u64 ((z:Int)/2) 1==0):=cb
theorem jZ:bA f j z (aG zeroM zeroA):=by
 refine ⟨λr a=>?_,λr a k e=>?_,?_⟩;·simp only [aG,List.mem_cons,List.not_mem_nil,or_false] at a;rcases a with rfl | rfl | rfl | rfl | rfl<;>exact ⟨rfl,.inl ⟨rfl,rfl⟩⟩
 ·simp only [aG,List.mem_cons,List.not_mem_nil,or_false] at a;rcases a with rfl|rfl|rfl|rfl|rfl<;>cases e
 ·simp only [aG,List.pairwise_cons,List.mem_cons,List.not_mem_nil,or_false];refine ⟨λs _ k e=>?_,λs _ k e=>?_,λs _ k e=>?_,λs _ k e=>?_,λs h=>h.elim,List.Pairwise.nil⟩<;>cases e
theorem Pv (b2:Option Addr) (c:Nat) (hr:l.heap[s]?=some (.cells r p (0,0))) (hn:r.size=14): (do Instr.storeAt 30 (.p s 5) (.agg #[.u E.t,.u E.cm,.bool E.so,.slice R E.xs.length f,.slice b2 E.ys.length c,.i E.ir]);pure Next.skip:Sem Next).run prog l=.ok .skip (GI l s E R f b2 c):=by
 have h:=run_storeCells_cells (P:=prog) s 5 [.u E.t,.u E.cm,.bool E.so,.slice R E.xs.length f,.slice b2 E.ys.length c,.i E.ir] 0 l (λj g=>by simp only [List.length_cons,List.length_nil] at g;simp [World.cell?,hr,hn];omega) (λj _=>hO hr _) (λv d=>by
  simp only [List.mem_cons,List.not_mem_nil,or_false] at d
  rcases d with rfl|rfl|rfl|rfl|rfl|rfl<;>rfl)
 have e:(prog.info? 30).map (·.size)=some 6:=ba
 obtain ⟨i,b,k⟩:=Option.map_eq_some_iff.1 e
 simp [Instr.storeAt,Instr.sureAddr,storeVar,sizeOf,typeInfo,b,k,Value.cells,h,Result.andThen]
 rfl
def SH (k:Int) (M M1:MV) (b cd a c is hit:Bool) (d f e:Int) (R:List Int) (D:DV):Int × MV × Int :=
 if b=true then (0,M,oH k) else if cd=true then (0,M1,wrap64 (d+16)) else if a=true then (0,M1,g8 k)
 else if c=true then (if (k==3)=true then (0,if hit=true then lI (bU M1 R) else bU M1 R,0) else (f,M1,0))
 else if (k==2)=true then (if is=true then (e,cK (db M1 D),0) else (0,M1,g8 k))
 else if (k==3)=true then (if is=true then (0,if hit=true then lI (cK (db M1 D)) else cK (db M1 D),0) else (0,M1,g8 k))
 else (0,M1,g8 k)
def UL (N:MV):MV:=⟨N.pc,N.x,N.pr,N.cs,N.ram,N.d,N.hd,false,N.wt⟩
theorem SI (R:List Int) (D:DV):SH 3 T c false false false false true g o y F R D=(0,if g=true then lI (cK (db c D)) else cK (db c D),0):=rfl
theorem Pw (b:Int) (R:List Int) (D:DV):SH 3 T c false false false true g C F K b R D=(0,if C=true then lI (bU c R) else bU c R,0):=rfl
theorem wq:(T.hl=false/\lJ T o=false)\/(T.hl=true/\(bits .andNot .u64 T.hd 7==bits .andNot .u64 o 7)=false/\lJ T o=false)\/T.hl=true/\(bits .andNot .u64 T.hd 7==bits .andNot .u64 o 7)=true/\lJ T o=true:=by unfold lJ;cases T.hl<;>cases (bits .andNot .u64 T.hd 7==bits .andNot .u64 o 7)<;>simp
theorem Fg {M M1:MV} {r:Nat} (p u size:Int) (wr L q hit:Bool) (yl yd:Int) (R:List Int) (D:DV) (is:Bool) (hk:o=1\/o=2\/o=3) (hm:Mp x r M k l) (hs1:1<=F) (hs8:F<=8) (ha:U y) (hL:∀ w',Mp x r M k w'->Calls prog 132 #[.p r 0,.slice none 0 0,.u y,.i o] w' λe a=>e=.returned (.tuple #[.u u,.i size])/\Mp x r M1 k a/\Kx r (aG M k) (aG M1 k) w' a) (C:decide (Uz.wrap (Uz.wrap (u+F)-1)<u)=wr) (Y:∀ w',Mp x r M1 k w'->CE 134 #[.slice k.ac M1.cs.length k.cc,.i M1.pr,.i o] w' (.i p)) (Z:∀ w',Mp x r M1 k w'->CE 133 #[.slice k.ac M1.cs.length k.cc,.i p,.u u,.i F,.i o] w' (.bool L)) (hI:∀ w',Mp x r M1 k w'->CE 135 #[.slice k.ar M1.ram.length k.cr,.u u,.i F] w' (.bool q)) (hD:q=true->∀ w',Mp x r M1 k w'->CE 136 #[.slice k.ar M1.ram.length k.cr,.u u,.i F] w' (.u yl)) (hp:q=true->∀ w',Mp x r M1 k w'->Calls prog 137 #[.slice k.ar M1.ram.length k.cr,.u u,.i F,.u K] w' λe a=>e=.returned (.tuple #[])/\Mp x r (bU M1 R) k a/\Kx r (aG M1 k) (aG (bU M1 R) k) w' a) (h8:o=2->∀ w',Mp x r M1 k w'->Calls prog 138 #[.agg #[.u M1.d.t,.u M1.d.cm,.bool M1.d.so,.slice k.ai M1.d.xs.length k.ci,.slice k.ao M1.d.ys.length k.co,.i M1.d.ir],.u u,.i F] w' λe a=>∃ (b:Option Addr) (d:Nat) (c:Option Addr) (f:Nat),e=.returned (.tuple #[.u yd,.agg #[.u D.t,.u D.cm,.bool D.so,.slice b D.xs.length d,.slice c D.ys.length f,.i D.ir],.bool is])/\fF w' a k.ai k.ci M1.d.xs k.ao k.co M1.d.ys b d D.xs c f D.ys/\Bw w' a) (h9:o=3->∀ w',Mp x r M1 k w'->Calls prog 139 #[.agg #[.u M1.d.t,.u M1.d.cm,.bool M1.d.so,.slice k.ai M1.d.xs.length k.ci,.slice k.ao M1.d.ys.length k.co,.i M1.d.ir],.u u,.i F,.u K] w' λe a=>∃ (b:Option Addr) (d:Nat) (c:Option Addr) (f:Nat),e=.returned (.tuple #[.agg #[.u D.t,.u D.cm,.bool D.so,.slice b D.xs.length d,.slice c D.ys.length f,.i D.ir],.bool is])/\fF w' a k.ai k.ci M1.d.xs k.ao k.co M1.d.ys b d D.xs c f D.ys/\Bw w' a) (hN:∀ (J:MA) w',Mp x r (db M1 D) J w'->Calls prog 85 #[.p r 0] w' λe a=>e=.returned (.tuple #[])/\Mp x r (cK (db M1 D)) J a/\Kx r (aG (db M1 D) J) (aG (cK (db M1 D)) J) w' a) (V:Int × MV × Int) (hit1:q=true->hit=lJ (bU M1 R) u) (hit0:q=false->hit=lJ (cK (db M1 D)) u) (A:V=SH o M M1 (y%F != 0) (size != 0) (wr||!L) q is hit size yl yd R D):
 Calls prog 92 #[.p r 0,.slice none 0 0,.u y,.i F,.i o,.u K] l λe w'=>e=.returned (.tuple #[.u V.1,.i V.2.2])/\∃ J,Mp x r V.2.1 J w'/\Kx r (aG M k) (aG V.2.1 J) l w':=by
 have B:Uz.wrap F=F:=by rw [IntKind.wrap_u64];omega
 have H:(y.tmod F != 0)=(y%F != 0):=by rw [Int.tmod_eq_emod_of_nonneg ha.1]
 refine bC (S:=Hs r [] (aj M k)) (args:=[.p r 0,.slice none 0 0,.u y,.i F,.i o,.u K]) [] func92 ?_
 refine aK 0 1 ?_
 have H0:Hx x r [] M k l M k l:=⟨hm,Kx.refl _ _ _,λ_ h=>ni⟩
 have f16:IntKind.i64.wrap (size+16)=wrap64 (size+16):=by rw [IntKind.wrap_i64];unfold wrap64;omega
 cases N:(y%F != 0)
 case true =>
  rw [N] at A H
  refine ae (Hs.eng (dr:=false) (λ_ h=>h.hs)) {eq:=[(24,dG .u64 B),(26,ak H)],ov:=[(25,OB .u64 y F ab)]} 60 H0 λW hW=>?_
  refine lG 0 ?_
  refine ae (Hs.eng (dr:=true) (λ_ h=>h.hs)) {} 9 (hW.below (Below.refl _ _).drew) λI h1=>?_
  refine dF 0 (s:=do pure (.value (<- Instr.buildSlice 39 4 #[(0,.i 0),(1,.i 16),(2,.i 20),(3,.i 22)]))) (v:=.slice (some ⟨I.heap.size,0,none⟩) 4 4) (w':=I.alloc (.cells #[.i 0,.i 16,.i 20,.i 22] 2)) ba ?_
  have O:=h1.var (bal _ _) ⟨I.heap.size,#[.i 0,.i 16,.i 20,.i 22],2,[]⟩ (heap_alloc_new _ _) (Nat.le_refl _)
  refine aH (Hs r [⟨I.heap.size,#[.i 0,.i 16,.i 20,.i 22],2,[]⟩] (aj M k)) (T2 ?_)
  have n:∀ X,Hs r [⟨I.heap.size,#[.i 0,.i 16,.i 20,.i 22],2,[]⟩] (aj M k) X->X.cell? ⟨I.heap.size,0+o.toNat,none⟩=some (.i (oH o)):=λX hX=>by
   rcases hk with rfl|rfl|rfl<;>exact (cell_of_row _ _ _ _ _ _ (hX.2 ⟨I.heap.size,#[.i 0,.i 16,.i 20,.i 22],2,[]⟩ cp)).trans rfl
  obtain rfl | rfl | rfl:=hk<;>subst A<;>exact eQ (t:=12) (s:=13) (Hs.eng (dr:=true) (λ_ h=>h.hs)) {ov:=[(30,iL _ _ underlying2 rfl n)]} 60 O (λw h=>⟨rfl,k,h.mp,h.kx⟩)
 rw [N] at A H
 refine aS (Hs.eng (dr:=true) (λ_ h=>h.hs)) {eq:=[(24,dG .u64 B),(26,ak H)],ov:=[(25,OB .u64 y F ab)]} 60 H0 (λW h=>hL W h.mp) ?_
 rintro I e W2 h1 ⟨rfl,p2,k2⟩
 have O:=h1.step p2 k2
 refine ⟨_,0,rfl,gh ba,aH (Hs r [] (aj M1 k)) ?_⟩
 cases cd:(size != 0)
 case true =>
  rw [cd] at A
  subst A
  exact eQ (t:=12) (s:=13) (Hs.eng (dr:=true) (λ_ h=>h.hs)) {eq:=[(40,ak cd),(42,dG .i64 f16)]} 60 O (λw h=>⟨rfl,k,h.mp,h.kx⟩)
 rw [cd] at A
 refine ae (Hs.eng (dr:=true) (λ_ h=>h.hs)) {eq:=[(40,ak cd)]} 60 O λj h3=>?_
 refine dF 0 (s:=do pure (.value (<- Instr.buildSlice 39 4 #[(0,.i 0),(1,.i 17),(2,.i 21),(3,.i 23)]))) (v:=.slice (some ⟨j.heap.size,0,none⟩) 4 4) (w':=j.alloc (.cells #[.i 0,.i 17,.i 21,.i 23] 2)) ba ?_
 have P:=h3.var (bal _ _) ⟨j.heap.size,#[.i 0,.i 17,.i 21,.i 23],2,[]⟩ (heap_alloc_new _ _) (Nat.le_refl _)
 refine aH (Hs r [⟨j.heap.size,#[.i 0,.i 17,.i 21,.i 23],2,[]⟩] (aj M1 k)) ?_
 have n:∀ X,Hs r [⟨j.heap.size,#[.i 0,.i 17,.i 21,.i 23],2,[]⟩] (aj M1 k) X->X.cell? ⟨j.heap.size,0+o.toNat,none⟩=some (.i (g8 o)):=λX hX=>by
  rcases hk with rfl|rfl|rfl<;>exact (cell_of_row _ _ _ _ _ _ (hX.2 ⟨j.heap.size,#[.i 0,.i 17,.i 21,.i 23],2,[]⟩ cp)).trans rfl
 clear hm hL O H0
 cases m:(wr||!L)
 case true =>
  rw [m] at A
  subst A
  cases wr<;>cases L<;>first | (exact absurd m bc) | skip
  all_goals obtain rfl | rfl | rfl:=hk<;>exact eQ (t:=12) (s:=13) (Hs.eng (dr:=true) (λ_ h=>h.hs)) {ov:=[(46,iL _ _ underlying2 rfl n)],eq:=[(49,dG .u64 B),(53,ak C)],cv:=[(68,ke λW h=>Y W h.mp),(72,ke λW h=>Z W h.mp)]} 99 P (λw h=>⟨rfl,k,h.mp,h.kx⟩)
 obtain rfl:wr=false:=by cases wr;rfl;cases m
 obtain rfl:L=true:=by cases L;cases m;rfl
 rw [m] at A
 cases q
 case true =>
  have hD:=hD rfl
  have hp:=hp rfl
  obtain rfl|rfl|rfl:=hk
  case inr.inr =>
   refine aS (Hs.eng (dr:=true) (λ_ h=>h.hs)) {ov:=[(46,iL _ _ underlying2 rfl n)],eq:=[(49,dG .u64 B),(53,ak C)],cv:=[(68,ke λW h=>Y W h.mp),(72,ke λW h=>Z W h.mp),(82,ke λW h=>hI W h.mp)]} 99 P (λW h=>hp W h.mp) ?_
   rintro W5 e E Q ⟨rfl,p6,k6⟩
   have h6:=Q.step p6 k6
   refine ⟨_,0,rfl,gh ba,aH (Hs r [⟨j.heap.size,#[.i 0,.i 17,.i 21,.i 23],2,[]⟩] (aj (bU M1 R) k)) ?_⟩
   rw [Pw] at A
   obtain rfl:=hit1 rfl
   subst A
   obtain ⟨m,e⟩|⟨m,hq,e⟩|⟨m,hq,e⟩:=wq (bU M1 R) u
   case inl=>rw [e];exact eQ (t:=12) (s:=13) (Hs.eng (dr:=true) (λ_ h=>h.hs)) {eq:=[(103,ak m)]} 99 h6 (λw h=>⟨rfl,k,h.mp,h.kx⟩)
   case inr.inl=>rw [e];exact eQ (t:=12) (s:=13) (Hs.eng (dr:=true) (λ_ h=>h.hs)) {eq:=[(103,ak m),(112,ak hq)]} 99 h6 (λw h=>⟨rfl,k,h.mp,h.kx⟩)
   rw [e]
   refine ae (Hs.eng (dr:=true) (λ_ h=>h.hs)) {eq:=[(103,ak m),(112,ak hq)]} 99 h6 λY1 y1=>?_
   refine bM (bJ (i:=12) (T:=4) (v:=.bool false) y1.mp.row oi ba rfl) ?_
   have y2:=y1.fld (M':=UL (bU M1 R)) 12 (.bool false) rfl rfl
   refine aH (Hs r [⟨j.heap.size,#[.i 0,.i 17,.i 21,.i 23],2,[]⟩] (aj (UL (bU M1 R)) k)) ?_
   refine ae (Hs.eng (dr:=true) (λ_ h=>h.hs)) {} 99 y2 λY3 y3=>?_
   refine bM (bJ (i:=11) (T:=22) (v:=.u 0) y3.mp.row oi ba rfl) ?_
   have y4:=y3.fld (M':=lI (bU M1 R)) 11 (.u 0) rfl rfl
   refine aH (Hs r [⟨j.heap.size,#[.i 0,.i 17,.i 21,.i 23],2,[]⟩] (aj (lI (bU M1 R)) k)) ?_
   exact eQ (t:=12) (s:=13) (Hs.eng (dr:=true) (λ_ h=>h.hs)) {} 99 y4 (λw h=>⟨rfl,k,h.mp,h.kx⟩)
  all_goals
   subst A
   exact eQ (t:=12) (s:=13) (Hs.eng (dr:=true) (λ_ h=>h.hs)) {ov:=[(46,iL _ _ underlying2 rfl n)],eq:=[(49,dG .u64 B),(53,ak C)],cv:=[(68,ke λW h=>Y W h.mp),(72,ke λW h=>Z W h.mp),(82,ke λW h=>hI W h.mp),(91,ke λW h=>hD W h.mp)]} 99 P (λw h=>⟨rfl,k,h.mp,h.kx⟩)
 obtain rfl|rfl|rfl:=hk
 case inl =>
  subst A
  exact eQ (t:=12) (s:=13) (Hs.eng (dr:=true) (λ_ h=>h.hs)) {ov:=[(46,iL _ _ underlying2 rfl n)],eq:=[(49,dG .u64 B),(53,ak C)],cv:=[(68,ke λW h=>Y W h.mp),(72,ke λW h=>Z W h.mp),(82,ke λW h=>hI W h.mp)]} 99 P (λw h=>⟨rfl,k,h.mp,h.kx⟩)
 all_goals
  refine aS (Hs.eng (dr:=true) (λ_ h=>h.hs)) {ov:=[(46,iL _ _ underlying2 rfl n)],eq:=[(49,dG .u64 B),(53,ak C)],cv:=[(68,ke λW h=>Y W h.mp),(72,ke λW h=>Z W h.mp),(82,ke λW h=>hI W h.mp)]} 99 P (λW h=>by first | exact h8 rfl W h.mp | exact h9 rfl W h.mp) ?_
  rintro W5 e E Q ⟨b,d,c,f,rfl,rn,b6⟩
  refine ⟨_,0,rfl,gh ba,?_⟩
  refine jh (R:=[]) trivial {} 9 3 (dD (T:=30) (z:=.agg (fU zeroD none 0 none 0)) ba E) ?_
  refine cq (R:=[]) trivial {} 9 (az (g:=E.heap.size) (t:=30) (ty:=30) (cells:=#[.u D.t,.u D.cm,.bool D.so,.slice b D.xs.length d,.slice c D.ys.length f,.i D.ir]) (heap_alloc_new _ _) ba ba (fG D b d c f)) ?_
  have b7:=aR (bal E (.cells (Value.agg (fU zeroD none 0 none 0)).cells 30)) (Nat.le_refl _) #[.u D.t,.u D.cm,.bool D.so,.slice b D.xs.length d,.slice c D.ys.length f,.i D.ir]
  have q7:=setRow_heap _ _ _ #[.u D.t,.u D.cm,.bool D.so,.slice b D.xs.length d,.slice c D.ys.length f,.i D.ir] _ _ (heap_alloc_new E (.cells (Value.agg (fU zeroD none 0 none 0)).cells 30))
  have rn7:=rn.below b7
  have b8:=aa b6 b7
  have G:=(Q.below b6).var b7 ⟨E.heap.size,#[.u D.t,.u D.cm,.bool D.so,.slice b D.xs.length d,.slice c D.ys.length f,.i D.ir],30,[]⟩ q7 (Nat.le_refl _)
  generalize (E.alloc (.cells (Value.agg (fU zeroD none 0 none 0)).cells 30)).setRow E.heap.size #[.u D.t,.u D.cm,.bool D.so,.slice b D.xs.length d,.slice c D.ys.length f,.i D.ir]=W8 at *
  cases is
  case false =>
   subst A
   refine aH (Hs r [⟨j.heap.size,#[.i 0,.i 17,.i 21,.i 23],2,[]⟩,⟨E.heap.size,#[.u D.t,.u D.cm,.bool D.so,.slice b D.xs.length d,.slice c D.ys.length f,.i D.ir],30,[]⟩] (aj M1 k)) ?_
   exact eQ (t:=12) (s:=13) (Hs.eng (dr:=true) (λ_ h=>h.hs)) {} 99 G (λw h=>⟨rfl,k,h.mp,h.kx⟩)
  refine cq (R:=[⟨r,aj M1 k,[]⟩,⟨j.heap.size,#[.i 0,.i 17,.i 21,.i 23],[]⟩,⟨E.heap.size,#[.u D.t,.u D.cm,.bool D.so,.slice b D.xs.length d,.slice c D.ys.length f,.i D.ir],[]⟩]) ⟨⟨_,_,G.mp.row⟩,⟨_,_,(G.rows ⟨j.heap.size,#[.i 0,.i 17,.i 21,.i 23],2,[]⟩ cp).1⟩,⟨_,_,q7⟩,trivial⟩ {} 60 (Pv D b d c f G.mp.row oi) ?_
  obtain ⟨pD,kD⟩:=Q.mp.dev b8 D rn7
  refine aH (Hs r [⟨j.heap.size,#[.i 0,.i 17,.i 21,.i 23],2,[]⟩] (aj (db M1 D) (ky k b d c f))) (aS (Hs.eng (dr:=true) (λ_ h=>h.hs)) {} 60 (Q.step pD kD) (λW h=>hN _ W h.mp) ?_)
  rintro W10 e W11 h10 ⟨rfl,p11,k11⟩
  have addr:=h10.step p11 k11
  refine ⟨_,0,rfl,gh ba,aH (Hs r [⟨j.heap.size,#[.i 0,.i 17,.i 21,.i 23],2,[]⟩] (aj (cK (db M1 D)) (ky k b d c f))) ?_⟩
 ·obtain rfl:V=(yd,cK (db M1 D),0):=A
  exact eQ (t:=12) (s:=13) (Hs.eng (dr:=true) (λ_ h=>h.hs)) {} 99 addr (λw h=>⟨rfl,_,h.mp,h.kx⟩)
 rw [SI] at A
 obtain rfl:=hit0 rfl
 subst A
 obtain ⟨m,e⟩|⟨m,hq,e⟩|⟨m,hq,e⟩:=wq (cK (db M1 D)) u
 case inl=>rw [e];exact eQ (t:=12) (s:=13) (Hs.eng (dr:=true) (λ_ h=>h.hs)) {eq:=[(169,ak m)]} 99 addr (λw h=>⟨rfl,(ky k b d c f),h.mp,h.kx⟩)
 case inr.inl=>rw [e];exact eQ (t:=12) (s:=13) (Hs.eng (dr:=true) (λ_ h=>h.hs)) {eq:=[(169,ak m),(178,ak hq)]} 99 addr (λw h=>⟨rfl,(ky k b d c f),h.mp,h.kx⟩)
 rw [e]
 refine ae (Hs.eng (dr:=true) (λ_ h=>h.hs)) {eq:=[(169,ak m),(178,ak hq)]} 99 addr λY1 y1=>?_
 refine bM (bJ (i:=12) (T:=4) (v:=.bool false) y1.mp.row oi ba rfl) ?_
 have y2:=y1.fld (M':=UL (cK (db M1 D))) 12 (.bool false) rfl rfl
 refine aH (Hs r [⟨j.heap.size,#[.i 0,.i 17,.i 21,.i 23],2,[]⟩] (aj (UL (cK (db M1 D))) (ky k b d c f))) ?_
 refine ae (Hs.eng (dr:=true) (λ_ h=>h.hs)) {} 99 y2 λY3 y3=>?_
 refine bM (bJ (i:=11) (T:=22) (v:=.u 0) y3.mp.row oi ba rfl) ?_
 have y4:=y3.fld (M':=lI (cK (db M1 D))) 11 (.u 0) rfl rfl
 refine aH (Hs r [⟨j.heap.size,#[.i 0,.i 17,.i 21,.i 23],2,[]⟩] (aj (lI (cK (db M1 D))) (ky k b d c f))) ?_
 exact eQ (t:=12) (s:=13) (Hs.eng (dr:=true) (λ_ h=>h.hs)) {} 99 y4 (λw h=>⟨rfl,(ky k b d c f),h.mp,h.kx⟩)
theorem Ms {M:MV} (M2:MV) (fm:Bool) (va kind p d f m w:Int) (hm:Mp s x M k l) (L:∀ c,Mp s x M k c->CE 134 #[.slice k.ac M.cs.length k.cc,.i M.pr,.i kind] c (.i p)) (I:∀ c,Mp s x M k c->CB 197 #[.slice k.ar M.ram.length k.cr,.slice k.ac M.cs.length k.cc,.i p,.u va,.i kind] c (.agg #[.u d,.i f,.bool fm,.u m,.u w])) (N:fm=true->∀ c,Mp s x M k c->Calls prog 137 #[.slice k.ar M.ram.length k.cr,.u m,.i 8,.u w] c λe A=>e=.returned (.tuple #[])/\Mp s x M2 k A/\Kx x (aG M k) (aG M2 k) c A) (K:fm=false->M2=M) (D:aj M2 k=aj M k): Calls prog 132 #[.p x 0,.slice none 0 0,.u va,.i kind] l λe c=>e=.returned (.tuple #[.u d,.i f])/\Mp s x M2 k c/\Kx x (aG M k) (aG M2 k) l c:=by
 have fin:∀ (S:World->Prop) (b:Nat) (W:World),Hx s x [⟨b,#[.u d,.i f,.bool fm,.u m,.u w],243,[]⟩] M k l M k W->Wg prog S (bodyPost prog Tryz.f132 λe c=>e=.returned (.tuple #[.u d,.i f])/\Mp s x M2 k c/\Kx x (aG M k) (aG M2 k) l c) Tryz.f132.ntmps [.code (aq 5 (aL Tryz.f132))] [(0,.p x 0,1),(11,.bool false,0),(13,.p b 0,2)] W:=λS b W h=>by
  refine aH (Hs x [⟨b,#[.u d,.i f,.bool fm,.u m,.u w],243,[]⟩] (aj M k)) ?_;cases fm with
  | false =>obtain rfl:=K rfl;exact lB (Hs.eng (dr:=true) (λ_ h=>h.hs)) {} 99 h λo a h C=>⟨.tuple #[.u d,.i f],l5,rfl,h.mp,h.kx⟩
  | true =>refine aS (Hs.eng (dr:=true) (λ_ h=>h.hs)) {} 99 h (λW h=>N rfl W h.mp) ?_;rintro V e X q ⟨rfl,U,R⟩;have H:=q.step U R;refine ⟨_,0,rfl,λ_=>D ▸ H.hs,?_⟩;exact lB (Hs.eng (dr:=true) (λ_ h=>D ▸ h.hs)) {} 99 H λo a h C=>⟨.tuple #[.u d,.i f],l5,rfl,h.mp,h.kx⟩
 have var:∀ (W o:World) (b:Nat),Hx s x [] M k l M k W->Bw W o->W.heap.size<=b->o.heap[b]?=some (.cells #[.u d,.i f,.bool fm,.u m,.u w] 243 (0,0))->Hx s x [⟨b,#[.u d,.i f,.bool fm,.u m,.u w],243,[]⟩] M k l M k o:=λW o b h O P Q=>h.var O _ Q P;refine bC (S:=Hx s x [] M k l M k) (args:=[.p x 0,.slice none 0 0,.u va,.i kind]) [] func132 ?_;refine aK 0 1 ?_;refine ae (Hx.eng (dr:=true)) {cv:=[(23,ke λW h=>L W h.mp)]} 99 (⟨hm,Kx.refl _ _ _,λ_ h=>ni⟩:Hx s x [] M k l M k l) λB n=>?_;refine oE (i:=11) (j:=12) ?_ ?_;·refine nz (I B n.mp) λe F E=>?_;obtain ⟨rfl,u⟩:=E;have q:=n.below u;refine ⟨_,0,rfl,q,?_⟩;have r:=bal F (.cells jl 243);refine dF 2 (dD (T:=243) (z:=.agg jl) ba F) (hS:=λ_=>q.below r) ?_;have y:=aR r (Nat.le_refl _) #[.u d,.i f,.bool fm,.u m,.u w];refine bM (az (g:=F.heap.size) (t:=243) (ty:=243) (old:=jl) (cells:=#[.u d,.i f,.bool fm,.u m,.u w]) (heap_alloc_new _ _) ba rfl ba) (hS:=λ_=>q.below y) ?_;refine ae (Hx.engL (dr:=true) (λ_ h=>ni)) {} 1 (var _ _ _ q y (Nat.le_refl _) (setRow_heap _ _ _ _ _ _ (heap_alloc_new _ _))) λW h=>?_;exact af _ _ (fin _ _ _ h)
 ·have u:=bal B (.cells jl 243);refine qN 2 (dD (T:=243) (z:=.agg jl) ba B) (n.below u) ?_;refine ju (I _ (n.below u).mp) λe Y E=>?_;obtain ⟨rfl,r⟩:=E;have y:=aa u r;refine ⟨_,0,rfl,λ_=>n.below y,?_⟩;have J:=bq r (heap_alloc_new B (.cells jl 243));have G:=aR y (Nat.le_refl _) #[.u d,.i f,.bool fm,.u m,.u w];refine bM (az (g:=B.heap.size) (t:=243) (ty:=243) (old:=jl) (cells:=#[.u d,.i f,.bool fm,.u m,.u w]) J ba rfl ba) (hS:=λ_=>n.below G) ?_;refine ae (Hx.engL (dr:=true) (λ_ h=>ni)) {} 1 (var _ _ _ n G (Nat.le_refl _) (setRow_heap _ _ _ _ _ _ J)) λW h=>?_;exact af _ _ (fin _ _ _ h)
theorem Ra (a:M.cs.length=22) (hs:Sl .u64 w A.ac M.cs) (kind:Int):CE 134 #[.slice A.ac M.cs.length A.cc,.i M.pr,.i kind] w (.i (gc M.cs M.pr kind)):=by obtain ⟨b,c,e,_,d⟩:=hs 0 ab;rw [e,a];exact uf b c A.cc M.cs M.pr kind w d
theorem SJ (a:M.cs.length=22) (hr:bf M.ram.length=true) (hs:nR w M A) (j:MW M) (p va kind:Int) (i:bZ p=true) (d:1<=kind) (f:kind<=3) (g:U va):CB 197 #[.slice A.ar M.ram.length A.cr,.slice A.ac M.cs.length A.cc,.i p,.u va,.i kind] w (.agg (ct M.ram M.ram.length M.cs p va kind).cells):=by obtain ⟨b,h,e,_,_⟩:=hs.cs 0 ab;have c:=hs.cs;rw [e] at c;rw [e,a];exact EM A.ar M.ram.length A.cr M.ram b h A.cc M.cs p va kind w hr rfl hs.ram j.ram a c i d f g
theorem Aj (w:World) (hm:Mp f j T v w) (hl:jR T) (o:MW T) (r:dI T=true) (g:1<=K) (i:K<=3) (l:U F) (va:Fd) (hF:ct T.ram T.ram.length T.cs (gc T.cs T.pr K) F K=va): Calls prog 132 #[.p j 0,.slice none 0 0,.u F,.i K] w λe a=>e=.returned (.tuple #[.u va.addr,.i va.code])/\Mp f j (bU T (bx T.ram va)) v a/\Kx j (aG T v) (aG (bU T (bx T.ram va)) v) w a:=by obtain ⟨b,B,k,A,D,C⟩:=aI r;have u:=wo (o.cs 0) B k K;have t:=λa (h:Mp f j T v a)=>Ra (M:=T) (A:=v) (w:=a) b h.fam.msl.cs K;have n:=λa (h:Mp f j T v a)=>SJ (M:=T) (A:=v) (w:=a) b A h.fam.msl o (gc T.cs T.pr K) F K u g i l;have c:=Jl T.ram T.ram.length T.cs (gc T.cs T.pr K) F K;rw [hF] at c;simp only [hF] at n;obtain ⟨p,q,s,m,d⟩:=va;refine Ms _ s F K _ p q m d hm t n (λe=>?_) (λe=>by rw [e];rfl) (by unfold aj bU;dsimp only;rw [kv]);obtain ⟨x,y⟩:=c e;have z:0<=d/\d<18446744073709551616:=y;subst e;exact λa h=>vO T v f j m 8 d a hl.ram x z.1 ab h
theorem SK (a:M.cs.length=22) (hs:Sl .u64 l k.ac M.cs) (p x s kind:Int):CE 133 #[.slice k.ac M.cs.length k.cc,.i p,.u x,.i s,.i kind] l (.bool (aB M.cs p x (bo x s) kind 4 0)):=by rw [a];exact mx k.ac k.cc M.cs p x s kind l a hs
theorem SM (hs:Sl .u8 l k.ar M.ram) (hl:M.ram.length<=1048576) (h:∀ y ∈ M.ram,(Lit.int .u8 y).wf=true) (a:gB M.ram.length B m=true):CE 136 #[.slice k.ar M.ram.length k.cr,.u B,.i m] l (.u (le M.ram (B-2147483648).toNat m.toNat)):=by
 have j:=kl a;obtain ⟨f,d⟩:∃ f:Nat,f=(B-2147483648).toNat:=⟨_,rfl⟩;obtain ⟨size,g⟩:∃ size:Nat,size=m.toNat:=⟨_,rfl⟩;have b:B=2147483648+(f:Int):=ab
 have c:m=(size:Int):=ab
 rw [<- d,<- g,b,c];exact vd k.ar M.ram.length k.cr f size M.ram l rfl hl hs h ab ab ab
theorem G4 (h:bA s x l (aG M k)):bA s x l (fW k.ai M.d.xs.length k.ci M.d.xs k.ao M.d.ys.length k.co M.d.ys):=h.sub (.cons _ (.cons _ (.cons _ (List.Sublist.refl _))))
theorem Mt (h:E.xs.length<=1048576) (a:E.ys.length<=1048576):(jn E f).2.1.xs.length<=1048576/\(jn E f).2.1.ys.length<=1048576:=by have:=OY E f;omega
theorem fS (kind x:Int) (w:World) (hm:Mp f j T v w) (hl:jR T) (o:MW T) (r:dI T=true) (m:jf K=true) (u:1<=kind) (A:kind<=3) (q:U F) (hx:U x): Calls prog 92 #[.p j 0,.slice none 0 0,.u F,.i K,.i kind,.u x] w λe a=>e=.returned (.tuple #[.u (aC T F K kind x).1,.i (aC T F K kind x).2.2])/\∃ n,Mp f j (aC T F K kind x).2.1 n a/\Kx j (aG T v) (aG (aC T F K kind x).2.1 n) w a:=by
 obtain ⟨d,H,J,size,I,N⟩:=aI r;have b:=zr I;have c:dU T.d:=⟨o.xs,o.ys⟩;have L:K=1\/K=2\/K=4\/K=8:=of_decide_eq_true m;have k:1<=K:=ab
 have l:K<=8:=ab
 obtain ⟨addr,hF⟩:∃ addr,ct T.ram T.ram.length T.cs (gc T.cs T.pr kind) F kind=addr:=⟨_,rfl⟩;have i:U addr.addr:=by rw [<- hF];exact uF _ _ _ _ _ _ q
 have z:bf (bU T (bx T.ram addr)).ram.length=true:=by show bf (bx T.ram addr).length=true;rw [kv];exact size
 have B:(bU T (bx T.ram addr)).ram.length<=1048576:=by show (bx T.ram addr).length<=_;rw [kv];exact hl.ram
 have E:=Ai T.ram o.ram addr;have g:decide (Uz.wrap (Uz.wrap (addr.addr+K)-1)<addr.addr)=decide (bo addr.addr K<addr.addr):=by rw [Fb _ _ k l]
 have y:∀ D:DV,(D.xs.length<=1048576/\D.ys.length<=1048576)->jR (db (bU T (bx T.ram addr)) D):=λD h=>⟨hl.x,hl.cs,B,h.1,h.2⟩;have s:=Mt T.d (gA addr.addr K) hl.xs hl.ys;have C:=GA T.d x hl.xs b.2.1 (gA addr.addr K);have G:kind=1\/kind=2\/kind=3:=ab
 have p:(if kind=3 then (fP T.d x (gA addr.addr K)).1 else (jn T.d (gA addr.addr K)).2.1).xs.length<=1048576/\(if kind=3 then (fP T.d x (gA addr.addr K)).1 else (jn T.d (gA addr.addr K)).2.1).ys.length<=1048576:=by split<;>assumption
 refine Fg (M1:=bU T (bx T.ram addr)) kind F K x (gc T.cs T.pr kind) addr.addr addr.code (decide (bo addr.addr K<addr.addr)) (aB T.cs (gc T.cs T.pr kind) addr.addr (bo addr.addr K) kind 4 0) (gB (bU T (bx T.ram addr)).ram.length addr.addr K) (lJ (bU T (bx T.ram addr)) addr.addr) (le (bx T.ram addr) (addr.addr-2147483648).toNat K.toNat) (jn T.d (gA addr.addr K)).1 (km (bx T.ram addr) (addr.addr-2147483648).toNat x K.toNat) (if kind=3 then (fP T.d x (gA addr.addr K)).1 else (jn T.d (gA addr.addr K)).2.1) (if kind=3 then (fP T.d x (gA addr.addr K)).2 else (jn T.d (gA addr.addr K)).2.2) G hm k l q (λa h=>Aj T v f j F kind a h hl o r u A q addr hF) g (λa h=>Ra (M:=bU T (bx T.ram addr)) (A:=v) d h.fam.msl.cs kind) (λa h=>SK (M:=bU T (bx T.ram addr)) d h.fam.msl.cs _ _ _ _) (λa h=>vb _ _ _ _ _ a z m i.1 (by have:=i.2;omega)) (λt a h=>SM (M:=bU T (bx T.ram addr)) h.fam.msl.ram B E t) (λt a h=>vO (bU T (bx T.ram addr)) v f j addr.addr K x a B t hx.1 (by have:=hx.2;omega) h) (λe a h=>?_) (λe a h=>?_) (λn a h=>yt _ n f j a d (y _ p) h) _ (λ_=>rfl) (λ_=>rfl) ?_;·subst e;exact EE T.d v.ai v.ci v.ao v.co addr.addr K f a.heap.size a b.1 c (by have:=h.lo;have:=h.lt;omega) (Nat.le_refl _) (G4 (M:=bU T (bx T.ram addr)) h.fam)
 ·subst e;exact BT T.d v.ai v.ci v.ao v.co addr.addr K x f a.heap.size a b.2.1 (by have:=h.lo;have:=h.lt;omega) (Nat.le_refl _) (G4 (M:=bU T (bx T.ram addr)) h.fam)
 ·rcases G with rfl|rfl|rfl<;>(unfold aC;rw [hF];rfl)
theorem lO {fn:Func} {t u v x:Tmp} (h:fn.results=#[.tmp t,.tmp u,.tmp v,.tmp x]) (tmps:Array Value) (P:Program) (w:World):(results fn tmps).run P w=.ok (.tuple #[tmps.getD t undef,tmps.getD u undef,tmps.getD v undef,tmps.getD x undef]) w:=by simp [results,h]
def dx (s:Int) (m:Bool):Int:=match m with | true=>wrap64 (bits .and .u64 (s/2048) 3) | false=>wrap64 (ap s 8)
def iJ (s:Int):Int:=bits .or .u64 (bits .or .u64 (bits .andNot .u64 s 6152) (Uz.wrap (ap s 7*8))) 128
def cW (s:Int) (m:Bool):Int:=match m with
 | true=>if (dx s true != 3)=true then bits .andNot .u64 (iJ s) 131072 else iJ s
 | false=>bits .or .u64 (bits .or .u64 (bits .andNot .u64 s 131330) (Uz.wrap (ap s 5*2))) 32
def eH (l:List Int) (m:Bool):Int:=match m with | true=>l.getD 6 0 | false=>l.getD 12 0
theorem Ct (l:List Int) (m:Bool) (w:World) (h:eG w f j n l): Calls prog 152 #[.slice (some ⟨j,0,none⟩) 22 n,.bool m] w λe L => e=.returned (.tuple #[.i (dx (l.getD 0 0) m),.u (eH l m)])/\eG L f j n (l.set 0 (cW (l.getD 0 0) m))/\w.grownBy L (some j):=by
 have H:Hid (eG w f j n l):=h;have I:=h.cell 0 ab;clear h;cases m with
 | true =>
   have G:Hid (l.getD 6 0=eH l true):=(rfl:l.getD 6 0=eH l true);generalize eH l true=K at *;have b:cW (l.getD 0 0) true=if (dx (l.getD 0 0) true != 3)=true then bits .andNot .u64 (iJ (l.getD 0 0)) 131072 else iJ (l.getD 0 0):=rfl
   have u:iJ (l.getD 0 0)=bits .or .u64 (bits .or .u64 (bits .andNot .u64 (l.getD 0 0) 6152) (Uz.wrap (ap (l.getD 0 0) 7*8))) 128:=rfl;have o:wrap64 (bits .and .u64 (l.getD 0 0/2048) 3)=dx (l.getD 0 0) true:=rfl;rw [u] at b;clear u;generalize dx (l.getD 0 0) true=M at *;generalize cW (l.getD 0 0) true=A at *;obtain ⟨s,z⟩:∃ y,l.getD 0 0=y:=⟨_,rfl⟩;rw [z] at I b o;clear z;cases J:(M != 3) with
   | true =>
     rw [if_pos J] at b;have F:Hid (A=bits .andNot .u64 (bits .or .u64 (bits .or .u64 (bits .andNot .u64 s 6152) (Uz.wrap (ap s 7*8))) 128) 131072):=b;clear b;go_enter func152,ntmps152;go_wp2_with (first | (refine qf rfl (.tmp 30) (.tmp 29) rfl rfl H.out 0 ab _ rfl rfl ?_;intro g r q;have p:Hid (eG g _ _ _ _):=r;have t:Hid (w.grownBy g (some j)):=q;clear r q;have c:g.cell? ⟨j,6,none⟩=some (.u K):=nn) | (go_at_call 129;with_reducible refine (Lm _ _).mono ?_;rintro e E ⟨rfl,d⟩;have base:=d.symm;subst base));go_quiet (fail)
     go_wp2_with fail;exact a0d
   | false =>
     rw [if_neg (by rw [J];decide)] at b;have F:Hid (A=bits .or .u64 (bits .or .u64 (bits .andNot .u64 s 6152) (Uz.wrap (ap s 7*8))) 128):=b;clear b;go_enter func152,ntmps152;go_wp2_with (first | (refine qf rfl (.tmp 30) (.tmp 29) rfl rfl H.out 0 ab _ rfl rfl ?_;intro g r q;have p:Hid (eG g _ _ _ _):=r;have t:Hid (w.grownBy g (some j)):=q;clear r q;have c:g.cell? ⟨j,6,none⟩=some (.u K):=nn) | (go_at_call 129;with_reducible refine (Lm _ _).mono ?_;rintro e E ⟨rfl,d⟩;have base:=d.symm;subst base));go_quiet (fail)
     go_wp2_with fail;exact a0d
 | false =>
   have C:Hid (l.getD 12 0=eH l false):=(rfl:l.getD 12 0=eH l false);generalize eH l false=D at *;have B:cW (l.getD 0 0) false=bits .or .u64 (bits .or .u64 (bits .andNot .u64 (l.getD 0 0) 131330) (Uz.wrap (ap (l.getD 0 0) 5*2))) 32:=rfl;have o:dx (l.getD 0 0) false=wrap64 (ap (l.getD 0 0) 8):=rfl;rw [o];clear o;generalize cW (l.getD 0 0) false=A at *;obtain ⟨s,z⟩:∃ y,l.getD 0 0=y:=⟨_,rfl⟩;rw [z] at I B ⊢;have F:Hid (A=bits .or .u64 (bits .or .u64 (bits .andNot .u64 s 131330) (Uz.wrap (ap s 5*2))) 32):=B;clear B z;go_enter func152,ntmps152;go_wp2_with (first | (refine qf rfl (.tmp 46) (.tmp 45) rfl rfl H.out 0 ab _ rfl rfl ?_;intro g r q;have p:Hid (eG g _ _ _ _):=r;have t:Hid (w.grownBy g (some j)):=q;clear r q;have c:g.cell? ⟨j,12,none⟩=some (.u D):=by (have e:=p.out.cell 12 ab;rw [gn _ _ _ _ ab,C.out] at e;exact e)) | (go_at_call 129;with_reducible refine (St _ _).mono ?_;rintro e E ⟨rfl,d⟩;have base:=d.symm;subst base) | (go_at_call 129;with_reducible refine (Ss _ _).mono ?_;rintro e E ⟨rfl,d⟩;have base:=d.symm;subst base));go_quiet (fail)
   go_wp2_with fail;exact a0d
def UM (k:Int):Bool:=decide (0<=k/\k<=15)
def Ak (n:Nat) (l:List Int) (p k:Int):Bool:=bn n l p&&UM k
def sp (n:Nat) (l:List Int) (p pc k:Int) (i:Bool) (v:Int):List Int:=match Ak n l p k with
 | true=>iG l (dh l p k.toNat i) p (gD k i) pc v | false=>[]
def Fh (n:Nat) (l:List Int) (p k:Int) (i:Bool):Int:=match Ak n l p k with
 | true=>sV (dh l p k.toNat i) | false=>0
def Fi (n:Nat) (l:List Int) (p k:Int) (i:Bool):Int:=match Ak n l p k with
 | true=>ee (n7 l (dh l p k.toNat i)) k (mS l (dh l p k.toNat i) i) | false=>0
theorem lP:(iG d g o y F K).length=d.length:=by cases g<;>simp [iG]
def lQ (n:Nat) (l:List Int) (p:Int) (m:Bool):Bool:=bn n l p&&!(m&&(p != 3))&&!(p==0)
def jM (n:Nat) (l:List Int) (p:Int) (m:Bool):List Int:=match lQ n l p m with
 | true=>l.set 0 (cW (l.getD 0 0) m) | false=>[]
def rq (n:Nat) (l:List Int) (p:Int) (m:Bool):Int:=match lQ n l p m with
 | true=>dx (l.getD 0 0) m | false=>0
def rr (n:Nat) (l:List Int) (p:Int) (m:Bool):Int:=match lQ n l p m with
 | true=>eH l m | false=>0
theorem dS (h:U o):ap o f=dc o f 1:=by have a:=mj o h f;have:=cI (o/2^f) 1 a.1 a.2 ab;unfold ap dc;exact this
theorem Px (h:U o):mJ o y=bits .or .u64 (bits .or .u64 (bits .andNot .u64 o 6280) (Uz.wrap (dc o 3 1*128))) (Uz.wrap (y*2048)):=by unfold mJ;rw [dS o 3 h]
theorem Mu:∀ i,i<64->bt 0 i=false:=by decide +kernel
theorem Mv (h:U o):mh o ((0:Int)==1)=bits .or .u64 (bits .or .u64 (bits .andNot .u64 o 290) (Uz.wrap (dc o 1 1*32))) 0:=by show bits .or .u64 (bits .andNot .u64 o 290) (Uz.wrap (ap o 1*32))=_;rw [dS o 1 h];exact bF _ _ (ah _ _ _) (ah _ _ _) λi a=>by rw [cE _ 0,Mu i a,Bool.or_false]
theorem Mw (h:U o):mh o ((1:Int)==1)=bits .or .u64 (bits .or .u64 (bits .andNot .u64 o 290) (Uz.wrap (dc o 1 1*32))) 256:=by show bits .or .u64 (bits .or .u64 (bits .andNot .u64 o 290) (Uz.wrap (ap o 1*32))) 256=_;rw [dS o 1 h]
theorem Cu (h:U o):iJ o=bits .or .u64 (bits .or .u64 (bits .andNot .u64 o 6280) (Uz.wrap (dc o 7 1*8))) 128:=by
 have e:∀ i,i<64->∀ a c:Bool,((a&&!bt 6152 i||c)||bt 128 i)=((a&&!bt 6280 i||c)||bt 128 i):=cb
 unfold iJ;rw [dS o 7 h];exact bF _ _ (ah _ _ _) (ah _ _ _) λi b=>by rw [cE,cE,cE,cE,ay _ _ _ b,ay _ _ _ b,e i b]
theorem Mx (h:U o):dx o true=wrap64 (dc o 11 2):=by have a:=mj o h 11;have:=cI (o/2^11) 2 a.1 a.2 ab;show wrap64 (bits .and .u64 (o/2048) 3)=_;exact congrArg wrap64 this
theorem Cx (h:U o):dx o false=wrap64 (dc o 8 1):=by show wrap64 (ap o 8)=_;rw [dS o 8 h]
theorem oN (h:U o) (i j k:Nat):bt (Uz.wrap (dc o k 1*2^j)) i=(decide (i=j)&&decide (i<64)&&bt o k):=by
 rw [nu _ (qE _ _ _ ab),kI _ h _ _ _ ab];by_cases a:i=j;·subst a;simp
 ·by_cases b:j<=i
  ·have:¬ (i-j<1):=by omega
   simp [a,this]
  ·simp [a,b]
theorem Mz (h:U o):cW o false=bits .andNot .u64 (bits .or .u64 (bits .or .u64 (bits .andNot .u64 o 290) (Uz.wrap (dc o 5 1*2))) 32) 131072:=by
 have e:∀ i,i<64->∀ a c:Bool,((a&&!bt 131330 i||(decide (i=1)&&decide (i<64)&&c))||bt 32 i)=(((a&&!bt 290 i||(decide (i=1)&&decide (i<64)&&c))||bt 32 i)&&!bt 131072 i):=cb
 show bits .or .u64 (bits .or .u64 (bits .andNot .u64 o 131330) (Uz.wrap (ap o 5*2))) 32=_;rw [dS o 5 h];have f:∀ i,bt (Uz.wrap (dc o 5 1*2)) i=(decide (i=1)&&decide (i<64)&&bt o 5):=λi=>oN o h i 1 5;exact bF _ _ (ah _ _ _) (ah _ _ _) λi b=>by rw [ay _ 131072 _ b,cE,cE,cE,cE,ay _ _ _ b,ay _ _ _ b,f i,e i b]
theorem JP (h:U o) (d:(dx o true != 3)=true):cW o true=bits .andNot .u64 (bits .or .u64 (bits .or .u64 (bits .andNot .u64 o 6280) (Uz.wrap (dc o 7 1*8))) 128) 131072:=by show (if (dx o true != 3)=true then bits .andNot .u64 (iJ o) 131072 else iJ o)=_;rw [if_pos d,Cu o h]
theorem JQ (h:U o) (d:(dx o true != 3)=false):cW o true=bits .or .u64 (bits .or .u64 (bits .andNot .u64 o 6280) (Uz.wrap (dc o 7 1*8))) 128:=by show (if (dx o true != 3)=true then bits .andNot .u64 (iJ o) 131072 else iJ o)=_;rw [if_neg (by rw [d];decide),Cu o h]
theorem Fj (h:U o):dx o false=0\/dx o false=1:=by
 rw [Cx o h];have:=kH o 8 1;have e:(2:Int)^1=2:=bc
 unfold wrap64;omega
theorem JR (h:U o):(dx o false != 3)=true:=by rcases Fj o h with e|e<;>rw [e]<;>rfl
theorem G5:(bits .and .u64 o 1 != 0)=(bits .and .u64 o 1==1):=by rw [SC];cases bt o 0<;>rfl
def wu (l:List Int) (p:Int):Bool:=decide (p<3)||((p==3)&&(dc (l.getD 0 0) 3 1==1))
def wv (l:List Int) (p:Int):Bool:=decide (p<1)||((p==1)&&(dc (l.getD 0 0) 1 1==1))
def G9 (l:List Int) (p:Int):Int :=
 match (decide (dt (bits .andNot .u64 (kq l) (l.getD 2 0))>=0)&&wu l p) with
 | true=>dt (bits .andNot .u64 (kq l) (l.getD 2 0))
 | false=>match (decide (dt (bits .and .u64 (kq l) (l.getD 2 0))>=0)&&wv l p) with
   | true=>dt (bits .and .u64 (kq l) (l.getD 2 0))
   | false=>-1
theorem JS (h:decide (dt o>=0)=false):dt o=-1:=by
 rcases uZ o eI with e|⟨n,_,e,_⟩;·exact e
 ·have:dt o=(n:Int):=e;rw [this] at h;simp at h
theorem MC (b:bZ o=true) (h:U (d.getD 0 0)):wu d o=Bc d o:=by
 have a:o=0\/o=1\/o=3:=by simpa [bZ,or_assoc] using b
 unfold wu Bc;rw [dS _ 3 h];rcases a with rfl|rfl|rfl<;>rfl
theorem MD (b:bZ o=true) (h:U (d.getD 0 0)):wv d o=Bd d o:=by
 have a:o=0\/o=1\/o=3:=by simpa [bZ,or_assoc] using b
 unfold wv Bd;rw [dS _ 1 h];rcases a with rfl|rfl|rfl<;>rfl
theorem Py (l:List Int) (p:Int) (a:bZ p=true) (h:U (l.getD 0 0)):G9 l p=fN l p:=by
 unfold G9 fN Gk;rw [MC l p a h,MD l p a h,Bool.and_comm];have e:=JS (bits .and .u64 (kq l) (l.getD 2 0));generalize dt (bits .and .u64 (kq l) (l.getD 2 0))=c at *;generalize dt (bits .andNot .u64 (kq l) (l.getD 2 0))=b at *;cases Bc l p&&decide (b>=0)
 ·cases Bd l p;·rw [Bool.and_false]
  ·rw [Bool.and_true];cases d:decide (c>=0);·exact (e d).symm
   ·rfl
 ·rfl
theorem Pz (h:bits .and .u64 B m=B) (i:Nat) (e:bt B i=true):bt m i=true:=by rw [<- h,aw,Bool.and_eq_true] at e;exact e.2
theorem PA (hx:U B) (h:∀ i,i<64->bt B i=true->bt m i=true):bits .and .u64 B m=B :=
 bF _ _ (ah _ _ _) hx λi a=>by
  rw [aw]
  cases e:bt B i with
  | false=>rfl
  | true=>rw [h i a e];rfl
theorem yO (h:U o):ap o f=if bt o f=true then 1 else 0:=by unfold ap;rw [SC,jA o h,Nat.zero_add]
theorem PC (h:U o):dc o f 1=if bt o f=true then 1 else 0:=by rw [<- dS o f h,yO o f h]
theorem UN (h:U o):dc o 11 2=(if bt o 11=true then 1 else 0)+(if bt o 12=true then 2 else 0):=by
 have e:∀ i,i<64->∀ p q x:Bool,(decide (i<2)&&(if i=0 then p else if i=1 then q else x))=bt ((if p=true then 1 else 0)+(if q=true then 2 else 0)) i:=cb
 refine bF _ _ (qE _ _ _ ab) (by constructor<;>(cases bt o 11<;>cases bt o 12<;>decide)) λi c=>?_;rw [kI o h _ _ _ ab,<- e i c (bt o 11) (bt o 12) (bt o (i+11))];by_cases a:i=0;·subst a;rfl
 ·by_cases b:i=1;·subst b;rfl
  ·rw [if_neg a,if_neg b]
theorem Al (hx:U o) (a:∀ i,i<64->bt o i=true->bt 924074 i=true) (b:(!bt o 11&&bt o 12)=false):fI 0 o=true:=by have e:mst o=o:=(sm o hx).mpr ⟨PA hx a,b⟩;show (mst o==o)=true;rw [e];exact beq_self_eq_true _
theorem Fk (hx:U o) (h:fI 0 o=true):(∀ i,bt o i=true->bt 924074 i=true)/\(!bt o 11&&bt o 12)=false:=by
 have e:mst o=o:=by have:(mst o==o)=true:=h;simpa using this
 obtain ⟨a,b⟩:=(sm o hx).mp e;exact ⟨Pz a,b⟩
theorem ss (h:U o) (i:Nat) (a:i<64):bt (iJ o) i=((bt o i&&!bt 6152 i||(decide (i=3)&&decide (i<64)&&bt o 7))||bt 128 i):=by have f:bt (Uz.wrap (dc o 7 1*8)) i=(decide (i=3)&&decide (i<64)&&bt o 7):=oN o h i 3 7;unfold iJ;rw [dS o 7 h,cE,cE,ay _ _ _ a,f]
theorem su (h:U o) (i:Nat) (a:i<64):bt (cW o false) i=((bt o i&&!bt 131330 i||(decide (i=1)&&decide (i<64)&&bt o 5))||bt 32 i):=by have f:bt (Uz.wrap (dc o 5 1*2)) i=(decide (i=1)&&decide (i<64)&&bt o 5):=oN o h i 1 5;show bt (bits .or .u64 (bits .or .u64 (bits .andNot .u64 o 131330) (Uz.wrap (ap o 5*2))) 32) i=_;rw [dS o 5 h,cE,cE,ay _ _ _ a,f]
theorem wA (h:U o) (i:Nat) (a:i<64):bt (mJ o y) i=((bt o i&&!bt 6280 i||(decide (i=7)&&decide (i<64)&&bt o 3))||bt (Uz.wrap (y*2048)) i):=by have f:bt (Uz.wrap (dc o 3 1*128)) i=(decide (i=7)&&decide (i<64)&&bt o 3):=oN o h i 7 3;unfold mJ;rw [dS o 3 h,cE,cE,ay _ _ _ a,f]
theorem wC (h:U o) (i:Nat) (a:i<64):bt (mh o C) i=((bt o i&&!bt 290 i||(decide (i=5)&&decide (i<64)&&bt o 1))||(C&&decide (i=8))):=by
 have f:bt (Uz.wrap (dc o 1 1*32)) i=(decide (i=5)&&decide (i<64)&&bt o 1):=oN o h i 5 1;have e:∀ i,i<64->bt 256 i=decide (i=8):=cb
 cases C with
 | true =>show bt (bits .or .u64 (bits .or .u64 (bits .andNot .u64 o 290) (Uz.wrap (ap o 1*32))) 256) i=_;rw [dS o 1 h,cE,cE,ay _ _ _ a,f,e i a,Bool.true_and]
 | false =>show bt (bits .or .u64 (bits .andNot .u64 o 290) (Uz.wrap (ap o 1*32))) i=_;rw [dS o 1 h,cE,ay _ _ _ a,f,Bool.false_and,Bool.or_false]
theorem rt:U (cW o C):=by
 cases C with
 | true=>unfold cW;show U (if _ then _ else _);split<;>exact ah _ _ _
 | false=>unfold cW;exact ah _ _ _
theorem Ha:U (mJ o y):=ah _ _ _
theorem Hb:U (mh o C):=by cases C<;>(unfold mh;exact ah _ _ _)
theorem SO (hk:f<16) (i:Bool):U (gD f i):=by
 cases i with
 | true=>unfold gD;exact ah _ _ _
 | false=>show U (f:Int);exact ⟨ab,ab⟩
theorem VE:Uz.wrap ((0:Int)*2048)=0:=by decide
theorem VF:Uz.wrap ((1:Int)*2048)=2048:=by decide
theorem VG:Uz.wrap ((3:Int)*2048)=6144:=by decide
theorem tL:cW o true=if (dx o true != 3)=true then bits .andNot .u64 (iJ o) 131072 else iJ o:=rfl
theorem Cy (h:U o) (m:Bool) (j:fI 0 o=true):fI 0 (cW o m)=true:=by
 obtain ⟨k,l⟩:=Fk o h j;cases m with
 | false =>
   have e:∀ i,i<64->∀ a c:Bool,(a=true->bt 924074 i=true)->((a&&!bt 131330 i||(decide (i=1)&&decide (i<64)&&c))||bt 32 i)=true->bt 924074 i=true:=cb;refine Al _ (rt o false) (λi f d=>?_) ?_;·rw [su o h i f] at d;exact e i f _ _ (k i) d
   ·have n:∀ a c:Bool,((a&&!bt 131330 11||(decide (11=1)&&decide (11<64)&&c))||bt 32 11)=a:=cb;have g:∀ a c:Bool,((a&&!bt 131330 12||(decide (12=1)&&decide (12<64)&&c))||bt 32 12)=a:=cb;rw [su o h 11 ab,su o h 12 ab,n,g];exact l
 | true =>
   have e:∀ i,i<64->∀ a c:Bool,(a=true->bt 924074 i=true)->((a&&!bt 6152 i||(decide (i=3)&&decide (i<64)&&c))||bt 128 i)=true->bt 924074 i=true:=cb;have g:∀ a c:Bool,((a&&!bt 6152 12||(decide (12=3)&&decide (12<64)&&c))||bt 128 12)=false:=cb;refine Al _ (rt o true) (λi f d=>?_) ?_
   ·have b:bt (iJ o) i=true:=by
     revert d;rw [tL];split;·rw [ay _ _ _ f];intro d;exact (Bool.and_eq_true _ _ ▸ d).1
     ·exact id
    rw [ss o h i f] at b;exact e i f _ _ (k i) b
   ·have b:bt (cW o true) 12=false:=by
     rw [tL];split;·rw [ay _ _ _ ab,ss o h 12 ab,g];rfl
     ·rw [ss o h 12 ab,g]
    rw [b,Bool.and_false]
theorem MG (h:U o) (m:bZ y=true) (g:fI 0 o=true):fI 0 (mJ o y)=true:=by
 obtain ⟨l,n⟩:=Fk o h g;have f:y=0\/y=1\/y=3:=by simpa [bZ,or_assoc] using m
 refine Al _ (Ha o y) (λi j b=>?_) ?_
 ·rw [wA o y h i j] at b;have e:∀ i,i<64->∀ a c:Bool,(a=true->bt 924074 i=true)->(((a&&!bt 6280 i||(decide (i=7)&&decide (i<64)&&c))||bt 0 i)=true->bt 924074 i=true)/\(((a&&!bt 6280 i||(decide (i=7)&&decide (i<64)&&c))||bt 2048 i)=true->bt 924074 i=true)/\(((a&&!bt 6280 i||(decide (i=7)&&decide (i<64)&&c))||bt 6144 i)=true->bt 924074 i=true):=cb;have e:=e i j _ (bt o 3) (l i);rcases f with rfl|rfl|rfl;·rw [VE] at b;exact e.1 b
  ·rw [VF] at b;exact e.2.1 b
  ·rw [VG] at b;exact e.2.2 b
 ·rw [wA o y h 11 ab,wA o y h 12 ab];have k:∀ a c d:Bool,(!((a&&!bt 6280 11||(decide (11=7)&&decide (11<64)&&c))||bt 0 11)&&((d&&!bt 6280 12||(decide (12=7)&&decide (12<64)&&c))||bt 0 12))=false/\(!((a&&!bt 6280 11||(decide (11=7)&&decide (11<64)&&c))||bt 2048 11)&&((d&&!bt 6280 12||(decide (12=7)&&decide (12<64)&&c))||bt 2048 12))=false/\(!((a&&!bt 6280 11||(decide (11=7)&&decide (11<64)&&c))||bt 6144 11)&&((d&&!bt 6280 12||(decide (12=7)&&decide (12<64)&&c))||bt 6144 12))=false:=cb;have k:=k (bt o 11) (bt o 3) (bt o 12);rcases f with rfl|rfl|rfl;·rw [VE];exact k.1
  ·rw [VF];exact k.2.1
  ·rw [VG];exact k.2.2
theorem MH (h:U o) (d:fI 0 o=true):fI 0 (mh o C)=true:=by
 obtain ⟨j,k⟩:=Fk o h d;refine Al _ (Hb o C) (λi g f=>?_) ?_;·rw [wC o C h i g] at f;have e:∀ i,i<64->∀ a c C:Bool,(a=true->bt 924074 i=true)->((a&&!bt 290 i||(decide (i=5)&&decide (i<64)&&c))||(C&&decide (i=8)))=true->bt 924074 i=true:=cb;exact e i g _ _ _ (j i) f
 ·have l:∀ a c C:Bool,((a&&!bt 290 11||(decide (11=5)&&decide (11<64)&&c))||(C&&decide (11=8)))=a:=cb;have m:∀ a c C:Bool,((a&&!bt 290 12||(decide (12=5)&&decide (12<64)&&c))||(C&&decide (12=8)))=a:=cb;rw [wC o C h 11 ab,wC o C h 12 ab,l,m];exact k
theorem Hc:∀ k,k<16->∀ i:Bool,fI 7 (gD (k:Nat) i)=true/\fI 13 (gD (k:Nat) i)=true:=by decide +kernel
theorem Hd:fI 8 o=true/\fI 14 o=true:=⟨beq_self_eq_true o,beq_self_eq_true o⟩
theorem Rb (h:U o):fI 6 (bits .andNot .u64 o 3)=true/\fI 12 (bits .andNot .u64 o 3)=true:=⟨oL o h 6 ab ab ab,oL o h 12 ab ab ab⟩
theorem MI (hz:d.length=22) (hl:∀ j,U (d.getD j 0)) (a:bE 22 d=true) (l:Bool) (p pc v:Int) (e:bZ p=true) (b:U pc) (k:Nat) (hk:k<16) (i:Bool):bE 22 (iG d l p (gD k i) pc v)=true:=by
 have c:fI 0 (d.getD 0 0)=true:=eM a 0 ab;cases l with
 | true =>refine cR _ t5 ?_ 0 ab _ (MH _ _ (hl 0) c);refine cR _ t5 ?_ 14 ab _ (Hd v).2;refine cR _ t5 ?_ 12 ab _ (Rb pc b).2;exact cR _ hz a 13 ab _ (Hc k hk i).2
 | false =>refine cR _ t5 ?_ 0 ab _ (MG _ p (hl 0) e c);refine cR _ t5 ?_ 8 ab _ (Hd v).1;refine cR _ t5 ?_ 6 ab _ (Rb pc b).1;exact cR _ hz a 7 ab _ (Hc k hk i).1
theorem PF (hl:∀ j,U (d.getD j 0)) (l:Bool) (p pc v:Int) (hv:U v) (k:Nat) (hk:k<16) (i:Bool):∀ j,U ((iG d l p (gD k i) pc v).getD j 0):=by
 have a:=SO k hk i;cases l with
 | true=>exact jE _ (jE _ (jE _ (jE _ hl 13 _ a) 12 _ (ah _ _ _)) 14 _ hv) 0 _ (Hb _ _)
 | false=>exact jE _ (jE _ (jE _ (jE _ hl 7 _ a) 6 _ (ah _ _ _)) 8 _ hv) 0 _ (Ha _ _)
theorem PH (h:U o):bits .and .u64 o 3=o%4:=cI o 2 h.1 h.2 ab
theorem VH (h:fI 6 o=true\/fI 12 o=true):bits .and .u64 o 3=0:=by
 have e:bits .andNot .u64 o 3=o:=by
  rcases h with h|h;·have:(bits .andNot .u64 o 3==o)=true:=h;simpa using this
  ·have:(bits .andNot .u64 o 3==o)=true:=h;simpa using this
 refine bF _ _ (ah _ _ _) ⟨bc,bc⟩ λi c=>?_;have k:∀ a b:Bool,((a&&!b)&&b)=false:=bc
 rw [aw,<- e,ay _ _ _ c,k,Mu i c]
theorem VX (h:fI 4 o=true\/fI 10 o=true):bits .and .u64 (ee o f C) 3=0:=by
 have e:bits .andNot .u64 o 2=o:=by
  rcases h with h|h;·have:(bits .andNot .u64 o 2==o)=true:=h;simpa using this
  ·have:(bits .andNot .u64 o 2==o)=true:=h;simpa using this
 have k:bits .and .u64 (bits .andNot .u64 o 1) 3=0:=by refine bF _ _ (ah _ _ _) ⟨bc,bc⟩ λi b=>?_;have f:∀ i,i<64->∀ a:Bool,(((a&&!bt 2 i)&&!bt 1 i)&&bt 3 i)=bt 0 i:=cb;rw [aw,<- e,ay _ _ _ b,ay _ _ _ b,f i b]
 cases C with
 | false=>exact k
 | true =>show bits .and .u64 (Uz.wrap (bits .andNot .u64 o 1+Uz.wrap (4*f))) 3=0;rw [PH _ (ah _ _ _)] at k;rw [PH _ (aU _),IntKind.wrap_u64,IntKind.wrap_u64];omega
end Go.Proofs.YtfagphfjfhpmjaaGreatDoor
