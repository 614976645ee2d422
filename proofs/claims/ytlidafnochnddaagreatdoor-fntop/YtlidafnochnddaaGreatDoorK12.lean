/- Own lemmas. -/
import Derived.Test.YtlidafnochnddaaGreatDoorAut
import Derived.Test.YtlidafnochnddaaGreatDoorK11
namespace Go.Proofs.YtlidafnochnddaaGreatDoor
open Go.RowKit Tryz
open IntKind renaming u64->Uz
open Bool renaming and_eq_true->A0,and_true->A5,false_and->A6,not_false->F0
open Go renaming bits->F3
open IntKind renaming wrap_u64->G3,signed->H1,bits->H2,min->H3,max->H5
open Lit renaming int->H8
set_option linter.unusedVariables false
variable {x:List Int} (l:List Int) (e:Nat) (n p:Int) (k:Nat) (m:List Int) (y a c:Int) (s:Nat)
theorem P3:F3 .and .u64 n 1=if bt n 0=true then 1 else 0:=by
 have c:∀ i,i<64->∀ (p o:Bool),((if i=0 then p else o)&&bt 1 i)=bt (if p=true then 1 else 0) i:=bv
 refine aS _ _ (af _ _ _) (by split<;>(constructor<;>decide)) λi d=>?_;rw [aq,<- c i d (bt n 0) (bt n i)];by_cases a:i=0;·subst a;rfl
 ·rw [JZ9 a]
theorem Jz:(F3 .and .u64 n 6144==4096)=(!bt n 11&&bt n 12):=by
 have c:F3 .and .u64 n 6144=(if bt n 11=true then 2048 else 0)+(if bt n 12=true then 4096 else 0):=by
  refine aS _ _ (af _ _ _) (by constructor<;>(cases bt n 11<;>cases bt n 12<;>decide)) λi d=>?_;rw [aq,<- OJ i d (bt n 11) (bt n 12) (bt n i)];by_cases a:i=11;·subst a;rfl
  ·by_cases b:i=12;·subst b;rfl
   ·rw [JZ9 a,JZ9 b]
 rw [c];cases bt n 11<;>cases bt n 12<;>rfl
theorem Ey (h:U n):mst n=if (!bt n 11&&bt n 12)=true then F3 .andNot .u64 (F3 .and .u64 n 924074) 6144 else F3 .and .u64 n 924074:=by rw [<- Jj n h,<- Jz];rfl
theorem QW:bt 924074 11/\bt 924074 12/\bt 6144 11/\bt 6144 12/\bt 786722 11=false/\bt 786722 12=false:=by decide +kernel
theorem qY (h:U n):mst n=n↔F3 .and .u64 n 924074=n/\(!bt n 11&&bt n 12)=false:=by
 rw [Ey n h];constructor
 ·intro e;cases a:(!bt n 11&&bt n 12) with
  | true =>
    rw [a,JZ8 rfl] at e;have:bt n 12=false:=by rw [<- e,aw _ _ _ aa,QW.2.2.2.1];simp
    rw [this,Bool.and_false] at a;cases a
  | false=>rw [a,JZ9 ba] at e;exact ⟨e,rfl⟩
 ·rintro ⟨e,a⟩;rw [a,JZ9 ba];exact e
theorem OK:U (mst n):=by unfold mst;split<;>exact af _ _ _
theorem JA (h:U n):mst (mst n)=mst n:=by
 rw [qY _ (OK n)];rw [Ey n h];cases b:(!bt n 11&&bt n 12) with
 | true =>
   rw [JZ8 rfl];refine ⟨aS _ _ (af _ _ _) (af _ _ _) λi a=>?_,?_⟩;·rw [aq,aw _ _ _ a,aq];cases bt n i<;>cases bt 924074 i<;>cases bt 6144 i<;>rfl
   ·rw [aw _ _ 12 aa,QW.2.2.2.1];simp
 | false =>
   rw [JZ9 ba];refine ⟨aS _ _ (af _ _ _) (af _ _ _) λi a=>?_,?_⟩;·rw [aq,aq];cases bt n i<;>cases bt 924074 i<;>rfl
   ·rw [aq,aq,QW.1,QW.2.1,A5,A5];exact b
theorem P4:∀ i,i<64->∀ a:Bool,((a&&bt 786722 i)&&bt 924074 i)=(a&&bt 786722 i):=by decide +kernel
theorem MG (f:U n) (h:mst n=n):mst (gD n 786722 p)=gD n 786722 p:=by
 obtain ⟨b,c⟩:=(qY n f).mp h;unfold gD;rw [qY _ (af _ _ _)];refine ⟨aS _ _ (af _ _ _) (af _ _ _) λi a=>?_,?_⟩
 ·have d:bt n i=(bt n i&&bt 924074 i):=by conv=>lhs;rw [<- b,aq]
  have e:=P4 i a (bt p i);rw [aq,bC,aw _ _ _ a,aq,d];revert e;cases bt n i<;>cases bt 924074 i<;>cases bt 786722 i<;>cases bt p i<;>decide
 ·rw [bC,bC,aw _ _ 11 aa,aw _ _ 12 aa,aq,aq,QW.2.2.2.2.1,QW.2.2.2.2.2];simpa using c
theorem iz:F3 .and .u64 (F3 .and .u64 n p) p=F3 .and .u64 n p :=
 aS _ _ (af _ _ _) (af _ _ _) λi a=>by rw [aq,aq];cases bt n i<;>cases bt p i<;>rfl
theorem k8:F3 .andNot .u64 (F3 .andNot .u64 n p) p=F3 .andNot .u64 n p :=
 aS _ _ (af _ _ _) (af _ _ _) λi a=>by rw [aw _ _ _ a,aw _ _ _ a];cases bt n i<;>cases bt p i<;>rfl
def vZ (x:Int) (i:Nat):Bool:=bt x i&&bt 159 (i%8)&&!(decide (i%8=1)&&!bt x (i-1))
theorem SF:∀ j,j<64->bt 2 j=decide (j=1):=by decide +kernel
theorem EA:bt 159 0:=by decide +kernel
theorem Gy (h:U n) (k j:Nat) (b:j<64):bt (j6 n k) j=(bt n (j+8*k)&&bt 159 j&&!(decide (j=1)&&!bt n (8*k))):=by
 unfold j6;have a:∀ i,bt (n/2^(8*k)) i=bt n (i+8*k):=λi=>it n h (8*k) i;generalize n/2^(8*k)=z at *;have c:bt n (8*k)=bt z 0:=by rw [a 0,Nat.zero_add]
 rw [c,<- a j,P3,aq,EA,A5];cases d:bt z 0 with
 | true =>rw [JZ8 rfl,JZ9 ba,aq];simp
 | false =>rw [JZ9 (show ¬ (false) from ba),JZ8 (show ((0:Int)==0)=true from rfl),aw _ _ _ b,aq,SF j b];simp
theorem qn (h:U n) (i:Nat) (d:i<64):∀ k,k<=4->bt (dI n k) i=(decide (i<8*k)&&vZ n i):=by
 intro k;induction k with
 | zero=>intro _;rw [dI];have:bt 0 i=false:=by unfold bt;simp
         rw [this];simp
 | succ k g =>
   intro j;rw [dI,bC,g aa,my _ (Ju n k)];by_cases b:i<8*k;·have c:¬ 8*k<=i:=aa;have a:i<8*(k+1):=aa;simp [b,c,a]
   ·have c:8*k<=i:=aa;by_cases a:i<8*(k+1)
    ·have f:i%8=i-8*k:=aa;rw [Gy n h k _ aa];unfold vZ;rw [f,show i-8*k+8*k=i from aa];by_cases e:i-8*k=1;·rw [show i-1=8*k from aa];simp [b,c,a,d]
     ·simp [b,c,a,d,e]
    ·rw [Ex n k _ aa];simp [b,a]
theorem yN (h:U n):ee 16 n=n↔∀ i,i<64->bt n i=(decide (i<32)&&vZ n i):=by
 show dI n 4=n↔_;constructor;·intro e i a;have:=qn n h i a 4 aa;rw [e] at this;exact this
 ·intro b;refine aS _ _ (by rw [dI];exact af _ _ _) h λi a=>?_;rw [qn n h i a 4 aa,b i a]
theorem Gz (h:U n) (i:Nat) (b:i<32):vZ (dI n 4) i=vZ n i:=by
 have s:∀ j,j<32->bt (dI n 4) j=vZ n j:=λj d=>by rw [qn n h j aa 4 aa];simp [show j<8*4 from aa]
 show (bt (dI n 4) i&&bt 159 (i%8)&&!(decide (i%8=1)&&!bt (dI n 4) (i-1)))=vZ n i;rw [s i b,s (i-1) aa];by_cases a:i%8=1;·have c:(i-1)%8=0:=aa;unfold vZ;rw [c,a,EA];cases bt n i<;>cases bt 159 1<;>cases bt n (i-1)<;>simp
 ·unfold vZ;simp only [a,decide_false,A6,F0,A5];cases bt n i<;>cases bt 159 (i%8)<;>rfl
theorem xi (h:U n):ee 16 (dI n 4)=dI n 4:=by
 rw [yN _ (by rw [dI];exact af _ _ _)];intro i b;rw [qn n h i b 4 aa];by_cases a:i<32;·rw [Gz n h i a]
 ·simp [a]
theorem JB:∀ j,j<64->bt 255 j=decide (j<8):=by decide +kernel
theorem GA (f:k<64):∀ i,i<=4->bt (fz n i) k=(decide (k<8*i)&&eK n (k/8)):=by
 intro i;induction i with
 | zero=>intro _;rw [fz];have:bt 0 k=false:=by unfold bt;simp
         rw [this];simp
 | succ i d =>
   intro h;rw [fz];by_cases a:k<8*i
   ·have b:k<8*(i+1):=aa;have e:¬ 8*i<=k:=aa;cases eK n i with
    | true=>rw [JZ8 rfl,bC,d aa,my _ (by constructor<;>decide)];simp [a,e,b]
    | false=>rw [JZ9 ba,d aa];simp [a,b]
   ·have e:8*i<=k:=aa;by_cases b:k<8*(i+1)
    ·have g:k/8=i:=aa;rw [g];cases eK n i with
     | true=>rw [JZ8 rfl,bC,d aa,my _ (by constructor<;>decide),JB _ aa];simp [a,e,b,f];omega
     | false=>rw [JZ9 ba,d aa];simp [a]
    ·cases eK n i with
     | true=>rw [JZ8 rfl,bC,d aa,my _ (by constructor<;>decide),JB _ aa];simp [a,b];omega
     | false=>rw [JZ9 ba,d aa];simp [a,b]
theorem Dd (h:U (l.getD 16 0)) (o:ee 16 (l.getD 16 0)=l.getD 16 0) (f:Int) (j:U f) (hl:ee 16 f=f):ee 16 (gh l f 4)=gh l f 4:=by
 have e:=λi a=>xf l h f i a 4;rw [yN _ (Db l f j 4)];have p:=(yN _ h).mp o;have q:=(yN _ j).mp hl;have k:=λi a=>GA (l.getD 16 0) i a 4 aa;intro i a;have c:=p i a;have d:=q i a;unfold vZ at c d ⊢;by_cases n:i%8=1
 ·have m:(i-1)/8=i/8:=aa;have r:=k i a;have b:=k (i-1) aa;rw [e i a,e (i-1) aa];have bZ:decide (i-1<8*4)=decide (i<8*4):=by
   by_cases g:i<8*4;·simp [g];omega
   ·simp [g];omega
  rw [m,bZ,<- r] at b;rw [b];cases bt (fz (l.getD 16 0) 4) i with
  | true=>rw [JZ8 rfl,JZ8 rfl];exact c
  | false=>rw [JZ9 ba,JZ9 ba];exact d
 ·rw [e i a];simp only [n,decide_false,A6,F0,A5] at c d ⊢;cases bt (fz (l.getD 16 0) 4) i with
  | true=>rw [JZ8 rfl];exact c
  | false=>rw [JZ9 ba];exact d
theorem De (h:U n) (k:Nat) (hk:k<22):ee k (ee k n)=ee k n:=by
 have:k=0\/k=1\/k=2\/k=3\/k=4\/k=5\/k=6\/k=7\/k=8\/k=9\/k=10\/k=11\/k=12\/k=13\/k=14\/k=15\/k=16\/k=17\/k=18\/k=19\/k=20\/k=21:=aa
 rcases this with rfl|rfl|rfl|rfl|rfl|rfl|rfl|rfl|rfl|rfl|rfl|rfl|rfl|rfl|rfl|rfl|rfl|rfl|rfl|rfl|rfl|rfl;·exact JA n h
 ·exact iz n 46079
 ·exact iz n 546
 ·exact iz n 2730
 ·exact k8 n 2
 ·rfl
 ·exact k8 n 3
 ·exact iz n 9223372036854775823
 ·rfl
 ·rfl
 ·exact k8 n 2
 ·rfl
 ·exact k8 n 3
 ·exact iz n 9223372036854775823
 ·rfl
 ·rfl
 ·exact xi n h
 ·exact iz n 18014398509481983
 ·exact iz n 18014398509481983
 ·exact iz n 18014398509481983
 ·exact iz n 18014398509481983
 ·rfl
theorem GB:∀ n k,(∀ j,k<=j->j<k+n->fS j (l.getD j 0))->mn l n k:=by
 intro n;induction n with
 | zero=>intro k _;rfl
 | succ n a =>intro k h;rw [mn,A0];exact ⟨h k aa aa,a (k+1) λj b c=>h j aa aa⟩
theorem JC (h:∀ j,j<22->fS j (l.getD j 0)):bp 22 l:=by simp only [bp,A0,JZ6];exact ⟨trivial,GB l 22 0 λj _ a=>h j aa⟩
theorem qZ (hk:e<l.length):(l.set e n).getD e 0=n:=by simp [List.getD,hk]
theorem i7 (a:e≠k):(l.set e y).getD k 0=l.getD k 0:=by simp [List.getD,a]
theorem bM (hz:l.length=22) (a:bp 22 l) (k:Nat) (hk:k<22) (v:Int) (h:fS k v):bp 22 (l.set k v):=by
 refine JC _ λj b=>?_;by_cases e:k=j;·subst e;rw [qZ l k v aa];exact h
 ·rw [i7 l k j v e];exact dx a j b
theorem nR (h:U n) (k:Nat) (hk:k<22) (b:k≠9) (a:k≠15):fS k (ee k n):=by unfold fS;rw [JZ9 b,JZ9 a,De n h k hk];exact beq_self_eq_true _
theorem EB (e:F3 .and .u64 n 2730=n) (hm:∀ i,i<64->bt p i->bt 2730 i):F3 .and .u64 (gD n p y) 2730=gD n p y:=by
 unfold gD;refine aS _ _ (af _ _ _) (af _ _ _) λi b=>?_;have d:bt n i=(bt n i&&bt 2730 i):=by conv=>lhs;rw [<- e,aq]
 have c:=hm i b;rw [aq,bC,aw _ _ _ b,aq,d];cases a:bt p i with
 | false=>cases bt n i<;>cases bt 2730 i<;>cases bt y i<;>rfl
 | true=>rw [c a];cases bt n i<;>cases bt y i<;>rfl
theorem Rl:∀ i,i<64->bt 546 i->bt 2730 i:=by decide +kernel
theorem Tr:∀ i,i<64->bt 2 i->bt 2730 i:=by decide +kernel
theorem GC (hz:l.length=22) (hl:∀ j,U (l.getD j 0)) (a:bp 22 l) (k:Nat) (hk:k<22) (x:Int) (hx:U x):bp 22 (sG l k x):=by
 have f:F3 .and .u64 (l.getD 9 0) 2730=l.getD 9 0:=eq_of_beq (dx a 9 aa);have e:ee 16 (l.getD 16 0)=l.getD 16 0:=eq_of_beq (dx a 16 aa);unfold sG;by_cases d:k=9;·subst d;rw [JZ8 (show (((9:Nat):Int)=9) from rfl)];refine bM l hz a 9 aa _ ?_;show (F3 .and .u64 (gD (l.getD 9 0) 546 x) 2730==gD (l.getD 9 0) 546 x);rw [EB _ _ _ f Rl];exact beq_self_eq_true _
 ·rw [JZ9 aa];by_cases b:k=15
  ·subst b;rw [JZ8 (show (((15:Nat):Int)=15) from rfl)];cases g:((x/1152921504606846976==0)||(x/1152921504606846976==8)) with
   | true=>rw [JZ8 rfl];exact bM l hz a 15 aa _ g
   | false=>rw [JZ9 ba];exact a
  ·rw [JZ9 aa];by_cases c:k=16;·subst c;rw [JZ8 (show (((16:Nat):Int)=16) from rfl)];refine bM l hz a 16 aa _ ?_;show (ee 16 (gh l (ee 16 x) 4)==gh l (ee 16 x) 4);rw [Dd l (hl 16) e (ee 16 x) (by show U (dI x 4);rw [dI];exact af _ _ _) (xi x hx)];exact beq_self_eq_true _
   ·rw [JZ9 aa];split
    ·split;·exact a
     ·rw [Int.toNat_natCast];exact bM l hz a k hk _ (nR x hx k hk d b)
    ·rw [Int.toNat_natCast];exact bM l hz a k hk _ (nR x hx k hk d b)
inductive SG (n:Int):Prop where
 | fixed (h:n=769\/n=3860)
 | st (h:n=256)
 | ie (h:n=260)
 | ip (h:n=324)
 | own (k:Nat) (hk:k<22) (hw:∀ l x,eB l n x=sG l k x) (hr:∀ l,jU l n=l.getD k 0) (hp:ku n=k)
theorem P5 (h:fU n):SG n:=by
 rcases jA n h with rfl|rfl|a;·exact .fixed (.inr rfl)
 ·exact .fixed (.inl rfl)
 ·rcases iZ n a with rfl | rfl | rfl | rfl | rfl | rfl | rfl | rfl | rfl | rfl | rfl | rfl | rfl | rfl | rfl | rfl | rfl | rfl | rfl | rfl | rfl | rfl | rfl | rfl | rfl;·exact .own 0 aa (λ_ _=>rfl) (λ_=>rfl) rfl
  ·exact .own 1 aa (λ_ _=>rfl) (λ_=>rfl) rfl
  ·exact .own 2 aa (λ_ _=>rfl) (λ_=>rfl) rfl
  ·exact .own 3 aa (λ_ _=>rfl) (λ_=>rfl) rfl
  ·exact .own 4 aa (λ_ _=>rfl) (λ_=>rfl) rfl
  ·exact .own 5 aa (λ_ _=>rfl) (λ_=>rfl) rfl
  ·exact .own 6 aa (λ_ _=>rfl) (λ_=>rfl) rfl
  ·exact .own 7 aa (λ_ _=>rfl) (λ_=>rfl) rfl
  ·exact .own 8 aa (λ_ _=>rfl) (λ_=>rfl) rfl
  ·exact .own 9 aa (λ_ _=>rfl) (λ_=>rfl) rfl
  ·exact .own 10 aa (λ_ _=>rfl) (λ_=>rfl) rfl
  ·exact .own 11 aa (λ_ _=>rfl) (λ_=>rfl) rfl
  ·exact .own 12 aa (λ_ _=>rfl) (λ_=>rfl) rfl
  ·exact .own 13 aa (λ_ _=>rfl) (λ_=>rfl) rfl
  ·exact .own 14 aa (λ_ _=>rfl) (λ_=>rfl) rfl
  ·exact .own 15 aa (λ_ _=>rfl) (λ_=>rfl) rfl
  ·exact .own 16 aa (λ_ _=>rfl) (λ_=>rfl) rfl
  ·exact .own 17 aa (λ_ _=>rfl) (λ_=>rfl) rfl
  ·exact .own 18 aa (λ_ _=>rfl) (λ_=>rfl) rfl
  ·exact .own 19 aa (λ_ _=>rfl) (λ_=>rfl) rfl
  ·exact .own 20 aa (λ_ _=>rfl) (λ_=>rfl) rfl
  ·exact .own 21 aa (λ_ _=>rfl) (λ_=>rfl) rfl
  ·exact .st rfl
  ·exact .ie rfl
  ·exact .ip rfl
theorem rW (hz:l.length=22) (hl:∀ j,U (l.getD j 0)) (a:bp 22 l) (n x:Int) (hx:U x) (h:fU n):bp 22 (eB l n x):=by
 have d:mst (l.getD 0 0)=l.getD 0 0:=eq_of_beq (dx a 0 aa);have e:F3 .and .u64 (l.getD 9 0) 2730=l.getD 9 0:=eq_of_beq (dx a 9 aa);cases P5 n h with
 | fixed b=>unfold eB;rw [JZ8 b];exact a
 | st b =>subst b;show bp 22 (l.set 0 (gD (l.getD 0 0) 786722 x));refine bM l hz a 0 aa _ ?_;show (mst (gD (l.getD 0 0) 786722 x)==gD (l.getD 0 0) 786722 x);rw [MG _ _ (hl 0) d];exact beq_self_eq_true _
 | ie b =>subst b;show bp 22 (l.set 3 (ee 3 (gD (l.getD 3 0) (l.getD 2 0) x)));exact bM l hz a 3 aa _ (nR _ (af _ _ _) 3 aa aa aa)
 | ip b =>subst b;show bp 22 (l.set 9 (gD (l.getD 9 0) (F3 .and .u64 (l.getD 2 0) 2) x));refine bM l hz a 9 aa _ ?_;show (F3 .and .u64 (gD (l.getD 9 0) (F3 .and .u64 (l.getD 2 0) 2) x) 2730==gD (l.getD 9 0) (F3 .and .u64 (l.getD 2 0) 2) x);rw [EB _ _ _ e (λi f c=>by rw [aq,A0] at c;exact Tr i f c.2)];exact beq_self_eq_true _
 | own k g m p o=>rw [m];exact GC l hz hl a k g x hx
theorem iA (hl:∀ j,U (l.getD j 0)) (k:Nat) (v:Int) (hv:U v) (j:Nat):U ((l.set k v).getD j 0):=by
 by_cases e:k=j
 ·subst e;by_cases a:k<l.length;·rw [qZ l k v a];exact hv
  ·rw [List.set_eq_of_length_le aa];exact hl k
 ·rw [i7 l k j v e];exact hl j
theorem EC (h:U p):U (ee n p):=by
 unfold ee;split;·exact OK p
 ·split;·exact af _ _ _
  ·split;·exact af _ _ _
   ·split;·exact af _ _ _
    ·split;·exact af _ _ _
     ·split;·exact af _ _ _
      ·split;·exact af _ _ _
       ·split;·rw [dI];exact af _ _ _
        ·split;·exact af _ _ _
         ·exact h
theorem ED (hl:∀ j,U (l.getD j 0)) (n x:Int) (hx:U x) (j:Nat):U ((eB l n x).getD j 0):=by
 unfold eB;split;·exact hl j
 ·split;·exact iA l hl _ _ (af _ _ _) j
  ·split;·exact iA l hl _ _ (EC _ _ (af _ _ _)) j
   ·split;·exact iA l hl _ _ (af _ _ _) j
    ·unfold sG;split;·exact iA l hl _ _ (af _ _ _) j
     ·split
      ·split;·exact iA l hl _ _ hx j
       ·exact hl j
      ·split;·exact iA l hl _ _ (Db l _ (EC _ _ hx) 4) j
       ·split
        ·split;·exact hl j
         ·exact iA l hl _ _ (EC _ _ hx) j
        ·exact iA l hl _ _ (EC _ _ hx) j
theorem MH (hl:∀ j,U (x.getD j 0)) (b:bp 22 x) (j:Nat) (k:17<=j) (i:j<=20):0<=x.getD j 0/\x.getD j 0<18014398509481984:=by
 have h:=dx b j aa;have c:=hl j;have e:F3 .and .u64 (x.getD j 0) 18014398509481983=x.getD j 0:=by have a:j=17\/j=18\/j=19\/j=20:=aa;have d:(F3 .and .u64 (x.getD j 0) 18014398509481983==x.getD j 0):=(by rcases a with rfl|rfl|rfl|rfl<;>exact h);simpa using d
 have f:=gR (x.getD j 0) 54 c.1 c.2 aa;have g:(2:Int)^54-1=18014398509481983:=ba
 rw [g,e] at f;have p54:(2:Int)^54=18014398509481984:=ba
 rw [p54] at f;refine ⟨c.1,?_⟩;have:=Int.emod_lt_of_pos (x.getD j 0) (show (0:Int)<18014398509481984 by omega);omega
theorem JD:∀ a k,trailN n a k<=a+k:=by
 intro a;induction a with
 | zero=>intro k;show k<=0+k;omega
 | succ a b =>
   intro k;unfold trailN;split;·have:=b (k+1);omega
   ·omega
theorem EE (hm:e<=54) (i:Nat) (a:i<64):bt (Uz.wrap (Uz.wrap (2^e)-1)) i=decide (i<e):=by
 have k:∀ e,e<=54->∀ i,i<64->bt (Uz.wrap (Uz.wrap (2^e)-1)) i=decide (i<e):=bv
 exact k e hm i a
theorem Df (h:U n) (m:Nat) (hm:m<=54):F3 .andNot .u64 n (Uz.wrap (Uz.wrap (2^m)-1))=n/2^m*2^m:=by
 have k:(0:Int)<2^m:=Int.pow_pos aa;have f:=kX n h m;have g:n/2^m*2^m<=n:=Int.ediv_mul_le _ aa;have c:0<=n/2^m*2^m:=Int.mul_nonneg f.1 aa;have j:Uz.wrap (n/2^m*2^m)=n/2^m*2^m:=by have:=h.2;rw [G3];exact Int.emod_eq_of_lt c aa
 refine aS _ _ (af _ _ _) ⟨c,by have:=h.2;omega⟩ λi e=>?_;rw [aw _ _ _ e,EE m hm i e,<- j,my _ f,it n h];by_cases b:m<=i;·have d:decide (i<m)=false:=decide_eq_false aa;rw [d,decide_eq_true b,decide_eq_true e,Nat.sub_add_cancel b];simp
 ·have d:decide (i<m):=decide_eq_true aa;rw [d,decide_eq_false b];simp
theorem GD {w w':World} {o:Obj} (h:(w.alloc o).grownBy w' (Value.slice (some ⟨w.heap.size,0,none⟩) 0 0).ownBlock):Bw w w':=by
 refine Below.grown (bal _ _) h ?_ ?_;·simp
 ·intro k a;simp [Value.ownBlock] at a;omega
theorem qo (h:U n) (i:Nat):bu n i=if bt n i=true then 1 else 0:=by
 have b:∀ i,i<64->∀ (p o:Bool),((if i=0 then p else o)&&bt 1 i)=bt (if p=true then 1 else 0) i:=bv
 unfold bu;have e:∀ y:Int,F3 .and .u64 y 1=if bt y 0=true then 1 else 0:=by
  intro y;refine aS _ _ (af _ _ _) (by split<;>(constructor<;>decide)) λj c=>?_;rw [aq,<- b j c (bt y 0) (bt y j)];by_cases a:j=0;·subst a;rfl
  ·rw [JZ9 a]
 rw [e,it n h,Nat.zero_add]
theorem OL:∀ i,i<64->bt 64 i=decide (i=6):=by decide +kernel
theorem P6:∀ i,i<64->bt 128 i=decide (i=7):=by decide +kernel
theorem ti (a:k<64):bt (wantV n p) k=(bt n k||decide (k=6)||((p==3)&&decide (k=7))):=by
 unfold wantV;cases (p==3) with
 | true=>rw [JZ8 rfl,bC,bC,OL k a,P6 k a,Bool.true_and]
 | false=>rw [JZ9 ba,bC,OL k a,A6,Bool.or_false]
theorem iB (h:U n) (i:Nat) (c:i<64) (a:i≠6) (b:i≠7):bu (wantV n p) i=bu n i:=by rw [qo _ (mD n p),qo _ h,ti n p i c];simp [a,b]
theorem AE (h:U n) (k:Nat) (hk:8<=k):wantV n p/2^k=n/2^k:=by
 refine aS _ _ (kX _ (mD n p) k) (kX _ h k) λi d=>?_;rw [it _ (mD n p),it _ h];by_cases a:i+k<64;·rw [ti n p _ a];have b:¬ i+k=6:=aa;have c:¬ i+k=7:=aa;simp [b,c]
 ·rw [sY _ _ aa,sY _ _ aa]
theorem GE (h:U n):wantV (wantV n p) p=wantV n p:=by refine aS _ _ (mD _ _) (mD _ _) λi a=>?_;rw [ti _ p i a,ti n p i a];cases bt n i<;>cases decide (i=6)<;>cases ((p==3)&&decide (i=7))<;>rfl
theorem EF (h:U n):F3 .and .u64 n 1=bu n 0:=by unfold bu;rw [Int.pow_zero,Int.ediv_one]
theorem AG (h:U n):badB (wantV n p)=badB n:=by unfold badB;rw [EF _ (mD n p),EF _ h,iB n p h 0 aa aa aa,iB n p h 1 aa aa aa,iB n p h 2 aa aa aa];have:=AE n p h 54 aa;rw [show ((2:Int)^54)=18014398509481984 from rfl] at this;rw [this]
theorem AH (h:U n):ptrB (wantV n p)=ptrB n:=by unfold ptrB;rw [iB n p h 1 aa aa aa,iB n p h 3 aa aa aa]
theorem uI (h:U n):frameV (wantV n p)=frameV n:=by unfold frameV;have:=AE n p h 10 aa;rw [show ((2:Int)^10)=1024 from rfl] at this;rw [this]
theorem fA:pageC n≠0:=by unfold pageC;split<;>(try split)<;>decide
theorem gp:faultC n≠0:=by unfold faultC;split<;>(try split)<;>decide
theorem qp (e x:Int) (lv:Nat) (h:(leafV l n p y e x lv).code=0): offB e lv=false/\noKind l y e=false/\noPriv l n y e=false/\(((wantV e y != e)/\permRest l 1 x (lastOf x 8) 3 4 0/\leafV l n p y e x lv=⟨leadV e p lv,0,true,x,wantV e y⟩)\/((wantV e y != e)=false/\leafV l n p y e x lv=⟨leadV e p lv,0,false,0,0⟩)):=by
 unfold leafV at h ⊢;cases a:offB e lv with
 | true=>rw [a,JZ8 rfl] at h;exact absurd h (fA y)
 | false =>
   rw [a,JZ9 ba] at h;cases b:noKind l y e with
   | true=>rw [b,JZ8 rfl] at h;exact absurd h (fA y)
   | false =>
     rw [b,JZ9 ba] at h;cases c:noPriv l n y e with
     | true=>rw [c,JZ8 rfl] at h;exact absurd h (fA y)
     | false =>
       rw [c,JZ9 ba] at h;refine ⟨rfl,rfl,rfl,?_⟩;cases d:(wantV e y != e) with
       | true =>
         rw [d,JZ8 rfl] at h;cases f:permRest l 1 x (lastOf x 8) 3 4 0 with
         | true=>exact .inl ⟨rfl,rfl,rfl⟩
         | false=>rw [f,JZ9 ba] at h;exact absurd h (gp y)
       | false=>exact .inr ⟨rfl,rfl⟩
theorem uJ (he:U a) (h:(leafV l n p y a c s).code=0):leafV l n p y (wantV a y) c s=⟨leadV a p s,0,false,0,0⟩:=by
 obtain ⟨e,b,x,_⟩:=qp l n p y a c s h;have d:offB (wantV a y) s=false:=by unfold offB at e ⊢;rw [uI a y he];exact e
 have f:noKind l y (wantV a y)=false:=by unfold noKind at b ⊢;rw [iB a y he 1 aa aa aa,iB a y he 2 aa aa aa,iB a y he 3 aa aa aa];exact b
 have g:noPriv l n y (wantV a y)=false:=by unfold noPriv at x ⊢;rw [iB a y he 4 aa aa aa];exact x
 have i:(wantV (wantV a y) y != wantV a y)=false:=by rw [GE a y he];simp
 have j:leadV (wantV a y) p s=leadV a p s:=by unfold leadV;rw [uI a y he]
 unfold leafV;rw [d,f,g,i,j];rfl
theorem Rm (hz:∀ i,0<=l.getD i 0/\l.getD i 0<=255) (x:Int):U (pteV l x):=tA l hz 8 _ aa
theorem Ro (a:n%8=0):pteAt n p k%8=0:=by unfold pteAt;generalize F3 .and .u64 (p/2^(12+9*k)) 511=z;rw [G3,G3];omega
theorem JE:Uz.wrap (n*4096)%8=0:=by rw [G3];omega
theorem AI (hz:l.length=e) (x v:Int) (hx:iP e x 8) (hv:U v):pteV (iM l (x-2147483648).toNat v 8) x=v:=by have h:=CT hx;unfold pteV;rw [Pc l _ 8 v aa];have:=hv.1;have:=hv.2;omega
theorem MI (hx:iP e n 8) (c:iP e p 8) (b:n%8=0) (d:p%8=0) (a:n≠p):pteV (iM l (n-2147483648).toNat y 8) p=pteV l p:=by have h:=CT hx;have x:=CT c;unfold pteV;exact Cr l _ _ 8 y aa
theorem GG (hz:l.length=e) (hb:∀ i,0<=l.getD i 0/\l.getD i 0<=255) (zs:List Int) (p va kind:Int):∀ a T,T%8=0->(walkL l e zs p va kind a T).code=0->(walkL l e zs p va kind a T).marked=true -> iP e (walkL l e zs p va kind a T).at_ 8/\(walkL l e zs p va kind a T).at_%8=0/\ptrB (pteV l (walkL l e zs p va kind a T).at_)=false /\ walkL (iM l ((walkL l e zs p va kind a T).at_-2147483648).toNat (walkL l e zs p va kind a T).entry 8) e zs p va kind a T=⟨(walkL l e zs p va kind a T).addr,0,false,0,0⟩:=by
 intro a;induction a with
 | zero =>
   intro T q b g;have E:=walkL_step l e zs p va kind 0 T;have f:=Ro T va 0 q;have m:=Rm l hb (pteAt T va 0);generalize w:walkL l e zs p va kind 0 T=W at *;cases c:iP e (pteAt T va 0) 8 with
   | false=>rw [c,JZ9 ba] at E;subst E;exact absurd b (gp kind)
   | true =>
     rw [c,JZ8 rfl] at E;cases h:permRest zs 1 (pteAt T va 0) (lastOf (pteAt T va 0) 8) 2 4 0 with
     | false=>rw [h,JZ9 ba] at E;subst E;exact absurd b (gp kind)
     | true =>
       rw [h,JZ8 rfl] at E;cases j:badB (pteV l (pteAt T va 0)) with
       | true=>rw [j,JZ8 rfl] at E;subst E;exact absurd b (fA kind)
       | false =>
         rw [j,JZ9 ba] at E;cases d:ptrB (pteV l (pteAt T va 0)) with
         | true =>have s:stopB (pteV l (pteAt T va 0)) 0:=rfl;rw [d,JZ8 rfl,s,JZ8 rfl] at E;subst E;exact absurd b (fA kind)
         | false =>
           rw [d,JZ9 ba] at E;rw [E] at b g;obtain ⟨_,_,_,⟨_,_,k⟩|⟨_,k⟩⟩:=qp _ _ _ _ _ _ _ b;·rw [E,k];refine ⟨c,f,d,?_⟩;rw [walkL_step,c,JZ8 rfl,h,JZ8 rfl,AI l e hz _ _ c (mD _ _),AG _ kind m,j,JZ9 ba,AH _ kind m,d,JZ9 ba];exact uJ _ _ _ _ _ _ _ m b
           ·rw [k] at g;cases g
 | succ a y =>
   intro T q b g;have E:=walkL_step l e zs p va kind (a+1) T;have f:=Ro T va (a+1) q;have m:=Rm l hb (pteAt T va (a+1));rw [show a+1-1=a from rfl] at E;generalize w:walkL l e zs p va kind (a+1) T=W at *;cases c:iP e (pteAt T va (a+1)) 8 with
   | false=>rw [c,JZ9 ba] at E;subst E;exact absurd b (gp kind)
   | true =>
     rw [c,JZ8 rfl] at E;cases h:permRest zs 1 (pteAt T va (a+1)) (lastOf (pteAt T va (a+1)) 8) 2 4 0 with
     | false=>rw [h,JZ9 ba] at E;subst E;exact absurd b (gp kind)
     | true =>
       rw [h,JZ8 rfl] at E;cases j:badB (pteV l (pteAt T va (a+1))) with
       | true=>rw [j,JZ8 rfl] at E;subst E;exact absurd b (fA kind)
       | false =>
         rw [j,JZ9 ba] at E;cases d:ptrB (pteV l (pteAt T va (a+1))) with
         | true =>
           rw [d,JZ8 rfl] at E;cases o:stopB (pteV l (pteAt T va (a+1))) (a+1) with
           | true=>rw [o,JZ8 rfl] at E;subst E;exact absurd b (fA kind)
           | false =>rw [o,JZ9 ba] at E;rw [E] at b g;obtain ⟨u,v,t,x⟩:=y _ (JE _) b g;rw [E];refine ⟨u,v,t,?_⟩;have r:(walkL l e zs p va kind a (Uz.wrap (frameV (pteV l (pteAt T va (a+1)))*4096))).at_≠pteAt T va (a+1):=(by intro n;rw [n,d] at t;cases t);rw [walkL_step _ _ _ _ _ _ (a+1),c,JZ8 rfl,h,JZ8 rfl,MI l e _ _ _ u c v f r,j,JZ9 ba,d,JZ8 rfl,o,JZ9 ba];exact x
         | false =>
           rw [d,JZ9 ba] at E;rw [E] at b g;obtain ⟨_,_,_,⟨_,_,k⟩|⟨_,k⟩⟩:=qp _ _ _ _ _ _ _ b;·rw [E,k];refine ⟨c,f,d,?_⟩;rw [walkL_step,c,JZ8 rfl,h,JZ8 rfl,AI l e hz _ _ c (mD _ _),AG _ kind m,j,JZ9 ba,AH _ kind m,d,JZ9 ba];exact uJ _ _ _ _ _ _ _ m b
           ·rw [k] at g;cases g
theorem uK:∀ va T,va<=2 -> ((walkL l e m y a c va T).code=0/\(∃ zs k,k<=2/\(walkL l e m y a c va T).addr=leadV zs a k)/\((walkL l e m y a c va T).marked=false->walkL l e m y a c va T=⟨(walkL l e m y a c va T).addr,0,false,0,0⟩)) \/ ((walkL l e m y a c va T).code≠0/\(walkL l e m y a c va T).addr=0/\(walkL l e m y a c va T).marked=false):=by
 have kind:∀ zs x k,k<=2->((leafV m y a c zs x k).code=0/\(∃ j i,i<=2/\(leafV m y a c zs x k).addr=leadV j a i)/\((leafV m y a c zs x k).marked=false->leafV m y a c zs x k=⟨(leafV m y a c zs x k).addr,0,false,0,0⟩))\/((leafV m y a c zs x k).code≠0/\(leafV m y a c zs x k).addr=0/\(leafV m y a c zs x k).marked=false):=by
  intro zs x k g;by_cases b:(leafV m y a c zs x k).code=0
  ·obtain ⟨_,_,_,⟨_,_,f⟩ | ⟨_,f⟩⟩:=qp _ _ _ _ _ _ _ b;·rw [f];exact .inl ⟨rfl,⟨zs,k,g,rfl⟩,λh=>hh⟩
   ·rw [f];exact .inl ⟨rfl,⟨zs,k,g,rfl⟩,λ_=>rfl⟩
  ·refine .inr ⟨b,?_⟩;unfold leafV at b ⊢;split;·exact ⟨rfl,rfl⟩
   ·rename_i n;rw [JZ9 n] at b;split;·exact ⟨rfl,rfl⟩
    ·rename_i o;rw [JZ9 o] at b;split;·exact ⟨rfl,rfl⟩
     ·rename_i q;rw [JZ9 q] at b;split
      ·rename_i d;rw [JZ8 d] at b;split;·rename_i r;rw [JZ8 r] at b;exact absurd rfl b
       ·exact ⟨rfl,rfl⟩
      ·rename_i d;rw [JZ9 d] at b;exact absurd rfl b
 intro va;induction va with
 | zero =>
   intro T _;rw [walkL];split
   ·split
    ·split;·exact .inr ⟨fA c,rfl,rfl⟩
     ·split;·exact .inr ⟨fA c,rfl,rfl⟩
      ·exact kind _ _ _ aa
    ·exact .inr ⟨gp c,rfl,rfl⟩
   ·exact .inr ⟨gp c,rfl,rfl⟩
 | succ va t =>
   intro T s;rw [walkL];split
   ·split
    ·split;·exact .inr ⟨fA c,rfl,rfl⟩
     ·split
      ·split;·exact .inr ⟨fA c,rfl,rfl⟩
       ·exact t _ aa
      ·exact kind _ _ _ aa
    ·exact .inr ⟨gp c,rfl,rfl⟩
   ·exact .inr ⟨gp c,rfl,rfl⟩
theorem MJ:∀ i,i<64->bt 4095 i=decide (i<12):=by decide +kernel
theorem JF (hk:k<=2):F3 .and .u64 (leadV n p k) 4095=F3 .and .u64 p 4095:=by
 refine aS _ _ (af _ _ _) (af _ _ _) λi a=>?_;unfold leadV lowM;rw [aq,aq,bC,aw _ _ _ a,aq,EE _ aa i a,MJ i a];by_cases h:i<12;·have b:i<12+9*k:=aa;simp [h,b]
 ·simp [h]
theorem Dg (hz:l.length=e) (hb:∀ i,0<=l.getD i 0/\l.getD i 0<=255) (zs:List Int) (p va kind:Int): ((walkV l e zs p va kind).code=0/\walkV (bG l (walkV l e zs p va kind)) e zs p va kind=⟨(walkV l e zs p va kind).addr,0,false,0,0⟩/\F3 .and .u64 (walkV l e zs p va kind).addr 4095=F3 .and .u64 va 4095) \/ ((walkV l e zs p va kind).code≠0/\(walkV l e zs p va kind).addr=0/\(walkV l e zs p va kind).marked=false):=by
 have E:∀ c,walkV c e zs p va kind=if ((p==3)||(zs.getD 15 0/1152921504606846976==0))=true then ⟨va,0,false,0,0⟩ else if (aX 39 va != va)=true then pageF kind else walkL c e zs p va kind 2 (topT zs):=λc=>rfl
 rw [E l];cases f:((p==3)||(zs.getD 15 0/1152921504606846976==0)) with
 | true =>rw [JZ8 rfl];refine .inl ⟨rfl,?_,rfl⟩;rw [E,f,JZ8 rfl]
 | false =>
   rw [JZ9 ba];cases g:(aX 39 va != va) with
   | true=>rw [JZ8 rfl];exact .inr ⟨fA kind,rfl,rfl⟩
   | false =>
     rw [JZ9 ba];rcases uK l e zs p va kind 2 (topT zs) aa with ⟨d,⟨n,k,o,m⟩,b⟩|h
     ·refine .inl ⟨d,?_,by rw [m];exact JF n va k o⟩;rw [E,f,JZ9 ba,g,JZ9 ba];cases a:(walkL l e zs p va kind 2 (topT zs)).marked with
      | true =>have j:topT zs%8=0:=JE _;obtain ⟨_,_,_,q⟩:=GG l e hz hb zs p va kind 2 (topT zs) j d a;unfold bG;rw [a,JZ8 rfl];exact q
      | false =>unfold bG;rw [a,JZ9 ba];exact b a
     ·exact .inr h
structure MW (M:MV):Prop where
 cs:∀ j,U (M.cs.getD j 0)
 ram:∀ y ∈ M.ram,(H8 .u8 y).wf
 xs:∀ y ∈ M.d.xs,(H8 .u8 y).wf
 ys:∀ y ∈ M.d.ys,(H8 .u8 y).wf
theorem EG {y:Int} (h:(H8 .u8 y).wf):0<=y/\y<=255:=by simpa [Lit.wf,H3,H5,H1,H2] using h
theorem uL {y:Int} (h:0<=y/\y<=255):(H8 .u8 y).wf:=by simpa [Lit.wf,H3,H5,H1,H2] using h
theorem JG (h:∀ y ∈ l,(H8 .u8 y).wf) (f:Nat) (x:Int) (k:Nat):∀ y ∈ iM l f x k,(H8 .u8 y).wf:=λy a=>uL (O0 l (λz b=>EG (h z b)) f x k y a)
theorem EH (h:∀ y ∈ l,(H8 .u8 y).wf) (F:Fd):∀ y ∈ bG l F,(H8 .u8 y).wf:=by
 unfold bG;split;·exact JG l h _ _ _
 ·exact h
theorem dE {M:MV} (h:eW M):M.cs.length=22/\bp 22 M.cs/\di M.pr/\bA M.ram.length/\lm M.d.xs.length M.d.ys.length M.d.ir/\ly M:=by unfold eW at h;simp only [A0] at h;obtain ⟨⟨⟨⟨⟨⟨_,_⟩,c⟩,d⟩,e⟩,_⟩,f⟩:=h;have a:=nN c;have b:=c;unfold aQ at b;rw [A0] at b;rw [a] at b;exact ⟨a,b.1,b.2,d,e,f⟩
theorem Rp (h:U n):n/2048%4=(if bt n 11=true then 1 else 0)+2*(if bt n 12=true then 1 else 0):=by
 have b:bu n 11=n/2^11%2^1:=by have a:=kX n h 11;exact gR (n/2^11) 1 a.1 a.2 aa
 have c:bu n 12=n/2^12%2^1:=by have a:=kX n h 12;exact gR (n/2^12) 1 a.1 a.2 aa
 have d:=qo n h 11;have e:=qo n h 12;rw [<- d,<- e,b,c];omega
theorem AJ (a:U n) (c:fS 0 n):di (wrap64 (F3 .and .u64 (n/2048) 3)):=by
 have g:mst n=n:=by unfold fS ee at c;simpa using c
 have b:=((qY _ a).1 g).2;have d:=kX n a 11;have f:=gR (n/2^11) 2 d.1 d.2 aa;have e:F3 .and .u64 (n/2048) 3=n/2048%4:=f;rw [e,Rp n a];revert b;cases bt n 11<;>cases bt n 12<;>intro b;·decide +kernel
 ·cases b
 ·decide +kernel
 ·decide +kernel
theorem AK (c:U (x.getD 0 0)) (a:bp 22 x) {p:Int} (d:di p) (kind:Int):di (il x p kind):=by
 unfold il;split;·have b:fS 0 (x.getD 0 0):=(by unfold bp mn at a;simp only [A0] at a;exact a.2.1);exact AJ _ c b
 ·exact d
theorem yO (h:U a):U (walkV l e m y a c).addr:=by
 unfold walkV;split;·exact h
 ·split;·exact ⟨by show (0:Int)<=0;omega,by show (0:Int)<_;omega⟩
  ·rcases uK l e m y a c 2 (topT m) aa with ⟨_,⟨zs,k,_,va⟩,_⟩|⟨_,va,_⟩;·rw [va];exact af _ _ _
   ·rw [va];exact ⟨aa,aa⟩
theorem d9 (a:Option Addr) (n cap:Nat) (l:List Int) (p:Int) (w:World) (hz:l.length=n) (g:Sl .u64 w a l) (hl:∀ j,U (l.getD j 0)):CB 75 #[.slice a n cap,.i p] w (.bool (aQ n l p)):=by
 have f:Hid (CB 52 #[.slice a n cap] w (.bool (bp n l))):=by have:=kE a n cap l w hz g hl;rw [xd n l hl] at this;exact this
 have m:Hid (∀ w,CE 84 #[.i p] w (.bool (di p))):=uE p;have F:Hid (aQ n l p=(bp n l&&di p)):=(rfl:aQ n l p=_);clear g hz hl;generalize bp n l=q at *;generalize di p=r at *;cases q with
 | false =>go_enter func75,ntmps75;go_wp2_with fail;refine f.out.mono ?_;rintro e o ⟨rfl,c⟩;go_wp2_with fail;go_ret;exact ⟨bc,c⟩
 | true =>go_enter func75,ntmps75;go_wp2_with fail;refine f.out.mono ?_;rintro e o ⟨rfl,c⟩;go_wp2_with fail;refine (m.out _).mono ?_;rintro e s ⟨rfl,d⟩;subst d;go_wp2_with fail;go_ret;exact ⟨bc,c⟩
