/- Own lemmas. -/
import Derived.Test.YtfagphfjfhpmjaaGreatDoorAut
import Derived.Test.YtfagphfjfhpmjaaGreatDoorK06
set_option maxHeartbeats 1600000
namespace Go.Proofs.YtfagphfjfhpmjaaGreatDoor
open Go.RowKit Tryz
set_option linter.unusedVariables false
variable {a b:Int} {w:Nat} (x k:Int)
inductive MF where | second | sum | xor | and | or | smin | smax | umin | umax
deriving DecidableEq
def MF.v:MF->Int->Int->Int
 | .second,a,b=>b
 | .sum,a,b=>IntKind.u64.wrap (a+b)
 | .xor,a,b=>bits .xor .u64 a b
 | .and,a,b=>bits .and .u64 a b
 | .or,a,b=>bits .or .u64 a b
 | .smin,a,b=>if wrap64 b<wrap64 a then b else a
 | .smax,a,b=>if wrap64 a<wrap64 b then b else a
 | .umin,a,b=>if b<a then b else a
 | .umax,a,b=>if a<b then b else a
def P5:List MF:=[.second,.sum,.xor,.and,.or,.smin,.smax,.umin,.umax]
def mF (k:Nat):MF:=P5.getD k .second
def sK (op:Int):Bool:=decide (65<=op/\op<=73)||decide (76<=op/\op<=84)
def iT (op a b:Int):Int :=
 if 76<=op/\op<=84 then (mF (op-76).toNat).v a b
 else if 65<=op/\op<=73 then (mF (op-65).toNat).v (au 32 a) (au 32 b)%4294967296 else 0
theorem kB (b:0<=a) (a1:a<18446744073709551616):IntKind.u64.wrap (wrap64 a)=a:=by rw [IntKind.wrap_u64];unfold wrap64;omega
theorem Fy (c:0<=a) (a1:a<18446744073709551616) (d:0<=b) (e:b<18446744073709551616) (h:wrap64 a=wrap64 b):a=b:=by unfold wrap64 at h;omega
theorem wU (u:0<=a) (b:a<18446744073709551616):au 64 a=a:=by
 have e:(2:Int)^(64-64)=1:=bc
 unfold au;rw [e,IntKind.wrap_u64,IntKind.wrap_u64];unfold wrap64;omega
theorem wV (u:0<=a) (b:a<18446744073709551616):bits .and .u64 a 18446744073709551615=a:=by obtain ⟨n,rfl⟩:=Int.eq_ofNat_of_zero_le u;have h:=u64_and_nat n 18446744073709551615 ab ab;have e:n &&& 18446744073709551615=n%18446744073709551616:=Nat.and_two_pow_sub_one_eq_mod n 64;rw [e] at h;refine Eq.trans h ?_;omega
theorem fy:au 32 x%4294967296=x%4294967296:=by rw [ml];split<;>omega
theorem oZ:au 32 (x%4294967296)=au 32 x:=ku ab
theorem P6 (c:0<=a) (a1:a<18446744073709551616) (d:0<=b) (i:b<18446744073709551616):bits .xor .u64 a b%4294967296=bits .xor .u64 (a%4294967296) (b%4294967296):=by
 obtain ⟨n,rfl⟩:=Int.eq_ofNat_of_zero_le c;obtain ⟨m,rfl⟩:=Int.eq_ofNat_of_zero_le d;have h:=u64_xor_nat n m ab ab;have g:=u64_xor_nat (n%4294967296) (m%4294967296) ab ab;have e:=@Nat.xor_mod_two_pow n m 32;have f:((n:Int)%4294967296)=((n%4294967296:Nat):Int):=ab
 have e2:((m:Int)%4294967296)=((m%4294967296:Nat):Int):=ab
 rw [h,f,e2,g];have e3:(n ^^^ m)%4294967296=n%4294967296 ^^^ m%4294967296:=e;rw [<- e3];omega
theorem P7 (c:0<=a) (a1:a<18446744073709551616) (d:0<=b) (i:b<18446744073709551616):bits .and .u64 a b%4294967296=bits .and .u64 (a%4294967296) (b%4294967296):=by
 obtain ⟨n,rfl⟩:=Int.eq_ofNat_of_zero_le c;obtain ⟨m,rfl⟩:=Int.eq_ofNat_of_zero_le d;have h:=u64_and_nat n m ab ab;have g:=u64_and_nat (n%4294967296) (m%4294967296) ab ab;have e:=@Nat.and_mod_two_pow n m 32;have f:((n:Int)%4294967296)=((n%4294967296:Nat):Int):=ab
 have e2:((m:Int)%4294967296)=((m%4294967296:Nat):Int):=ab
 rw [h,f,e2,g];have e3:(n &&& m)%4294967296=n%4294967296 &&& m%4294967296:=e;rw [<- e3];omega
theorem SY (c:0<=a) (a1:a<18446744073709551616) (d:0<=b) (i:b<18446744073709551616):bits .or .u64 a b%4294967296=bits .or .u64 (a%4294967296) (b%4294967296):=by
 obtain ⟨n,rfl⟩:=Int.eq_ofNat_of_zero_le c;obtain ⟨m,rfl⟩:=Int.eq_ofNat_of_zero_le d;have h:=u64_or_nat n m ab ab;have g:=u64_or_nat (n%4294967296) (m%4294967296) ab ab;have e:=@Nat.or_mod_two_pow n m 32;have f:((n:Int)%4294967296)=((n%4294967296:Nat):Int):=ab
 have e2:((m:Int)%4294967296)=((m%4294967296:Nat):Int):=ab
 rw [h,f,e2,g];have e3:(n ||| m)%4294967296=n%4294967296 ||| m%4294967296:=e
 rw [<- e3];omega
theorem wX:au 32 x<au 32 k↔x%4294967296<k%4294967296:=by rw [ml,ml];split<;>split<;>omega
theorem CT (hk:w<9) (a b:Int):iT ((w:Int)+76) a b=(mF w).v a b:=by
 have e:((w:Int)+76-76).toNat=w:=ab
 simp only [iT,e];rw [if_pos ab]
theorem Hq (hk:w<9) (a b:Int):iT ((w:Int)+65) a b=(mF w).v (au 32 a) (au 32 b)%4294967296:=by
 have e:((w:Int)+65-65).toNat=w:=ab
 simp only [iT,e];rw [if_neg ab,if_pos ab]
theorem Fz:MF.second.v (au 32 x) (au 32 k)%4294967296=k%4294967296:=fy k
theorem P8:MF.sum.v (au 32 x) (au 32 k)%4294967296=IntKind.u64.wrap (x%4294967296+k%4294967296)%4294967296:=by have c:=fy x;have d:=fy k;simp only [MF.v,jU];omega
theorem Nl:MF.xor.v (au 32 x) (au 32 k)%4294967296=bits .xor .u64 (x%4294967296) (k%4294967296):=by have h:=P6 (br x).1 (br x).2 (br k).1 (br k).2;rw [fy,fy] at h;exact h
theorem Nm:MF.and.v (au 32 x) (au 32 k)%4294967296=bits .and .u64 (x%4294967296) (k%4294967296):=by have h:=P7 (br x).1 (br x).2 (br k).1 (br k).2;rw [fy,fy] at h;exact h
theorem Qa:MF.or.v (au 32 x) (au 32 k)%4294967296=bits .or .u64 (x%4294967296) (k%4294967296):=by have h:=SY (br x).1 (br x).2 (br k).1 (br k).2;rw [fy,fy] at h;exact h
theorem rB (c:Prop) [Decidable c]:(if c then au 32 k else au 32 x)%4294967296=if c then k%4294967296 else x%4294967296:=by split<;>exact fy _
theorem MF.pos (f:MF) (d:0<=a) (a1:a<18446744073709551616) (c:0<=b) (e:b<18446744073709551616):0<=f.v a b:=by
 cases f with
 | second=>exact c
 | sum=>simp only [MF.v];rw [IntKind.wrap_u64];omega
 | xor =>obtain ⟨n,rfl⟩:=Int.eq_ofNat_of_zero_le d;obtain ⟨m,rfl⟩:=Int.eq_ofNat_of_zero_le c;simp only [MF.v];rw [u64_xor_nat n m ab ab];omega
 | and =>obtain ⟨n,rfl⟩:=Int.eq_ofNat_of_zero_le d;obtain ⟨m,rfl⟩:=Int.eq_ofNat_of_zero_le c;simp only [MF.v];rw [u64_and_nat n m ab ab];omega
 | or =>obtain ⟨n,rfl⟩:=Int.eq_ofNat_of_zero_le d;obtain ⟨m,rfl⟩:=Int.eq_ofNat_of_zero_le c;simp only [MF.v];rw [u64_or_nat n m ab ab];omega
 | smin=>simp only [MF.v];split<;>assumption
 | smax=>simp only [MF.v];split<;>assumption
 | umin=>simp only [MF.v];split<;>assumption
 | umax=>simp only [MF.v];split<;>assumption
theorem CU (h:sK a=false) (op b:Int):iT a op b=0:=by
 have c:¬ (65<=a/\a<=73)/\¬ (76<=a/\a<=84):=by simpa [sK] using h
 simp only [iT];rw [if_neg c.2,if_neg c.1]
theorem yW (h:sK a=true):∃ k:Nat,k<9/\(a=(k:Int)+76\/a=(k:Int)+65):=by
 have op:(65<=a/\a<=73)\/(76<=a/\a<=84):=by simpa [sK] using h
 rcases op with op|op;·exact ⟨(a-65).toNat,ab,Or.inr ab⟩
 ·exact ⟨(a-76).toNat,ab,Or.inl ab⟩
/- The nine,as the model picks: of words,and of low halves. -/
theorem Hr (c:0<=a) (a1:a<18446744073709551616) (d:0<=b) (e:b<18446744073709551616):MF.smin.v a b=if wrap64 a<wrap64 b then a else b:=by
 simp only [MF.v];split<;>split;·omega
 ·rfl
 ·rfl
 ·exact Fy c a1 d e ab
theorem Hu:MF.umin.v x k=if x<k then x else k:=by simp only [MF.v];split<;>split<;>omega
theorem Nn:MF.smin.v (au 32 x) (au 32 k)%4294967296=if wrap64 (au 32 x)<wrap64 (au 32 k) then x%4294967296 else k%4294967296:=by rw [Hr (br x).1 (br x).2 (br k).1 (br k).2];exact rB k x _
theorem Np:MF.smax.v (au 32 x) (au 32 k)%4294967296=if wrap64 (au 32 x)<wrap64 (au 32 k) then k%4294967296 else x%4294967296:=rB x k _
theorem Nq:MF.umin.v (au 32 x) (au 32 k)%4294967296=if x%4294967296<k%4294967296 then x%4294967296 else k%4294967296:=by rw [Hu,rB k x];simp only [wX]
theorem Nr:MF.umax.v (au 32 x) (au 32 k)%4294967296=if x%4294967296<k%4294967296 then k%4294967296 else x%4294967296:=by rw [show MF.umax.v (au 32 x) (au 32 k)=if au 32 x<au 32 k then au 32 k else au 32 x from rfl,rB x k];simp only [wX]
theorem Ns (w:World) (u:Value) (e:TypeId) (j:Nat) (x:Value) (h:[u][j]?=some x):(w.alloc (.cells #[u] e (0,0))).cell? ((⟨w.heap.size,0,none⟩:Addr).add j)=some x:=by
 have b:j=0:=by
  rcases Nat.eq_zero_or_pos j with a|a;·exact a
  ·rw [List.getElem?_eq_none bv] at h;cases h
 subst b;have c:(w.alloc (.cells #[u] e (0,0))).heap[w.heap.size]?=some (.cells #[u] e (0,0)):=heap_alloc_new _ _;simp at h;subst h;show (w.alloc (.cells #[u] e (0,0))).cell? ⟨w.heap.size,0,none⟩=some u;simp only [World.cell?,c];rfl
theorem bA.pushIn {E:Nat} {B w':World} {a1:Option Addr} {l c1:Nat} {xs:List Int} {a2:Option Addr} {d c2:Nat} {ys:List Int} (h:bA w E B (fW a1 l c1 xs a2 d c2 ys)) (p:E<=B.heap.size) (n:B.grownBy w' (Value.slice a1 l c1).ownBlock) {f:Option Addr} {m g:Nat} {zs:List Int} (o:w'.ownsRow w 5 1 (.slice f m g) m (zs.map (Value.int .u8))) (c:(Value.slice f m g).ownBlock=(Value.slice a1 l c1).ownBlock\/(Value.slice f m g).ownBlock=some B.heap.size):bA w w'.heap.size w' (fW f m g zs a2 d c2 ys):=by
 have b:=(List.pairwise_cons.1 h.ne).1 (aD a2 d c2 ys) (List.mem_singleton.2 rfl);have i:=h.own (aD a2 d c2 ys) tt;have j:=h.hi (aD a2 d c2 ys) tt;refine ⟨λr a=>?_,λr a k e=>?_,List.pairwise_cons.2 ⟨λr a k e e2=>?_,List.pairwise_singleton _ _⟩⟩
 ·rcases List.mem_cons.1 a with rfl|a;·exact o
  ·rw [List.mem_singleton.1 a];exact eg i (λk e=>n.block k (i.lt k e).2 (λe2=>b k e2.symm e))
 ·rcases List.mem_cons.1 a with rfl|a;·exact (o.lt k e).2
  ·rw [List.mem_singleton.1 a] at e;have:=(i.lt k e).2;have:=n.size;omega
 ·rw [List.mem_singleton.1 a] at e2;rcases c with c|c;·exact b k (c.symm.trans e) e2
  ·have e3:some B.heap.size=some k:=c.symm.trans e;cases e3;have:=j _ e2;omega
theorem Nt (a:Option Addr) (n cap:Nat) (zs:List Int) (m:Int) (w:World) (hz:zs.length=n) (hn:n<=4097) (hs:Sl .u8 w a zs) (u:∀ y ∈ zs,(Lit.int .u8 y).wf=true) (hm:0<m) (G:m<=1099511627776):Calls prog 31 #[.slice a n cap,.i m] w λe I=>∃ x:Int,e=.returned (.i x)/\(0<=x/\x<m)/\I=w:=by
 have A:Hid (Sl .u8 w a zs):=hs;have B:Hid (∀ y ∈ zs,(Lit.int .u8 y).wf=true):=u;have r:Hid (zs.length=n):=hz;clear hs u hz;go_enter func31,ntmps31;go_wp2_with fail;go_loopw [5,6] (λk i wr=>∃ (x:Int) (j:Nat),k=.i x/\i=.i j/\j<=n/\(0<=x/\x<=1000003)/\Hid (wr=w)) (λ_ i _=>n-(intOf i).toNat);case atStart=>exact ⟨n,0,rfl,rfl,ab,ab,rfl⟩
 case round =>
  obtain ⟨x,j,rfl,rfl,L,⟨o,H⟩,c⟩:=hrel;by_cases E:j<n
  ·obtain ⟨b,p,rfl,K,t⟩:=A.out j (by have:=r.out;omega);have N:0<=zs.getD j 0/\zs.getD j 0<=255:=(by have d:zs.getD j 0 ∈ zs:=(by rw [List.getD_eq_getElem?_getD,List.getElem?_eq_getElem (by have:=r.out;omega)];exact List.getElem_mem _);simpa [Lit.wf,IntKind.min,IntKind.max,IntKind.signed,IntKind.bits] using B.out _ d);have D:wr.cell? ⟨b,p+j,none⟩=some (.int .u8 (zs.getD j 0)):=(by rw [c.out];exact t);generalize zs.getD j 0=y at *;have J:wrap64 (x*61)=x*61:=ka;have e2:wrap64 (x*61+y)=x*61+y:=ka;have e3:(x*61+y).tmod 1000003=(x*61+y)%1000003:=Int.tmod_eq_emod_of_nonneg ab;have e4:IntKind.i64.wrap y=y:=i6;have C:decide ((j:Int)<(n:Int))=true:=bv;obtain ⟨q,M,g,l⟩:∃ q,(x*61+y)%1000003=q/\0<=q/\q<=1000003:=⟨_,rfl,ab,ab⟩;clear t;go_wp2_with fail;go_roundw;case rel=>exact ⟨_,j+1,rfl,by go_num,ab,by first | exact ⟨g,l⟩ | (constructor<;>omega),c⟩
   case measure=>simp [intOf];omega
  ·have f:j=n:=ab;subst f;have C:decide ((j:Int)<(j:Int))=false:=cp;have e3:x.tmod m=x%m:=Int.tmod_eq_emod_of_nonneg o;have s:0<=x%m/\x%m<m:=⟨Int.emod_nonneg _ ab,Int.emod_lt_of_pos _ hm⟩;have F:(m==0)=false:=bv;have z:Hid (0<=x%m/\x%m<m):=s;clear s;go_wp2_with fail;go_ret;exact ⟨_,rfl,z.out,c.out⟩
end Go.Proofs.YtfagphfjfhpmjaaGreatDoor
