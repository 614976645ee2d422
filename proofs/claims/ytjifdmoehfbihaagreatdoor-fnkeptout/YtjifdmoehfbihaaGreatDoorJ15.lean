/- Own lemmas. -/
import Derived.Test.YtjifdmoehfbihaaGreatDoorAuj
import Derived.Test.YtjifdmoehfbihaaGreatDoorJ06
namespace Go.Proofs.YtjifdmoehfbihaaGreatDoor
open Go.RowKit
set_option linter.unusedVariables false
variable {a b:Int} {x:Nat} (k w:Int)
inductive MF where | second | sum | xor | and | or | smin | smax | umin | umax
deriving DecidableEq
def MF.v:MF->Int->Int->Int
 | .second,a,b=>b
 | .sum,a,b=>IntKind.u64.wrap (a+b)
 | .xor,a,b=>bits .xor .u64 a b
 | .and,a,b=>bits .and .u64 a b
 | .or,a,b=>bits .or .u64 a b
 | .smin,a,b=>if wrap64 b<wrap64 a then b else a
 | .smax,a,b=>if wrap64 a<wrap64 b then b else a
 | .umin,a,b=>if b<a then b else a
 | .umax,a,b=>if a<b then b else a
def QE:List MF:=[.second,.sum,.xor,.and,.or,.smin,.smax,.umin,.umax]
def mI (k:Nat):MF:=QE.getD k .second
def sT (op:Int):Bool:=decide (65<=op/\op<=73)||decide (76<=op/\op<=84)
def i8 (op a b:Int):Int :=
 if 76<=op/\op<=84 then (mI (op-76).toNat).v a b
 else if 65<=op/\op<=73 then (mI (op-65).toNat).v (au 32 a) (au 32 b)%4294967296 else 0
theorem kG (b:0<=a) (a1:a<18446744073709551616):IntKind.u64.wrap (wrap64 a)=a:=by rw [IntKind.wrap_u64];unfold wrap64;omega
theorem FQ (c:0<=a) (a1:a<18446744073709551616) (d:0<=b) (e:b<18446744073709551616) (h:wrap64 a=wrap64 b):a=b:=by unfold wrap64 at h;omega
theorem xg (u:0<=a) (b:a<18446744073709551616):au 64 a=a:=by
 have e:(2:Int)^(64-64)=1:=bc
 unfold au;rw [e,IntKind.wrap_u64,IntKind.wrap_u64];unfold wrap64;omega
theorem xh (u:0<=a) (b:a<18446744073709551616):bits .and .u64 a 18446744073709551615=a:=by obtain ⟨n,rfl⟩:=Int.eq_ofNat_of_zero_le u;have h:=u64_and_nat n 18446744073709551615 ab ab;have e:n &&& 18446744073709551615=n%18446744073709551616:=Nat.and_two_pow_sub_one_eq_mod n 64;rw [e] at h;refine Eq.trans h ?_;omega
theorem fE:au 32 k%4294967296=k%4294967296:=by rw [ml];split<;>omega
theorem o6:au 32 (k%4294967296)=au 32 k:=kA ab
theorem QF (c:0<=a) (a1:a<18446744073709551616) (d:0<=b) (i:b<18446744073709551616):bits .xor .u64 a b%4294967296=bits .xor .u64 (a%4294967296) (b%4294967296):=by
 obtain ⟨n,rfl⟩:=Int.eq_ofNat_of_zero_le c;obtain ⟨m,rfl⟩:=Int.eq_ofNat_of_zero_le d;have h:=u64_xor_nat n m ab ab;have g:=u64_xor_nat (n%4294967296) (m%4294967296) ab ab;have e:=@Nat.xor_mod_two_pow n m 32;have f:((n:Int)%4294967296)=((n%4294967296:Nat):Int):=ab
 have e2:((m:Int)%4294967296)=((m%4294967296:Nat):Int):=ab
 rw [h,f,e2,g];have e3:(n ^^^ m)%4294967296=n%4294967296 ^^^ m%4294967296:=e;rw [<- e3];omega
theorem QG (c:0<=a) (a1:a<18446744073709551616) (d:0<=b) (i:b<18446744073709551616):bits .and .u64 a b%4294967296=bits .and .u64 (a%4294967296) (b%4294967296):=by
 obtain ⟨n,rfl⟩:=Int.eq_ofNat_of_zero_le c;obtain ⟨m,rfl⟩:=Int.eq_ofNat_of_zero_le d;have h:=u64_and_nat n m ab ab;have g:=u64_and_nat (n%4294967296) (m%4294967296) ab ab;have e:=@Nat.and_mod_two_pow n m 32;have f:((n:Int)%4294967296)=((n%4294967296:Nat):Int):=ab
 have e2:((m:Int)%4294967296)=((m%4294967296:Nat):Int):=ab
 rw [h,f,e2,g];have e3:(n &&& m)%4294967296=n%4294967296 &&& m%4294967296:=e;rw [<- e3];omega
theorem TN (c:0<=a) (a1:a<18446744073709551616) (d:0<=b) (i:b<18446744073709551616):bits .or .u64 a b%4294967296=bits .or .u64 (a%4294967296) (b%4294967296):=by
 obtain ⟨n,rfl⟩:=Int.eq_ofNat_of_zero_le c;obtain ⟨m,rfl⟩:=Int.eq_ofNat_of_zero_le d;have h:=u64_or_nat n m ab ab;have g:=u64_or_nat (n%4294967296) (m%4294967296) ab ab;have e:=@Nat.or_mod_two_pow n m 32;have f:((n:Int)%4294967296)=((n%4294967296:Nat):Int):=ab
 have e2:((m:Int)%4294967296)=((m%4294967296:Nat):Int):=ab
 rw [h,f,e2,g];have e3:(n ||| m)%4294967296=n%4294967296 ||| m%4294967296:=e
 rw [<- e3];omega
theorem xi:au 32 k<au 32 w↔k%4294967296<w%4294967296:=by rw [ml,ml];split<;>split<;>omega
theorem De (hk:x<9) (a b:Int):i8 ((x:Int)+76) a b=(mI x).v a b:=by
 have e:((x:Int)+76-76).toNat=x:=ab
 simp only [i8,e];rw [if_pos ab]
theorem If (hk:x<9) (a b:Int):i8 ((x:Int)+65) a b=(mI x).v (au 32 a) (au 32 b)%4294967296:=by
 have e:((x:Int)+65-65).toNat=x:=ab
 simp only [i8,e];rw [if_neg ab,if_pos ab]
theorem FU:MF.second.v (au 32 k) (au 32 w)%4294967296=w%4294967296:=fE w
theorem QH:MF.sum.v (au 32 k) (au 32 w)%4294967296=IntKind.u64.wrap (k%4294967296+w%4294967296)%4294967296:=by have c:=fE k;have d:=fE w;simp only [MF.v,jZ];omega
theorem NH:MF.xor.v (au 32 k) (au 32 w)%4294967296=bits .xor .u64 (k%4294967296) (w%4294967296):=by have h:=QF (bu k).1 (bu k).2 (bu w).1 (bu w).2;rw [fE,fE] at h;exact h
theorem NI:MF.and.v (au 32 k) (au 32 w)%4294967296=bits .and .u64 (k%4294967296) (w%4294967296):=by have h:=QG (bu k).1 (bu k).2 (bu w).1 (bu w).2;rw [fE,fE] at h;exact h
theorem QI:MF.or.v (au 32 k) (au 32 w)%4294967296=bits .or .u64 (k%4294967296) (w%4294967296):=by have h:=TN (bu k).1 (bu k).2 (bu w).1 (bu w).2;rw [fE,fE] at h;exact h
theorem ry (c:Prop) [Decidable c]:(if c then au 32 w else au 32 k)%4294967296=if c then w%4294967296 else k%4294967296:=by split<;>exact fE _
theorem MF.pos (f:MF) (d:0<=a) (a1:a<18446744073709551616) (c:0<=b) (e:b<18446744073709551616):0<=f.v a b:=by
 cases f with
 | second=>exact c
 | sum=>simp only [MF.v];rw [IntKind.wrap_u64];omega
 | xor =>obtain ⟨n,rfl⟩:=Int.eq_ofNat_of_zero_le d;obtain ⟨m,rfl⟩:=Int.eq_ofNat_of_zero_le c;simp only [MF.v];rw [u64_xor_nat n m ab ab];omega
 | and =>obtain ⟨n,rfl⟩:=Int.eq_ofNat_of_zero_le d;obtain ⟨m,rfl⟩:=Int.eq_ofNat_of_zero_le c;simp only [MF.v];rw [u64_and_nat n m ab ab];omega
 | or =>obtain ⟨n,rfl⟩:=Int.eq_ofNat_of_zero_le d;obtain ⟨m,rfl⟩:=Int.eq_ofNat_of_zero_le c;simp only [MF.v];rw [u64_or_nat n m ab ab];omega
 | smin=>simp only [MF.v];split<;>assumption
 | smax=>simp only [MF.v];split<;>assumption
 | umin=>simp only [MF.v];split<;>assumption
 | umax=>simp only [MF.v];split<;>assumption
theorem Df (h:sT a=false) (op b:Int):i8 a op b=0:=by
 have c:¬ (65<=a/\a<=73)/\¬ (76<=a/\a<=84):=by simpa [sT] using h
 simp only [i8];rw [if_neg c.2,if_neg c.1]
theorem zi (h:sT a=true):∃ k:Nat,k<9/\(a=(k:Int)+76\/a=(k:Int)+65):=by
 have op:(65<=a/\a<=73)\/(76<=a/\a<=84):=by simpa [sT] using h
 rcases op with op|op;·exact ⟨(a-65).toNat,ab,Or.inr ab⟩
 ·exact ⟨(a-76).toNat,ab,Or.inl ab⟩
/- The nine,as the model picks: of words,and of low halves. -/
theorem Ig (c:0<=a) (a1:a<18446744073709551616) (d:0<=b) (e:b<18446744073709551616):MF.smin.v a b=if wrap64 a<wrap64 b then a else b:=by
 simp only [MF.v];split<;>split;·omega
 ·rfl
 ·rfl
 ·exact FQ c a1 d e ab
theorem Ih:MF.umin.v k w=if k<w then k else w:=by simp only [MF.v];split<;>split<;>omega
theorem NJ:MF.smin.v (au 32 k) (au 32 w)%4294967296=if wrap64 (au 32 k)<wrap64 (au 32 w) then k%4294967296 else w%4294967296:=by rw [Ig (bu k).1 (bu k).2 (bu w).1 (bu w).2];exact ry w k _
theorem NK:MF.smax.v (au 32 k) (au 32 w)%4294967296=if wrap64 (au 32 k)<wrap64 (au 32 w) then w%4294967296 else k%4294967296:=ry k w _
theorem NL:MF.umin.v (au 32 k) (au 32 w)%4294967296=if k%4294967296<w%4294967296 then k%4294967296 else w%4294967296:=by rw [Ih,ry w k];simp only [xi]
theorem NM:MF.umax.v (au 32 k) (au 32 w)%4294967296=if k%4294967296<w%4294967296 then w%4294967296 else k%4294967296:=by rw [show MF.umax.v (au 32 k) (au 32 w)=if au 32 k<au 32 w then au 32 w else au 32 k from rfl,ry k w];simp only [xi]
theorem NN (w:World) (u:Value) (e:TypeId) (j:Nat) (x:Value) (h:[u][j]?=some x):(w.alloc (.cells #[u] e (0,0))).cell? ((⟨w.heap.size,0,none⟩:Addr).add j)=some x:=by
 have b:j=0:=by
  rcases Nat.eq_zero_or_pos j with a|a;·exact a
  ·rw [List.getElem?_eq_none bv] at h;cases h
 subst b;have c:(w.alloc (.cells #[u] e (0,0))).heap[w.heap.size]?=some (.cells #[u] e (0,0)):=heap_alloc_new _ _;simp at h;subst h;show (w.alloc (.cells #[u] e (0,0))).cell? ⟨w.heap.size,0,none⟩=some u;simp only [World.cell?,c];rfl
theorem bz.pushIn {E:Nat} {w w':World} {a1:Option Addr} {l c1:Nat} {xs:List Int} {a2:Option Addr} {d c2:Nat} {ys:List Int} (h:bz x E w (gj a1 l c1 xs a2 d c2 ys)) (p:E<=w.heap.size) (n:w.grownBy w' (Value.slice a1 l c1).ownBlock) {f:Option Addr} {m g:Nat} {zs:List Int} (o:w'.ownsRow x 5 1 (.slice f m g) m (zs.map (Value.int .u8))) (c:(Value.slice f m g).ownBlock=(Value.slice a1 l c1).ownBlock\/(Value.slice f m g).ownBlock=some w.heap.size):bz x w'.heap.size w' (gj f m g zs a2 d c2 ys):=by
 have b:=(List.pairwise_cons.1 h.ne).1 (aF a2 d c2 ys) (List.mem_singleton.2 rfl);have i:=h.own (aF a2 d c2 ys) t5;have j:=h.hi (aF a2 d c2 ys) t5;refine ⟨λr a=>?_,λr a k e=>?_,List.pairwise_cons.2 ⟨λr a k e e2=>?_,List.pairwise_singleton _ _⟩⟩
 ·rcases List.mem_cons.1 a with rfl|a;·exact o
  ·rw [List.mem_singleton.1 a];exact eu i (λk e=>n.block k (i.lt k e).2 (λe2=>b k e2.symm e))
 ·rcases List.mem_cons.1 a with rfl|a;·exact (o.lt k e).2
  ·rw [List.mem_singleton.1 a] at e;have:=(i.lt k e).2;have:=n.size;omega
 ·rw [List.mem_singleton.1 a] at e2;rcases c with c|c;·exact b k (c.symm.trans e) e2
  ·have e3:some w.heap.size=some k:=c.symm.trans e;cases e3;have:=j _ e2;omega
end Go.Proofs.YtjifdmoehfbihaaGreatDoor
