/- Own lemmas. -/
import Derived.Test.YtfekjlcnnjhofaaGreatDoorAut
import Derived.Test.YtfekjlcnnjhofaaGreatDoorK06
set_option maxRecDepth 100000
set_option maxHeartbeats 1600000
namespace Go.Proofs.YtfekjlcnnjhofaaGreatDoor
open Go.RowKit Tryz
open IntKind renaming u64->Uz
open Go renaming results_cell_row->C5,bodyPost_ret->C6,Addr->D1,u64_and_nat->D2,bits->D3,u64_xor_nat->D4,u64_or_nat->D8,heap_alloc_new->F0,World->F3,Value->G1,Calls->H8
open Go.RowKit renaming wrap64->I4
open Int renaming eq_ofNat_of_zero_le->A5
open IntKind renaming wrap_u64->I5
open List renaming mem_singleton->I1,mem_cons->I2,pairwise_cons->I3
open Value renaming slice->A6,int->A8
open World renaming size_alloc->K0
open _root_.Array renaming getElem?_eq_some_iff->A9
set_option linter.unusedVariables false
variable {b a:Int} {w:Nat} {x:F3} {c:Option D1} {j:List Int} (k:DV) (B:Option D1) (D:Nat) (E:Option D1) (d:Nat) (e:Int) (l:F3) (n:Int)
inductive MF where | second | sum | xor | and | or | smin | smax | umin | umax
deriving DecidableEq
def MF.v:MF->Int->Int->Int
 | .second,a,b=>b
 | .sum,a,b=>Uz.wrap (a+b)
 | .xor,a,b=>D3 .xor .u64 a b
 | .and,a,b=>D3 .and .u64 a b
 | .or,a,b=>D3 .or .u64 a b
 | .smin,a,b=>if I4 b<I4 a then b else a
 | .smax,a,b=>if I4 a<I4 b then b else a
 | .umin,a,b=>if b<a then b else a
 | .umax,a,b=>if a<b then b else a
def Qk:List MF:=[.second,.sum,.xor,.and,.or,.smin,.smax,.umin,.umax]
def mL (k:Nat):MF:=Qk.getD k .second
def sP (op:Int):Bool:=decide (65<=op/\op<=73)||decide (76<=op/\op<=84)
def jd (op a b:Int):Int :=
 if 76<=op/\op<=84 then (mL (op-76).toNat).v a b
 else if 65<=op/\op<=73 then (mL (op-65).toNat).v (ay 32 a) (ay 32 b)%4294967296 else 0
theorem kG (b:0<=a) (a1:a<18446744073709551616):Uz.wrap (I4 a)=a:=by rw [I5];unfold I4;omega
theorem FL (c:0<=a) (a1:a<18446744073709551616) (d:0<=b) (e:b<18446744073709551616) (h:I4 a=I4 b):a=b:=by unfold I4 at h;omega
theorem wM (a:0<=b) (u:b<18446744073709551616):ay 64 b=b:=by
 have e:(2:Int)^(64-64)=1:=bc
 unfold ay;rw [e,I5,I5];unfold I4;omega
theorem wO (a:0<=b) (u:b<18446744073709551616):D3 .and .u64 b 18446744073709551615=b:=by obtain ⟨n,rfl⟩:=A5 a;have h:=D2 n 18446744073709551615 ab ab;have e:n &&& 18446744073709551615=n%18446744073709551616:=Nat.and_two_pow_sub_one_eq_mod n 64;rw [e] at h;refine Eq.trans h ?_;omega
theorem fG:ay 32 e%4294967296=e%4294967296:=by rw [mr];split<;>omega
theorem o9:ay 32 (e%4294967296)=ay 32 e:=kA ab
theorem Ql (c:0<=a) (a1:a<18446744073709551616) (d:0<=b) (i:b<18446744073709551616):D3 .xor .u64 a b%4294967296=D3 .xor .u64 (a%4294967296) (b%4294967296):=by
 obtain ⟨n,rfl⟩:=A5 c;obtain ⟨m,rfl⟩:=A5 d;have h:=D4 n m ab ab;have g:=D4 (n%4294967296) (m%4294967296) ab ab;have e:=@Nat.xor_mod_two_pow n m 32;have f:((n:Int)%4294967296)=((n%4294967296:Nat):Int):=ab
 have e2:((m:Int)%4294967296)=((m%4294967296:Nat):Int):=ab
 rw [h,f,e2,g];have e3:(n ^^^ m)%4294967296=n%4294967296 ^^^ m%4294967296:=e;rw [<- e3];omega
theorem Qm (c:0<=a) (a1:a<18446744073709551616) (d:0<=b) (i:b<18446744073709551616):D3 .and .u64 a b%4294967296=D3 .and .u64 (a%4294967296) (b%4294967296):=by
 obtain ⟨n,rfl⟩:=A5 c;obtain ⟨m,rfl⟩:=A5 d;have h:=D2 n m ab ab;have g:=D2 (n%4294967296) (m%4294967296) ab ab;have e:=@Nat.and_mod_two_pow n m 32;have f:((n:Int)%4294967296)=((n%4294967296:Nat):Int):=ab
 have e2:((m:Int)%4294967296)=((m%4294967296:Nat):Int):=ab
 rw [h,f,e2,g];have e3:(n &&& m)%4294967296=n%4294967296 &&& m%4294967296:=e;rw [<- e3];omega
theorem To (c:0<=a) (a1:a<18446744073709551616) (d:0<=b) (i:b<18446744073709551616):D3 .or .u64 a b%4294967296=D3 .or .u64 (a%4294967296) (b%4294967296):=by
 obtain ⟨n,rfl⟩:=A5 c;obtain ⟨m,rfl⟩:=A5 d;have h:=D8 n m ab ab;have g:=D8 (n%4294967296) (m%4294967296) ab ab;have e:=@Nat.or_mod_two_pow n m 32;have f:((n:Int)%4294967296)=((n%4294967296:Nat):Int):=ab
 have e2:((m:Int)%4294967296)=((m%4294967296:Nat):Int):=ab
 rw [h,f,e2,g];have e3:(n ||| m)%4294967296=n%4294967296 ||| m%4294967296:=e
 rw [<- e3];omega
theorem wP:ay 32 e<ay 32 n↔e%4294967296<n%4294967296:=by rw [mr,mr];split<;>split<;>omega
theorem Df (hk:w<9) (a b:Int):jd ((w:Int)+76) a b=(mL w).v a b:=by
 have e:((w:Int)+76-76).toNat=w:=ab
 simp only [jd,e];rw [JZ8 ab]
theorem Ih (hk:w<9) (a b:Int):jd ((w:Int)+65) a b=(mL w).v (ay 32 a) (ay 32 b)%4294967296:=by
 have e:((w:Int)+65-65).toNat=w:=ab
 simp only [jd,e];rw [JZ9 ab,JZ8 ab]
theorem FQ:MF.second.v (ay 32 e) (ay 32 n)%4294967296=n%4294967296:=fG n
theorem Qn:MF.sum.v (ay 32 e) (ay 32 n)%4294967296=Uz.wrap (e%4294967296+n%4294967296)%4294967296:=by have c:=fG e;have d:=fG n;simp only [MF.v,jZ];omega
theorem NG:MF.xor.v (ay 32 e) (ay 32 n)%4294967296=D3 .xor .u64 (e%4294967296) (n%4294967296):=by have h:=Ql (bo e).1 (bo e).2 (bo n).1 (bo n).2;rw [fG,fG] at h;exact h
theorem NH:MF.and.v (ay 32 e) (ay 32 n)%4294967296=D3 .and .u64 (e%4294967296) (n%4294967296):=by have h:=Qm (bo e).1 (bo e).2 (bo n).1 (bo n).2;rw [fG,fG] at h;exact h
theorem Qo:MF.or.v (ay 32 e) (ay 32 n)%4294967296=D3 .or .u64 (e%4294967296) (n%4294967296):=by have h:=To (bo e).1 (bo e).2 (bo n).1 (bo n).2;rw [fG,fG] at h;exact h
theorem rA (c:Prop) [Decidable c]:(if c then ay 32 n else ay 32 e)%4294967296=if c then n%4294967296 else e%4294967296:=by split<;>exact fG _
theorem MF.pos (f:MF) {a b:Int} (d:0<=a) (a1:a<18446744073709551616) (c:0<=b) (e:b<18446744073709551616):0<=f.v a b:=by
 cases f with
 | second=>exact c
 | sum=>simp only [MF.v];rw [I5];omega
 | xor =>obtain ⟨n,rfl⟩:=A5 d;obtain ⟨m,rfl⟩:=A5 c;simp only [MF.v];rw [D4 n m ab ab];omega
 | and =>obtain ⟨n,rfl⟩:=A5 d;obtain ⟨m,rfl⟩:=A5 c;simp only [MF.v];rw [D2 n m ab ab];omega
 | or =>obtain ⟨n,rfl⟩:=A5 d;obtain ⟨m,rfl⟩:=A5 c;simp only [MF.v];rw [D8 n m ab ab];omega
 | smin=>simp only [MF.v];split<;>assumption
 | smax=>simp only [MF.v];split<;>assumption
 | umin=>simp only [MF.v];split<;>assumption
 | umax=>simp only [MF.v];split<;>assumption
theorem Dg (h:sP b=false) (a op:Int):jd b a op=0:=by
 have c:¬ (65<=b/\b<=73)/\¬ (76<=b/\b<=84):=by simpa [sP] using h
 simp only [jd];rw [JZ9 c.2,JZ9 c.1]
theorem yW (h:sP b):∃ k:Nat,k<9/\(b=(k:Int)+76\/b=(k:Int)+65):=by
 have a:(65<=b/\b<=73)\/(76<=b/\b<=84):=by simpa [sP] using h
 rcases a with a|a;·exact ⟨(b-65).toNat,ab,Or.inr ab⟩
 ·exact ⟨(b-76).toNat,ab,Or.inl ab⟩
/- The nine,as the model picks: of words,and of low halves. -/
theorem Ii (c:0<=a) (a1:a<18446744073709551616) (d:0<=b) (e:b<18446744073709551616):MF.smin.v a b=if I4 a<I4 b then a else b:=by
 simp only [MF.v];split<;>split;·omega
 ·rfl
 ·rfl
 ·exact FL c a1 d e ab
theorem Ij:MF.umin.v e n=if e<n then e else n:=by simp only [MF.v];split<;>split<;>omega
theorem NI:MF.smin.v (ay 32 e) (ay 32 n)%4294967296=if I4 (ay 32 e)<I4 (ay 32 n) then e%4294967296 else n%4294967296:=by rw [Ii (bo e).1 (bo e).2 (bo n).1 (bo n).2];exact rA n e _
theorem NJ:MF.smax.v (ay 32 e) (ay 32 n)%4294967296=if I4 (ay 32 e)<I4 (ay 32 n) then n%4294967296 else e%4294967296:=rA e n _
theorem NK:MF.umin.v (ay 32 e) (ay 32 n)%4294967296=if e%4294967296<n%4294967296 then e%4294967296 else n%4294967296:=by rw [Ij,rA n e];simp only [wP]
theorem NL:MF.umax.v (ay 32 e) (ay 32 n)%4294967296=if e%4294967296<n%4294967296 then n%4294967296 else e%4294967296:=by rw [show MF.umax.v (ay 32 e) (ay 32 n)=if ay 32 e<ay 32 n then ay 32 n else ay 32 e from rfl,rA e n];simp only [wP]
theorem NM (u:G1) (e:TypeId) (j:Nat) (x:G1) (h:[u][j]?=some x):(l.alloc (.cells #[u] e (0,0))).cell? ((⟨l.heap.size,0,none⟩:D1).add j)=some x:=by
 have b:j=0:=by
  rcases Nat.eq_zero_or_pos j with a|a;·exact a
  ·rw [List.getElem?_eq_none bv] at h;cases h
 subst b;have c:(l.alloc (.cells #[u] e (0,0))).heap[l.heap.size]?=some (.cells #[u] e (0,0)):=F0 _ _;simp at h;subst h;show (l.alloc (.cells #[u] e (0,0))).cell? ⟨l.heap.size,0,none⟩=some u;simp only [World.cell?,c];rfl
theorem sQ {o1 o2:Obj}:Bw x ((x.alloc o1).alloc o2):=((Below.refl _ _).alloc (Nat.le_refl _) o1).alloc di o2
theorem AD (c2:Nat) (n:Int) (w:F3) (m:k.xs.length<=1048576) (p:k.ys.length<=1048576) (r:Sl .u8 w B k.xs) (s:Sl .u8 w E k.ys): H8 prog 21 #[.agg #[.u k.t,.u k.cm,.bool k.so,.slice B k.xs.length D,.slice E k.ys.length c2,.i k.ir],.i n] w λe g=>∃ (y:Option D1) (A:Nat) (z:Option D1) (c1:Nat),e=.returned (.agg (fl (gx k n) y A z c1)) /\ bj w.heap.size g.heap.size g (pP (gx k n) y A z c1)/\Bw w g:=by
 have c:Hid (∀ w,CB 29 #[.agg #[.u k.t,.u k.cm,.bool k.so,.slice B k.xs.length D,.slice E k.ys.length c2,.i k.ir]] w (.bool (lA k.xs.length k.ys.length k.ir))):=λw=>mD _ _ _ _ _ _ _ _ _ _ w m p;have q:Hid (∀ g,Bw w g->H8 prog 43 #[.agg #[.u k.t,.u k.cm,.bool k.so,.slice B k.xs.length D,.slice E k.ys.length c2,.i k.ir]] g λe G=>∃ (y:Option D1) (A:Nat) (z:Option D1) (c1:Nat),e=.returned (.agg #[.u k.t,.u k.cm,.bool k.so,.slice y k.xs.length A,.slice z k.ys.length c1,.i k.ir])/\bj g.heap.size G.heap.size G (eX y k.xs.length A k.xs z k.ys.length c1 k.ys)/\Bw g G):=λg S=>qk _ _ _ _ _ _ _ _ _ _ k.xs k.ys g rfl rfl m p (r.below S) (s.below S);cases d:lA k.xs.length k.ys.length k.ir with
 | false =>have F:gx k n=zeroD:=(by unfold gx;rw [d];rfl);rw [F];rw [d] at c;clear r s m p q F d;obtain ⟨t,R,so,J,K,T⟩:=k;dsimp only at c ⊢;generalize J.length=U at *;generalize K.length=V at *;go_enter func21,ntmps21;go_wp2_with fail;refine (c.out _).mono ?_;rintro e L ⟨rfl,b⟩;obtain ⟨a2,j⟩:=jR b;have R1:=aq j;have H:=aq (aa sQ b);obtain ⟨W,X,Y,Z,s4,s5⟩:=aQ j;obtain ⟨y0,y1,y2,y3,y4,y5⟩:=mn j;clear a2 j b;go_wp2_with fail;exact C6 (C5 results21 _ _ _ _ _ _ _ rfl (fj R1.out _ _ _ _ _ _) underlying27 rfl aU) rfl ⟨none,0,none,0,rfl,gy _ _ _,dE H.out ab _ _ _ _ _ _⟩
 | true =>
   rw [d] at c;cases u:decide (n<0) with
   | true =>have F:gx k n=zeroD:=(by unfold gx;rw [d,u];rfl);rw [F];clear r s m p q F d;obtain ⟨t,R,so,J,K,T⟩:=k;dsimp only at c ⊢;generalize J.length=U at *;generalize K.length=V at *;go_enter func21,ntmps21;go_wp2_with fail;refine (c.out _).mono ?_;rintro e L ⟨rfl,b⟩;obtain ⟨a2,j⟩:=jR b;have R1:=aq j;have H:=aq (aa sQ b);obtain ⟨W,X,Y,Z,s4,s5⟩:=aQ j;obtain ⟨y0,y1,y2,y3,y4,y5⟩:=mn j;clear a2 j b;go_wp2_with fail;exact C6 (C5 results21 _ _ _ _ _ _ _ rfl (fj R1.out _ _ _ _ _ _) underlying27 rfl aU) rfl ⟨none,0,none,0,rfl,gy _ _ _,dE H.out ab _ _ _ _ _ _⟩
   | false =>obtain ⟨N,C⟩:∃ N,Uz.wrap (k.t+Uz.wrap n)=N:=⟨_,rfl⟩;have F:gx k n=⟨N,k.cm,k.so,k.xs,k.ys,k.ir⟩:=(by unfold gx;rw [d,u,C];rfl);rw [F];have P:=aq C;clear r s m p F d C;obtain ⟨t,R,so,J,K,T⟩:=k;dsimp only [fl,pP] at c q P ⊢;generalize J.length=U at *;generalize K.length=V at *;go_enter func21,ntmps21;go_wp2_with fail;refine (c.out _).mono ?_;rintro e L ⟨rfl,b⟩;obtain ⟨a2,j⟩:=jR b;have R0:=aq a2;have R1:=aq j;have H:=aq (aa sQ b);obtain ⟨p0,p1,p2,p3,p4,p5⟩:=aQ a2;clear a2 j b;go_wp2_with fail;refine (q.out _ H.out).mono ?_;rintro e w2 ⟨y,A,z,c1,rfl,I,l⟩;have M:=aq I;have S0:=aq (aD l R0.out);have f:=aq (aD l R1.out);have O:=aq (aa H.out l);have Q:=aq (show w.heap.size+1<L.heap.size/\L.heap.size<=w2.heap.size from ⟨(A9.1 R1.out).1,l.size⟩);have u0:=λo=>(aQ (ap S0.out o)).1;have W:=λo=>(aQ (ap f.out o)).1;have X:=λo=>(aQ (ap f.out o)).2.1;have Y:=λo=>(aQ (ap f.out o)).2.2.1;have Z:=λo=>(aQ (ap f.out o)).2.2.2.1;have s4:=λo=>(aQ (ap f.out o)).2.2.2.2.1;have s5:=λo=>(aQ (ap f.out o)).2.2.2.2.2;have y0:=λo=>dD (ap f.out o) 0;have y1:=λo=>dD (ap f.out o) 1;have y2:=λo=>dD (ap f.out o) 2;have y3:=λo=>dD (ap f.out o) 3;have y4:=λo=>dD (ap f.out o) 4;have y5:=λo=>dD (ap f.out o) 5;clear I l p0 p1 p2 p3 p4 p5;go_wp2_with fail;rw [P.out];exact C6 (C5 results21 _ _ _ _ _ _ _ rfl (fj (ap f.out _) _ _ _ _ _ _) underlying27 rfl aU) rfl ⟨y,A,z,c1,rfl,(((M.out.below (bal _ _)).put6 (w.heap.size+1) (.inl Q.out.1) _ _ _ _ _ _).low (by have:=Q.out;omega) (by simp only [aO,K0];omega)),dE (O.out.alloc O.out.size _) ab _ _ _ _ _ _⟩
theorem bj.pushIn {E:Nat} {w':F3} {l c1:Nat} {a2:Option D1} {d c2:Nat} {ys:List Int} (h:bj w E x (eX c l c1 j a2 d c2 ys)) (p:E<=x.heap.size) (n:x.grownBy w' (A6 c l c1).ownBlock) {f:Option D1} {m g:Nat} {zs:List Int} (o:w'.ownsRow w 5 1 (.slice f m g) m (zs.map (A8 .u8))) (a1:(A6 f m g).ownBlock=(A6 c l c1).ownBlock\/(A6 f m g).ownBlock=some x.heap.size):bj w w'.heap.size w' (eX f m g zs a2 d c2 ys):=by
 have b:=(I3.1 h.ne).1 (aE a2 d c2 ys) (I1.2 rfl);have i:=h.own (aE a2 d c2 ys) tk;have xs:=h.hi (aE a2 d c2 ys) tk;refine ⟨λr a=>?_,λr a k e=>?_,I3.2 ⟨λr a k e e2=>?_,List.pairwise_singleton _ _⟩⟩
 ·rcases I2.1 a with rfl|a;·exact o
  ·rw [I1.1 a];exact dQ i (λk e=>n.block k (i.lt k e).2 (λe2=>b k e2.symm e))
 ·rcases I2.1 a with rfl|a;·exact (o.lt k e).2
  ·rw [I1.1 a] at e;have:=(i.lt k e).2;have:=n.size;omega
 ·rw [I1.1 a] at e2;rcases a1 with a1|a1;·exact b k (a1.symm.trans e) e2
  ·have e3:some x.heap.size=some k:=a1.symm.trans e;cases e3;have:=xs _ e2;omega
theorem bj.setNe {E:Nat} {b c1:Nat} {a2:Option D1} {a1 c2:Nat} {ys:List Int} (h:bj w E x (eX c b c1 j a2 a1 c2 ys)) (p:D1) (v:G1) (d:∀ k,(A6 c b c1).ownBlock=some k->k≠p.block) (f:∀ k,(A6 a2 a1 c2).ownBlock=some k->k≠p.block):bj w E (x.setCell p v) (eX c b c1 j a2 a1 c2 ys):=by
 refine ⟨λr a=>dQ (h.own r a) (λk e=>Below.heap_setCell x p v k ?_),h.hi,h.ne⟩;rcases I2.1 a with rfl | a;·exact d k e
 ·rw [I1.1 a] at e;exact f k e
theorem NN (o:Obj) (b:Int) (j:Nat) (u:G1) (h:[A8 .u8 b][j]?=some u):((l.alloc o).alloc (.cells #[.int .u8 b] 5)).cell? ((⟨l.heap.size+1,0,none⟩:D1).add j)=some u:=by have a:=qK (l.alloc o) b j u h;rw [K0] at a;exact a
theorem AE (w:F3) (I:k.xs.length<=1048576) (J:k.ys.length<=1048576) (P:Sl .u8 w B k.xs) (Q:Sl .u8 w E k.ys): H8 prog 22 #[.agg #[.u k.t,.u k.cm,.bool k.so,.slice B k.xs.length D,.slice E k.ys.length d,.i k.ir],.int .u8 e] w λb c1=>∃ (m:Option D1) (r:Nat) (q:Option D1) (s:Nat),b=.returned (.agg (fl (gR k e) m r q s)) /\ bj w.heap.size c1.heap.size c1 (pP (gR k e) m r q s)/\Bw w c1:=by
 have y:Hid (∀ w,CB 29 #[.agg #[.u k.t,.u k.cm,.bool k.so,.slice B k.xs.length D,.slice E k.ys.length d,.i k.ir]] w (.bool (lA k.xs.length k.ys.length k.ir))):=λw=>mD _ _ _ _ _ _ _ _ _ _ w I J
 have a2:Hid (∀ c1,Bw w c1->H8 prog 43 #[.agg #[.u k.t,.u k.cm,.bool k.so,.slice B k.xs.length D,.slice E k.ys.length d,.i k.ir]] c1 λb Y=>∃ (m:Option D1) (r:Nat) (q:Option D1) (s:Nat),b=.returned (.agg #[.u k.t,.u k.cm,.bool k.so,.slice m k.xs.length r,.slice q k.ys.length s,.i k.ir])/\bj c1.heap.size Y.heap.size Y (eX m k.xs.length r k.xs q k.ys.length s k.ys)/\Bw c1 Y):=λc1 hb=>qk _ _ _ _ _ _ _ _ _ _ k.xs k.ys c1 rfl rfl I J (P.below hb) (Q.below hb)
 cases z:lA k.xs.length k.ys.length k.ir with
 | false =>
   have F:gR k e=zeroD:=by unfold gR;rw [z];rfl
   rw [F]
   rw [z] at y
   clear P Q I J a2 F z
   obtain ⟨t,S,U,N,Z,T⟩:=k
   dsimp only at y ⊢
   generalize N.length=l at *
   generalize Z.length=K at *
   go_enter func22,ntmps22
   go_wp2_with fail
   refine (y.out _).mono ?_
   rintro b M ⟨rfl,c2⟩
   obtain ⟨R,L⟩:=jR c2
   have R1:=aq L
   have V:=aq (aa sQ c2)
   obtain ⟨s0,s1,s2,s3,s4,s5⟩:=aQ L
   obtain ⟨y0,y1,y2,y3,y4,y5⟩:=mn L
   clear R L c2
   go_wp2_with fail
   exact C6 (C5 results22 _ _ _ _ _ _ _ rfl (fj R1.out _ _ _ _ _ _) underlying27 rfl aU) rfl ⟨none,0,none,0,rfl,gy _ _ _,dE V.out ab _ _ _ _ _ _⟩
 | true =>
   rw [z] at y
   by_cases hl:k.xs.length<16
   ·have F:gR k e=⟨k.t,k.cm,k.so,k.xs++[e],k.ys,k.ir⟩:=by unfold gR;rw [z,JZ8 rfl,JZ8 hl]
    have el:(k.xs++[e]).length=k.xs.length+1:=by rw [List.length_append];rfl
    rw [F]
    dsimp only [fl,pP]
    rw [el]
    have dl:decide ((k.xs.length:Int)<16):=by simp;omega
    have HN:Hid (k.xs.length<16):=hl
    clear P Q I J F z el hl
    obtain ⟨t,S,U,N,Z,T⟩:=k
    dsimp only at y a2 HN dl ⊢
    generalize N.length=l at *
    generalize Z.length=K at *
    go_enter func22,ntmps22
    go_wp2_with fail
    refine (y.out _).mono ?_
    rintro b M ⟨rfl,c2⟩
    obtain ⟨R,L⟩:=jR c2
    have R0:=aq R
    have R1:=aq L
    have V:=aq (aa sQ c2)
    obtain ⟨p0,p1,p2,p3,p4,p5⟩:=aQ R
    clear R L c2
    go_wp2_with fail
    refine (a2.out _ V.out).mono ?_
    rintro b g ⟨m,r,q,s,rfl,G,f⟩
    have C:=aq G
    have S0:=aq (aD f R0.out)
    have c:=aq (aD f R1.out)
    have B2:=aq (aa V.out f)
    have A:=aq (show w.heap.size+1<M.heap.size/\M.heap.size<=g.heap.size from ⟨(A9.1 R1.out).1,f.size⟩)
    have u0:=λo=>(aQ (ap S0.out o)).1
    have s0:=λo=>(aQ (ap c.out o)).1
    have s1:=λo=>(aQ (ap c.out o)).2.1
    have s2:=λo=>(aQ (ap c.out o)).2.2.1
    have s3:=λo=>(aQ (ap c.out o)).2.2.2.1
    have s4:=λo=>(aQ (ap c.out o)).2.2.2.2.1
    have s5:=λo=>(aQ (ap c.out o)).2.2.2.2.2
    have y0:=λo=>dD (ap c.out o) 0
    have y1:=λo=>dD (ap c.out o) 1
    have y2:=λo=>dD (ap c.out o) 2
    have y3:=λo=>dD (ap c.out o) 3
    have y4:=λo=>dD (ap c.out o) 4
    have y5:=λo=>dD (ap c.out o) 5
    clear G f p0 p1 p2 p3 p4 p5
    have FMW:Hid (bj M.heap.size g.heap.size ((g.alloc (.cells #[.u t,.u S,.bool U,.slice m l r,.slice q K s,.i T] 27)).alloc (.cells #[.int .u8 e] 5)) (eX m l r N q K s Z)):=C.out.below ((bal _ _).alloc di _)
    have O:((g.alloc (.cells #[.u t,.u S,.bool U,.slice m l r,.slice q K s,.i T] 27)).alloc (.cells #[.int .u8 e] 5)).ownsRow M.heap.size 5 1 (.slice m l r) l (N.map (A8 .u8)):=FMW.out.own (aE m l r N) tk
    have HOWN:=aq O
    have hlt:=λa1 b=>O.lt a1 b
    have HNW:∀ j u,[A8 .u8 e][j]?=some u->((g.alloc (.cells #[.u t,.u S,.bool U,.slice m l r,.slice q K s,.i T] 27)).alloc (.cells #[.int .u8 e] 5)).cell? ((⟨g.heap.size+1,0,none⟩:D1).add j)=some u:=NN g _ e
    have HNEW:=aq HNW
    have FHI:=aq (λa1 b=>C.out.hi (aE m l r N) tk a1 b)
    have FLO:=aq (λa1 b=>(O.lt a1 b).1)
    have nd1:¬ g.heap.size=w.heap.size+1:=by have:=A.out;omega
    have nd2:¬ w.heap.size+1=g.heap.size:=by have:=A.out;omega
    clear O HNW hlt
    go_upto_region 5 with fail
    go_wp2_with (first
     | (at_builtin;refine qJ rfl (.tmp 17) (.tmp 19) rfl M.heap.size l (.slice m l r) N rfl HOWN.out (by have:=HN.out;omega) ⟨g.heap.size+1,0,none⟩ 1 e rfl HNEW.out lr ?_;intro f1 g1 w3 ow3 H X;have NE1:Hid (∀ a1,(A6 f1 (l+1) g1).ownBlock=some a1->a1≠g.heap.size):=(λa1 b=>by rcases X with h | h;(have:=FHI.out a1 (h.symm.trans b);omega);(rw [h] at b;simp only [K0,Option.some.injEq] at b;omega));have A3:=aq (FMW.out.pushIn eh H ow3 X);have W:∀ a1,(a1<M.heap.size\/g.heap.size<=a1)->some a1≠(A6 m l r).ownBlock:=(λa1 hk b=>by have h5:=FHI.out a1 b.symm;have h6:=FLO.out a1 b.symm;omega);have V5:w3.heap[g.heap.size]?=some (.cells #[.u t,.u S,.bool U,.slice m l r,.slice q K s,.i T] 27 (0,0)):=(H.block _ eh (W _ (.inr (Nat.le_refl _)))).trans (ap (F0 g _) _);have V1:=aq ((H.block _ lr (W _ (.inl A.out.1))).trans (ap (ap c.out _) _));have B3:=aq (B2.out.trans (Below.grown (((Below.refl w.heap.size g).alloc (by have:=A.out;omega) _).alloc lr _) H lr (λa1 hk=>by have h6:=FLO.out a1 hk;have:=A.out;omega)));obtain ⟨x0,x1,x2,x3,x4,x5⟩:=aQ V5;have xf:=dD V5 3;have Z3:=aq (show g.heap.size<w3.heap.size from (A9.1 V5).1);clear u0 s0 s1 s2 s3 s4 s5 y0 y1 y2 y3 y4 y5;obtain ⟨s0,s1,s2,s3,s4,s5⟩:=aQ V1.out;obtain ⟨y0,y1,y2,y3,y4,y5⟩:=mn V1.out;clear H ow3 X W V5))
    have NE2:∀ a1,(A6 q K s).ownBlock=some a1->a1≠g.heap.size:=λa1 b=>by have:=C.out.hi (aE q K s Z) tk a1 b;omega
    have A4:=(A3.out.setNe ⟨g.heap.size,3,none⟩ (.slice f1 (l+1) g1) NE1.out NE2).put6 (w.heap.size+1) (.inl A.out.1) (.u t) (.u S) (.bool U) (.slice f1 (l+1) g1) (.slice q K s) (.i T)
    have T1:=fj (fT V1.out ⟨g.heap.size,3,none⟩ (.slice f1 (l+1) g1) nd2) (.u t) (.u S) (.bool U) (.slice f1 (l+1) g1) (.slice q K s) (.i T)
    exact C6 (C5 results22 _ _ _ _ _ _ _ rfl T1 underlying27 rfl aU) rfl ⟨f1,g1,q,s,rfl,A4.low (by have:=A.out;omega) ko,dE (B3.out.setCell (p:=⟨g.heap.size,3,none⟩) (by have:=A.out;dsimp only;omega) _) ab _ _ _ _ _ _⟩
   ·have F:gR k e=k:=by unfold gR;rw [z,JZ8 rfl,JZ9 hl]
    rw [F]
    have dl:decide ((k.xs.length:Int)<16)=false:=by simp;omega
    clear P Q I J F z hl
    obtain ⟨t,S,U,N,Z,T⟩:=k
    dsimp only [fl,pP] at y a2 dl ⊢
    generalize N.length=l at *
    generalize Z.length=K at *
    go_enter func22,ntmps22
    go_wp2_with fail
    refine (y.out _).mono ?_
    rintro b M ⟨rfl,c2⟩
    obtain ⟨R,L⟩:=jR c2
    have R0:=aq R
    have R1:=aq L
    have V:=aq (aa sQ c2)
    obtain ⟨p0,p1,p2,p3,p4,p5⟩:=aQ R
    clear R L c2
    go_wp2_with fail
    refine (a2.out _ V.out).mono ?_
    rintro b g ⟨m,r,q,s,rfl,G,f⟩
    have C:=aq G
    have S0:=aq (aD f R0.out)
    have c:=aq (aD f R1.out)
    have B2:=aq (aa V.out f)
    have A:=aq (show w.heap.size+1<M.heap.size/\M.heap.size<=g.heap.size from ⟨(A9.1 R1.out).1,f.size⟩)
    have u0:=λo=>(aQ (ap S0.out o)).1
    have s0:=λo=>(aQ (ap c.out o)).1
    have s1:=λo=>(aQ (ap c.out o)).2.1
    have s2:=λo=>(aQ (ap c.out o)).2.2.1
    have s3:=λo=>(aQ (ap c.out o)).2.2.2.1
    have s4:=λo=>(aQ (ap c.out o)).2.2.2.2.1
    have s5:=λo=>(aQ (ap c.out o)).2.2.2.2.2
    have y0:=λo=>dD (ap c.out o) 0
    have y1:=λo=>dD (ap c.out o) 1
    have y2:=λo=>dD (ap c.out o) 2
    have y3:=λo=>dD (ap c.out o) 3
    have y4:=λo=>dD (ap c.out o) 4
    have y5:=λo=>dD (ap c.out o) 5
    clear G f p0 p1 p2 p3 p4 p5
    go_wp2_with fail
    exact C6 (C5 results22 _ _ _ _ _ _ _ rfl (fj (ap c.out _) _ _ _ _ _ _) underlying27 rfl aU) rfl ⟨m,r,q,s,rfl,(((C.out.below (bal _ _)).put6 (w.heap.size+1) (.inl A.out.1) _ _ _ _ _ _).low (by have:=A.out;omega) (by simp only [aO,K0];omega)),dE (B2.out.alloc B2.out.size _) ab _ _ _ _ _ _⟩
