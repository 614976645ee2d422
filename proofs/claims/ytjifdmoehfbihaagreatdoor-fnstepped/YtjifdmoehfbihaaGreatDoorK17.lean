/- Own lemmas. -/
import Derived.Test.YtjifdmoehfbihaaGreatDoorAut
import Derived.Test.YtjifdmoehfbihaaGreatDoorK12
set_option maxHeartbeats 1600000
namespace Go.Proofs.YtjifdmoehfbihaaGreatDoor
open Go.RowKit Tryz
open IntKind renaming u64->Uz
set_option linter.unusedVariables false
def ND (op:Int):Bool:=decide (5<=op/\op<=10)
def JH (op a b:Int):Bool :=
 if op=5 then (a==b) else if op=6 then !(a==b) else if op=7 then decide (wrap64 a<wrap64 b) else if op=8 then !decide (wrap64 a<wrap64 b)
 else if op=9 then decide (a<b) else if op=10 then !decide (a<b) else false
theorem AZ {op:Int} (h:ND op=true):op=5\/op=6\/op=7\/op=8\/op=9\/op=10:=by
 have:5<=op/\op<=10:=by simpa [ND] using h
 omega
theorem Od {op:Int} (h:ND op=false) (a b:Int):JH op a b=false:=by
 have:¬ (5<=op/\op<=10):=by simpa [ND] using h
 unfold JH;rw [if_neg ab,if_neg ab,if_neg ab,if_neg ab,if_neg ab,if_neg ab]
theorem ku:(prog.info? 273).map (·.size)=some 3:=by kernel_rfl
theorem n9:(#[Value.func (.func 274) #[] #[],.func (.func 275) #[] #[],.func (.func 276) #[] #[]]:Array Value).all (·.oneCell')=true:=by kernel_rfl
theorem uV (w:World):CB 240 #[] w (.agg #[.func (.func 274) #[] #[],.func (.func 275) #[] #[],.func (.func 276) #[] #[]]):=by have b:(w.alloc (.cells #[.nilFunc,.nilFunc,.nilFunc] 273)).heap[w.heap.size]?=some (.cells #[.nilFunc,.nilFunc,.nilFunc] 273 (0,0)):=heap_alloc_new _ _;go_enter func240,ntmps240;go_wp2_with (refine wpList_store_rowTo rfl 273 (.tmp 0) (.tmp 4) rfl rfl w.heap.size #[.func (.func 274) #[] #[],.func (.func 275) #[] #[],.func (.func 276) #[] #[]] rfl rfl 273 _ b ku rfl n9 ?_);refine bodyPost_ret (results_cell_row results240 _ _ _ _ _ _ _ rfl (setRow_heap _ _ _ _ _ _ b) underlying273 rfl ku) rfl ⟨rfl,?_⟩;exact aE (bal _ _) (Nat.le_refl _) _
theorem kv (op a b:Int) (h:ND op=true) (w:World):CB 209 #[.i op,.u a,.u b] w (.tuple #[.bool (JH op a b),.bool true]):=by
 have G:=ss a b
 have e2:=jI a b
 have e3:=kZ a b
 obtain ⟨p,s⟩:∃ c,c=(a==b):=⟨_,rfl⟩
 obtain ⟨q,t⟩:∃ c,c=decide (wrap64 a<wrap64 b):=⟨_,rfl⟩
 obtain ⟨r,u⟩:∃ c,c=decide (a<b):=⟨_,rfl⟩
 have F:Hid (∀ op,JH op a b=if op=5 then p else if op=6 then !p else if op=7 then q else if op=8 then !q else if op=9 then r else if op=10 then !r else false):=by
  intro op;rw [s,t,u];rfl
 have B:Hid (∀ w:World,CE 274 #[.u a,.u b] w (.bool p)):=by rw [s];exact ss a b
 have C:Hid (∀ w:World,CE 275 #[.u a,.u b] w (.bool q)):=by rw [t];exact jI a b
 have D:Hid (∀ w:World,CE 276 #[.u a,.u b] w (.bool r)):=by rw [u];exact kZ a b
 clear s t u G e2 e3
 rcases AZ h with rfl|rfl|rfl|rfl|rfl|rfl
 all_goals
  go_enter func209,ntmps209
  go_wp2_with fail
  refine (uV _).mono ?_
  rintro e f ⟨rfl,y⟩
  have z:(f.alloc (.cells #[.nilFunc,.nilFunc,.nilFunc] 273)).heap[f.heap.size]?=some (.cells #[.nilFunc,.nilFunc,.nilFunc] 273 (0,0)):=heap_alloc_new _ _
  obtain ⟨j,g⟩:∃ j,j=(f.alloc (.cells #[.nilFunc,.nilFunc,.nilFunc] 273)).setRow f.heap.size #[.func (.func 274) #[] #[],.func (.func 275) #[] #[],.func (.func 276) #[] #[]]:=⟨_,rfl⟩
  have m:j.heap[f.heap.size]?=some (.cells #[.func (.func 274) #[] #[],.func (.func 275) #[] #[],.func (.func 276) #[] #[]] 273 (0,0)):=by rw [g];exact setRow_heap _ _ _ _ _ _ z
  have H:j.cell? ⟨f.heap.size,0,none⟩=some (.func (.func 274) #[] #[]):=cell_of_row _ _ _ _ _ _ m
  have I:j.cell? ⟨f.heap.size,1,none⟩=some (.func (.func 275) #[] #[]):=cell_of_row _ _ _ _ _ _ m
  have J:j.cell? ⟨f.heap.size,2,none⟩=some (.func (.func 276) #[] #[]):=cell_of_row _ _ _ _ _ _ m
  have E:Hid (Bw w j):=by rw [g];exact aE (y.alloc y.size _) y.size _
  have o:Hid (j=(f.alloc (.cells #[.nilFunc,.nilFunc,.nilFunc] 273)).setRow f.heap.size #[.func (.func 274) #[] #[],.func (.func 275) #[] #[],.func (.func 276) #[] #[]]):=g
  clear g m
  go_wp2_with (first
   | (refine wpList_store_rowTo rfl 273 (.tmp 8) (.tmp 12) rfl rfl f.heap.size #[.func (.func 274) #[] #[],.func (.func 275) #[] #[],.func (.func 276) #[] #[]] rfl rfl 273 _ z ku rfl n9 ?_;rw [<- o.out])
   | (go_at_call 274;with_reducible refine (B.out _).mono ?_;rintro e A ⟨rfl,d⟩;subst d)
   | (go_at_call 275;with_reducible refine (C.out _).mono ?_;rintro e A ⟨rfl,d⟩;subst d)
   | (go_at_call 276;with_reducible refine (D.out _).mono ?_;rintro e A ⟨rfl,d⟩;subst d))
  go_ret2
  exact ⟨bc,E.out⟩
theorem xN (x y:Int):decide (y<=x)=!decide (x<y):=by
 by_cases h:x<y;·simp [h]
 ·simp [h];omega
theorem uW (op a b:Int) (w:World):CE 126 #[.i op,.u a,.u b] w (.tuple #[.bool (JH op a b),.bool (ND op)]):=by
 cases h:ND op with
 | false =>rw [Od h];have r:¬ (5<=op/\op<=10):=(by simpa [ND] using h);have d5:(op==5)=false:=bh;have d6:(op==6)=false:=bh;have d7:(op==7)=false:=bh;have d8:(op==8)=false:=bh;have d9:(op==9)=false:=bh;have T0:(op==10)=false:=bh;clear h r;go_enter func126,ntmps126;go_wp2_with fail;go_ret2;exact a06
 | true =>
   have o:=xN (wrap64 a) (wrap64 b);have p:=xN a b;have q:(a != b)=!(a==b):=rfl;obtain ⟨j,d⟩:∃ c,c=(a==b):=⟨_,rfl⟩;obtain ⟨l,f⟩:∃ c,c=decide (wrap64 a<wrap64 b):=⟨_,rfl⟩;obtain ⟨m,g⟩:∃ c,c=decide (a<b):=⟨_,rfl⟩;have F:Hid (∀ op,JH op a b=if op=5 then j else if op=6 then !j else if op=7 then l else if op=8 then !l else if op=9 then m else if op=10 then !m else false):=(by intro op;rw [d,f,g];rfl);rw [<- d] at q;rw [<- f] at o;rw [<- g] at p;have t:=d.symm;have u:=f.symm;have y:=g.symm;clear d f g;rcases AZ h with rfl|rfl|rfl|rfl|rfl|rfl;all_goals
    go_enter func126,ntmps126
    go_wp2_with fail
    go_ret2
    exact ⟨bc,rfl⟩
theorem Tb (x:Int) (h:U x) (i:Nat):ak x i=if bt x i=true then 1 else 0:=by
 unfold ak;have d:=ks x h i 1;have b:bits .and .u64 (x/2^i) 1=cQ x i 1:=by have:=ic x i 1 h.1 h.2 ab;rw [<- this];rfl
 rw [b];have c:=kq x i 1;have a:=ks x h i 1 0 ab;rw [Nat.zero_add] at a;simp only [Nat.lt_add_one,decide_true,Bool.true_and] at a;rw [<- a];have e2:cQ x i 1=0\/cQ x i 1=1:=by
  have:(2:Int)^1=2:=bb
  omega
 rcases e2 with e|e;·rw [e];rfl
 ·rw [e];rfl
theorem FI (x:Int) (h:U x) (i:Nat):(ak x i==1)=bt x i:=by rw [Tb x h i];cases bt x i<;>rfl
theorem qf (x:Int) (h:U x) (i:Nat):(ak x i==0)=!bt x i:=by rw [Tb x h i];cases bt x i<;>rfl
theorem m0 (i:Nat):bt 0 i=false:=by unfold bt;simp
theorem DS:U 0:=⟨ab,ab⟩
theorem oa (e M:Int) (L:List Nat) (c:∀ i,i<64->bt M i=L.contains i) (d:∀ i ∈ L,i<64):(bits .and .u64 e M==0)=L.all (λi=>!bt e i):=by
 rw [Bool.eq_iff_iff,beq_iff_eq,List.all_eq_true];constructor
 ·intro h i a;have b:=au e M i;rw [h,m0,c i (d i a)] at b;have:L.contains i=true:=by simpa using a
  rw [this,Bool.and_true] at b;rw [<- b];rfl
 ·intro h;refine br _ _ (af _ _ _) DS λi a=>?_;rw [au,m0,c i a];cases f:L.contains i with
  | false=>rw [Bool.and_false]
  | true =>have:=h i i6;rw [Bool.and_true];simpa using this
theorem Qf (e M:Int) (L:List Nat) (f:U M) (c:∀ i,i<64->bt M i=L.contains i) (d:∀ i ∈ L,i<64):(bits .and .u64 e M==M)=L.all (λi=>bt e i):=by
 rw [Bool.eq_iff_iff,beq_iff_eq,List.all_eq_true];constructor
 ·intro h i a;have b:=au e M i;rw [h,c i (d i a)] at b;have:L.contains i=true:=by simpa using a
  rw [this,Bool.and_true] at b;exact b.symm
 ·intro h;refine br _ _ (af _ _ _) f λi a=>?_;rw [au,c i a];cases g:L.contains i with
  | false=>rw [Bool.and_false]
  | true =>rw [h i ul];rfl
theorem Qg (e M:Int) (L:List Nat) (he:U e) (c:∀ i,i<64->bt M i=L.contains i) (d:∀ i ∈ L,i<64):(bits .or .u64 e M==e)=L.all (λi=>bt e i):=by
 rw [Bool.eq_iff_iff,beq_iff_eq,List.all_eq_true];constructor
 ·intro h i a;have b:=cn e M i;rw [h,c i (d i a)] at b;have:L.contains i=true:=by simpa using a
  rw [this,Bool.or_true] at b;exact b
 ·intro h;refine br _ _ (af _ _ _) he λi a=>?_;rw [cn,c i a];cases f:L.contains i with
  | false=>rw [Bool.or_false]
  | true=>rw [h i i6];rfl
theorem m1 (e:Int):(bits .and .u64 e 1==0)=!bt e 0:=by rw [oa e 1 [0] bv bb];simp
theorem m2 (e:Int):(bits .and .u64 e 2==0)=!bt e 1:=by rw [oa e 2 [1] bv bb];simp
theorem m4 (e:Int):(bits .and .u64 e 4==0)=!bt e 2:=by rw [oa e 4 [2] bv bb];simp
theorem m8 (e:Int):(bits .and .u64 e 8==0)=!bt e 3:=by rw [oa e 8 [3] bv bb];simp
theorem U5 (e:Int):(bits .and .u64 e 16==0)=!bt e 4:=by rw [oa e 16 [4] bv bb];simp
theorem U6 (e:Int):(bits .and .u64 e 10==0)=(!bt e 1&&!bt e 3):=by rw [oa e 10 [1,3] bv bb];simp
theorem Uf (e:Int):(bits .and .u64 e 208==0)=(!bt e 4&&(!bt e 6&&!bt e 7)):=by rw [oa e 208 [4,6,7] bv bb];simp
theorem U7 (e:Int):(bits .and .u64 e 262144==0)=!bt e 18:=by rw [oa e 262144 [18] bv bb];simp
theorem U8 (e:Int):(bits .and .u64 e 524288==0)=!bt e 19:=by rw [oa e 524288 [19] bv bb];simp
theorem Va (e:Int):(bits .and .u64 e 131072==0)=!bt e 17:=by rw [oa e 131072 [17] bv bb];simp
theorem m6 (e:Int):(bits .and .u64 e 6==4)=(!bt e 1&&bt e 2):=by
 have c:∀ i,i<64->bt 6 i=[1,2].contains i/\bt 4 i=[2].contains i:=bv
 rw [Bool.eq_iff_iff,beq_iff_eq,Bool.and_eq_true];constructor;·intro h;have a:=au e 6 1;have b:=au e 6 2;rw [h,(c 1 ab).1,(c 1 ab).2] at a;rw [h,(c 2 ab).1,(c 2 ab).2] at b;have f:false=(bt e 1&&true):=a;have g:true=(bt e 2&&true):=b;rw [Bool.and_true] at f g;rw [<- f,<- g];exact a06
 ·rintro ⟨m,n⟩;have d:bt e 1=false:=(by simpa using m);refine br _ _ (af _ _ _) ⟨ab,ab⟩ λi j=>?_;rw [au,(c i j).1,(c i j).2];by_cases k:i=1;·subst k;rw [d];rfl
  ·by_cases l:i=2;·subst l;rw [n];rfl
   ·simp [k,l]
theorem Vb (e:Int) (he:U e):(bits .and .u64 e 18428729675200069632==0)=(e/18014398509481984==0):=by
 have f:∀ i,i<64->bt 18428729675200069632 i=decide (54<=i):=bv
 have c:(18014398509481984:Int)=2^54:=bb
 rw [c,Bool.eq_iff_iff,beq_iff_eq,beq_iff_eq];constructor
 ·intro h;refine br _ _ (lS e he 54) DS λi g=>?_;rw [jl e he,m0];by_cases d:64<=i+54;·exact tI _ _ d
  ·have a:=au e 18428729675200069632 (i+54);rw [h,m0,f _ ab] at a;simpa using a.symm
 ·intro h;refine br _ _ (af _ _ _) DS λi g=>?_;rw [au,m0,f i g];by_cases b:54<=i;·have a:=jl e he 54 (i-54);rw [h,m0,Nat.sub_add_cancel b] at a;rw [<- a];rfl
  ·simp [b]
def Of (e:Int):Bool:=(bits .and .u64 e 1==0)||(bits .and .u64 e 6==4)||(bits .and .u64 e 18428729675200069632 != 0)
theorem Q7 (e:Int) (he:U e):Of e=oZ e:=by unfold Of oZ;rw [qf e he,FI e he,m6,bne,bne,Vb e he]
theorem Og (e:Int) (he:U e):(bits .and .u64 e 10 != 0)=!l8 e:=by unfold l8;rw [qf e he,qf e he,bne,U6]
theorem Oh (e:Int) (he:U e) (lv:Nat):(((lv:Int)==0)||(bits .and .u64 e 208 != 0))=iZ e lv:=by
 unfold iZ;have c:(16:Int)=2^4:=bb
 have a:=FI e he 4;unfold ak at a;rw [<- c] at a;have b:(bits .and .u64 (e/64) 3==0)=(!bt e 6&&!bt e 7):=by rw [oa (e/64) 3 [0,1] bv bb];have d:(64:Int)=2^6:=bb;simp only [List.all_cons,List.all_nil,Bool.and_true];rw [d,jl e he,jl e he]
 rw [bne,bne,Uf,a,b];cases ((lv:Int)==0)<;>cases bt e 4<;>cases bt e 6<;>cases bt e 7<;>rfl
theorem uX (e:Int) (he:U e):cQ e 10 44=dQ e:=by rw [<- ic e 10 44 he.1 he.2 ab];rfl
theorem Oi (e:Int):U (dQ e):=af _ _ _
theorem Kv (e:Int) (he:U e) (lv:Nat) (h:lv<=2):(cQ e 10 (9*lv) != 0)=ma e lv:=by
 unfold ma Ij;have c:=Oi e;have a:=ic (dQ e) 0 (9*lv) c.1 c.2 ab;rw [show dQ e/2^0=dQ e from cp] at a;rw [a,<- uX e he];congr 1;refine br _ _ (pV _ _ _ ab) (pV _ _ _ ab) λi d=>?_;rw [ks e he _ _ _ ab,ks _ (pV _ _ _ ab) _ _ _ ab,ks e he _ _ _ ab];by_cases b:i<9*lv;·simp [b,show i<44 from ab]
 ·simp [b]
def oc (x k e:Int):Bool:=if k=1 then (bits .and .u64 e 8 != 0) else if k=2 then ((bits .and .u64 e 2 != 0)||((bits .and .u64 x 524288 != 0)&&(bits .and .u64 e 8 != 0))) else (bits .and .u64 e 4 != 0)
theorem Kw (l:List Int) (k e:Int) (he:U e) (hx:U (l.getD 0 0)) (b:1<=k) (c:k<=3):oc (l.getD 0 0) k e=!gA l k e:=by
 unfold oc gA;rw [qf e he,qf e he,qf e he,qf _ hx];simp only [bne,m8,m2,m4,U8];have a:k=1\/k=2\/k=3:=ab
 rcases a with rfl|rfl|rfl;·cases bt e 3<;>rfl
 ·cases bt e 1<;>cases bt e 3<;>cases bt (l.getD 0 0) 19<;>rfl
 ·cases bt e 2<;>rfl
def Ba (x p k e:Int):Bool:=if (bits .and .u64 e 16==0)=true then (p==1) else ((p==0)||((k != 1)&&(bits .and .u64 x 262144 != 0)))
theorem Ky (l:List Int) (p k e:Int) (he:U e) (hx:U (l.getD 0 0)) (a:p=0\/p=1):Ba (l.getD 0 0) p k e=!gB l p k e:=by
 unfold Ba gB;rw [qf e he,FI e he,qf _ hx];simp only [bne,U5,U7];rcases a with rfl|rfl;·cases bt e 4<;>rfl
 ·cases bt e 4<;>cases bt (l.getD 0 0) 18<;>cases (k==1)<;>rfl
def od (k:Int):Int:=if k=3 then 192 else 64
theorem FJ (e k:Int):bits .or .u64 e (od k)=cq e k:=by
 unfold od cq;by_cases h:k=3;·subst h;have a:∀ i,i<64->bt 192 i=(bt 64 i||bt 128 i):=bv;rw [if_pos rfl,if_pos bb];refine br _ _ (af _ _ _) (af _ _ _) λi b=>?_;rw [cn,cn,cn,a i b,Bool.or_assoc]
 ·have:(k==3)=false:=by simpa using h
  rw [if_neg h,this];rfl
theorem FK (e k:Int) (he:U e):(bits .and .u64 e (od k)==od k)=!(cq e k != e):=by
 rw [<- FJ,bne,Bool.not_not];unfold od;by_cases h:k=3;·rw [if_pos h,Qf e 192 [6,7] ⟨ab,ab⟩ bv bb,Qg e 192 [6,7] he bv bb]
 ·rw [if_neg h,Qf e 64 [6] ⟨ab,ab⟩ bv bb,Qg e 64 [6] he bv bb]
theorem Oj (e va:Int) (he:U e) (hv:U va) (lv:Nat) (h:lv<=2) (j:ma e lv=false):bits .or .u64 (Uz.wrap (cQ e 10 44*4096)) (cQ va 0 (12+9*lv))=gt e va lv:=by
 rw [<- Kv e he lv h] at j;have d:cQ e 10 (9*lv)=0:=by simpa using j
 unfold gt;rw [<- uX e he];have b:∀ i,i<64->bt (Ij (12+9*lv)) i=decide (i<12+9*lv):=by
  have:lv=0\/lv=1\/lv=2:=ab
  rcases this with rfl|rfl|rfl;·decide +kernel
  ·decide +kernel
  ·decide +kernel
 have a:(4096:Int)=2^12:=bb
 refine br _ _ (af _ _ _) (af _ _ _) λi k=>?_;rw [cn,cn,aw _ _ _ k,au,b i k,ks va hv _ _ _ ab,Nat.add_zero,a,mU _ (pV _ _ _ ab)];by_cases c:i<12+9*lv
 ·simp only [c,decide_true,Bool.true_and,Bool.and_true,Bool.not_true,Bool.and_false,Bool.false_or];by_cases f:12<=i;·have g:=ks e he 10 (9*lv) (i-12) ab;rw [d,m0] at g;rw [ks e he _ _ _ ab];have l:decide (i-12<9*lv)=true:=bh;rw [l,Bool.true_and] at g;rw [<- g];simp
  ·simp [f]
 ·simp [c]
theorem Q8 (l:List Int) (h:U (l.getD 15 0)):Uz.wrap (cQ (l.getD 15 0) 0 44*4096)=kH l:=by rw [<- ic _ 0 44 h.1 h.2 ab];unfold kH;rw [show l.getD 15 0/2^0=l.getD 15 0 from cp];rfl
theorem Q9 (T va:Int) (hv:U va) (lv:Nat):Uz.wrap (T+Uz.wrap (8*cQ va (12+9*lv) 9))=bF T va lv:=by rw [<- ic _ (12+9*lv) 9 hv.1 hv.2 ab];rfl
theorem Ok (s:Int) (h:U s):(cQ s 60 4==0)=(s/1152921504606846976==0):=by
 have b:(1152921504606846976:Int)=2^60:=bb
 have e:cQ s 60 4=s/2^60:=by unfold cQ;have a:(2:Int)^4=16:=bb;have e6:(2:Int)^60=1152921504606846976:=bb;rw [a,e6];have:=h.1;have:=h.2;omega
 rw [e,b]
theorem FL (n:Nat) (l:List Int) (x kind:Int) (b:aX 22 l 1=true) (hx:gn n x 8=true) (g:1<=kind) (h:kind<=3):uH 22 l 1 x 8 kind=aA l 1 x (aZ x 8) kind 4 0:=by
 unfold uH;obtain ⟨_,_,c,d,_,_,i,j⟩:=jY hx;have e:aZ x 8=x+7:=by unfold aZ;rw [IntKind.wrap_u64,IntKind.wrap_u64,IntKind.wrap_u64];omega
 have a:decide (aZ x 8<x)=false:=by rw [e];simp;omega
 have f:decide (1<=kind/\kind<=3)=true:=by simp;omega
 rw [b,a,f];rfl
theorem Bb (a:Option Addr) (n cap f m:Nat) (zs:List Int) (x:Int) (w:World) (hz:zs.length=n) (hn:n<=1048576) (hs:Sl .u8 w a zs) (y:gn n (2147483648+(f:Int)) (m:Int)=true) (H:0<=x) (hx1:x<=18446744073709551615):Calls prog 194 #[.slice a n cap,.u (2147483648+(f:Int)),.i (m:Int),.u x] w λe M=>e=.returned (.tuple #[.slice (some ⟨w.heap.size,0,none⟩) n n,.bool true]) /\ M.ownsRow w.heap.size 5 1 (.slice (some ⟨w.heap.size,0,none⟩) n n) n ((jZ zs f x m).map (Value.int .u8))/\Bw w M:=by
 have B:Hid (zs.length=n):=hz;obtain ⟨hr,hsz,S,T,Y,Z,W,X⟩:=jY y;have R:0<=2147483648+(f:Int):=ab
 have C:2147483648+(f:Int)<=18446744073709551615:=ab
 clear hz;have Q:Hid (eM n (2147483648+(f:Int)) (m:Int)=f):=by show eM n (2147483648+(f:Int)) (m:Int)=f;simp only [eM,y,if_true];omega
 obtain ⟨b,L,rfl,N,E⟩:=hs 0 (by have:=B.out;omega);clear E;obtain ⟨P,O,J,A,K⟩:=info_parts info5;have z:(prog.info? 5).map (·.size)=some 1:=by rw [O];simp [A]
 have u:P.bytes*n<=281474976710656:=by rw [K];omega
 have D:n<=maxLen:=by unfold maxLen;omega
 go_enter func194,ntmps194;go_wp2_with (first | (go_at_call 226;refine (kM _ _ _ _ _ _ hn R C).mono ?_;rw [Q.out];rintro e M ⟨rfl,F⟩;have G:=F.symm;subst G) | (at_make;refine wpList_make_full _ rfl (.tmp 24) (.tmp 24) 24 rfl w.heap.size 5 P (.int .u8 0) 1 underlying24 O J A .i64 .i64 _ _ n rfl rfl rfl rfl u D (Nat.le_refl _) ?_;intro w1 q d) | (refine mr rfl (.tmp 26) (.tmp 27) 24 rfl 5 underlying24 z .u8 w.heap.size w.heap.size n n b L cap zs _ rfl rfl q (hs.below ((Below.refl _ _).grown d (Nat.le_refl _) ta)) B.out ?_;intro w2 o g));have l:Bw w w2:=Below.grown ((Below.refl _ _).grown d (Nat.le_refl _) ta) g d.size (by intro k h;cases h;exact Nat.le_refl _);clear q d g hs;go_loopw [30] (λi wr=>∃ j:Nat,j<=m/\i=.i (j:Int)/\wr.ownsRow w.heap.size 5 1 (.slice (some ⟨w.heap.size,0,none⟩) n n) n ((jZ zs f x j).map (Value.int .u8))/\Bw w wr)
  (λi _=>m-(intOf i).toNat)
 case atStart=>exact ⟨0,Nat.zero_le _,rfl,o,l⟩
 case round =>
  obtain ⟨j,hj,rfl,c,p⟩:=hrel;clear o l;by_cases V:j<m
  ·have U:wr.frozen? ⟨w.heap.size,f+j,none⟩=false:=c.frozenAt (f+j);have t:=(c.stored (f+j) (.int .u8 (x/256^j%256))).1;obtain ⟨v3,hv3⟩:∃ v,wr.cell? ⟨w.heap.size,f+j,none⟩=some v:=(by rw [c.cellAt (f+j) ab];exact ⟨_,List.getElem?_eq_getElem (by rw [List.length_map,jd,B.out];omega)⟩);rw [mR] at t;have r:(wr.setCell ⟨w.heap.size,f+j,none⟩ (.int .u8 (x/256^j%256))).ownsRow w.heap.size 5 1 (.slice (some ⟨w.heap.size,0,none⟩) n n) n ((jZ zs f x (j+1)).map (Value.int .u8)):=t;have s:Bw w (wr.setCell ⟨w.heap.size,f+j,none⟩ (.int .u8 (x/256^j%256))):=p.setCell (Nat.le_refl _) _;have I:0<=x/256^j:=Int.ediv_nonneg H (Int.le_of_lt (Int.pow_pos ab));clear t c;rw [<- tW] at r s I;go_wp2;go_roundw;case rel=>exact ⟨j+1,ab,by go_num,r,s⟩
   case measure=>simp [intOf];omega
  ·have:j=m:=by omega
   subst this;go_wp2;go_ret2;exact ⟨rfl,c,p⟩
theorem oO (a:Option Addr) (n c:Nat) (zs:List Int) (w:World) (hz:zs.length=n) (hs:Sl .u8 w a zs):(convert 24 9 (.slice a n c)).run prog w=.ok (.string (strOfNums zs)) w:=by
 by_cases h:n=0;·subst h;have d:zs=[]:=List.eq_nil_of_length_eq_zero hz;subst d;rw [run_convert_bytes_string w 24 9 5 a 0 c underlying24 underlying5 underlying9];cases a<;>simp [Conv.bytesToString,loadCells,strOfNums]<;>rfl
 ·obtain ⟨b,f,rfl,_,_⟩:=hs 0 ab;refine run_convert_bytes_arg w 24 5 underlying24 underlying5 b f n c zs hz (λi l=>?_) 9 underlying9;obtain ⟨k,g,e,_,j⟩:=hs i ab;simp only [Option.some.injEq,Addr.mk.injEq,and_true] at e;obtain ⟨rfl,rfl⟩:=e;exact j
theorem Bc (n:Int):n=3860\/n=769\/n=256\/n=260\/n=324\/((n==3860)=false/\(n==769)=false/\(n==256)=false/\(n==260)=false/\(n==324)=false):=by simp only [beq_eq_false_iff_ne];omega
theorem DT (a:Option Addr) (cap:Nat) (l:List Int) (n:Int) (w:World) (hz:l.length=22) (hs:Sl .u64 w a l) (hk:dj n=true):CB 132 #[.slice a 22 cap,.i n] w (.u (dq l n)):=by
 obtain ⟨b,d,rfl,p,g⟩:=hs 0 ab;have cell:∀ j,j<22->w.cell? ⟨b,d+j,none⟩=some (.u (l.getD j 0)):=by intro j L;obtain ⟨K,s,e,_,C⟩:=hs j ab;simp only [Option.some.injEq,Addr.mk.injEq,and_true] at e;obtain ⟨rfl,rfl⟩:=e;exact C
 rcases Bc n with rfl|rfl|rfl|rfl|rfl|⟨m,o,r,d4,d5⟩;·go_enter func132,ntmps132;exact a0a
 ·go_enter func132,ntmps132;exact a0a
 ·have F:Hid (dq l 256=bits .and .u64 (l.getD 0 0) 786722):=(rfl:dq l 256=_);have E:=cell 0 ab;rw [Nat.add_zero] at E;clear cell g;generalize l.getD 0 0=y at *;go_enter func132,ntmps132;exact a01
 ·have F:Hid (dq l 260=bits .and .u64 (l.getD 3 0) (l.getD 2 0)):=(rfl:dq l 260=_);have H:=cell 3 ab;have G:=cell 2 ab;clear cell g;generalize l.getD 3 0=y at *;generalize l.getD 2 0=z at *;go_enter func132,ntmps132;go_wp2_with fail;go_quiet (fail)
  go_wp2_with fail;go_ret;exact ⟨bc,⟨rfl,rfl,rfl,Nat.le_refl _,λ_ _=>rfl⟩⟩
 ·have F:Hid (dq l 324=bits .and .u64 (l.getD 9 0) (l.getD 2 0)):=(rfl:dq l 324=_);have H:=cell 9 ab;have G:=cell 2 ab;clear cell g;generalize l.getD 9 0=y at *;generalize l.getD 2 0=z at *;go_enter func132,ntmps132;go_wp2_with fail;go_quiet (fail)
  go_wp2_with fail;go_ret;exact ⟨bc,⟨rfl,rfl,rfl,Nat.le_refl _,λ_ _=>rfl⟩⟩
 ·have D:0<=cK n:=(by simp only [dj,m,o,Bool.false_or,decide_eq_true_eq] at hk;exact hk);have B:=qW n;obtain ⟨k,c⟩:∃ k:Nat,cK n=(k:Int):=⟨(cK n).toNat,ab⟩;have I:k<22:=ab;have F:Hid (dq l n=l.getD k 0):=(by show _=_;simp only [beq_eq_false_iff_ne] at m o r d4 d5;unfold dq;rw [if_neg m,if_neg o,if_neg r,if_neg d4,if_neg d5,c,Int.toNat_natCast]);have t:Hid (∀ w,CB 134 #[.i n] w (.i (k:Int))):=(by rw [<- c];exact dx n);have u:Hid (w.cell? ⟨b,d+k,none⟩=some (.u (l.getD k 0))):=cell k I;clear cell g c B D hk;generalize l.getD k 0=y at *;go_enter func132,ntmps132;go_wp2_with fail;refine (t.out _).mono ?_;rintro e J ⟨rfl,f⟩;have A:J.cell? ⟨b,d+k,none⟩=some (.u y):=(f.cell (by exact p)).trans u.out;go_wp2_with fail;go_ret;exact ⟨bc,f⟩
def qi (w:World) (p:Option Addr) (l:List (Nat × Nat × Nat)):Prop:=∀ k,k<l.length->∃ g,p=some ⟨g,0,none⟩/\g<w.heap.size/\w.cell? ⟨g,k*3,none⟩=some (.i (l.getD k (0,0,0)).1) /\
 w.cell? ⟨g,k*3+1,none⟩=some (.i (l.getD k (0,0,0)).2.1)/\w.cell? ⟨g,k*3+2,none⟩=some (.i (l.getD k (0,0,0)).2.2)
def pc (p:Nat × Nat × Nat):List Value:=[.i p.1,.i p.2.1,.i p.2.2]
theorem Kz (w:World) (A:Obj) (cs:Array Value) (t:TypeId) (l:List (Nat × Nat × Nat)) (h:cs=(l.flatMap pc).toArray):qi ((w.alloc A).alloc (.cells cs t)) (some ⟨w.heap.size+1,0,none⟩) l:=by
 subst h;intro k a;have b:((w.alloc A).alloc (.cells (l.flatMap pc).toArray t)).heap[w.heap.size+1]?=some (.cells (l.flatMap pc).toArray t (0,0)):=heap_alloc2_new _ _ _;have e:∀ j,j<3->((w.alloc A).alloc (.cells (l.flatMap pc).toArray t)).cell? ⟨w.heap.size+1,k*3+j,none⟩=(pc (l.getD k (0,0,0)))[j]?:=by intro j c;rw [cell_of_row _ _ _ _ _ _ b];have:=uD pc 3 l (by intro x _;rfl) k a j c;rw [show l.getD k (0,0,0)=l[k] by simp [List.getD,a],<- this];simp
 exact ⟨_,rfl,cp,e 0 bb,e 1 bb,e 2 bb⟩
theorem xO (w:World) (p:Option Addr):qi w p []:=by intro k a;simp at a
theorem oe:(prog.info? 261).map (·.size)=some 5:=by kernel_rfl
theorem zf (f:Fm) (w:World):Calls prog 237 #[.string f.str] w λe b=>∃ p,e=.returned (.agg #[.bool f.hasRd,.bool f.hasA,.bool f.hasB,.slice p f.pcs.length f.pcs.length,.i f.width])/\Hid (qi b p f.pcs)/\Bw w b:=by
 cases f
 case r =>
  simp only [Fm.str]
  go_enter func237,ntmps237
  go_wp2_with fail
  exact bodyPost_ret (results_cell_row results237 _ _ _ _ _ _ _ rfl (heap_alloc_new _ _) underlying261 rfl oe) rfl ⟨none,rfl,xO _ _,bal _ _⟩
 case x =>
  simp only [Fm.str]
  go_enter func237,ntmps237
  go_wp2_with fail
  exact bodyPost_ret (results_cell_row results237 _ _ _ _ _ _ _ rfl (heap_alloc_new _ _) underlying261 rfl oe) rfl ⟨none,rfl,xO _ _,bal _ _⟩
 all_goals (
  simp only [Fm.str]
  go_enter func237,ntmps237
  go_wp2_with fail
  exact bodyPost_ret (results_cell_row results237 _ _ _ _ _ _ _ rfl (heap_alloc2_old _ _ _) underlying261 rfl oe) rfl ⟨some ⟨w.heap.size+1,0,none⟩,rfl,Kz _ _ _ _ _ rfl,(bal _ _).alloc cp _⟩)
def qj (x:Int) (l:List (Nat × Nat × Nat)):Int:=l.foldl (λa p=>bits .or .u64 a (Uz.wrap (cQ x p.1 p.2.1*2^p.2.2))) 0
def KA (f:Fm) (x:Int):Int:=if f.hasRd then cQ x 7 5 else 0
def aV (f:Fm) (x:Int):Int:=if f.hasA then cQ x 15 5 else 0
def bV (f:Fm) (x:Int):Int:=if f.hasB then cQ x 20 5 else 0
theorem Is (x:Int) (l:List (Nat × Nat × Nat)) (k:Nat) (h:k<l.length):bits .or .u64 (qj x (l.take k)) (Uz.wrap (cQ x (l.getD k (0,0,0)).1 (l.getD k (0,0,0)).2.1*2^(l.getD k (0,0,0)).2.2))=qj x (l.take (k+1)):=by
 have e:l.getD k (0,0,0)=l[k]:=by simp [List.getD,h]
 rw [e,List.take_succ_eq_append_getElem h];simp only [qj,List.foldl_append,List.foldl_cons,List.foldl_nil]
theorem qi.below {w w':World} {p:Option Addr} {l:List (Nat × Nat × Nat)} (h:qi w p l) (hb:Bw w w'):qi w' p l:=by intro k f;obtain ⟨g,e,a,b,c,d⟩:=h k f;exact ⟨g,e,Nat.lt_of_lt_of_le a hb.size,(hb.cell (by exact a)).trans b,(hb.cell (by exact a)).trans c,(hb.cell (by exact a)).trans d⟩
theorem de {w w':World} (hb:Bw w w') {g:Nat} {o:Obj} (h:w.heap[g]?=some o):w'.heap[g]?=some o:=by
 rw [hb.block g ?_];·exact h
 ·obtain ⟨a,_⟩:=Array.getElem?_eq_some_iff.1 h;exact a
theorem Bd {B:Nat} {a w:World} (h:Below B a w) (n:Nat):Below B a (w.drewN n):=⟨h.os,h.tape,h.output,h.size,h.block⟩
theorem KB (x:Int) (k n:Nat) (a:0<=x) (b:x<18446744073709551616) (hk:k<64) (hn:n<64) (w:World) :
 Calls prog 66 #[.u x,.i k,.i n] w λe c=>e=.returned (.u (cQ x k n))/\∃ m,c=w.drewN m :=
 (bu x k n a b hk hn w).mono λ_ _ h=>⟨h.1,1,h.2⟩
theorem og (a b c d e:Int):(#[Value.int .i64 a,.i b,.i c,.i d,.i e]:Array Value).all (·.oneCell')=true:=by simp [Value.oneCell']
theorem fF:(prog.info? 69).map (·.size)=some 5:=by kernel_rfl
theorem uY (op:Int) (f:Fm) (x:Int) (h0:0<=x) (h1:x<18446744073709551616) (w:World):CB 204 #[.i op,.string f.str,.u x] w (.agg #[.i op,.i (KA f x),.i (aV f x),.i (bV f x),.i (wrap64 (ap f.width (qj x f.pcs)))]):=by
 have G:=zf f
 obtain ⟨b1,D⟩:∃ b,b=f.hasRd:=⟨_,rfl⟩
 obtain ⟨b2,E⟩:∃ b,b=f.hasA:=⟨_,rfl⟩
 obtain ⟨b3,F⟩:∃ b,b=f.hasB:=⟨_,rfl⟩
 obtain ⟨l,Y⟩:∃ l,l=f.pcs:=⟨_,rfl⟩
 obtain ⟨B,t⟩:∃ B,B=f.width:=⟨_,rfl⟩
 obtain ⟨s,hs⟩:∃ s,s=f.str:=⟨_,rfl⟩
 have W1:1<=B:=by rw [t];cases f<;>decide
 have W2:B<=64:=by rw [t];cases f<;>decide
 have PB:Hid (∀ p ∈ l,p.1<64/\p.2.1<64/\p.2.2<64):=by
  show ∀ p ∈ l,p.1<64/\p.2.1<64/\p.2.2<64
  rw [Y];cases f<;>decide
 have LB:l.length<=4:=by rw [Y];cases f<;>decide
 rw [<- D,<- E,<- F,<- Y,<- t,<- hs] at G
 have R1:Hid (KA f x=if b1 then cQ x 7 5 else 0):=by show _=_;rw [KA,D]
 have R2:Hid (aV f x=if b2 then cQ x 15 5 else 0):=by show _=_;rw [aV,E]
 have R3:Hid (bV f x=if b3 then cQ x 20 5 else 0):=by show _=_;rw [bV,F]
 rw [<- hs,<- Y,<- t]
 clear D E F Y t hs
 obtain ⟨Z,I⟩:∃ y,y=cQ x 7 5:=⟨_,rfl⟩
 obtain ⟨y2,J⟩:∃ y,y=cQ x 15 5:=⟨_,rfl⟩
 obtain ⟨y3,K⟩:∃ y,y=cQ x 20 5:=⟨_,rfl⟩
 have B1:=bu x 7 5 h0 h1 bb bb
 have B2:=bu x 15 5 h0 h1 bb bb
 have B3:=bu x 20 5 h0 h1 bb bb
 have L1:0<=Z/\Z<32:=by rw [I];exact kq x 7 5
 have L2:0<=y2/\y2<32:=by rw [J];exact kq x 15 5
 have L3:0<=y3/\y3<32:=by rw [K];exact kq x 20 5
 have V1:wrap64 Z=Z:=IntWalk.wrap64_in _ ab
 have V2:wrap64 y2=y2:=IntWalk.wrap64_in _ ab
 have V3:wrap64 y3=y3:=IntWalk.wrap64_in _ ab
 rw [<- I] at B1 R1
 rw [<- J] at B2 R2
 rw [<- K] at B3 R3
 clear I J K L1 L2 L3
 have R:Hid (∀ w:World,Calls prog 66 #[.u x,.i 7,.i 5] w λe u=>e=.returned (.u Z)/\u=w.drew):=B1
 have S:Hid (∀ w:World,Calls prog 66 #[.u x,.i 15,.i 5] w λe u=>e=.returned (.u y2)/\u=w.drew):=B2
 have T:Hid (∀ w:World,Calls prog 66 #[.u x,.i 20,.i 5] w λe u=>e=.returned (.u y3)/\u=w.drew):=B3
 clear B1 B2 B3
 cases b1<;>cases b2<;>cases b3
 all_goals (
  go_enter func204,ntmps204
  go_wp2_with fail
  refine (G _).mono ?_
  rintro e d ⟨p,rfl,hP,c⟩
  clear G
  have Q:Hid (d.heap[w.heap.size]?=some (.cells #[.i 0,.i 0,.i 0,.i 0,.i 0] 69 (0,0))):=by
   show _=_
   rw [c.block _ cp];exact heap_alloc_new _ _
  have hsz:w.heap.size<d.heap.size:=by have:=c.size;simp at this;omega
  go_wp2_with (go_at_call 66;first | (with_reducible refine (R.out _).mono ?_;rintro e w2 ⟨rfl,rfl⟩) | (with_reducible refine (S.out _).mono ?_;rintro e w2 ⟨rfl,rfl⟩) | (with_reducible refine (T.out _).mono ?_;rintro e w2 ⟨rfl,rfl⟩))
  go_loopw [9,37] (λacc i wr=>∃ k:Nat,k<=l.length/\i=.i k/\acc=.u (qj x (l.take k))/\∃ N O P:Int,∃ c1 c2 c3:Bool,Hid (N=KA f x)/\Hid (O=aV f x)/\Hid (P=bV f x) /\
   Hid (wr.heap[w.heap.size]?=some (.cells #[.i 0,.i 0,.i 0,.i 0,.i 0] 69 (0,0))) /\
   Hid (wr.heap[d.heap.size]?=some (.cells #[.bool c1,.bool c2,.bool c3,.slice p l.length l.length,.i B] 261 (0,0))) /\
   Hid (wr.heap[d.heap.size+1]?=some (.cells #[.i op,.i N,.i O,.i P,.i 0] 69 (0,0))) /\
   Hid (qi wr p l)/\Bw w wr)
   (λ_ i _=>l.length-(intOf i).toNat)
  case atStart =>
   have hb0:=((bal _ _).trans (c.mono cp):Bw w d)
   refine ⟨0,ab,rfl,rfl,_,_,_,_,_,_,?_,?_,?_,?_,heap_alloc2_old _ _ _,heap_alloc2_new _ _ _,?_,?_⟩
   ·show _=_;rw [R1.out];rfl
   ·show _=_;rw [R2.out];rfl
   ·show _=_;rw [R3.out];rfl
   ·exact de lh Q.out
   ·exact qi.below hP.out lh
   ·exact aa hb0 lh
  case round =>
   obtain ⟨k,hk,rfl,rfl,N,O,P,c1,c2,c3,Q1,Q2,Q3,G6,G7,G8,HP,o⟩:=hrel
   clear hP c Q
   by_cases H:k<l.length
   ·obtain ⟨g,hpg,hg,d0,d1,d2⟩:=HP.out k H
    subst hpg
    have AC:Hid (bits .or .u64 (qj x (l.take k)) (Uz.wrap (cQ x (l.getD k (0,0,0)).1 (l.getD k (0,0,0)).2.1*2^(l.getD k (0,0,0)).2.2))=qj x (l.take (k+1))):=Is x l k H
    have V:=PB.out (l.getD k (0,0,0)) (by simp [List.getD,H])
    obtain ⟨⟨pa,pb,pt⟩,hq⟩:∃ q,q=l.getD k (0,0,0):=⟨_,rfl⟩
    rw [<- hq] at d0 d1 d2 AC V
    clear hq
    obtain ⟨W,X,PB5⟩:=V
    simp only at d0 d1 d2 W X PB5
    have C:=KB x pa pb h0 h1 W X
    obtain ⟨y,hy⟩:∃ y,y=cQ x pa pb:=⟨_,rfl⟩
    obtain ⟨z,L⟩:∃ z,z=qj x (l.take k):=⟨_,rfl⟩
    rw [<- hy] at C
    have AC2:Hid (bits .or .u64 z (Uz.wrap (y*2^pt))=qj x (l.take (k+1))):=by
     show _=_
     rw [L,hy];exact AC.out
    have BQ:Hid (∀ w:World,Calls prog 66 #[.u x,.i pa,.i pb] w λe u=>e=.returned (.u y)/\∃ m,u=w.drewN m):=C
    rw [<- L]
    clear C AC hy L
    go_wp2_with fail
    go_quiet (first | (go_at_call 66;with_reducible refine Calls.quiet_of (BQ.out _)))
    go_wp2_with fail
    go_roundw
    case rel=>
     have r:Bw wr ((wr.alloc (.cells #[.i pa,.i pb,.i pt] 264)).drewN nq):=Bd (bal _ _) nq
     exact ⟨k+1,ab,by go_num,by rw [<- AC2.out],N,O,P,c1,c2,c3,Q1,Q2,Q3,de r G6.out,de r G7.out,de r G8.out,qi.below HP.out r,aa o r⟩
    case measure=>simp [intOf];omega
   ·have hkl:k=l.length:=by omega
    have A:l.take k=l:=List.take_of_length_le ab
    rw [A]
    subst hkl
    clear A R S T R1 R2 R3
    obtain ⟨z,L⟩:∃ z,z=qj x l:=⟨_,rfl⟩
    have HZ:Hid (z=qj x l):=L
    rw [<- L]
    clear L
    have e7:=cell_of_row wr d.heap.size 4 _ _ _ G7.out
    have M:∀ j,wr.cell? ⟨d.heap.size+1,j,none⟩=_:=λj=>cell_of_row wr (d.heap.size+1) j _ _ _ G8.out
    have e80:=M 0
    have e81:=M 1
    have e82:=M 2
    have e83:=M 3
    have e84:=M 4
    have f84:=frozen_of_row wr (d.heap.size+1) 4 _ _ G8.out
    have U:(wr.setCell ⟨d.heap.size+1,4,none⟩ (.i (wrap64 (ap B z)))).heap[w.heap.size]?=some (.cells #[.i 0,.i 0,.i 0,.i 0,.i 0] 69 (0,0)):=by
     rw [heap_setCell_other _ _ _ _ (by show w.heap.size≠d.heap.size+1;omega)];exact G6.out
    simp at e7 e80 e81 e82 e83 e84
    clear M
    go_wp2_with (first | (go_at_call 136;with_reducible refine (iF z B W1 W2 _).mono ?_;rintro e w2 ⟨rfl,hw2⟩;have hw3:=hw2.symm;subst hw3) | (refine wpList_store_rowTo rfl 69 (.tmp 6) (.tmp 59) rfl rfl w.heap.size #[.i op,.i N,.i O,.i P,.i (wrap64 (ap B z))] rfl rfl 69 _ U fF rfl (og op N O P _) ?_))
    refine bodyPost_ret (results_cell_row results204 _ _ _ _ _ _ _ rfl (setRow_heap _ _ _ _ _ _ U) underlying69 rfl fF) rfl ⟨?_,?_⟩
    ·rw [<- Q1.out,<- Q2.out,<- Q3.out,<- HZ.out]
    ·exact aE (o.setCell (by show w.heap.size<=d.heap.size+1;omega) _) (Nat.le_refl _) _)
def m7:List (Nat × Bool)->Nat
 | []=>0
 | (n,b)::l=>(if b then 2^n-1 else 0)+2^n*m7 l
def rx:List (Nat × Bool)->Nat->Nat
 | [],_=>0
 | (n,b)::l,x=>(if b then x%2^n else 0)+2^n*rx l (x/2^n)
theorem KD:∀ (l:List (Nat × Bool)) (x:Nat),x &&& m7 l=rx l x:=by
 intro l;induction l with
 | nil=>intro x;simp [m7,rx]
 | cons p l e =>
   intro x;obtain ⟨n,b⟩:=p;have d:0<2^n:=Nat.two_pow_pos n;have a:m7 ((n,b)::l)/2^n=m7 l:=(by rw [m7,Nat.add_mul_div_left _ _ d,Nat.div_eq_of_lt,Nat.zero_add];cases b<;>simp<;>omega);have c:m7 ((n,b)::l)%2^n=if b then 2^n-1 else 0:=by rw [m7,Nat.add_mul_mod_self_left,Nat.mod_eq_of_lt];cases b<;>simp<;>omega
   rw [If x _ n,a,c,e,rx];cases b;·simp
   ·simp only [if_true];rw [J9,Nat.mod_mod];omega
theorem sF (x:Int) (m:Nat) (l:List (Nat × Bool)) (a:0<=x) (b:x<4294967296) (hm:m=m7 l) (hb:m<18446744073709551616):bits .and .u64 x (m:Int)=(rx l x.toNat:Nat):=by subst hm;rw [u64_and x _ a ab ab ab,Int.toNat_natCast,KD]
theorem Tc (x:Int) (a:0<=x) (b:x<4294967296):bits .and .u64 x 127=x%128:=by have h:=sF x 127 [(7,true)] a b bb bb;rw [show ((127:Nat):Int)=127 from rfl] at h;rw [h];simp [rx];omega
theorem Ol (x:Int) (a:0<=x) (b:x<4294967296):bits .and .u64 x 28799=x%128+x/4096%8*4096:=by have h:=sF x 28799 [(7,true),(5,false),(3,true)] a b bb bb;rw [show ((28799:Nat):Int)=28799 from rfl] at h;rw [h];simp [rx];omega
theorem Td (x:Int) (a:0<=x) (b:x<4294967296):bits .and .u64 x 4261441663=x%128+x/4096%8*4096+x/33554432*33554432:=by have h:=sF x 4261441663 [(7,true),(5,false),(3,true),(10,false),(7,true)] a b bb bb;rw [show ((4261441663:Nat):Int)=4261441663 from rfl] at h;rw [h];simp [rx];omega
theorem Te (x:Int) (a:0<=x) (b:x<4294967296):bits .and .u64 x 4261445631=x%32768+x/33554432*33554432:=by have h:=sF x 4261445631 [(15,true),(10,false),(7,true)] a b bb bb;rw [show ((4261445631:Nat):Int)=4261445631 from rfl] at h;rw [h];simp [rx];omega
theorem Ug (x:Int) (a:0<=x) (b:x<4294967296):bits .and .u64 x 4227887231=x%128+x/4096%8*4096+x/67108864*67108864:=by have h:=sF x 4227887231 [(7,true),(5,false),(3,true),(11,false),(6,true)] a b bb bb;rw [show ((4227887231:Nat):Int)=4227887231 from rfl] at h;rw [h];simp [rx];omega
theorem Uh (x:Int) (a:0<=x) (b:x<4294967296):bits .and .u64 x 4160778367=x%128+x/4096%8*4096+x/134217728*134217728:=by have h:=sF x 4160778367 [(7,true),(5,false),(3,true),(12,false),(5,true)] a b bb bb;rw [show ((4160778367:Nat):Int)=4160778367 from rfl] at h;rw [h];simp [rx];omega
theorem Tf (x:Int) (a:0<=x) (b:x<4294967296):bits .and .u64 x 4193284223=x%128+x/4096%8*4096+x/1048576%32*1048576+x/134217728*134217728:=by have h:=sF x 4193284223 [(7,true),(5,false),(3,true),(5,false),(5,true),(2,false),(5,true)] a b bb bb;rw [show ((4193284223:Nat):Int)=4193284223 from rfl] at h;rw [h];simp [rx];omega
theorem Ui (x:Int) (a:0<=x) (b:x<4294967296):bits .and .u64 x 4294967295=x:=by have h:=sF x 4294967295 [(32,true)] a b bb bb;rw [show ((4294967295:Nat):Int)=4294967295 from rfl] at h;rw [h];simp [rx];omega
def xP (k:Nat) (r:Row):Bool:=decide (0<=r.op/\r.op<128/\0<=r.more/\(k=97->r.fm=.r)/\(k=62\/k=73->r.fm=.a)) &&
 (match r.fm with
 | .r=>decide (r.more<128/\0<=r.f3/\r.f3<8)
 | .w=>decide (r.more<128/\0<=r.f3/\r.f3<8)
 | .h=>decide (r.more<64/\0<=r.f3/\r.f3<8)
 | .a=>decide (r.more<32/\0<=r.f3/\r.f3<8)
 | .x=>decide (r.more<4096/\r.f3=0)
 | .u=>decide (r.more=0/\r.f3=-1)
 | .j=>decide (r.more=0/\r.f3=-1)
 | _=>decide (r.more=0/\0<=r.f3/\r.f3<8))
theorem FQ:∀ k,k<98->xP k (bT k)=true:=by
 have h:(List.range 98).all (λk=>xP k (bT k))=true:=al
 intro k a;exact List.all_eq_true.1 h k pp
theorem hC (f:Fm) (o z m:Int) (d:0<=o) (k:o<128) (e:0<=z) (g:z<8) (h4:0<=m) (h:m<2^(32-f.at)) (i:f.at=0->m=0):uL f o z m=o+z*4096+m*2^f.at:=by
 unfold uL;have c:Uz.wrap (z*4096)=z*2^12:=by rw [IntKind.wrap_u64];omega
 have e2:bits .or .u64 o (z*2^12)=o+z*2^12:=mv o z 12 3 d ab e g ab ab;rw [c,e2];by_cases b:f.at=0;·have j:=i b;subst j;have e3:Uz.wrap (0*2^f.at)=0:=(by rw [Int.zero_mul];rfl);have e4:bits .or .u64 (o+z*2^12) 0=o+z*2^12:=(by have:=mv (o+z*2^12) 0 0 1 ab ab ab ab ab;rw [u64_or _ _ ab ab ab ab];simp;omega);rw [e3,e4];omega
 ·have a:f.at=20\/f.at=25\/f.at=26\/f.at=27:=(by cases f<;>simp [Fm.at] at b ⊢);rcases a with a|a|a|a<;>rw [a] at h ⊢;·have e3:Uz.wrap (m*2^20)=m*2^20:=di;rw [e3,mv (o+z*2^12) m 20 12 ab ab h4 ab ab ab];omega
  ·have e3:Uz.wrap (m*2^25)=m*2^25:=di;rw [e3,mv (o+z*2^12) m 25 7 ab ab h4 ab ab ab];omega
  ·have e3:Uz.wrap (m*2^26)=m*2^26:=di;rw [e3,mv (o+z*2^12) m 26 6 ab ab h4 ab ab ab];omega
  ·have e3:Uz.wrap (m*2^27)=m*2^27:=di;rw [e3,mv (o+z*2^12) m 27 5 ab ab h4 ab ab ab];omega
theorem KE (k:Nat) (r:Row) (hr:xP k r=true) (x:Int) (d:0<=x) (g:x<4294967296):(bits .and .u64 x (iG ((k:Int)+1) r.fm)==uL r.fm r.op r.f3z r.more)=decide (fz k r.fm r.op r.f3 r.more x):=by
 obtain ⟨E,f,o,z,m⟩:=r
 simp only [xP,Bool.and_eq_true,decide_eq_true_eq] at hr
 obtain ⟨⟨l,n,p,v,y⟩,t⟩:=hr
 simp only [Row.f3z]
 rw [Bool.eq_iff_iff,beq_iff_eq,decide_eq_true_iff]
 have C:∀ f,iG 98 f=bits .or .u64 (Fm.mask f) 3968:=λf=>by rw [iG,if_pos rfl]
 cases f
 case r =>
  simp only [decide_eq_true_eq] at t
  rw [if_neg ab,hC .r o z m l n ab ab p kc (by simp [Fm.at])]
  by_cases A:k=97
  ·subst A
   have e:iG (((97:Nat):Int)+1) .r=4261445631:=bb
   rw [e,Te x d g]
   simp only [fz,Fm.at,forall_const]
   omega
  ·have e:iG ((k:Int)+1) .r=4261441663:=by
    have D:¬ (k=62\/k=73):=λh=>by cases y h
    rw [iG,if_neg ab,if_neg ab];rfl
   rw [e,Td x d g]
   simp only [fz,Fm.at]
   omega
 case a =>
  simp only [decide_eq_true_eq] at t
  have q:¬ k=97:=λh=>by cases v h
  rw [if_neg ab,hC .a o z m l n ab ab p kc (by simp [Fm.at])]
  by_cases A:k=62\/k=73
  ·have e:iG ((k:Int)+1) .a=4193284223:=by
    rw [iG,if_neg ab,if_pos ab];decide
   rw [e,Tf x d g]
   simp only [fz,Fm.at]
   omega
  ·have e:iG ((k:Int)+1) .a=4160778367:=by
    rw [iG,if_neg ab,if_neg ab];rfl
   rw [e,Uh x d g]
   simp only [fz,Fm.at]
   omega
 all_goals (
  have q:¬ k=97:=λh=>by cases v h
  have B:¬ (k=62\/k=73):=λh=>by cases y h
  simp only [decide_eq_true_eq] at t
  rw [iG,if_neg ab,if_neg ab]
  simp only [Fm.mask])
 case h =>
  rw [if_neg ab,hC .h o z m l n ab ab p kc (by simp [Fm.at]),Ug x d g]
  simp only [fz,Fm.at]
  omega
 case w =>
  rw [if_neg ab,hC .w o z m l n ab ab p kc (by simp [Fm.at]),Td x d g]
  simp only [fz,Fm.at]
  omega
 case x =>
  rw [if_neg ab,hC .x o z m l n ab ab p kc (by simp [Fm.at]),Ui x d g]
  simp only [fz,Fm.at]
  omega
 case u =>
  rw [if_pos ab,hC .u o 0 m l n ab ab p kc (by intro _;omega),Tc x d g]
  simp only [fz,Fm.at,and_true]
  omega
 case j =>
  rw [if_pos ab,hC .j o 0 m l n ab ab p kc (by intro _;omega),Tc x d g]
  simp only [fz,Fm.at,and_true]
  omega
 case i =>
  rw [if_neg ab,hC .i o z m l n ab ab p kc (by intro _;omega),Ol x d g]
  simp only [fz,Fm.at,and_true]
  omega
 case s =>
  rw [if_neg ab,hC .s o z m l n ab ab p kc (by intro _;omega),Ol x d g]
  simp only [fz,Fm.at,and_true]
  omega
 case b =>
  rw [if_neg ab,hC .b o z m l n ab ab p kc (by intro _;omega),Ol x d g]
  simp only [fz,Fm.at,and_true]
  omega
 case c =>
  rw [if_neg ab,hC .c o z m l n ab ab p kc (by intro _;omega),Ol x d g]
  simp only [fz,Fm.at,and_true]
  omega
theorem Ra (x:Int) (k n:Nat):cQ x k n=x/2^k%2^n:=rfl
theorem Om (f:Fm) (x:Int) (k:0<=x) (l:x<4294967296):qj x f.pcs=yQ f x:=by
 have Z:∀ y:Int,0<=y->y<18446744073709551616->bits .or .u64 0 (Uz.wrap y)=y:=by
  intro y d g
  have e:Uz.wrap y=y:=by rw [IntKind.wrap_u64];omega
  rw [e,u64_or 0 y ab ab d g]
  simp;omega
 have W:∀ y:Int,0<=y->y<18446744073709551616->Uz.wrap y=y:=by
  intro y d g
  rw [IntKind.wrap_u64];omega
 cases f<;>simp only [Fm.pcs,qj,List.foldl_cons,List.foldl_nil,yQ,Ra]
 case i=>rw [Z _ ab ab];omega
 case h=>rw [Z _ ab ab];omega
 case w=>rw [Z _ ab ab];omega
 case u=>rw [Z _ ab ab];omega
 case a=>rw [Z _ ab ab];omega
 case c=>rw [Z _ ab ab];omega
 case s =>
  rw [Z _ ab ab,W _ ab ab,mv _ (x/2^7%2^5) 0 5 ab ab ab ab ab ab]
  omega
 case b =>
  rw [Z _ ab ab,W _ ab ab,mv _ (x/2^7%2^1) 11 1 ab ab ab ab ab ab,
   W _ ab ab,mv _ (x/2^25%2^6) 5 6 ab ab ab ab ab ab,
   W _ ab ab,mv _ (x/2^8%2^4) 1 4 ab ab ab ab ab ab]
  omega
 case j =>
  rw [Z _ ab ab,W _ ab ab,mv _ (x/2^12%2^8) 12 8 ab ab ab ab ab ab,
   W _ ab ab,mv _ (x/2^20%2^1) 11 1 ab ab ab ab ab ab,
   W _ ab ab,mv _ (x/2^21%2^10) 1 10 ab ab ab ab ab ab]
  omega
def qk (k:Nat) (x:Int):Ins:=⟨(k:Int)+1,KA (bT k).fm x,aV (bT k).fm x,bV (bT k).fm x,nB (bT k).fm x⟩
def me (k:Nat) (x:Int):Bool:=decide (fz k (bT k).fm (bT k).op (bT k).f3 (bT k).more x)
def cj (x:Int):Nat->Nat->Option Nat
 | 0,_=>none
 | n+1,k=>if me k x=true then some k else cj x n (k+1)
theorem sG (x:Int) (k:Nat) (hk:k<98) (h:me k x=true):cj x (98-k) k=some k:=by rw [show 98-k=(98-(k+1))+1 from ab,cj,if_pos h]
theorem ql (x:Int) (k:Nat) (hk:k<98) (h:me k x=false):cj x (98-k) k=cj x (98-(k+1)) (k+1):=by rw [show 98-k=(98-(k+1))+1 from ab,cj,if_neg (by rw [h];decide)]
def Be (x:Int):Option Ins:=if x<4294967296 then (cj x 98 0).map (λk=>qk k x) else none
def pi:Ins:=⟨0,0,0,0,0⟩
def lO (x:Int):Value:=match Be x with
 | some i=>.tuple #[i.val,.bool true]
 | none=>.tuple #[pi.val,.bool false]
theorem Bf (x:Int) (h:¬ x<4294967296):lO x=.tuple #[pi.val,.bool false]:=by simp [lO,Be,h]
theorem Bg (x:Int) (k:Nat) (h:x<4294967296) (a:cj x 98 0=some k):lO x=.tuple #[(qk k x).val,.bool true]:=by simp [lO,Be,h,a]
theorem xQ (x:Int) (h:x<4294967296) (a:cj x 98 0=none):lO x=.tuple #[pi.val,.bool false]:=by simp [lO,Be,h,a]
end Go.Proofs.YtjifdmoehfbihaaGreatDoor
