/- Own lemmas. -/
import Derived.Test.YtfekjlcnnjhofaaGreatDoorAut
import Derived.Test.YtfekjlcnnjhofaaGreatDoorK01
import Derived.WalkLawsBesides
import Derived.Laws.CopyOwn
import Derived.Deep.AppendSrc
set_option maxRecDepth 100000
set_option maxHeartbeats 1600000
namespace Go.Proofs.YtfekjlcnnjhofaaGreatDoor
open Go.RowKit Tryz
open IntKind renaming u64->Uz
open Addr renaming add->Y4
open Below renaming refl->V8,heap_alloc->X0,grown->X3,heap_setCell->X5
open Go renaming World->R4,bodyPost_ret->R5,Value->R6,Addr->R7,heap_alloc_new->R8,TypeId->S2,IntKind->S5,bits->T3,run_loadVar_row->T4,ints_oneCell->T5,Program->T6,run_arrayAt->V4
open Instr renaming index->X9,arrayAt->Y0
open Int renaming le_of_lt->Y5,pow_pos->Y6,toNat_natCast->Y7,ediv_nonneg->Y8
open IntKind renaming signed->Y9,bits->Z0,min->Z5,max->Z6
open List renaming getElem?_eq_getElem->A5,mem_cons_of_mem->A6,pairwise_cons->A8,mem_cons_self->A9,getElem?_eq_none->C5,mem_cons->C6,mem_singleton->D1,getD->D2,getD_eq_getElem?_getD->D3,pairwise_singleton->D4,mem_append->D8,length_map->F0,pairwise_append->F3,take_succ_eq_append_getElem->G1,mem_append_right->H8,mem_append_left->I1,getElem?_map->I2,not_mem_nil->I3,map_set->I4
open Lit renaming int->Y1
open Nat renaming le_refl->I5,lt_or_ge->K0,lt_of_lt_of_le->K1,zero_add->L0,eq_zero_or_pos->L6,le_trans->N1,zero_le->O1
open Value renaming int->P2
open World renaming size_alloc->X6,cell?->X7,setCell->X8
open _root_.Array renaming getElem?_eq_some_iff->Y2,getElem?_eq_none->Y3
set_option linter.unusedVariables false
variable {b a w w':R4} {t d f c B g:Nat} {n:S2} {e E:List Int} {x j o k W s:R6} {m r o1 o2 o3:Obj} {l y:Option R7} {Q:List R6} {p:S5} {q:Array R6} {A:Int} {P:Option Nat} {z:Nat × Nat} {C:Array Oper} {D:List Oper} {F:Oper} {G:Act} {I:Exit->Act->R4->Prop} (J K:Int) (L:Bool) (M:Option R7) (N O:Nat) (R:R4) (S:Option R7) (T:Nat) (V:List Int) (X:Nat) (Y Z:Int)
def Sl (k:S5) (w:R4) (a:Option R7) (zs:List Int):Prop :=
 ∀ i,i<zs.length->∃ b c,a=some ⟨b,c,none⟩/\b<w.heap.size/\w.cell? ⟨b,c+i,none⟩=some (.int k (zs.getD i 0))
theorem Sl.below (h:Sl p b l e) (hb:Bw b a):Sl p a l e:=by intro i g;obtain ⟨w,d,zs,c,f⟩:=h i g;exact ⟨w,d,zs,K1 c hb.size,(hb.cell (by exact c)).trans f⟩
theorem dc (h:b.ownsRow t n d x f Q) (hb:Bw b a):a.ownsRow t n d x f Q:=by
 obtain ⟨e,w⟩:=h;refine ⟨e,?_⟩;rcases w with w|⟨g,cap,w',j,i,c,r⟩;·exact Or.inl w
 ·have size:g<b.heap.size:=by
   rcases K0 g b.heap.size with h|h;·exact h
   ·rw [Y3 h] at c;cases c
  exact Or.inr ⟨g,cap,w',j,i,by rw [hb.block g size];exact c,r⟩
theorem Si (h:b.ownsRow t n d (.slice (some ⟨g,0,none⟩) f c) f Q):g<b.heap.size:=by
 obtain ⟨j,a⟩:=h;rcases a with ⟨a,_⟩|⟨i,w,cap,size,k,e,r⟩;·cases a
 ·simp only [Value.slice.injEq,Option.some.injEq,Addr.mk.injEq,and_true,true_and] at size;obtain ⟨rfl,rfl⟩:=size;rcases K0 g b.heap.size with h|h;·exact h
  ·rw [Y3 h] at e;cases e
theorem kI (h:b.ownsRow t n 1 (.slice (some ⟨g,0,none⟩) d f) d (e.map (P2 p))):Sl p b (some ⟨g,0,none⟩) e:=by
 intro i a;have w:d=e.length:=by have:=h.1;simp at this;omega
 refine ⟨g,0,rfl,Si h,?_⟩;rw [L0,h.cellAt i ab];simp [I2,A5 a,D2]
theorem fJ (h:b.ownsRow t n 1 (.slice l d f) d (e.map (P2 p))):Sl p b l e:=by
 rcases h.2 with ⟨g,j⟩|⟨a,w,cap,c,zs,m,r⟩;·intro i o;have:=h.1;simp at this;omega
 ·simp only [Value.slice.injEq,true_and] at c;obtain ⟨rfl,rfl⟩:=c;exact kI h
theorem IW (ys:List Int) (k n:Nat) (hx:V.length=n) (hy:ys.length=n) (hk:k<n) (h:V.take k=ys.take k) (he:V.getD k 0=ys.getD k 0):V.take (k+1)=ys.take (k+1):=by
 rw [G1 ab,G1 ab,h];have a:V.getD k 0=V[k]:=by simp [D2,A5 (show k<V.length by omega)]
 have e2:ys.getD k 0=ys[k]:=by simp [D2,A5 (show k<ys.length by omega)]
 rw [<- a,<- e2,he]
def Bu (k:S5) (w:R4) (a:Option R7) (len cap:Nat) (zs:List Int):Prop :=
 (a=none/\len=0/\cap=0/\zs=[]) \/
 ∃ x,a=some x/\len<=cap/\cap<=maxLen/\zs.length=cap/\(∀ i,i<zs.length->w.cell? (x.add i)=some (.int k (zs.getD i 0)))/\∀ n ∈ zs,(Y1 k n).wf
theorem Bu.sl (h:Bu p b l t d e): ∃ n:List Int,n.length=t/\Sl p b l n/\(∀ y ∈ n,(Y1 p y).wf)/\t<=maxLen:=by
 rcases h with ⟨rfl,rfl,rfl,rfl⟩ | ⟨x,rfl,r,s,len,c,m⟩;·exact ⟨[],rfl,λi a=>absurd a di,di,fb⟩
 ·refine ⟨e.take t,bv,?_,λy q=>m y (List.mem_of_mem_take q),ab⟩;intro i a;simp only [List.length_take] at a;obtain ⟨w,f,g⟩:=x;have cap:g=none:=(by simpa [Y4] using World.cell?_spot (c 0 ab));subst cap;have k:(⟨w,f,none⟩:R7).add i=⟨w,f+i,none⟩:=by
   by_cases o:i=0;·subst o;simp [Y4]
   ·simp [Y4,o]
  have j:=c i ab;rw [k] at j;refine ⟨w,f,rfl,World.block_lt_of_cell? _ _ j,?_⟩;have zs:(e.take t).getD i 0=e.getD i 0:=(by simp [D2,show i<t by omega]);rw [zs];exact j
theorem aa {w1:R4} (h:Bw b w1) (k:Bw w1 a):Bw b a :=
 h.trans (k.mono h.size)
theorem jg (h:∀ y ∈ e,(Y1 .u8 y).wf) (k:Nat):0<=e.getD k 0/\e.getD k 0<=255:=by
 by_cases a:k<e.length;·have:=h (e.getD k 0) (by simp [D2,A5 a]);simpa [Lit.wf,Z5,Z6,Y9,Z0] using this
 ·simp [D2,C5 (Nat.le_of_not_lt a)]
theorem qj:(V.map (P2 .u8)).set X (.int .u8 Y)=(V.set X Y).map (P2 .u8):=by rw [I4]
theorem Ee:(J=1\/J=2\/J=4\/J=8)\/((J==1)=false/\(J==2)=false/\(J==4)=false/\(J==8)=false):=by
 by_cases a:J=1;·exact .inl (.inl a)
 ·by_cases b:J=2;·exact .inl (.inr (.inl b))
  ·by_cases c:J=4;·exact .inl (.inr (.inr (.inl c)))
   ·by_cases d:J=8;·exact .inl (.inr (.inr (.inr d)))
    ·exact .inr (by simp [a,b,c,d])
theorem KY (h:(A==1)=false/\(A==2)=false/\(A==4)=false/\(A==8)=false):jt A=false:=by simp at h;simp [jt,h]
theorem Sj (h:(Y1 .u64 A).wf):0<=A/\A<=18446744073709551615:=by simpa [Lit.wf,Z5,Z6,Y9,Z0] using h
theorem aY {w:R4} (h:w.grownBy a P) (k:a.grownBy b P):w.grownBy b P :=
 ⟨k.os.trans h.os,k.tape.trans h.tape,k.output.trans h.output,N1 h.size k.size,λi d c=>(k.block i (K1 d h.size) c).trans (h.block i d c)⟩
theorem nz (row:Option Nat):R.grownBy R row:=⟨rfl,rfl,rfl,I5 _,λ_ _ _=>rfl⟩
theorem O9 (hs:Sl .u8 b (some ⟨t,d,none⟩) e) (o:Obj) (j:Nat) (u:R6) (c:(e.map (P2 .u8))[j]?=some u): (b.alloc o).cell? ((⟨t,d,none⟩:R7).add j)=some u:=by
 have a:j<e.length:=by
  rcases K0 j e.length with h|h;·exact h
  ·rw [C5 et] at c;cases c
 obtain ⟨n,k,zs,f,m⟩:=hs j a;simp only [Option.some.injEq,Addr.mk.injEq,and_true] at zs;obtain ⟨rfl,rfl⟩:=zs;have l:(⟨t,d,none⟩:R7).add j=⟨t,d+j,none⟩:=by
  by_cases i:j=0;·subst i;simp [Y4]
  ·simp [Y4,i]
 have g:u=.int .u8 (e.getD j 0):=by simp [A5 a] at c;simp [D2,A5 a,c]
 rw [l,g,<- m];exact ((V8 b.heap.size b).alloc (I5 _) o).cell (by exact f)
theorem jV (h:b.ownsRow t n 1 x d Q) (hn:0<d):∃ g c,x=.slice (some ⟨g,0,none⟩) d c/\t<=g:=by
 rcases h.2 with ⟨_,f⟩|⟨g,cap,a,e,w,_⟩;·omega
 ·exact ⟨g,cap,e,w⟩
theorem zt:(⟨N,O,none⟩:R7).add T=⟨N,O+T,none⟩:=by
 by_cases c:T=0;·subst c;simp [Y4]
 ·simp [Y4,c]
theorem mS {P:T6} (y:F.guard=none) (d s:Operand) (p:S2) (S:F.op=.call {callee:=.builtin .copy,args:=#[d,s],argTypes:=#[p,p]}) (e:S2) (T:P.underlying p=some (.slice e)) (rest:(P.info? e).map (·.size)=some 1) (k:S5) (base g n c w l cap:Nat) (zs:List Int) (ys:List R6) (hd:G.eval d=.slice (some ⟨g,0,none⟩) n c) (hs:G.eval s=.slice (some ⟨w,l,none⟩) n cap) (q:b.ownsRow base e 1 (.slice (some ⟨g,0,none⟩) n c) n ys) (r:Sl k b (some ⟨w,l,none⟩) zs) (hz:zs.length=n) (h:∀ a,a.ownsRow base e 1 (.slice (some ⟨g,0,none⟩) n c) n (zs.map (P2 k))->b.grownBy a (some g)->wpList P C I D (G.put F.dst (goInt n)) a):wpList P C I (F::D) G b:=by
 rcases q.2 with ⟨M,_⟩|⟨W,V,m,K,v,J,A,x,O,E⟩;·cases M
 ·simp only [Value.slice.injEq,Option.some.injEq,Addr.mk.injEq,and_true,true_and] at K;obtain ⟨rfl,rfl⟩:=K;have t:(zs.map (P2 k)).length=n:=(by rw [F0,hz]);have Q:m.toList.length=c:=(by rw [Array.length_toList];omega);refine wpList_copy_own y d s p p S e T rest g 0 n c ⟨w,l,none⟩ n cap hd hs m e J (zs.map (P2 k)) (by rw [t];exact (Nat.min_self n).symm) ?_ (by rw [t];omega) (T5 _ _) ?_
  ·intro j u f;have z:j<zs.length:=by
    rcases K0 j zs.length with h|h;·exact h
    ·rw [C5 et] at f;cases f
   obtain ⟨U,L,H,R,N⟩:=r j z;simp only [Option.some.injEq,Addr.mk.injEq,and_true] at H;obtain ⟨rfl,rfl⟩:=H;have o:u=.int k (zs.getD j 0):=(by simp [A5 z] at f;simp [D2,A5 z,f]);rw [zt,o];exact N
  ·rw [t];refine h _ ⟨by rw [t];omega,.inr ⟨g,c,_,rfl,v,setRow_heap b g _ _ e _ J,A,x,?_,?_⟩⟩ ⟨rfl,rfl,rfl,by simp [World.setRow],λi X B=>setRow_other b g i _ (by intro h;apply B;rw [h])⟩;·simp [hz];omega
   ·simp [hz]
theorem zu {e:S2} (h:b.ownsRow t e d x f Q) (w:b.grownBy a P) (w':∀ k,x.ownBlock=some k->P≠some k): a.ownsRow t e d x f Q:=by
 refine h.kept w ?_;cases c:x.ownBlock with
 | none=>exact .inl rfl
 | some k=>exact .inr (λh=>w' k c h.symm)
theorem cQ (h:b.ownsRow t n f x c Q) (hb:d<=t):b.ownsRow d n f x c Q:=by
 obtain ⟨a,e⟩:=h;refine ⟨a,?_⟩;rcases e with e|⟨g,cap,w,i,size,r⟩;·exact Or.inl e
 ·exact Or.inr ⟨g,cap,w,i,N1 hb size,r⟩
theorem info5:(prog.info? 5).map (λi=>(i.zero,i.size,i.bytes))=some (some (.int .u8 0),1,1):=by kernel_rfl
theorem pS (hn:N<=1048576): CE 28 #[.slice M N O] R (.bool (bf N)):=by
 by_cases b:4096<=N
 ·by_cases c:N<=65536
  ·have f:decide ((N:Int)<=65536):=bv;by_cases d:N%4096=0;·have F:Hid (bf N):=(by show bf N=true;simp [bf,b,c,d]);have g:((N:Int)%4096==0):=bv;go_enter func28,ntmps28;go_wp2;go_ret;exact ⟨bh,rfl⟩
   ·have F:Hid (bf N=false):=(by show bf N=false;simp [bf,d]);have g:((N:Int)%4096==0)=false:=bv;go_enter func28,ntmps28;exact zz
  ·have F:Hid (bf N=false):=(by show bf N=false;simp [bf,c]);have f:decide ((N:Int)<=65536)=false:=bv;go_enter func28,ntmps28;exact zz
 ·have F:Hid (bf N=false):=(by show bf N=false;simp [bf,b]);have l:decide ((4096:Int)<=N)=false:=bv;go_enter func28,ntmps28;exact zz
theorem fx (hn:N<=1048576): CE 34 #[.slice M N O] R (.bool (bf N)):=by
 by_cases b:4096<=N
 ·by_cases c:N<=65536
  ·have f:decide ((N:Int)<=65536):=bv;by_cases d:N%4096=0;·have F:Hid (bf N):=(by show bf N=true;simp [bf,b,c,d]);have g:((N:Int)%4096==0):=bv;go_enter func34,ntmps34;go_wp2;go_ret;exact ⟨bh,rfl⟩
   ·have F:Hid (bf N=false):=(by show bf N=false;simp [bf,d]);have g:((N:Int)%4096==0)=false:=bv;go_enter func34,ntmps34;exact zz
  ·have F:Hid (bf N=false):=(by show bf N=false;simp [bf,c]);have f:decide ((N:Int)<=65536)=false:=bv;go_enter func34,ntmps34;exact zz
 ·have F:Hid (bf N=false):=(by show bf N=false;simp [bf,b]);have l:decide ((4096:Int)<=N)=false:=bv;go_enter func34,ntmps34;exact zz
theorem gI:CE 203 #[.i J] R (.bool (jt J)):=by
 rcases Ee J with (rfl|rfl|rfl|rfl)|h;·go_enter func203,ntmps203;exact a00
 ·go_enter func203,ntmps203;exact a00
 ·go_enter func203,ntmps203;exact a00
 ·go_enter func203,ntmps203;exact a00
 ·have F:Hid (jt J=false):=KY h;obtain ⟨c,d,f,g⟩:=h;go_enter func203,ntmps203;exact zz
def fd (n:Nat) (addr size:Int):Int:=if gQ n addr size then addr-2147483648 else 0
theorem lz (w:R4) (hn:N<=1048576) (t:0<=Y) (p:Y<=18446744073709551615): CE 200 #[.slice M N O,.u Y,.i Z] w (.tuple #[.i (fd N Y Z),.bool (gQ N Y Z)]):=by
 cases j:bf N;·have b:Hid (gQ N Y Z=false):=(by show gQ N Y Z=false;simp [gQ,j]);have d:Hid (fd N Y Z=0):=tt;go_enter func200,ntmps200;go_wp2_with (go_at_call 34;refine (fx _ _ _ _ hn).mono ?_;rintro e c ⟨rfl,rfl⟩);go_ret2;exact ⟨ww,rfl⟩
 ·have u:=gu j;cases g:jt Z;·have b:Hid (gQ N Y Z=false):=(by show gQ N Y Z=false;simp [gQ,g]);have d:Hid (fd N Y Z=0):=tt;go_enter func200,ntmps200;go_wp2_with (first | (go_at_call 34;refine (fx _ _ _ _ hn).mono ?_;rintro e c ⟨rfl,rfl⟩) | (go_at_call 203;refine (gI _ _).mono ?_;rintro e c ⟨rfl,rfl⟩));go_ret2;exact ⟨ww,rfl⟩
  ·have l:Z=1\/Z=2\/Z=4\/Z=8:=of_decide_eq_true g;have r:1<=Z:=ab;have s:Z<=8:=ab;clear l;by_cases f:Y<2147483648;·have b:Hid (gQ N Y Z=false):=m5;have d:Hid (fd N Y Z=0):=tt;have m:decide (Y<2147483648):=kd;go_enter func200,ntmps200;go_wp2_with (first | (go_at_call 34;refine (fx _ _ _ _ hn).mono ?_;rintro e c ⟨rfl,rfl⟩) | (go_at_call 203;refine (gI _ _).mono ?_;rintro e c ⟨rfl,rfl⟩));go_ret2;exact ⟨ww,rfl⟩
   ·have m:decide (Y<2147483648)=false:=kd;by_cases q:Y-2147483648+Z<=N;·have b:Hid (gQ N Y Z):=(by show gQ N Y Z=true;simp [gQ,j,g];omega);have d:Hid (fd N Y Z=Y-2147483648):=(by show fd N Y Z=_;simp [fd,b.out]);have o:decide ((N:Int)-Z<Y-2147483648)=false:=bv;go_enter func200,ntmps200;go_wp2_with (first | (go_at_call 34;refine (fx _ _ _ _ hn).mono ?_;rintro e c ⟨rfl,rfl⟩) | (go_at_call 203;refine (gI _ _).mono ?_;rintro e c ⟨rfl,rfl⟩));go_ret2;exact ⟨ww,rfl⟩
    ·have b:Hid (gQ N Y Z=false):=m5;have d:Hid (fd N Y Z=0):=tt;have o:decide ((N:Int)-Z<Y-2147483648):=bv;go_enter func200,ntmps200;go_wp2_with (first | (go_at_call 34;refine (fx _ _ _ _ hn).mono ?_;rintro e c ⟨rfl,rfl⟩) | (go_at_call 203;refine (gI _ _).mono ?_;rintro e c ⟨rfl,rfl⟩));go_ret2;exact ⟨ww,rfl⟩
theorem uY (w:R4) (hr:bf N) (g:jt Z) (t:0<=Y) (p:Y<=18446744073709551615): CE 94 #[.slice M N O,.u Y,.i Z] w (.bool (gQ N Y Z)):=by
 have u:=gu hr;have l:Z=1\/Z=2\/Z=4\/Z=8:=of_decide_eq_true g;have q:1<=Z:=ab
 have r:Z<=8:=ab
 clear l;by_cases b:2147483648<=Y
 ·by_cases d:Y-2147483648<N
  ·by_cases f:Z<=N-(Y-2147483648);·have c:Hid (gQ N Y Z):=(by show gQ N Y Z=true;simp [gQ,hr,g];omega);have j:decide (2147483648<=Y):=lw;have m:decide (Y-2147483648<(N:Int)):=lg;have o:decide (Z<=(N:Int)-(Y-2147483648)):=kd;go_enter func94,ntmps94;go_wp2;go_ret;exact ⟨by rw [c.out];rfl,rfl⟩
   ·have c:Hid (gQ N Y Z=false):=m5;have j:decide (2147483648<=Y):=lw;have m:decide (Y-2147483648<(N:Int)):=lg;have o:decide (Z<=(N:Int)-(Y-2147483648))=false:=kd;exact a01
  ·have c:Hid (gQ N Y Z=false):=m5;have j:decide (2147483648<=Y):=lw;have m:decide (Y-2147483648<(N:Int))=false:=lg;exact a01
 ·have c:Hid (gQ N Y Z=false):=m5;have j:decide (2147483648<=Y)=false:=lw;exact a01
theorem uZ (zs:List Int) (w:R4) (hz:zs.length=N) (hn:N<=1048576) (hs:Sl .u8 w M zs) (p:∀ y ∈ zs,(Y1 .u8 y).wf) (u:1<=X) (hm:X<=8) (C:T+X<=N): CE 95 #[.slice M N O,.u (2147483648+(T:Int)),.i (X:Int)] w (.u (le zs T X)):=by
 have q:Hid (zs.length=N):=hz;have o:Hid (∀ y ∈ zs,(Y1 .u8 y).wf):=p;clear hz p;go_enter func95,ntmps95;go_wp2;go_loop [8,9] (λx i=>∃ j:Nat,j<=X/\i=.i ((j:Int)-1)/\x=.u (le zs (T+j) (X-j))) (λ_ i=>(intOf i+1).toNat);case atStart=>exact ⟨X,I5 _,rfl,by simp [le]⟩
 case round =>
  obtain ⟨j,D,rfl,rfl⟩:=hrel;by_cases t:1<=j
  ·obtain ⟨k,rfl⟩:∃ k,j=k+1:=⟨j-1,ab⟩;obtain ⟨b,z,rfl,B,s⟩:=hs (T+k) (by have:=q.out;omega);have g:=jg o.out (T+k);obtain ⟨x,d⟩:∃ x,x=zs.getD (T+k) 0:=⟨_,rfl⟩;obtain ⟨y,c⟩:∃ y,y=le zs (T+(k+1)) (X-(k+1)):=⟨_,rfl⟩;rw [<- d] at s g;rw [<- c];have l:=Sd zs (jg o.out) (X-(k+1)) (T+(k+1)) ab;rw [<- c] at l;have S:Hid (T3 .or .u64 (y*256) x=le zs (T+k) (X-k)):=(by show T3 .or .u64 (y*256) x=le zs (T+k) (X-k);rw [Sf y x l.1 l.2 g.1 g.2,show X-k=(X-(k+1))+1 from ab,le,d,c];rfl);clear d c;go_wp2;go_round;case rel=>exact ⟨k,ab,by go_num,by rw [<- S.out]⟩
   case measure=>simp [intOf]
  ·have r:j=0:=ab;subst r;exact a00
theorem Sk (d e b6 f:Int) (w:R4):(X9 251 (.agg #[.int .u8 J,.int .u8 K,.int .u8 Y,.int .u8 Z,.int .u8 d,.int .u8 e,.int .u8 b6,.int .u8 f]) (.i 0)).run prog w=.ok (.int .u8 J) w:=by kernel_rfl
theorem Sm (d e b6 f:Int) (w:R4):(X9 251 (.agg #[.int .u8 J,.int .u8 K,.int .u8 Y,.int .u8 Z,.int .u8 d,.int .u8 e,.int .u8 b6,.int .u8 f]) (.i 1)).run prog w=.ok (.int .u8 K) w:=by kernel_rfl
theorem Sn (d e b6 f:Int) (w:R4):(X9 251 (.agg #[.int .u8 J,.int .u8 K,.int .u8 Y,.int .u8 Z,.int .u8 d,.int .u8 e,.int .u8 b6,.int .u8 f]) (.i 2)).run prog w=.ok (.int .u8 Y) w:=by kernel_rfl
theorem So (d e b6 f:Int) (w:R4):(X9 251 (.agg #[.int .u8 J,.int .u8 K,.int .u8 Y,.int .u8 Z,.int .u8 d,.int .u8 e,.int .u8 b6,.int .u8 f]) (.i 3)).run prog w=.ok (.int .u8 Z) w:=by kernel_rfl
theorem Sp (a e b6 f:Int) (w:R4):(X9 251 (.agg #[.int .u8 J,.int .u8 K,.int .u8 Y,.int .u8 Z,.int .u8 a,.int .u8 e,.int .u8 b6,.int .u8 f]) (.i 4)).run prog w=.ok (.int .u8 a) w:=by kernel_rfl
theorem Sq (e a b6 f:Int) (w:R4):(X9 251 (.agg #[.int .u8 J,.int .u8 K,.int .u8 Y,.int .u8 Z,.int .u8 e,.int .u8 a,.int .u8 b6,.int .u8 f]) (.i 5)).run prog w=.ok (.int .u8 a) w:=by kernel_rfl
theorem Ss (d e b6 f:Int) (w:R4):(X9 251 (.agg #[.int .u8 J,.int .u8 K,.int .u8 Y,.int .u8 Z,.int .u8 d,.int .u8 e,.int .u8 b6,.int .u8 f]) (.i 6)).run prog w=.ok (.int .u8 b6) w:=by kernel_rfl
theorem St (e f b6 a:Int) (w:R4):(X9 251 (.agg #[.int .u8 J,.int .u8 K,.int .u8 Y,.int .u8 Z,.int .u8 e,.int .u8 f,.int .u8 b6,.int .u8 a]) (.i 7)).run prog w=.ok (.int .u8 a) w:=by kernel_rfl
theorem Vx (d e b6 f:Int) (w:R4) (k:Nat) (hk:k<8): (X9 251 (.agg #[.int .u8 J,.int .u8 K,.int .u8 Y,.int .u8 Z,.int .u8 d,.int .u8 e,.int .u8 b6,.int .u8 f]) (.i (k:Int))).run prog w=.ok (.int .u8 ([J,K,Y,Z,d,e,b6,f].getD k 0)) w:=by
 match k,hk with
 | 0,_=>exact Sk J K Y Z d e b6 f w
 | 1,_=>exact Sm J K Y Z d e b6 f w
 | 2,_=>exact Sn J K Y Z d e b6 f w
 | 3,_=>exact So J K Y Z d e b6 f w
 | 4,_=>exact Sp J K Y Z d e b6 f w
 | 5,_=>exact Sq J K Y Z d e b6 f w
 | 6,_=>exact Ss J K Y Z d e b6 f w
 | 7,_=>exact St J K Y Z d e b6 f w
theorem vb (b2 g j l b6 m:Int) (w:R4) (hb:V=[Y,Z,b2,g,j,l,b6,m]) (q:∀ i,0<=V.getD i 0/\V.getD i 0<=255): CB 201 #[.agg #[.int .u8 Y,.int .u8 Z,.int .u8 b2,.int .u8 g,.int .u8 j,.int .u8 l,.int .u8 b6,.int .u8 m]] w (.u (le V 0 8)):=by
 have r:Hid (V=[Y,Z,b2,g,j,l,b6,m]):=hb;have p:Hid (∀ i,0<=V.getD i 0/\V.getD i 0<=255):=q;clear hb q;go_enter func201,ntmps201;go_wp2;go_loop [3,7] (λx i=>∃ k:Nat,k<=8/\i=.i (k:Int)/\x=.u (le V 0 k)) (λ_ i=>8-(intOf i).toNat);case atStart=>exact ⟨0,ab,rfl,rfl⟩
 case round =>
  obtain ⟨k,B,rfl,rfl⟩:=hrel;by_cases o:k<8
  ·obtain ⟨x,b⟩:∃ x,x=V.getD k 0:=⟨_,rfl⟩;obtain ⟨y,c⟩:∃ y,y=le V 0 k:=⟨_,rfl⟩;have u:=p.out k;have z:=yj V p.out k 0;rw [<- b] at u;rw [<- c] at z ⊢;have t:∀ w,(X9 251 (.agg #[.int .u8 Y,.int .u8 Z,.int .u8 b2,.int .u8 g,.int .u8 j,.int .u8 l,.int .u8 b6,.int .u8 m]) (.i (k:Int))).run prog w=.ok (.int .u8 x) w:=(by intro w;rw [b,r.out];exact Vx Y Z b2 g j l b6 m w k o);have S:Hid (T3 .or .u64 y (Uz.wrap (x*2^(8*k)))=le V 0 (k+1)):=(by show T3 .or .u64 y (Uz.wrap (x*2^(8*k)))=le V 0 (k+1);have:=IQ V p.out 0 k o;rw [L0] at this;rw [b,c];exact this);clear b c;go_wp2;go_round;case rel=>exact ⟨k+1,ab,by go_num,by rw [S.out]⟩
   case measure=>simp [intOf];omega
  ·have s:k=8:=ab;subst s;go_wp2;go_ret;exact ⟨rfl,bal _ _⟩
theorem qy (c:1<=N) (hm:N<=8) (b:0<=J) (hx:J<18446744073709551616): CE 202 #[.u J,.i (N:Int)] R (.u (J%256^N)):=by have F:Hid (Uz.wrap (J*2^(64-8*N))/2^(64-8*N)=J%256^N):=yk J N c hm b;go_enter func202,ntmps202;go_wp2;go_ret;exact ⟨by rw [<- F.out];rfl,rfl⟩
def mT (zs:List Int) (n:Nat) (addr size:Int):Int:=if gQ n addr size then le zs (addr-2147483648).toNat size.toNat else 0
theorem Ru (w:R4) (hz:V.length=T) (u:O+8<=T) (hs:Sl .u8 w (some ⟨N,0,none⟩) V) (r:∀ y ∈ V,(Y1 .u8 y).wf): ∃ d f h j k l m o:Int,∃ B:{bs:List Int // bs=[d,f,h,j,k,l,m,o]}, w.cell? ⟨N,O,none⟩=some (.int .u8 d)/\w.cell? ⟨N,O+1,none⟩=some (.int .u8 f)/\w.cell? ⟨N,O+2,none⟩=some (.int .u8 h)/\w.cell? ⟨N,O+3,none⟩=some (.int .u8 j) /\ w.cell? ⟨N,O+4,none⟩=some (.int .u8 k)/\w.cell? ⟨N,O+5,none⟩=some (.int .u8 l)/\w.cell? ⟨N,O+6,none⟩=some (.int .u8 m)/\w.cell? ⟨N,O+7,none⟩=some (.int .u8 o) /\ Hid (∀ i,0<=B.1.getD i 0/\B.1.getD i 0<=255)/\Hid (le B.1 0 8=le V O 8):=by
 have c:∀ i,i<8->w.cell? ⟨N,O+i,none⟩=some (.int .u8 (V.getD (O+i) 0)):=by intro i t;obtain ⟨b,s,e,_,q⟩:=hs (O+i) ab;simp only [Option.some.injEq,Addr.mk.injEq,and_true] at e;obtain ⟨rfl,rfl⟩:=e;rw [L0] at q;exact q
 have a:=jg r;refine ⟨_,_,_,_,_,_,_,_,⟨[V.getD O 0,V.getD (O+1) 0,V.getD (O+2) 0,V.getD (O+3) 0,V.getD (O+4) 0,V.getD (O+5) 0,V.getD (O+6) 0,V.getD (O+7) 0],rfl⟩,c 0 ab,c 1 ab,c 2 ab,c 3 ab,c 4 ab,c 5 ab,c 6 ab,c 7 ab,?_,?_⟩
 ·intro i;match i with
  | 0=>exact a O
  | 1=>exact a (O+1)
  | 2=>exact a (O+2)
  | 3=>exact a (O+3)
  | 4=>exact a (O+4)
  | 5=>exact a (O+5)
  | 6=>exact a (O+6)
  | 7=>exact a (O+7)
  | i+8=>simp
 ·show le [V.getD O 0,V.getD (O+1) 0,V.getD (O+2) 0,V.getD (O+3) 0,V.getD (O+4) 0,V.getD (O+5) 0,V.getD (O+6) 0,V.getD (O+7) 0] 0 8=le V O 8;rfl
theorem qz (w:R4) (hz:V.length=O) (hn:O<=1048576) (hs:Sl .u8 w (some ⟨N,0,none⟩) V) (Q:∀ y ∈ V,(Y1 .u8 y).wf) (n:O<=T) (I:T<=9223372036854775807) (G:0<=Y) (j:Y<=18446744073709551615): CB 169 #[.slice (some ⟨N,0,none⟩) O T,.u Y,.i Z] w (.tuple #[.u (mT V O Y Z),.bool (gQ O Y Z)]):=by
 have K:Hid (V.length=O):=hz;have c:Hid (∀ y ∈ V,(Y1 .u8 y).wf):=Q;clear hz Q;cases b:gQ O Y Z;·have q:Hid (mT V O Y Z=0):=(by show mT V O Y Z=0;simp [mT,b]);go_enter func169,ntmps169;go_wp2_with (go_at_call 200;refine (lz _ _ _ _ _ _ hn G j).mono ?_;rintro e r ⟨rfl,rfl⟩);go_ret2;exact ⟨by rw [q.out];rfl,V8 _ _⟩
 ·obtain ⟨_,_,hb1,hb2,hs1,hs2,hn1,hn2⟩:=ku b;obtain ⟨f,hf⟩:∃ f:Nat,Y=2147483648+(f:Int):=⟨(Y-2147483648).toNat,ab⟩;obtain ⟨m,hm⟩:∃ m:Nat,Z=(m:Int):=⟨Z.toNat,ab⟩;subst hf hm;have q:Hid (mT V O (2147483648+(f:Int)) (m:Int)=le V f m):=(by show mT V O (2147483648+(f:Int)) (m:Int)=le V f m;simp only [mT,b,if_true];rw [show (2147483648+(f:Int)-2147483648).toNat=f from ab,Y7]);have M:Hid (fd O (2147483648+(f:Int)) (m:Int)=f):=(by show fd O (2147483648+(f:Int)) (m:Int)=f;simp only [fd,b,if_true];omega);by_cases hle:f<=O-8;·have H:∀ w,(Y0 251 (.slice (some ⟨N,f,none⟩) 8 (T-f))).run prog w=.ok (.p N f) w:=λw=>V4 w 251 _ 8 _ 8 (T-f) underlying251 ab;obtain ⟨s,t,u,z,A,C,E,F,B,S,cap,U,zs,W,X,addr,size,l,L⟩:=Ru N f O V w K.out ab hs c.out;go_enter func169,ntmps169;go_wp2_with (first | (go_at_call 200;refine (lz _ _ _ _ _ _ hn G j).mono ?_;rw [M.out];rintro e r ⟨rfl,rfl⟩) | (go_at_call 201;refine (vb B.1 s t u z A C E F _ B.2 l.out).mono ?_;rw [L.out];rintro e w1 ⟨rfl,o⟩));have R:Hid (le V f 8%256^m=le V f m):=(by have:=KT V (jg c.out) f m (8-m);rw [show m+(8-m)=8 from ab] at this;exact this);have g:=uM V (jg c.out) 8 f ab;refine (qy (le V f 8) m _ ab ab g.1 g.2).mono ?_;rw [R.out];rintro e w2 ⟨rfl,rfl⟩;go_wp2_with fail;go_ret2;exact ⟨by rw [q.out];rfl,o⟩
  ·obtain ⟨p,hp⟩:∃ p,O=p+8:=⟨O-8,ab⟩;obtain ⟨d,hd⟩:∃ d,f=p+d:=⟨f-p,ab⟩;subst hp hd;have H:∀ w,(Y0 251 (.slice (some ⟨N,p,none⟩) 8 (T-p))).run prog w=.ok (.p N p) w:=λw=>V4 w 251 _ 8 _ 8 (T-p) underlying251 ab;obtain ⟨s,t,u,z,A,C,E,F,B,S,cap,U,zs,W,X,addr,size,l,L⟩:=Ru N p (p+8) V w K.out ab hs c.out;have P:gQ (p+8) (2147483648+((p:Int)+(d:Int))) (m:Int):=(by rw [<- Int.natCast_add];exact b);have D:Hid (le V p 8/2^(8*d)=le V (p+d) (8-d)):=(by show le V p 8/2^(8*d)=le V (p+d) (8-d);have:=Se V (jg c.out) p d (8-d);rw [show d+(8-d)=8 from ab] at this;rw [uN];exact this);have R:Hid (le V (p+d) (8-d)%256^m=le V (p+d) m):=(by have:=KT V (jg c.out) (p+d) m (8-d-m);rw [show m+(8-d-m)=8-d from ab] at this;exact this);have J:Hid (0<=le V (p+d) (8-d)/\le V (p+d) (8-d)<18446744073709551616):=uM V (jg c.out) (8-d) (p+d) ab;go_enter func169,ntmps169;go_wp2_with (first | (go_at_call 200;refine (lz _ _ _ _ _ _ hn G j).mono ?_;rw [M.out];rintro e r ⟨rfl,rfl⟩) | (go_at_call 201;refine (vb B.1 s t u z A C E F _ B.2 l.out).mono ?_;rw [L.out];rintro e w1 ⟨rfl,o⟩));rw [D.out];refine (qy (le V (p+d) (8-d)) m _ ab ab J.out.1 J.out.2).mono ?_;rw [R.out];rintro e w2 ⟨rfl,rfl⟩;go_wp2_with fail;go_ret2;exact ⟨by rw [q.out];rfl,o⟩
theorem yo (m base:Nat) (zs:List Int) (x:Int) (w:R4) (hn:O<=1048576) (hm:m<=8) (E:X+m<=O) (q:0<=x) (s:x<=18446744073709551615) (c:w.ownsRow base 5 1 (.slice (some ⟨N,0,none⟩) O T) O (zs.map (P2 .u8))): Calls prog 55 #[.slice (some ⟨N,0,none⟩) O T,.u (2147483648+(X:Int)),.i (m:Int),.u x] w λe z=>e=.returned (.tuple #[]) /\ z.ownsRow base 5 1 (.slice (some ⟨N,0,none⟩) O T) O ((kU zs X x m).map (P2 .u8))/\w.grownBy z (some N):=by
 have A:Hid (zs.length=O):=by show zs.length=O;have:=c.1;simpa using this
 go_enter func55,ntmps55;go_wp2;go_loopw [3,9] (λy i wr=>∃ j:Nat,j<=m/\i=.i (j:Int)/\y=.u (x/256^j)/\wr.ownsRow base 5 1 (.slice (some ⟨N,0,none⟩) O T) O ((kU zs X x j).map (P2 .u8))/\w.grownBy wr (some N))
  (λ_ i _=>m-(intOf i).toNat)
 case atStart=>exact ⟨0,O1 _,rfl,di,c,nz _ _⟩
 case round =>
  obtain ⟨j,F,rfl,rfl,b,p⟩:=hrel;clear c;by_cases C:j<m
  ·have B:wr.frozen? ⟨N,X+j,none⟩=false:=b.frozenAt (X+j);have d:=b.stored (X+j) (.int .u8 (x/256^j%256));obtain ⟨G,D⟩:∃ v,wr.cell? ⟨N,X+j,none⟩=some v:=(by rw [b.cellAt (X+j) ab];exact ⟨_,A5 (by rw [F0,jA,A.out];omega)⟩);rw [qj] at d;have o:(wr.setCell ⟨N,X+j,none⟩ (.int .u8 (x/256^j%256))).ownsRow base 5 1 (.slice (some ⟨N,0,none⟩) O T) O ((kU zs X x (j+1)).map (P2 .u8)):=d.1;have l:=aY p d.2;have g:Hid (x/256^(j+1)=x/256^j/256):=(by show x/256^(j+1)=x/256^j/256;rw [Int.pow_succ,Int.ediv_ediv_of_nonneg (Y5 (Y6 ab))]);have t:0<=x/256^j:=Y8 q (Y5 (Y6 ab));have u:x/256^j<=18446744073709551615:=Int.le_trans (Int.ediv_le_self _ q) s;obtain ⟨y,r⟩:∃ y,y=x/256^j:=⟨_,rfl⟩;rw [<- r] at o l t u g ⊢;clear d b r;go_wp2;go_roundw;case rel=>exact ⟨j+1,ab,by go_num,by rw [g.out],o,l⟩
   case measure=>simp [intOf];omega
  ·have:j=m:=by omega
   subst this;go_wp2;go_end0;exact ⟨rfl,b,p⟩
def iX (zs:List Int) (n:Nat) (addr size x:Int):Nat:=(kH zs n addr size x).length
theorem Pa:R.ownsRow T 5 1 (.slice none 0 0) 0 (([]:List Int).map (P2 .u8)):=World.ownsRow_nil R T 5 1
theorem xw (x:Int) (w:R4) (hz:V.length=N) (hn:N<=1048576) (hs:Sl .u8 w M V) (R:0<=Y) (A:Y<=18446744073709551615) (L:0<=x) (hx1:x<=18446744073709551615): Calls prog 175 #[.slice M N O,.u Y,.i Z,.u x] w λe F=>∃ (Q:Option R7) (c:Nat),e=.returned (.tuple #[.slice Q (iX V N Y Z x) c,.bool (gQ N Y Z)]) /\ F.ownsRow w.heap.size 5 1 (.slice Q (iX V N Y Z x) c) (iX V N Y Z x) ((kH V N Y Z x).map (P2 .u8))/\Bw w F:=by
 have E:Hid (V.length=N):=hz;clear hz;cases q:gQ N Y Z;·have z:Hid (kH V N Y Z x=[]):=(by show kH V N Y Z x=[];simp [kH,q]);have G:Hid (iX V N Y Z x=0):=(by show iX V N Y Z x=0;simp [iX,z.out]);go_enter func175,ntmps175;go_wp2_with (go_at_call 200;refine (lz _ _ _ _ _ _ hn R A).mono ?_;rintro e F ⟨rfl,rfl⟩);go_ret2;rw [z.out,G.out];exact ⟨_,_,rfl,Pa _ _,V8 _ _⟩
 ·obtain ⟨hr,hsz,W,X,hs1,hs2,hn1,hn2⟩:=ku q;obtain ⟨f,addr⟩:∃ f:Nat,Y=2147483648+(f:Int):=⟨(Y-2147483648).toNat,ab⟩;obtain ⟨m,hm⟩:∃ m:Nat,Z=(m:Int):=⟨Z.toNat,ab⟩;subst addr hm;have z:Hid (kH V N (2147483648+(f:Int)) (m:Int) x=kU V f x m):=(by show kH V N (2147483648+(f:Int)) (m:Int) x=kU V f x m;simp only [kH,q,if_true];rw [show (2147483648+(f:Int)-2147483648).toNat=f from ab,Y7]);have G:Hid (iX V N (2147483648+(f:Int)) (m:Int) x=N):=(by show iX V N (2147483648+(f:Int)) (m:Int) x=N;rw [iX,z.out,jA,E.out]);have zs:Hid (fd N (2147483648+(f:Int)) (m:Int)=f):=(by show fd N (2147483648+(f:Int)) (m:Int)=f;simp only [fd,q,if_true];omega);obtain ⟨b,P,rfl,S,I⟩:=hs 0 (by have:=E.out;omega);clear I;obtain ⟨U,T,n,D,cap⟩:=info_parts info5;have C:(prog.info? 5).map (·.size)=some 1:=(by rw [T];simp [D]);have B:U.bytes*N<=281474976710656:=(by rw [cap];omega);have H:N<=maxLen:=fb;go_enter func175,ntmps175;go_wp2_with (first | (go_at_call 200;refine (lz _ _ _ _ _ _ hn R A).mono ?_;rw [zs.out];rintro e F ⟨rfl,J⟩;have K:=J.symm;subst K) | (at_make;refine wpList_make_full _ rfl (.tmp 24) (.tmp 24) 22 rfl w.heap.size 5 U (.int .u8 0) 1 underlying22 T n D .i64 .i64 _ _ N rfl rfl rfl rfl B H (I5 _) ?_;intro w1 s g) | (refine mS rfl (.tmp 26) (.tmp 27) 22 rfl 5 underlying22 C .u8 w.heap.size w.heap.size N N b P O V _ rfl rfl s (hs.below ((V8 _ _).grown g (I5 _) wl)) E.out ?_;intro w2 p l));have o:Bw w w2:=X3 ((V8 _ _).grown g (I5 _) wl) l g.size (by intro k h;cases h;exact I5 _);clear s g l hs;go_loopw [30] (λi wr=>∃ j:Nat,j<=m/\i=.i (j:Int)/\wr.ownsRow w.heap.size 5 1 (.slice (some ⟨w.heap.size,0,none⟩) N N) N ((kU V f x j).map (P2 .u8))/\Bw w wr)
   (λi _=>m-(intOf i).toNat)
  case atStart=>exact ⟨0,O1 _,rfl,p,o⟩
  case round =>
   obtain ⟨j,hj,rfl,d,r⟩:=hrel;clear p o;by_cases hlt:j<m
   ·have size:wr.frozen? ⟨w.heap.size,f+j,none⟩=false:=d.frozenAt (f+j);have y:=(d.stored (f+j) (.int .u8 (x/256^j%256))).1;obtain ⟨v3,hv3⟩:∃ v,wr.cell? ⟨w.heap.size,f+j,none⟩=some v:=(by rw [d.cellAt (f+j) ab];exact ⟨_,A5 (by rw [F0,jA,E.out];omega)⟩);rw [qj] at y;have t:(wr.setCell ⟨w.heap.size,f+j,none⟩ (.int .u8 (x/256^j%256))).ownsRow w.heap.size 5 1 (.slice (some ⟨w.heap.size,0,none⟩) N N) N ((kU V f x (j+1)).map (P2 .u8)):=y;have u:Bw w (wr.setCell ⟨w.heap.size,f+j,none⟩ (.int .u8 (x/256^j%256))):=r.setCell (I5 _) _;have a:0<=x/256^j:=Y8 L (Y5 (Y6 ab));clear y d;rw [<- uN] at t u a;go_wp2;go_roundw;case rel=>exact ⟨j+1,ab,by go_num,t,u⟩
    case measure=>simp [intOf];omega
   ·have:j=m:=by omega
    subst this;go_wp2;go_ret2;rw [G.out,z.out];exact ⟨_,_,rfl,d,r⟩
structure FRow where
 t:S2
 v:R6
 n:Nat
 xs:List R6
structure bj (B E:Nat) (w:R4) (L:List FRow):Prop where
 own:∀ r ∈ L,w.ownsRow B r.t 1 r.v r.n r.xs
 hi:∀ r ∈ L,∀ k,r.v.ownBlock=some k->k<E
 ne:L.Pairwise (λr s=>∀ k,r.v.ownBlock=some k->s.v.ownBlock≠some k)
structure lG (B E:Nat) (w w':R4):Prop where
 os:w'.os=w.os
 tape:w'.tape=w.tape
 output:w'.output=w.output
 size:w.heap.size<=w'.heap.size
 block:∀ k,k<w.heap.size->(k<B\/E<=k)->w'.heap[k]?=w.heap[k]?
theorem lG.refl:lG N O R R:=⟨rfl,rfl,rfl,I5 _,λ_ _ _=>rfl⟩
theorem lG.of_below {E:Nat} (h:Bw b a):lG B E b a:=⟨h.os,h.tape,h.output,h.size,λk w' _=>h.block k w'⟩
theorem lG.below (h:lG B d b a) (w':t<=B) (w:t<=b.heap.size):Below t b a:=⟨h.os,h.tape,h.output,h.size,λk c=>h.block k ab (.inl ab)⟩
theorem lG.of_grown (h:b.grownBy a P) (hr:∀ k,P=some k->B<=k/\k<t):lG B t b a :=
 ⟨h.os,h.tape,h.output,h.size,λk w' w=>h.block k w' (λe=>by have:=hr k e.symm;omega)⟩
theorem dQ (h:b.ownsRow B n 1 x t Q) (hk:∀ k,x.ownBlock=some k->w'.heap[k]?=b.heap[k]?):w'.ownsRow B n 1 x t Q:=by
 refine ⟨h.1,?_⟩;rcases h.2 with w|⟨g,cap,a,c,w,d,e⟩;·exact .inl w
 ·exact .inr ⟨g,cap,a,c,w,(hk g (by rw [c];rfl)).trans d,e⟩
theorem bj.mono {L:List FRow} (h:bj B t b L) (hk:∀ k,B<=k->k<t->k<b.heap.size->w'.heap[k]?=b.heap[k]?):bj B t w' L :=
 ⟨λr a=>dQ (h.own r a) (λk e=>hk k ((h.own r a).lt k e).1 (h.hi r a k e) ((h.own r a).lt k e).2),h.hi,h.ne⟩
theorem bj.below {L:List FRow} (h:bj B t b L) (hb:Bw b a):bj B t a L:=h.mono λk _ _ w'=>hb.block k w'
theorem bj.low {B B':Nat} {L:List FRow} (h:bj B t b L) (hb:B'<=B) (he:t<=d):bj B' d b L :=
 ⟨λr a=>cQ (h.own r a) hb,λr a k e=>K1 (h.hi r a k e) he,h.ne⟩
theorem bj.set {L:List FRow} (h:bj B t b L) (p:R7) (v:R6) (d:p.block<B\/t<=p.block):bj B t (b.setCell p v) L:=h.mono λk a w c=>X5 b p v k ab
theorem bj.nil:bj N O R []:=⟨λr a=>(nomatch a),λr a=>(nomatch a),List.Pairwise.nil⟩
theorem bj.cons {L:List FRow} (h:bj B t b L) (r:FRow) (base E':Nat) (w:b.ownsRow base r.t 1 r.v r.n r.xs) (d:t<=base) (c:B<=base) (f:b.heap.size<=E') (h4:t<=E'):bj B E' b (r::L):=by
 refine ⟨λs a=>?_,λs a k e=>?_,A8.2 ⟨λs a k e e2=>?_,h.ne⟩⟩
 ·rcases C6.1 a with rfl|a;·exact cQ w c
  ·exact h.own s a
 ·rcases C6.1 a with rfl|a;·have:=(w.lt k e).2;omega
  ·have:=h.hi s a k e;omega
 ·have:=(w.lt k e).1;have:=h.hi s a k e2;omega
theorem bj.snoc {L:List FRow} (h:bj B t b L) (r:FRow) (base E':Nat) (i:b.ownsRow base r.t 1 r.v r.n r.xs) (d:t<=base) (f:B<=base) (g:b.heap.size<=E') (h4:t<=E'):bj B E' b (L++[r]):=by
 have c:=h.cons r base E' i d f g h4;refine ⟨λs a=>c.own s ?_,λs a=>c.hi s ?_,F3.2 ⟨h.ne,D4 _ _,λs a q w k e e2=>?_⟩⟩
 ·rcases D8.1 a with a|a;·exact A6 _ a
  ·rw [D1.1 a];exact A9 ..
 ·rcases D8.1 a with a|a;·exact A6 _ a
  ·rw [D1.1 a];exact A9 ..
 ·simp only [D1] at w;subst w;exact (A8.1 c.ne).1 s a k e2 e
theorem bj.mark {L1 L2:List FRow} {r:FRow} (h:bj B t b (L1++r::L2)) (g:b.grownBy a r.v.ownBlock) (xs:List R6) (j:a.ownsRow B r.t 1 r.v r.n xs):bj B t a (L1++⟨r.t,r.v,r.n,xs⟩::L2)/\lG B t b a:=by
 have w:=F3.1 h.ne;have c:=A8.1 w.2.1;have kept:∀ s ∈ L1++r::L2,(∀ k,s.v.ownBlock=some k->r.v.ownBlock≠some k)->a.ownsRow B s.t 1 s.v s.n s.xs:=λs w' i=>dQ (h.own s w') (λk e=>g.block k ((h.own s w').lt k e).2 (λe2=>i k e e2.symm));have f:r ∈ L1++r::L2:=di
 refine ⟨⟨λs w'=>?_,λs w' k e=>?_,?_⟩,lG.of_grown g λk e=>⟨((h.own r f).lt k e).1,h.hi r f k e⟩⟩
 ·rcases D8.1 w' with w' | w';·exact kept s (I1 _ w') (λk e=>w.2.2 s w' r (A9 ..) k e)
  ·rcases C6.1 w' with rfl|w';·exact j
   ·exact kept s (H8 _ (A6 _ w')) (λk e e2=>c.1 s w' k e2 e)
 ·rcases D8.1 w' with w'|w';·exact h.hi s (I1 _ w') k e
  ·rcases C6.1 w' with rfl|w';·exact h.hi r f k e
   ·exact h.hi s (H8 _ (A6 _ w')) k e
 ·refine F3.2 ⟨w.1,A8.2 ⟨λs w' k e=>c.1 s w' k e,c.2⟩,λs w' q d k e=>?_⟩;rcases C6.1 d with rfl | d;·exact w.2.2 s w' r (A9 ..) k e
  ·exact w.2.2 s w' q (A6 _ d) k e
def aE (a:Option R7) (n c:Nat) (xs:List Int):FRow:=⟨5,.slice a n c,n,xs.map (P2 .u8)⟩
def eX (a1:Option R7) (a c1:Nat) (xs:List Int) (a2:Option R7) (b c2:Nat) (ys:List Int):List FRow:=[aE a1 a c1 xs,aE a2 b c2 ys]
theorem bj.in_ (h:bj B t b (eX l d f e y c g E)):Sl .u8 b l e:=fJ (h.own (aE l d f e) tk)
theorem bj.out_ (h:bj B t b (eX l d f e y c g E)):Sl .u8 b y E:=fJ (h.own (aE y c g E) tk)
theorem aq {p:Prop} (h:p):Hid p:=h
theorem aD (hb:Bw b a) {g:Nat} {o:Obj} (h:b.heap[g]?=some o):a.heap[g]?=some o:=by rw [hb.block g (Y2.1 h).1];exact h
theorem aQ (h:b.heap[g]?=some (.cells #[x,j,o,k,W,s] n (0,0))):b.cell? ⟨g,0,none⟩=some x/\b.cell? ⟨g,1,none⟩=some j/\b.cell? ⟨g,2,none⟩=some o/\b.cell? ⟨g,3,none⟩=some k/\b.cell? ⟨g,4,none⟩=some W/\b.cell? ⟨g,5,none⟩=some s:=by refine ⟨?_,?_,?_,?_,?_,?_⟩<;>simp [X7,h]
theorem dD (h:b.heap[g]?=some (.cells q n (0,0))) (i:Nat):b.frozen? ⟨g,i,none⟩=false:=by simp [World.frozen?,h]
theorem mn (h:b.heap[g]?=some (.cells q n (0,0))):b.frozen? ⟨g,0,none⟩=false/\b.frozen? ⟨g,1,none⟩=false/\b.frozen? ⟨g,2,none⟩=false/\b.frozen? ⟨g,3,none⟩=false/\b.frozen? ⟨g,4,none⟩=false/\b.frozen? ⟨g,5,none⟩=false :=
 ⟨dD h 0,dD h 1,dD h 2,dD h 3,dD h 4,dD h 5⟩
theorem jR (hb:Below ((w.alloc o1).alloc o2).heap.size ((w.alloc o1).alloc o2) b):b.heap[w.heap.size]?=some o1/\b.heap[w.heap.size+1]?=some o2:=by have e2:=R8 (w.alloc o1) o2;rw [X6] at e2;exact ⟨aD hb ((X0 _ _ _ eh).trans (R8 w o1)),aD hb e2⟩
theorem Ug (hb:Below (((w.alloc o1).alloc o2).alloc o3).heap.size (((w.alloc o1).alloc o2).alloc o3) b): b.heap[w.heap.size]?=some o1/\b.heap[w.heap.size+1]?=some o2/\b.heap[w.heap.size+1+1]?=some o3:=by have e3:=R8 ((w.alloc o1).alloc o2) o3;rw [X6,X6] at e3;have h:=jR (w:=w) (o1:=o1) (o2:=o2) (V8 _ ((w.alloc o1).alloc o2));exact ⟨aD hb ((X0 _ _ _ eh).trans h.1),aD hb ((X0 _ _ _ eh).trans h.2),aD hb e3⟩
theorem bH (h:b.heap[g]?=some (.cells q n z)) (i:Nat) (v:R6): (b.setCell ⟨g,i,none⟩ v).heap[g]?=some (.cells (q.setIfInBounds i v) n z):=by simp [X8,Array.getElem?_modify,h]
theorem fT (h:b.heap[g]?=some m) (p:R7) (v:R6) (a:g≠p.block):(b.setCell p v).heap[g]?=some m:=(X5 b p v g a).trans h
theorem aO (p:R7) (v:R6):(R.setCell p v).heap.size=R.heap.size:=by simp [X8]
theorem aU:(prog.info? 27).map (·.size)=some 6:=by kernel_rfl
def Su (w:R4) (g:Nat) (a b c x3 d e:R6):World:=(((((w.setCell ⟨g,0,none⟩ a).setCell ⟨g,1,none⟩ b).setCell ⟨g,2,none⟩ c).setCell ⟨g,3,none⟩ x3).setCell ⟨g,4,none⟩ d).setCell ⟨g,5,none⟩ e
theorem fj (h:b.heap[g]?=some (.cells #[x,j,o,k,W,s] n z)) (i a d x3 l m:R6):(Su b g i a d x3 l m).heap[g]?=some (.cells #[i,a,d,x3,l,m] n z):=
 bH (bH (bH (bH (bH (bH h 0 i) 1 a) 2 d) 3 x3) 4 l) 5 m
theorem dE (h:Below B b a) {g:Nat} (w:B<=g) (v c d x3 e f:R6):Below B b (Su a g v c d x3 e f):=
 (((((h.setCell (by exact w) v).setCell (by exact w) c).setCell (by exact w) d).setCell (by exact w) x3).setCell (by exact w) e).setCell (by exact w) f
theorem bj.put6 {L:List FRow} (h:bj B t b L) (g:Nat) (a:g<B\/t<=g) (w c d x3 e f:R6):bj B t (Su b g w c d x3 e f) L :=
 (((((h.set ⟨g,0,none⟩ w a).set ⟨g,1,none⟩ c a).set ⟨g,2,none⟩ d a).set ⟨g,3,none⟩ x3 a).set ⟨g,4,none⟩ e a).set ⟨g,5,none⟩ f a
theorem jl (hb:T<=R.heap.size) (o:Obj) (a:o=.cells #[] 5 (0,0)):(R.alloc o).ownsRow T 5 1 (.slice (some ⟨R.heap.size,0,none⟩) 0 0) 0 []:=by subst a;exact World.ownsRow_lit R #[] 0 hb fb rfl
theorem it (p:F.guard=none) (s x:Operand) (Q:F.op=.call {callee:=.builtin .append,args:=#[s,x],argTypes:=#[22,22]}) (base g:Nat) (hs:G.eval s=.slice (some ⟨g,0,none⟩) 0 0) (d:b.ownsRow base 5 1 (.slice (some ⟨g,0,none⟩) 0 0) 0 []) (ad:Option R7) (m c:Nat) (zs:List Int) (hx:G.eval x=.slice ad m c) (hz:zs.length=m) (hm:m<=1048576) (q:Sl .u8 b ad zs) (f:base<=b.heap.size) (h:∀ l n t,t.ownsRow base 5 1 (.slice l m n) m (zs.map (P2 .u8))->b.grownBy t (some g)->wpList prog C I D (G.put F.dst (.slice l m n)) t):wpList prog C I (F::D) G b:=by
 obtain ⟨J,H,B,r,rest⟩:=info_parts info5;cases ad with
 | none =>
   have z:m=0:=by
    rcases L6 m with a|a;·exact a
    ·obtain ⟨w,o,e,_⟩:=q 0 ab;cases e
   subst z;have E:zs=[]:=List.length_eq_zero_iff.1 hz;subst E;refine wpList_plain p λK O=>?_;have S:=run_append_room_src (P:=prog) b 22 22 F.type 5 J underlying22 H g 0 0 0 (.slice none 0 c) 0 [] (Src.ofNil b underlying22 c) ab (λj i=>by simp at i) (λj i=>by simp at i);unfold Oper.wp execOp;simp only [Q,resolve,invoke,builtin,Sem.run_bind,Sem.run_pure,Result.andThen_ok,List.map_toArray,List.map_cons,List.map_nil,hs,hx,S];exact O _ _ (h _ _ b d ⟨rfl,rfl,rfl,I5 _,λ_ _ _=>rfl⟩)
 | some A =>
   have k:∀ j u,(zs.map (P2 .u8))[j]?=some u->b.cell? (A.add j)=some u:=by
    intro j u v;have i:j<zs.length:=by
     rcases K0 j zs.length with h|h;·exact h
     ·rw [C5 et] at v;cases v
    obtain ⟨w,o,e,_,R⟩:=q j i;cases e;rw [zt,R];rw [I2,A5 i] at v;rw [D3,A5 i];exact v
   refine wpList_append_own _ p s x 22 Q base 5 J (.int .u8 0) 1 1 underlying22 H B r rest rfl bc _ 0 [] hs d A m c (zs.map (P2 .u8)) hx (by rw [F0,hz];omega) k (T5 _ _) fb ab f ?_;intro U t y N W;simp only [L0,List.nil_append] at y;have T:∃ l n,U=.slice l m n:=by
    rcases y.2 with ⟨e,M⟩|⟨V,cap,L,e,_⟩;·exact ⟨none,0,by rw [e,M]⟩
    ·exact ⟨_,_,e⟩
   obtain ⟨l,n,rfl⟩:=T;exact h l n t y N
structure DV where
 t:Int
 cm:Int
 so:Bool
 xs:List Int
 ys:List Int
 ir:Int
def zeroD:DV:=⟨0,0,false,[],[],0⟩
def fl (D:DV) (a1:Option R7) (c1:Nat) (a2:Option R7) (c2:Nat):Array Value:=#[.u D.t,.u D.cm,.bool D.so,.slice a1 D.xs.length c1,.slice a2 D.ys.length c2,.i D.ir]
theorem fp (D:DV) (a1:Option R7) (c1:Nat) (a2:Option R7) (c2:Nat):(fl D a1 c1 a2 c2).all (·.oneCell'):=by simp [fl,Value.oneCell']
def pP (D:DV) (a1:Option R7) (c1:Nat) (a2:Option R7) (c2:Nat):List FRow:=eX a1 D.xs.length c1 D.xs a2 D.ys.length c2 D.ys
def cS (D:DV):Prop:=(∀ y ∈ D.xs,(Y1 .u8 y).wf=true)/\∀ y ∈ D.ys,(Y1 .u8 y).wf
def lA (b c:Nat) (a:Int):Bool:=decide (b<=16)&&decide (c<=4096)&&decide (0<=a/\a<=1)
def gF (addr size:Int):Nat :=
 if addr=33554432/\size=4 then 0 else if addr=33570816/\size=8 then 1 else if addr=33603576/\size=8 then 2 else if addr=268435456/\size=1 then 3 else if addr=268435457/\size=1 then 4 else if addr=268435461/\size=1 then 5 else 6
def gv (b:Bool):Int:=if b=true then 1 else 0
def jz (D:DV):Nat->Int × DV × Bool
 | 0=>(gv D.so,D,true)
 | 1=>(D.cm,D,true)
 | 2=>(D.t,D,true)
 | 3=>(D.xs.getD 0 0,⟨D.t,D.cm,D.so,D.xs.drop 1,D.ys,D.ir⟩,true)
 | 4=>(Uz.wrap D.ir,D,true)
 | 5=>(Uz.wrap (32+gv (decide (0<D.xs.length))),D,true)
 | _=>(0,zeroD,false)
def fU (D:DV) (x:Int):Nat->DV × Bool
 | 0=>(⟨D.t,D.cm,T3 .and .u64 x 1==1,D.xs,D.ys,D.ir⟩,true)
 | 1=>(⟨D.t,x,D.so,D.xs,D.ys,D.ir⟩,true)
 | 2=>(⟨x,D.cm,D.so,D.xs,D.ys,D.ir⟩,true)
 | 3=>(⟨D.t,D.cm,D.so,D.xs,if D.ys.length<4096 then D.ys++[IntKind.u8.wrap x] else D.ys,D.ir⟩,true)
 | 4=>(⟨D.t,D.cm,D.so,D.xs,D.ys,wrap64 (T3 .and .u64 x 1)⟩,true)
 | 5=>(D,true)
 | _=>(zeroD,false)
def dM (D:DV):Int:=Uz.wrap (Uz.wrap (Uz.wrap (8*gv D.so)+Uz.wrap (128*gv (decide (D.cm<=D.t))))+Uz.wrap (2048*gv ((D.ir==1)&&decide (0<D.xs.length))))
def vd (D:DV) (addr size:Int):Int × DV × Bool:=if lA D.xs.length D.ys.length D.ir=true then jz D (gF addr size) else (0,zeroD,false)
def rP (D:DV) (addr size x:Int):DV × Bool:=if lA D.xs.length D.ys.length D.ir=true then fU D x (gF addr size) else (zeroD,false)
def hO (D:DV):Int:=if lA D.xs.length D.ys.length D.ir=true then dM D else 0
def gx (D:DV) (n:Int):DV:=if (lA D.xs.length D.ys.length D.ir&&!decide (n<0))=true then ⟨Uz.wrap (D.t+Uz.wrap n),D.cm,D.so,D.xs,D.ys,D.ir⟩ else zeroD
def gR (D:DV) (b:Int):DV:=if lA D.xs.length D.ys.length D.ir=true then ⟨D.t,D.cm,D.so,if D.xs.length<16 then D.xs++[b] else D.xs,D.ys,D.ir⟩ else zeroD
theorem jW (P:Nat->Prop) (c:J=33554432->K=4->P 0) (d:J=33570816->K=8->P 1) (e:J=33603576->K=8->P 2) (f:J=268435456->K=1->P 3) (h4:J=268435457->K=1->P 4) (g:J=268435461->K=1->P 5) (i:(J=33554432->¬ K=4)->(J=33570816->¬ K=8)->(J=33603576->¬ K=8)->(J=268435456->¬ K=1)->(J=268435457->¬ K=1)->(J=268435461->¬ K=1)->P 6):P (gF J K):=by
 unfold gF;split;·rename_i h;exact c h.1 h.2
 ·rename_i j;split;·rename_i h;exact d h.1 h.2
  ·rename_i k;split;·rename_i h;exact e h.1 h.2
   ·rename_i l;split;·rename_i h;exact f h.1 h.2
    ·rename_i m;split;·rename_i h;exact h4 h.1 h.2
     ·rename_i n;split;·rename_i h;exact g h.1 h.2
      ·rename_i o;exact i (λa b=>j ⟨a,b⟩) (λa b=>k ⟨a,b⟩) (λa b=>l ⟨a,b⟩) (λa b=>m ⟨a,b⟩) (λa b=>n ⟨a,b⟩) (λa b=>o ⟨a,b⟩)
theorem gy:bj N O R (pP zeroD none 0 none 0):=by
 refine ⟨λr a=>?_,λr a k e=>?_,?_⟩
 ·simp only [pP,eX,C6,I3,or_false] at a;rcases a with rfl|rfl;·exact ⟨rfl,.inl ⟨rfl,rfl⟩⟩
  ·exact ⟨rfl,.inl ⟨rfl,rfl⟩⟩
 ·simp only [pP,eX,C6,I3,or_false] at a;rcases a with rfl|rfl;·cases e
  ·cases e
 ·exact A8.2 ⟨λs b k e=>yn,D4 _ _⟩
theorem bj.newIn (h:bj B t b (eX l f c e y d g E)) (a:Option R7) (n c2:Nat) (zs:List Int) (base E':Nat) (i:b.ownsRow base 5 1 (.slice a n c2) n (zs.map (P2 .u8))) (ys:t<=base) (c1:B<=base) (w:b.heap.size<=E') (h4:t<=E'):bj B E' b (eX a n c2 zs y d g E):=by have j:bj B t b [aE y d g E]:=⟨λr a1=>h.own r (A6 _ a1),λr a1=>h.hi r (A6 _ a1),(A8.1 h.ne).2⟩;exact j.cons (aE a n c2 zs) base E' i ys c1 w h4
theorem bj.newOut (h:bj B t b (eX l d f e y c g E)) (a:Option R7) (n c2:Nat) (zs:List Int) (base E':Nat) (i:b.ownsRow base 5 1 (.slice a n c2) n (zs.map (P2 .u8))) (ys:t<=base) (j:B<=base) (w:b.heap.size<=E') (h4:t<=E'):bj B E' b (eX l d f e a n c2 zs):=by have c1:bj B t b [aE l d f e]:=⟨λr a1=>h.own r (by rw [D1.1 a1];exact A9 ..),λr a1=>h.hi r (by rw [D1.1 a1];exact A9 ..),D4 _ _⟩;exact c1.snoc (aE a n c2 zs) base E' i ys j w h4
theorem bM {P:T6} {fn:Func} {s p u:Tmp} {ty:S2} (h:fn.results=#[.tmp s,.cell p ty,.tmp u]) (tmps:Array R6) (w:R4) (g:Nat) (t:S2) (cs:Array R6) (e:Nat × Nat) (d:TypeDesc) (k:tmps.getD p undef=.p g 0) (i:w.heap[g]?=some (.cells cs t e)) (l:P.underlying ty=some d) (hd:(match d with | .struct _ | .array _ _=>true | _=>false)=true) (j:(P.info? ty).map (·.size)=some cs.size):(results fn tmps).run P w=.ok (.tuple #[tmps.getD s undef,.agg cs,tmps.getD u undef]) w:=by
 have f:(results fn tmps).run P w=((asAddr (tmps.getD p undef)).run P w).andThen λa b=>((loadVar ty a).run P b).andThen λv c=>.ok (.tuple #[tmps.getD s undef,v,tmps.getD u undef]) c:=by simp only [results,h];simp [Sem.run_bind,Result.andThen]
 rw [f,k];simp [asAddr,T4 w g t ty cs e d i l hd j]
theorem cL {P:T6} {fn:Func} {p u:Tmp} {ty:S2} (h:fn.results=#[.cell p ty,.tmp u]) (tmps:Array R6) (w:R4) (g:Nat) (t:S2) (cs:Array R6) (e:Nat × Nat) (d:TypeDesc) (k:tmps.getD p undef=.p g 0) (i:w.heap[g]?=some (.cells cs t e)) (l:P.underlying ty=some d) (hd:(match d with | .struct _ | .array _ _=>true | _=>false)=true) (j:(P.info? ty).map (·.size)=some cs.size):(results fn tmps).run P w=.ok (.tuple #[.agg cs,tmps.getD u undef]) w:=by
 have f:(results fn tmps).run P w=((asAddr (tmps.getD p undef)).run P w).andThen λa b=>((loadVar ty a).run P b).andThen λv c=>.ok (.tuple #[v,tmps.getD u undef]) c:=by simp only [results,h];simp [Sem.run_bind,Result.andThen]
 rw [f,k];simp [asAddr,T4 w g t ty cs e d i l hd j]
theorem Bv:(prog.info? 24).map (λi=>(i.zero,i.size,i.bytes))=some (some (.u 0),1,8):=by kernel_rfl
theorem ky:(V.map (P2 .u64)).set X (.u Y)=(V.set X Y).map (P2 .u64):=by rw [I4]
structure MV where
 pc:Int
 x:List Int
 pr:Int
 cs:List Int
 ram:List Int
 d:DV
 hd:Int
 hl:Bool
 wt:Bool
structure MA where
 ax:Option R7
 cx:Nat
 ac:Option R7
 cc:Nat
 ar:Option R7
 cr:Nat
 ai:Option R7
 ci:Nat
 ao:Option R7
 co:Nat
def zeroM:MV:=⟨0,[],0,[],[],zeroD,0,false,false⟩
def zeroA:MA:=⟨none,0,none,0,none,0,none,0,none,0⟩
def ak (M:MV) (A:MA):Array Value:=#[.u M.pc,.slice A.ax M.x.length A.cx,.i M.pr,.slice A.ac M.cs.length A.cc,.slice A.ar M.ram.length A.cr,.u M.d.t,.u M.d.cm,.bool M.d.so,.slice A.ai M.d.xs.length A.ci,.slice A.ao M.d.ys.length A.co,.i M.d.ir,.u M.hd,.bool M.hl,.bool M.wt]
def aG (a:Option R7) (n c:Nat) (xs:List Int):FRow:=⟨24,.slice a n c,n,xs.map (P2 .u64)⟩
def aF (M:MV) (A:MA):List FRow:=[aG A.ax M.x.length A.cx M.x,aG A.ac M.cs.length A.cc M.cs,aE A.ar M.ram.length A.cr M.ram,aE A.ai M.d.xs.length A.ci M.d.xs,aE A.ao M.d.ys.length A.co M.d.ys]
structure oe (w:R4) (M:MV) (A:MA):Prop where
 x:Sl .u64 w A.ax M.x
 cs:Sl .u64 w A.ac M.cs
 ram:Sl .u8 w A.ar M.ram
 xs:Sl .u8 w A.ai M.d.xs
 ys:Sl .u8 w A.ao M.d.ys
theorem oe.below {M:MV} {A:MA} (h:oe b M A) (hb:Bw b a):oe a M A:=⟨h.x.below hb,h.cs.below hb,h.ram.below hb,h.xs.below hb,h.ys.below hb⟩
theorem bj.msl {M:MV} {A:MA} (h:bj B t b (aF M A)):oe b M A :=
 ⟨fJ (h.own (aG A.ax M.x.length A.cx M.x) ef),fJ (h.own (aG A.ac M.cs.length A.cc M.cs) ef),fJ (h.own (aE A.ar M.ram.length A.cr M.ram) ef),fJ (h.own (aE A.ai M.d.xs.length A.ci M.d.xs) ef),fJ (h.own (aE A.ao M.d.ys.length A.co M.d.ys) ef)⟩
theorem aX {f i l m a d c v13:R6} (h:b.heap[g]?=some (.cells #[x,o,W,s,f,i,j,k,l,m,a,d,c,v13] n (0,0))):b.cell? ⟨g,0,none⟩=some x/\b.cell? ⟨g,1,none⟩=some o/\b.cell? ⟨g,2,none⟩=some W/\b.cell? ⟨g,3,none⟩=some s/\b.cell? ⟨g,4,none⟩=some f/\b.cell? ⟨g,5,none⟩=some i/\b.cell? ⟨g,6,none⟩=some j/\b.cell? ⟨g,7,none⟩=some k/\b.cell? ⟨g,8,none⟩=some l/\b.cell? ⟨g,9,none⟩=some m/\b.cell? ⟨g,10,none⟩=some a/\b.cell? ⟨g,11,none⟩=some d/\b.cell? ⟨g,12,none⟩=some c/\b.cell? ⟨g,13,none⟩=some v13:=by simp [X7,h]
theorem fg (h:b.heap[g]?=some (.cells q n (0,0))):b.frozen? ⟨g,0,none⟩=false/\b.frozen? ⟨g,1,none⟩=false/\b.frozen? ⟨g,2,none⟩=false/\b.frozen? ⟨g,3,none⟩=false/\b.frozen? ⟨g,4,none⟩=false/\b.frozen? ⟨g,5,none⟩=false/\b.frozen? ⟨g,6,none⟩=false/\b.frozen? ⟨g,7,none⟩=false/\b.frozen? ⟨g,8,none⟩=false/\b.frozen? ⟨g,9,none⟩=false/\b.frozen? ⟨g,10,none⟩=false/\b.frozen? ⟨g,11,none⟩=false/\b.frozen? ⟨g,12,none⟩=false/\b.frozen? ⟨g,13,none⟩=false :=
 ⟨dD h 0,dD h 1,dD h 2,dD h 3,dD h 4,dD h 5,dD h 6,dD h 7,dD h 8,dD h 9,dD h 10,dD h 11,dD h 12,dD h 13⟩
def KZ (w:R4) (g:Nat) (e f h x3 i j k l m n a b c d:R6):World:=(((((((((((((w.setCell ⟨g,0,none⟩ e).setCell ⟨g,1,none⟩ f).setCell ⟨g,2,none⟩ h).setCell ⟨g,3,none⟩ x3).setCell ⟨g,4,none⟩ i).setCell ⟨g,5,none⟩ j).setCell ⟨g,6,none⟩ k).setCell ⟨g,7,none⟩ l).setCell ⟨g,8,none⟩ m).setCell ⟨g,9,none⟩ n).setCell ⟨g,10,none⟩ a).setCell ⟨g,11,none⟩ b).setCell ⟨g,12,none⟩ c).setCell ⟨g,13,none⟩ d
theorem rQ {t y v u f e c v13:R6} (h:b.heap[g]?=some (.cells #[j,o,k,W,s,t,y,x,v,u,f,e,c,v13] n z)) (a w d x3 Q v1 m A q r i l p B:R6):(KZ b g a w d x3 Q v1 m A q r i l p B).heap[g]?=some (.cells #[a,w,d,x3,Q,v1,m,A,q,r,i,l,p,B] n z):=by have G:(b.setCell ⟨g,0,none⟩ a).heap[g]?=some (.cells #[a,o,k,W,s,t,y,x,v,u,f,e,c,v13] n z):=bH h 0 a;have H:((b.setCell ⟨g,0,none⟩ a).setCell ⟨g,1,none⟩ w).heap[g]?=some (.cells #[a,w,k,W,s,t,y,x,v,u,f,e,c,v13] n z):=bH G 1 w;have I:(((b.setCell ⟨g,0,none⟩ a).setCell ⟨g,1,none⟩ w).setCell ⟨g,2,none⟩ d).heap[g]?=some (.cells #[a,w,d,W,s,t,y,x,v,u,f,e,c,v13] n z):=bH H 2 d;have J:((((b.setCell ⟨g,0,none⟩ a).setCell ⟨g,1,none⟩ w).setCell ⟨g,2,none⟩ d).setCell ⟨g,3,none⟩ x3).heap[g]?=some (.cells #[a,w,d,x3,s,t,y,x,v,u,f,e,c,v13] n z):=bH I 3 x3;have K:(((((b.setCell ⟨g,0,none⟩ a).setCell ⟨g,1,none⟩ w).setCell ⟨g,2,none⟩ d).setCell ⟨g,3,none⟩ x3).setCell ⟨g,4,none⟩ Q).heap[g]?=some (.cells #[a,w,d,x3,Q,t,y,x,v,u,f,e,c,v13] n z):=bH J 4 Q;have L:((((((b.setCell ⟨g,0,none⟩ a).setCell ⟨g,1,none⟩ w).setCell ⟨g,2,none⟩ d).setCell ⟨g,3,none⟩ x3).setCell ⟨g,4,none⟩ Q).setCell ⟨g,5,none⟩ v1).heap[g]?=some (.cells #[a,w,d,x3,Q,v1,y,x,v,u,f,e,c,v13] n z):=bH K 5 v1;have M:(((((((b.setCell ⟨g,0,none⟩ a).setCell ⟨g,1,none⟩ w).setCell ⟨g,2,none⟩ d).setCell ⟨g,3,none⟩ x3).setCell ⟨g,4,none⟩ Q).setCell ⟨g,5,none⟩ v1).setCell ⟨g,6,none⟩ m).heap[g]?=some (.cells #[a,w,d,x3,Q,v1,m,x,v,u,f,e,c,v13] n z):=bH L 6 m;have N:((((((((b.setCell ⟨g,0,none⟩ a).setCell ⟨g,1,none⟩ w).setCell ⟨g,2,none⟩ d).setCell ⟨g,3,none⟩ x3).setCell ⟨g,4,none⟩ Q).setCell ⟨g,5,none⟩ v1).setCell ⟨g,6,none⟩ m).setCell ⟨g,7,none⟩ A).heap[g]?=some (.cells #[a,w,d,x3,Q,v1,m,A,v,u,f,e,c,v13] n z):=bH M 7 A;have O:(((((((((b.setCell ⟨g,0,none⟩ a).setCell ⟨g,1,none⟩ w).setCell ⟨g,2,none⟩ d).setCell ⟨g,3,none⟩ x3).setCell ⟨g,4,none⟩ Q).setCell ⟨g,5,none⟩ v1).setCell ⟨g,6,none⟩ m).setCell ⟨g,7,none⟩ A).setCell ⟨g,8,none⟩ q).heap[g]?=some (.cells #[a,w,d,x3,Q,v1,m,A,q,u,f,e,c,v13] n z):=bH N 8 q;have P:((((((((((b.setCell ⟨g,0,none⟩ a).setCell ⟨g,1,none⟩ w).setCell ⟨g,2,none⟩ d).setCell ⟨g,3,none⟩ x3).setCell ⟨g,4,none⟩ Q).setCell ⟨g,5,none⟩ v1).setCell ⟨g,6,none⟩ m).setCell ⟨g,7,none⟩ A).setCell ⟨g,8,none⟩ q).setCell ⟨g,9,none⟩ r).heap[g]?=some (.cells #[a,w,d,x3,Q,v1,m,A,q,r,f,e,c,v13] n z):=bH O 9 r;have C:(((((((((((b.setCell ⟨g,0,none⟩ a).setCell ⟨g,1,none⟩ w).setCell ⟨g,2,none⟩ d).setCell ⟨g,3,none⟩ x3).setCell ⟨g,4,none⟩ Q).setCell ⟨g,5,none⟩ v1).setCell ⟨g,6,none⟩ m).setCell ⟨g,7,none⟩ A).setCell ⟨g,8,none⟩ q).setCell ⟨g,9,none⟩ r).setCell ⟨g,10,none⟩ i).heap[g]?=some (.cells #[a,w,d,x3,Q,v1,m,A,q,r,i,e,c,v13] n z):=bH P 10 i;have D:((((((((((((b.setCell ⟨g,0,none⟩ a).setCell ⟨g,1,none⟩ w).setCell ⟨g,2,none⟩ d).setCell ⟨g,3,none⟩ x3).setCell ⟨g,4,none⟩ Q).setCell ⟨g,5,none⟩ v1).setCell ⟨g,6,none⟩ m).setCell ⟨g,7,none⟩ A).setCell ⟨g,8,none⟩ q).setCell ⟨g,9,none⟩ r).setCell ⟨g,10,none⟩ i).setCell ⟨g,11,none⟩ l).heap[g]?=some (.cells #[a,w,d,x3,Q,v1,m,A,q,r,i,l,c,v13] n z):=bH C 11 l;have E:(((((((((((((b.setCell ⟨g,0,none⟩ a).setCell ⟨g,1,none⟩ w).setCell ⟨g,2,none⟩ d).setCell ⟨g,3,none⟩ x3).setCell ⟨g,4,none⟩ Q).setCell ⟨g,5,none⟩ v1).setCell ⟨g,6,none⟩ m).setCell ⟨g,7,none⟩ A).setCell ⟨g,8,none⟩ q).setCell ⟨g,9,none⟩ r).setCell ⟨g,10,none⟩ i).setCell ⟨g,11,none⟩ l).setCell ⟨g,12,none⟩ p).heap[g]?=some (.cells #[a,w,d,x3,Q,v1,m,A,q,r,i,l,p,v13] n z):=bH D 12 p;have F:((((((((((((((b.setCell ⟨g,0,none⟩ a).setCell ⟨g,1,none⟩ w).setCell ⟨g,2,none⟩ d).setCell ⟨g,3,none⟩ x3).setCell ⟨g,4,none⟩ Q).setCell ⟨g,5,none⟩ v1).setCell ⟨g,6,none⟩ m).setCell ⟨g,7,none⟩ A).setCell ⟨g,8,none⟩ q).setCell ⟨g,9,none⟩ r).setCell ⟨g,10,none⟩ i).setCell ⟨g,11,none⟩ l).setCell ⟨g,12,none⟩ p).setCell ⟨g,13,none⟩ B).heap[g]?=some (.cells #[a,w,d,x3,Q,v1,m,A,q,r,i,l,p,B] n z):=bH E 13 B;exact F
theorem og (h:Below B b a) {g:Nat} (w:B<=g) (f i j x3 k l m n o q v c d e:R6):Below B b (KZ a g f i j x3 k l m n o q v c d e):=
 ((((((((((((((h.setCell (p:=⟨g,0,none⟩) w f).setCell (p:=⟨g,1,none⟩) w i).setCell (p:=⟨g,2,none⟩) w j).setCell (p:=⟨g,3,none⟩) w x3).setCell (p:=⟨g,4,none⟩) w k).setCell (p:=⟨g,5,none⟩) w l).setCell (p:=⟨g,6,none⟩) w m).setCell (p:=⟨g,7,none⟩) w n).setCell (p:=⟨g,8,none⟩) w o).setCell (p:=⟨g,9,none⟩) w q).setCell (p:=⟨g,10,none⟩) w v).setCell (p:=⟨g,11,none⟩) w c).setCell (p:=⟨g,12,none⟩) w d).setCell (p:=⟨g,13,none⟩) w e)
theorem bj.put14 {L:List FRow} (h:bj B t b L) (g:Nat) (a:g<B\/t<=g) (f i j x3 k l m n o p w c d e:R6):bj B t (KZ b g f i j x3 k l m n o p w c d e) L :=
 ((((((((((((((h.set ⟨g,0,none⟩ f a).set ⟨g,1,none⟩ i a).set ⟨g,2,none⟩ j a).set ⟨g,3,none⟩ x3 a).set ⟨g,4,none⟩ k a).set ⟨g,5,none⟩ l a).set ⟨g,6,none⟩ m a).set ⟨g,7,none⟩ n a).set ⟨g,8,none⟩ o a).set ⟨g,9,none⟩ p a).set ⟨g,10,none⟩ w a).set ⟨g,11,none⟩ c a).set ⟨g,12,none⟩ d a).set ⟨g,13,none⟩ e a)
theorem oh:(prog.info? 29).map (·.size)=some 14:=by kernel_rfl
theorem ve:CE 48 #[.bool L] R (.u (gv L)):=by
 cases L with
 | false =>go_enter func48,ntmps48;exact a02
 | true =>go_enter func48,ntmps48;exact a02
theorem Sw:CE 47 #[.i J,.i 0,.i 1] R (.bool (decide (0<=J/\J<=1))):=by
 by_cases b:0<=J
 ·by_cases c:J<=1;·have F:Hid (decide (0<=J/\J<=1)):=(by show decide (0<=J/\J<=1)=true;simp [b,c]);have d:decide (0<=J):=lw;have f:decide (J<=1):=kc;clear b c;generalize decide (0<=J/\J<=1)=v at *;go_enter func47,ntmps47;go_wp2;go_ret;exact ⟨bh,rfl⟩
  ·have F:Hid (decide (0<=J/\J<=1)=false):=(by show _=false;simp;omega);have d:decide (0<=J):=lw;have f:decide (J<=1)=false:=kc;clear b c;generalize decide (0<=J/\J<=1)=v at *;exact a03
 ·have F:Hid (decide (0<=J/\J<=1)=false):=(by show _=false;simp;omega);have d:decide (0<=J)=false:=lw;clear b;generalize decide (0<=J/\J<=1)=v at *;exact a03
theorem mD (w:R4) (f:N<=1048576) (g:T<=1048576): CB 29 #[.agg #[.u J,.u K,.bool L,.slice M N O,.slice S T X,.i Y]] w (.bool (lA N T Y)):=by
 have u:Hid (∀ w,CE 47 #[.i Y,.i 0,.i 1] w (.bool (decide (0<=Y/\Y<=1)))):=Sw Y;have p:∀ o,Bw w (w.alloc o):=λo=>(V8 _ _).alloc (I5 _) o;have F:lA N T Y=(decide (N<=16)&&decide (T<=4096)&&decide (0<=Y/\Y<=1)):=rfl;generalize lA N T Y=v at *;generalize decide (0<=Y/\Y<=1)=q at *;by_cases j:N<=16
 ·have y:decide ((N:Int)<=16):=bv;by_cases m:T<=4096;·have z:decide ((T:Int)<=4096):=bv;have l:Hid (v=q):=(by show v=q;rw [F,decide_eq_true j,decide_eq_true m];rfl);clear F j m f g;go_enter func29,ntmps29;go_wp2_with fail;refine (u.out _).mono ?_;rintro e B ⟨rfl,r⟩;subst r;go_wp2_with fail;go_ret;exact ⟨by rw [l.out];rfl,p _⟩
  ·have z:decide ((T:Int)<=4096)=false:=bv;have l:Hid (v=false):=(by show v=_;rw [F,decide_eq_true j,decide_eq_false m];rfl);clear F j m f g;go_enter func29,ntmps29;go_wp2_with fail;go_ret;exact ⟨by rw [l.out];rfl,p _⟩
 ·have y:decide ((N:Int)<=16)=false:=bv;have l:Hid (v=false):=(by show v=_;rw [F,decide_eq_false j];rfl);clear F j f g;go_enter func29,ntmps29;go_wp2_with fail;go_ret;exact ⟨by rw [l.out];rfl,p _⟩
theorem ap (h:b.heap[g]?=some m) (a:Obj):(b.alloc a).heap[g]?=some m:=(X0 b a g (Y2.1 h).1).trans h
theorem Pb (a:(((w.alloc o1).alloc o2).alloc o3).grownBy b (some (w.heap.size+1+1))):b.heap[w.heap.size]?=some o1/\b.heap[w.heap.size+1]?=some o2/\Bw w b/\w.heap.size+1+1+1<=b.heap.size:=by obtain ⟨c,d,_⟩:=Ug (w:=w) (o1:=o1) (o2:=o2) (o3:=o3) (V8 _ (((w.alloc o1).alloc o2).alloc o3));have w1:=a.size;simp only [X6] at w1;refine ⟨(a.block _ eh bv).trans c,(a.block _ eh di).trans d,?_,w1⟩;exact X3 ((((V8 _ _).alloc (I5 _) o1).alloc di o2).alloc bv o3) a eh (λk e=>by simp at e;omega)
theorem Sx (w1:(b.alloc m).grownBy a (some g)) (w:g=b.heap.size):Bw b a:=by subst w;exact X3 ((V8 _ _).alloc (I5 _) m) w1 di (λk c=>by simp at c;omega)
theorem qk (xs ys:List Int) (w:R4) (hx:xs.length=N) (hy:ys.length=T) (E:N<=1048576) (F:T<=1048576) (G:Sl .u8 w M xs) (H:Sl .u8 w S ys): Calls prog 43 #[.agg #[.u J,.u K,.bool L,.slice M N O,.slice S T X,.i Y]] w λe l=>∃ (d:Option R7) (f:Nat) (m:Option R7) (q:Nat),e=.returned (.agg #[.u J,.u K,.bool L,.slice d N f,.slice m T q,.i Y]) /\ bj w.heap.size l.heap.size l (eX d N f xs m T q ys)/\Bw w l:=by
 have B:∀ R a2,Bw w ((w.alloc R).alloc a2):=λR a2=>((V8 _ _).alloc (I5 _) R).alloc di a2
 have c2:=jl ((w.alloc (.cells #[.u J,.u K,.bool L,.slice M N O,.slice S T X,.i Y] 27)).alloc (.cells #[.u 0,.u 0,.bool false,.slice none 0 0,.slice none 0 0,.i 0] 27)) (w.heap.size+1+1) di (.cells #[] 5 (0,0)) rfl
 rw [X6,X6] at c2
 have b:Hid (∀ l,Bw w l->Sl .u8 l M xs):=λl Q=>G.below Q
 have c1:Hid (∀ l,Bw w l->Sl .u8 l S ys):=λl Q=>H.below Q
 have cm:Hid (xs.length=N/\ys.length=T/\N<=1048576/\T<=1048576):=⟨hx,hy,E,F⟩
 clear G H hx hy E F
 go_enter func43,ntmps43
 go_wp2_with (first
  | (at_builtin;refine it rfl (.tmp 3) (.tmp 5) rfl (w.heap.size+1+1) _ rfl c2 M N O xs rfl cm.out.1 cm.out.2.2.1 (b.out _ ((B _ _).alloc (B _ _).size _)) di ?_;intro d f u I z;obtain ⟨s,r1,D,z1⟩:=Pb z;have V:=aq s;have R1:=aq r1;have a1:=aq D;have Z1:=aq z1;have A1:=aq ((bj.nil (w.heap.size+1+1) (w.heap.size+1+1) u).snoc (aE d N f xs) _ u.heap.size I (I5 _) (I5 _) (I5 _) ab);obtain ⟨r,Z,p2,p3,p4,p5⟩:=aQ s;have f3:=dD s 3;have C:=jl (u.setCell ⟨w.heap.size,3,none⟩ (.slice d N f)) u.heap.size ep (.cells #[] 5 (0,0)) rfl;rw [aO] at C;have y:(u.setCell ⟨w.heap.size,3,none⟩ (.slice d N f)).heap[w.heap.size]?=some (.cells #[.u J,.u K,.bool L,.slice d N f,.slice S T X,.i Y] 27 (0,0)):=bH V.out 3 (.slice d N f);have c:=λo=>(aQ (ap y o)).2.2.2.2.1;clear s r1 D z1 I z y)
  | (at_builtin;refine it rfl (.tmp 8) (.tmp 10) rfl u.heap.size _ rfl C S T X ys rfl cm.out.2.1 cm.out.2.2.2 (c1.out _ ((a1.out.setCell (p:=⟨w.heap.size,3,none⟩) (I5 _) _).alloc (a1.out.setCell (p:=⟨w.heap.size,3,none⟩) (I5 _) _).size _)) (by rw [X6,aO];omega) ?_;intro m q w2 t A;have j:=Sx A (by rw [aO]);have U:=j.size;have W:Hid (w2.heap[w.heap.size]?=some (.cells #[.u J,.u K,.bool L,.slice d N f,.slice S T X,.i Y] 27 (0,0))):=aD j (bH V.out 3 (.slice d N f));have P:=aq (aD j (fT R1.out ⟨w.heap.size,3,none⟩ (.slice d N f) cb));have B2:=aq (aa (a1.out.setCell (p:=⟨w.heap.size,3,none⟩) (I5 _) (.slice d N f)) j);rw [aO] at U;have A2:=aq (((A1.out.set ⟨w.heap.size,3,none⟩ (.slice d N f) (.inl cb)).below j).snoc (aE m T q ys) _ w2.heap.size t (I5 _) (by have:=Z1.out;omega) (I5 _) U);clear r Z p2 p3 p4 p5 f3 c;obtain ⟨r,Z,p2,p3,p4,p5⟩:=aQ W.out;have f4:=dD W.out 4;obtain ⟨s0,s1,s2,s3,s4,s5⟩:=aQ P.out;obtain ⟨y0,y1,y2,y3,y4,y5⟩:=mn P.out;clear t A j U))
 have T1:=fT P.out ⟨w.heap.size,4,none⟩ (.slice m T q) cb
 have A3:=(A2.out.set ⟨w.heap.size,4,none⟩ (.slice m T q) (.inl cb)).put6 (w.heap.size+1) (.inl ab) (.u J) (.u K) (.bool L) (.slice d N f) (.slice m T q) (.i Y)
 have B3:=dE (B2.out.setCell (p:=⟨w.heap.size,4,none⟩) (I5 _) (.slice m T q)) (g:=w.heap.size+1) ab (.u J) (.u K) (.bool L) (.slice d N f) (.slice m T q) (.i Y)
 exact R5 (results_cell_row results43 _ _ _ _ _ _ _ rfl (fj T1 _ _ _ _ _ _) underlying27 rfl aU) rfl ⟨d,f,m,q,rfl,A3.low ab ko,B3⟩
theorem Bz (h:b.heap[g]?=some m):b.drew.heap[g]?=some m:=h
theorem yp:((b.alloc m).alloc r).drew.heap[b.heap.size+1]?=some r:=(jR (w:=b) (o1:=m) (o2:=r) (V8 _ ((b.alloc m).alloc r))).2
theorem ju:((b.alloc m).alloc r).heap[b.heap.size+1]?=some r:=(jR (w:=b) (o1:=m) (o2:=r) (V8 _ ((b.alloc m).alloc r))).2
theorem pn:Bw b ((b.alloc m).alloc r).drew:=(((V8 _ _).alloc (I5 _) m).alloc di r).drew
theorem eD:Bw b ((b.alloc m).alloc r):=((V8 _ _).alloc (I5 _) m).alloc di r
theorem K3 (w:R4): CB 96 #[.agg #[.u J,.u K,.bool L,.slice M N O,.slice S T X,.i Y],.u 33554432,.i 4] w (.tuple #[.u (gv L),.agg #[.u J,.u K,.bool L,.slice M N O,.slice S T X,.i Y],.bool true]):=by
 have l:Hid (∀ w,CE 48 #[.bool L] w (.u (gv L))):=ve L;generalize gv L=v at *;go_enter func96,ntmps96;go_wp2_with fail;go_region_with (first | (go_at_call 48;with_reducible refine (l.out _).mono ?_;rintro e m ⟨rfl,c⟩;subst c));all_goals go_wp2_with fail
 all_goals exact R5 (bM results96 _ _ _ _ _ _ _ rfl yp underlying27 rfl aU) rfl ⟨rfl,pn⟩
theorem K4 (w:R4): CB 96 #[.agg #[.u J,.u K,.bool L,.slice M N O,.slice S T X,.i Y],.u 33570816,.i 8] w (.tuple #[.u K,.agg #[.u J,.u K,.bool L,.slice M N O,.slice S T X,.i Y],.bool true]):=by go_enter func96,ntmps96;go_wp2_with fail;go_region;exact a04
theorem K5 (w:R4): CB 96 #[.agg #[.u J,.u K,.bool L,.slice M N O,.slice S T X,.i Y],.u 33603576,.i 8] w (.tuple #[.u J,.agg #[.u J,.u K,.bool L,.slice M N O,.slice S T X,.i Y],.bool true]):=by go_enter func96,ntmps96;go_wp2_with fail;go_region;exact a04
theorem IY (w:R4): CB 96 #[.agg #[.u J,.u K,.bool L,.slice M 0 N,.slice S T X,.i Y],.u 268435456,.i 1] w (.tuple #[.u 0,.agg #[.u J,.u K,.bool L,.slice M 0 N,.slice S T X,.i Y],.bool true]):=by go_enter func96,ntmps96;go_wp2_with fail;go_region;exact a04
theorem K6 (w:R4): CB 96 #[.agg #[.u J,.u K,.bool L,.slice M N O,.slice S T X,.i Y],.u 268435457,.i 1] w (.tuple #[.u (Uz.wrap Y),.agg #[.u J,.u K,.bool L,.slice M N O,.slice S T X,.i Y],.bool true]):=by go_enter func96,ntmps96;go_wp2_with fail;go_region;exact a04
theorem K7 (c:N<=1048576) (w:R4): CB 96 #[.agg #[.u J,.u K,.bool L,.slice M N O,.slice S T X,.i Y],.u 268435461,.i 1] w (.tuple #[.u (Uz.wrap (32+gv (decide (0<N)))),.agg #[.u J,.u K,.bool L,.slice M N O,.slice S T X,.i Y],.bool true]):=by
 have m:Hid (∀ w,CE 48 #[.bool (decide (0<N))] w (.u (gv (decide (0<N))))):=ve _;generalize gv (decide (0<N))=v at *;clear c;go_enter func96,ntmps96;go_wp2_with fail;go_region_with (first | (go_at_call 48;with_reducible refine (m.out _).mono ?_;rintro e o ⟨rfl,d⟩;subst d));all_goals go_wp2_with fail
 all_goals exact R5 (bM results96 _ _ _ _ _ _ _ rfl yp underlying27 rfl aU) rfl ⟨rfl,pn⟩
theorem K8 (size:Int) (b:Z=33554432->¬ size=4) (k1:Z=33570816->¬ size=8) (k2:Z=33603576->¬ size=8) (c:Z=268435456->¬ size=1) (d:Z=268435457->¬ size=1) (f:Z=268435461->¬ size=1) (w:R4): CB 96 #[.agg #[.u J,.u K,.bool L,.slice M N O,.slice S T X,.i Y],.u Z,.i size] w (.tuple #[.u 0,.agg #[.u 0,.u 0,.bool false,.slice none 0 0,.slice none 0 0,.i 0],.bool false]):=by
 by_cases g:Z=33554432;·have z:(size==4)=false:=(by simpa using b g);subst g;clear b k1 k2 c d f;go_enter func96,ntmps96;go_wp2_with fail;exact R5 (bM results96 _ _ _ _ _ _ _ rfl ju underlying27 rfl aU) rfl ⟨rfl,eD⟩
 ·have t0:(Z==33554432)=false:=x9;by_cases j:Z=33570816;·have A:(size==8)=false:=(by simpa using k1 j);subst j;clear b k1 k2 c d f;go_enter func96,ntmps96;go_wp2_with fail;exact R5 (bM results96 _ _ _ _ _ _ _ rfl ju underlying27 rfl aU) rfl ⟨rfl,eD⟩
  ·have F:(Z==33570816)=false:=(by simpa using j);by_cases l:Z=33603576;·have B:(size==8)=false:=(by simpa using k2 l);subst l;clear b k1 k2 c d f;go_enter func96,ntmps96;go_wp2_with fail;exact R5 (bM results96 _ _ _ _ _ _ _ rfl ju underlying27 rfl aU) rfl ⟨rfl,eD⟩
   ·have G:(Z==33603576)=false:=(by simpa using l);by_cases m:Z=268435456;·have C:(size==1)=false:=(by simpa using c m);subst m;clear b k1 k2 c d f;go_enter func96,ntmps96;go_wp2_with fail;exact R5 (bM results96 _ _ _ _ _ _ _ rfl ju underlying27 rfl aU) rfl ⟨rfl,eD⟩
    ·have H:(Z==268435456)=false:=(by simpa using m);by_cases o:Z=268435457;·have D:(size==1)=false:=(by simpa using d o);subst o;clear b k1 k2 c d f;go_enter func96,ntmps96;go_wp2_with fail;exact R5 (bM results96 _ _ _ _ _ _ _ rfl ju underlying27 rfl aU) rfl ⟨rfl,eD⟩
     ·have I:(Z==268435457)=false:=(by simpa using o);by_cases p:Z=268435461;·have E:(size==1)=false:=(by simpa using f p);subst p;clear b k1 k2 c d f;go_enter func96,ntmps96;go_wp2_with fail;exact R5 (bM results96 _ _ _ _ _ _ _ rfl ju underlying27 rfl aU) rfl ⟨rfl,eD⟩
      ·have t:(Z==268435461)=false:=(by simpa using p);clear b k1 k2 c d f g j l m o p;go_enter func96,ntmps96;go_wp2_with fail;exact R5 (bM results96 _ _ _ _ _ _ _ rfl ju underlying27 rfl aU) rfl ⟨rfl,eD⟩
theorem Sl.next (h:Sl .u8 b (some ⟨t,d,none⟩) e):Sl .u8 b (some ⟨t,d+1,none⟩) (e.drop 1):=by
 intro i g;rw [List.length_drop] at g;obtain ⟨j,c,zs,a,f⟩:=h (i+1) ab;simp only [Option.some.injEq,Addr.mk.injEq,and_true] at zs;obtain ⟨rfl,rfl⟩:=zs;refine ⟨_,_,rfl,a,?_⟩;have e2:(e.drop 1).getD i 0=e.getD (i+1) 0:=by rw [D3,D3,List.getElem?_drop,Nat.add_comm]
 rw [e2,show d+1+i=d+(i+1) from ab];exact f
theorem IZ (h:bj B t b (eX l d f e y c g E)) (hn:1<=d):∃ w,l=some ⟨w,0,none⟩/\d<=f/\f<=maxLen:=by
 have j:=h.own (aE l d f e) tk;rcases j.2 with ⟨_,c2⟩|⟨w,cap,a1,i,_,_,c1,ys,_⟩;·have:d=0:=c2;omega
 ·injection i with e1 e2 e3
  subst e1 e3;exact ⟨w,rfl,c1,ys⟩
theorem vf (h:lA t c A):t<=16/\c<=4096/\0<=A/\A<=1:=by unfold lA at h;simp only [Bool.and_eq_true,JZ6] at h;exact ⟨h.1.1,h.1.2,h.2.1,h.2.2⟩
theorem I0 (w:R4): CB 97 #[.agg #[.u J,.u K,.bool L,.slice M N O,.slice S T X,.i Y],.u 33554432,.i 4,.u Z] w (.tuple #[.agg #[.u J,.u K,.bool (T3 .and .u64 Z 1==1),.slice M N O,.slice S T X,.i Y],.bool true]):=by go_enter func97,ntmps97;exact a05
theorem I6 (w:R4): CB 97 #[.agg #[.u J,.u K,.bool L,.slice M N O,.slice S T X,.i Y],.u 33570816,.i 8,.u Z] w (.tuple #[.agg #[.u J,.u Z,.bool L,.slice M N O,.slice S T X,.i Y],.bool true]):=by go_enter func97,ntmps97;exact a05
theorem I7 (w:R4): CB 97 #[.agg #[.u J,.u K,.bool L,.slice M N O,.slice S T X,.i Y],.u 33603576,.i 8,.u Z] w (.tuple #[.agg #[.u Z,.u K,.bool L,.slice M N O,.slice S T X,.i Y],.bool true]):=by go_enter func97,ntmps97;exact a05
theorem Ef (j:¬ T<4096) (c:T<=4096) (w:R4): CB 97 #[.agg #[.u J,.u K,.bool L,.slice M N O,.slice S T X,.i Y],.u 268435456,.i 1,.u Z] w (.tuple #[.agg #[.u J,.u K,.bool L,.slice M N O,.slice S T X,.i Y],.bool true]):=by
 have m:decide ((T:Int)<4096)=false:=by simp;omega
 clear j c;exact a06
theorem I8 (w:R4): CB 97 #[.agg #[.u J,.u K,.bool L,.slice M N O,.slice S T X,.i Y],.u 268435457,.i 1,.u Z] w (.tuple #[.agg #[.u J,.u K,.bool L,.slice M N O,.slice S T X,.i (wrap64 (T3 .and .u64 Z 1))],.bool true]):=by go_enter func97,ntmps97;exact a05
theorem I9 (w:R4): CB 97 #[.agg #[.u J,.u K,.bool L,.slice M N O,.slice S T X,.i Y],.u 268435461,.i 1,.u Z] w (.tuple #[.agg #[.u J,.u K,.bool L,.slice M N O,.slice S T X,.i Y],.bool true]):=by go_enter func97,ntmps97;exact a05
theorem Ja (addr size:Int) (b:addr=33554432->¬ size=4) (k1:addr=33570816->¬ size=8) (k2:addr=33603576->¬ size=8) (c:addr=268435456->¬ size=1) (d:addr=268435457->¬ size=1) (f:addr=268435461->¬ size=1) (w:R4): CB 97 #[.agg #[.u J,.u K,.bool L,.slice M N O,.slice S T X,.i Y],.u addr,.i size,.u Z] w (.tuple #[.agg #[.u 0,.u 0,.bool false,.slice none 0 0,.slice none 0 0,.i 0],.bool false]):=by
 by_cases g:addr=33554432;·have z:(size==4)=false:=(by simpa using b g);subst g;clear b k1 k2 c d f;exact a06
 ·have t0:(addr==33554432)=false:=x9;by_cases j:addr=33570816;·have A:(size==8)=false:=(by simpa using k1 j);subst j;clear b k1 k2 c d f;go_enter func97,ntmps97;go_wp2_with fail;exact R5 (cL results97 _ _ _ _ _ _ _ rfl ju underlying27 rfl aU) rfl ⟨rfl,eD⟩
  ·have F:(addr==33570816)=false:=(by simpa using j);by_cases l:addr=33603576;·have B:(size==8)=false:=(by simpa using k2 l);subst l;clear b k1 k2 c d f;go_enter func97,ntmps97;go_wp2_with fail;exact R5 (cL results97 _ _ _ _ _ _ _ rfl ju underlying27 rfl aU) rfl ⟨rfl,eD⟩
   ·have G:(addr==33603576)=false:=(by simpa using l);by_cases m:addr=268435456;·have C:(size==1)=false:=(by simpa using c m);subst m;clear b k1 k2 c d f;go_enter func97,ntmps97;go_wp2_with fail;exact R5 (cL results97 _ _ _ _ _ _ _ rfl ju underlying27 rfl aU) rfl ⟨rfl,eD⟩
    ·have H:(addr==268435456)=false:=(by simpa using m);by_cases o:addr=268435457;·have D:(size==1)=false:=(by simpa using d o);subst o;clear b k1 k2 c d f;go_enter func97,ntmps97;go_wp2_with fail;exact R5 (cL results97 _ _ _ _ _ _ _ rfl ju underlying27 rfl aU) rfl ⟨rfl,eD⟩
     ·have I:(addr==268435457)=false:=(by simpa using o);by_cases p:addr=268435461;·have E:(size==1)=false:=(by simpa using f p);subst p;clear b k1 k2 c d f;go_enter func97,ntmps97;go_wp2_with fail;exact R5 (cL results97 _ _ _ _ _ _ _ rfl ju underlying27 rfl aU) rfl ⟨rfl,eD⟩
      ·have t:(addr==268435461)=false:=(by simpa using p);clear b k1 k2 c d f g j l m o p;exact a06
theorem Pc (j:Nat) (u:R6) (h:[P2 .u8 Y][j]?=some u):(R.alloc (.cells #[.int .u8 Y] 5)).cell? ((⟨R.heap.size,0,none⟩:R7).add j)=some u:=by
 have c:j=0:=by
  rcases L6 j with a|a;·exact a
  ·rw [C5 bv] at h;cases h
 subst c;rw [zt];simp only [List.getElem?_cons_zero,Option.some.injEq] at h;subst h;have e:=R8 R (.cells #[.int .u8 Y] 5);show (R.alloc (.cells #[.int .u8 Y] 5)).cell? ⟨R.heap.size,0,none⟩=_;simp only [X7,e];rfl
theorem K9 (h:b.ownsRow t n 1 x d Q):∃ a c,x=.slice a d c:=by
 rcases h.2 with ⟨e,base⟩|⟨f,cap,w,e,_⟩;·exact ⟨none,0,by rw [e,base]⟩
 ·exact ⟨_,_,e⟩
theorem Vy {w2:R4} {o2:Obj} (d:a.heap[b.heap.size]?=some r) (c:a.heap[b.heap.size+1]?=some o2) (f:a.ownsRow (b.heap.size+1+1) n 1 x t Q) (w1:(a.alloc m).grownBy w2 x.ownBlock): w2.heap[b.heap.size]?=some r/\w2.heap[b.heap.size+1]?=some o2/\Below (b.heap.size+1+1) a w2:=by have z:=(Y2.1 c).1;have w:∀ k,k<b.heap.size+1+1->w2.heap[k]?=a.heap[k]?:=λk w=>(w1.block k j1 (λe=>by have:=(f.lt k e.symm).1;omega)).trans (X0 a m k ab);refine ⟨(w _ ab).trans d,(w _ ab).trans c,⟨w1.os,w1.tape,w1.output,?_,w⟩⟩;have:=w1.size;rw [X6] at this;omega
