/- Own lemmas. -/
import Derived.Test.YtlidafnochnddaaGreatDoorAut
import Derived.Test.YtlidafnochnddaaGreatDoorK02
import Derived.BigQuiet
set_option maxHeartbeats 1600000
namespace Go.Proofs.YtlidafnochnddaaGreatDoor
open Go.RowKit Tryz
open IntKind renaming u64->Uz
open Below renaming refl->P2,grown->R4
open Conv renaming runesFrom->M7
open Go renaming World->A0,cell_of_row->A5,heap_setCell_other->A6,results_cell_row->F0,step_scope->F3,bodyPost_ret->G3,Calls->H1,bits->H2,heap_alloc_new->H3,wpList_append_own_at->H5,Value->H8,heap_setCell_same->I4,heap_alloc2_old->I5,heap_alloc2_new->K0,frozen_of_row->K1,step_inScope->K4
open Go.RowKit renaming wrap64->L4
open IntWalk renaming wrap64_in->N1
open List renaming length_append->S2,getD->S5,map_append->T0
open Nat renaming lt_of_lt_of_le->L7,le_refl->M5
open Value renaming int->L5,ownBlock->L6
open World renaming cell?->R5,setCell->S1
set_option linter.unusedVariables false
variable {w a:A0} {c n b x:Nat} {f l:H8} {d e o:List Int} {k:Act} {m:Exit->Act->A0->Prop} {s:Array Oper} {B:List Oper} {Q:Oper} (p:Int) (C:List (Nat × Nat × Nat)) (g:Fm) (q:A0) (t:Int) (z A D:Nat) (J:Option Addr) (P:ByteArray)
theorem aL (b:0<=p) (c:p<18446744073709551616) (hk:z<64) (hn:A<64) (w:A0): H1 prog 73 #[.u p,.i z,.i A] w λe d=>e=.returned (.u (aG p z A))/\d=w.drew:=by
 have F:Hid (H2 .and .u64 (p/2^z) (Uz.wrap (Uz.wrap (2^A)-1))=aG p z A):=gm p z A b c hn;go_enter func73,ntmps73;go_wp2_with fail;go_region;all_goals go_wp2_with fail
 all_goals go_ret
 all_goals exact ⟨by rw [<- F.out];rfl,rfl⟩
theorem sI: CE 115 #[.string g.str] q (.tuple #[.u g.mask,.i g.at]):=by
 cases g<;>simp only [Fm.str,Fm.mask,Fm.at];all_goals go_enter func115,ntmps115
 all_goals go_wp2_with fail
 all_goals go_ret2
 all_goals exact ⟨rfl,rfl⟩
theorem gI (g:1<=z) (j:z<=64) (w:A0): CE 116 #[.u p,.i z] w (.u (aX z p)):=by
 have d:decide ((z:Int)<1)=false:=by simp;omega
 have f:decide ((64:Int)<(z:Int))=false:=by simp;omega
 obtain ⟨m,l,b⟩:∃ m:Nat,(64:Int)-(z:Int)=(m:Int)/\m=64-z:=⟨64-z,aa,rfl⟩;have F:Hid (Uz.wrap (L4 (Uz.wrap (p*2^m))/2^m)=aX z p):=by show _=_;rw [b];rfl
 clear b;go_enter func116,ntmps116;go_wp2_with fail;go_ret;exact ⟨by rw [<- F.out];rfl,rfl⟩
def fV (op:Int) (f:Fm):Int:=if op=98 then H2 .or .u64 f.mask 3968 else if op=63\/op=74 then H2 .or .u64 f.mask 32505856 else f.mask
def d7 (f:Fm) (o z m:Int):Int:=H2 .or .u64 (H2 .or .u64 o (Uz.wrap (z*4096))) (Uz.wrap (m*2^f.at))
theorem kB (f:Fm) (o z m:Int) (w:A0): CB 91 #[.i p,.agg #[.string P,.string f.str,.u o,.u z,.u m]] w (.tuple #[.u (fV p f),.u (d7 f o z m)]):=by
 have r:=sI f;obtain ⟨M,d⟩:∃ M,M=f.mask:=⟨_,rfl⟩;obtain ⟨t,l⟩:∃ t,t=f.at:=⟨_,rfl⟩;obtain ⟨s,op⟩:∃ s,s=f.str:=⟨_,rfl⟩;have u:Hid (d7 f o z m=H2 .or .u64 (H2 .or .u64 o (Uz.wrap (z*4096))) (Uz.wrap (m*2^t))):=by show _=_;rw [d7,l]
 rw [<- op,<- d,<- l] at r;rw [<- op];have B:t<64:=by rw [l];cases f<;>decide
 by_cases b:p=98
 ·subst b;have g:Hid (fV 98 f=H2 .or .u64 M 3968):=(by show _=_;rw [fV,JZ8 rfl,d]);clear d l op;go_enter func91,ntmps91;go_wp2_with fail;refine (r _).mono ?_;rintro e A ⟨rfl,rfl⟩;go_wp2_with fail;go_region;all_goals go_wp2_with fail
  all_goals go_ret2
  all_goals exact ⟨by rw [g.out,u.out];rfl,(bal _ _).drew⟩
 ·have q:(p==98)=false:=mx;by_cases c:p=63
  ·subst c;have g:Hid (fV 63 f=H2 .or .u64 M 32505856):=(by show _=_;rw [fV,JZ9 ba,JZ8 ba,d]);clear d l op b q;go_enter func91,ntmps91;go_wp2_with fail;refine (r _).mono ?_;rintro e A ⟨rfl,rfl⟩;go_wp2_with fail;go_region;all_goals go_wp2_with fail
   all_goals go_ret2
   all_goals exact ⟨by rw [g.out,u.out];rfl,(bal _ _).drew⟩
  ·have y:(p==63)=false:=(by simpa using c);by_cases j:p=74
   ·subst j;have g:Hid (fV 74 f=H2 .or .u64 M 32505856):=(by show _=_;rw [fV,JZ9 ba,JZ8 ba,d]);clear d l op b q c y;go_enter func91,ntmps91;go_wp2_with fail;refine (r _).mono ?_;rintro e A ⟨rfl,rfl⟩;go_wp2_with fail;go_region;all_goals go_wp2_with fail
    all_goals go_ret2
    all_goals exact ⟨by rw [g.out,u.out];rfl,(bal _ _).drew⟩
   ·have C:(p==74)=false:=(by simpa using j);have g:Hid (fV p f=M):=(by show _=_;rw [fV,JZ9 b,JZ9 aa,d]);clear d l op b c j;go_enter func91,ntmps91;go_wp2_with fail;refine (r _).mono ?_;rintro e A ⟨rfl,rfl⟩;go_wp2_with fail;go_region;all_goals go_wp2_with fail
    all_goals go_ret2
    all_goals exact ⟨by rw [g.out,u.out];rfl,(bal _ _).drew⟩
def lR (w:A0) (p:Option Addr) (l:List (Nat × Nat × Nat)):Prop:=∀ k,k<l.length->∃ g,p=some ⟨g,0,none⟩/\g<w.heap.size/\w.cell? ⟨g,k*3,none⟩=some (.i (l.getD k (0,0,0)).1) /\
 w.cell? ⟨g,k*3+1,none⟩=some (.i (l.getD k (0,0,0)).2.1)/\w.cell? ⟨g,k*3+2,none⟩=some (.i (l.getD k (0,0,0)).2.2)
def pc (p:Nat × Nat × Nat):List Value:=[.i p.1,.i p.2.1,.i p.2.2]
theorem In (A:Obj) (cs:Array H8) (t:TypeId) (l:List (Nat × Nat × Nat)) (h:cs=(l.flatMap pc).toArray):lR ((q.alloc A).alloc (.cells cs t)) (some ⟨q.heap.size+1,0,none⟩) l:=by
 subst h;intro k a;have b:((q.alloc A).alloc (.cells (l.flatMap pc).toArray t)).heap[q.heap.size+1]?=some (.cells (l.flatMap pc).toArray t (0,0)):=K0 _ _ _;have e:∀ j,j<3->((q.alloc A).alloc (.cells (l.flatMap pc).toArray t)).cell? ⟨q.heap.size+1,k*3+j,none⟩=(pc (l.getD k (0,0,0)))[j]?:=by intro j c;rw [A5 _ _ _ _ _ _ b];have:=zJ pc 3 l (by intro x _;rfl) k a j c;rw [show l.getD k (0,0,0)=l[k] by simp [S5,a],<- this];simp
 exact ⟨_,rfl,bh,e 0 ba,e 1 ba,e 2 ba⟩
theorem wK:lR q J []:=by intro k a;simp at a
theorem nn:(prog.info? 156).map (·.size)=some 5:=by kernel_rfl
theorem pL: H1 prog 92 #[.string g.str] q λe b=>∃ p,e=.returned (.agg #[.bool g.hasRd,.bool g.hasA,.bool g.hasB,.slice p g.pcs.length g.pcs.length,.i g.width])/\Hid (lR b p g.pcs)/\Bw q b:=by
 cases g
 case r =>
  simp only [Fm.str]
  go_enter func92,ntmps92
  go_wp2_with fail
  exact G3 (F0 results92 _ _ _ _ _ _ _ rfl (H3 _ _) underlying156 rfl nn) rfl ⟨none,rfl,wK _ _,bal _ _⟩
 case x =>
  simp only [Fm.str]
  go_enter func92,ntmps92
  go_wp2_with fail
  exact G3 (F0 results92 _ _ _ _ _ _ _ rfl (H3 _ _) underlying156 rfl nn) rfl ⟨none,rfl,wK _ _,bal _ _⟩
 all_goals (
  simp only [Fm.str]
  go_enter func92,ntmps92
  go_wp2_with fail
  exact G3 (F0 results92 _ _ _ _ _ _ _ rfl (I5 _ _ _) underlying156 rfl nn) rfl ⟨some ⟨q.heap.size+1,0,none⟩,rfl,In _ _ _ _ _ rfl,(bal _ _).alloc bh _⟩)
def pM (x:Int) (l:List (Nat × Nat × Nat)):Int:=l.foldl (λa p=>H2 .or .u64 a (Uz.wrap (aG x p.1 p.2.1*2^p.2.2))) 0
def dP (f:Fm) (x:Int):Int:=if f.hasRd then aG x 7 5 else 0
def aV (f:Fm) (x:Int):Int:=if f.hasA then aG x 15 5 else 0
def bV (f:Fm) (x:Int):Int:=if f.hasB then aG x 20 5 else 0
theorem FW (h:z<C.length):H2 .or .u64 (pM p (C.take z)) (Uz.wrap (aG p (C.getD z (0,0,0)).1 (C.getD z (0,0,0)).2.1*2^(C.getD z (0,0,0)).2.2))=pM p (C.take (z+1)):=by
 have e:C.getD z (0,0,0)=C[z]:=by simp [S5,h]
 rw [e,List.take_succ_eq_append_getElem h];simp only [pM,List.foldl_append,List.foldl_cons,List.foldl_nil]
theorem lR.below {p:Option Addr} {l:List (Nat × Nat × Nat)} (h:lR w p l) (hb:Bw w a):lR a p l:=by intro k f;obtain ⟨g,e,w',b,c,d⟩:=h k f;exact ⟨g,e,L7 w' hb.size,(hb.cell (by exact w')).trans b,(hb.cell (by exact w')).trans c,(hb.cell (by exact w')).trans d⟩
theorem aC (hb:Bw w a) {g:Nat} {o:Obj} (h:w.heap[g]?=some o):a.heap[g]?=some o:=by
 rw [hb.block g ?_];·exact h
 ·obtain ⟨w',_⟩:=Array.getElem?_eq_some_iff.1 h;exact w'
theorem ig (h:Below c a w) (n:Nat):Below c a (w.drewN n):=⟨h.os,h.tape,h.output,h.size,h.block⟩
theorem zQ (a:0<=p) (b:p<18446744073709551616) (hk:z<64) (hn:A<64) (w:A0):
 H1 prog 73 #[.u p,.i z,.i A] w λe c=>e=.returned (.u (aG p z A))/\∃ m,c=w.drewN m :=
 (aL p z A a b hk hn w).mono λ_ _ h=>⟨h.1,1,h.2⟩
theorem gJ (c d e:Int):(#[L5 .i64 p,.i t,.i c,.i d,.i e]:Array H8).all (·.oneCell'):=by simp [Value.oneCell']
theorem bP:(prog.info? 61).map (·.size)=some 5:=by kernel_rfl
theorem tU (h0:0<=t) (h1:t<18446744073709551616) (w:A0): CB 93 #[.i p,.string g.str,.u t] w (.agg #[.i p,.i (dP g t),.i (aV g t),.i (bV g t),.i (L4 (aX g.width (pM t g.pcs)))]):=by
 have G:=pL g
 obtain ⟨b1,D⟩:∃ b,b=g.hasRd:=⟨_,rfl⟩
 obtain ⟨b2,E⟩:∃ b,b=g.hasA:=⟨_,rfl⟩
 obtain ⟨b3,F⟩:∃ b,b=g.hasB:=⟨_,rfl⟩
 obtain ⟨l,X⟩:∃ l,l=g.pcs:=⟨_,rfl⟩
 obtain ⟨B,x⟩:∃ B,B=g.width:=⟨_,rfl⟩
 obtain ⟨s,hs⟩:∃ s,s=g.str:=⟨_,rfl⟩
 have W1:1<=B:=by rw [x];cases g<;>decide
 have W2:B<=64:=by rw [x];cases g<;>decide
 have PB:Hid (∀ op ∈ l,op.1<64/\op.2.1<64/\op.2.2<64):=by
  show ∀ op ∈ l,op.1<64/\op.2.1<64/\op.2.2<64
  rw [X];cases g<;>decide
 have LB:l.length<=4:=by rw [X];cases g<;>decide
 rw [<- D,<- E,<- F,<- X,<- x,<- hs] at G
 have R1:Hid (dP g t=if b1 then aG t 7 5 else 0):=by show _=_;rw [dP,D]
 have R2:Hid (aV g t=if b2 then aG t 15 5 else 0):=by show _=_;rw [aV,E]
 have R3:Hid (bV g t=if b3 then aG t 20 5 else 0):=by show _=_;rw [bV,F]
 rw [<- hs,<- X,<- x]
 clear D E F X x hs
 obtain ⟨Y,H⟩:∃ y,y=aG t 7 5:=⟨_,rfl⟩
 obtain ⟨Z,I⟩:∃ y,y=aG t 15 5:=⟨_,rfl⟩
 obtain ⟨y3,J⟩:∃ y,y=aG t 20 5:=⟨_,rfl⟩
 have B1:=aL t 7 5 h0 h1 ba ba
 have B2:=aL t 15 5 h0 h1 ba ba
 have B3:=aL t 20 5 h0 h1 ba ba
 have L1:0<=Y/\Y<32:=by rw [H];exact jI t 7 5
 have L2:0<=Z/\Z<32:=by rw [I];exact jI t 15 5
 have L3:0<=y3/\y3<32:=by rw [J];exact jI t 20 5
 have V1:L4 Y=Y:=N1 _ aa
 have V2:L4 Z=Z:=N1 _ aa
 have V3:L4 y3=y3:=N1 _ aa
 rw [<- H] at B1 R1
 rw [<- I] at B2 R2
 rw [<- J] at B3 R3
 clear H I J L1 L2 L3
 have Q:Hid (∀ w:A0,H1 prog 73 #[.u t,.i 7,.i 5] w λe u=>e=.returned (.u Y)/\u=w.drew):=B1
 have R:Hid (∀ w:A0,H1 prog 73 #[.u t,.i 15,.i 5] w λe u=>e=.returned (.u Z)/\u=w.drew):=B2
 have S:Hid (∀ w:A0,H1 prog 73 #[.u t,.i 20,.i 5] w λe u=>e=.returned (.u y3)/\u=w.drew):=B3
 clear B1 B2 B3
 cases b1<;>cases b2<;>cases b3
 all_goals (
  go_enter func93,ntmps93
  go_wp2_with fail
  refine (G _).mono ?_
  rintro e d ⟨op,rfl,hP,c⟩
  clear G
  have P:Hid (d.heap[w.heap.size]?=some (.cells #[.i 0,.i 0,.i 0,.i 0,.i 0] 61 (0,0))):=by
   show _=_
   rw [c.block _ bh];exact H3 _ _
  have hsz:w.heap.size<d.heap.size:=by have:=c.size;simp at this;omega
  go_wp2_with (go_at_call 73;first | (with_reducible refine (Q.out _).mono ?_;rintro e w2 ⟨rfl,rfl⟩) | (with_reducible refine (R.out _).mono ?_;rintro e w2 ⟨rfl,rfl⟩) | (with_reducible refine (S.out _).mono ?_;rintro e w2 ⟨rfl,rfl⟩))
  go_loopw [9,37] (λacc i wr=>∃ k:Nat,k<=l.length/\i=.i k/\acc=.u (pM t (l.take k))/\∃ M N O:Int,∃ c1 c2 c3:Bool,Hid (M=dP g t)/\Hid (N=aV g t)/\Hid (O=bV g t) /\
   Hid (wr.heap[w.heap.size]?=some (.cells #[.i 0,.i 0,.i 0,.i 0,.i 0] 61 (0,0))) /\
   Hid (wr.heap[d.heap.size]?=some (.cells #[.bool c1,.bool c2,.bool c3,.slice op l.length l.length,.i B] 156 (0,0))) /\
   Hid (wr.heap[d.heap.size+1]?=some (.cells #[.i p,.i M,.i N,.i O,.i 0] 61 (0,0))) /\
   Hid (lR wr op l)/\Bw w wr)
   (λ_ i _=>l.length-(intOf i).toNat)
  case atStart =>
   have hb0:=((bal _ _).trans (c.mono bh):Bw w d)
   refine ⟨0,aa,rfl,rfl,_,_,_,_,_,_,?_,?_,?_,?_,I5 _ _ _,K0 _ _ _,?_,?_⟩
   ·show _=_;rw [R1.out];rfl
   ·show _=_;rw [R2.out];rfl
   ·show _=_;rw [R3.out];rfl
   ·exact aC e9 P.out
   ·exact lR.below hP.out e9
   ·exact ae hb0 e9
  case round =>
   obtain ⟨k,hk,rfl,rfl,M,N,O,c1,c2,c3,Q1,Q2,Q3,G6,G7,G8,HP,o⟩:=hrel
   clear hP c P
   by_cases bZ:k<l.length
   ·obtain ⟨f,hpg,hg,d0,d1,d2⟩:=HP.out k bZ
    subst hpg
    have AC:Hid (H2 .or .u64 (pM t (l.take k)) (Uz.wrap (aG t (l.getD k (0,0,0)).1 (l.getD k (0,0,0)).2.1*2^(l.getD k (0,0,0)).2.2))=pM t (l.take (k+1))):=FW t l k bZ
    have U:=PB.out (l.getD k (0,0,0)) (by simp [S5,bZ])
    obtain ⟨⟨pa,pb,pt⟩,hq⟩:∃ q,q=l.getD k (0,0,0):=⟨_,rfl⟩
    rw [<- hq] at d0 d1 d2 AC U
    clear hq
    obtain ⟨V,W,PB5⟩:=U
    simp only at d0 d1 d2 V W PB5
    have C:=zQ t pa pb h0 h1 V W
    obtain ⟨y,hy⟩:∃ y,y=aG t pa pb:=⟨_,rfl⟩
    obtain ⟨z,K⟩:∃ z,z=pM t (l.take k):=⟨_,rfl⟩
    rw [<- hy] at C
    have AC2:Hid (H2 .or .u64 z (Uz.wrap (y*2^pt))=pM t (l.take (k+1))):=by
     show _=_
     rw [K,hy];exact AC.out
    have BQ:Hid (∀ w:A0,H1 prog 73 #[.u t,.i pa,.i pb] w λe u=>e=.returned (.u y)/\∃ m,u=w.drewN m):=C
    rw [<- K]
    clear C AC hy K
    go_wp2_with fail
    go_quiet (first | (go_at_call 73;with_reducible refine Calls.quiet_of (BQ.out _)))
    go_wp2_with fail
    go_roundw
    case rel=>
     have r:Bw wr ((wr.alloc (.cells #[.i pa,.i pb,.i pt] 159)).drewN nq):=ig (bal _ _) nq
     exact ⟨k+1,aa,by go_num,by rw [<- AC2.out],M,N,O,c1,c2,c3,Q1,Q2,Q3,aC r G6.out,aC r G7.out,aC r G8.out,lR.below HP.out r,ae o r⟩
    case measure=>simp [intOf];omega
   ·have hkl:k=l.length:=by omega
    have A:l.take k=l:=List.take_of_length_le aa
    rw [A]
    subst hkl
    clear A Q R S R1 R2 R3
    obtain ⟨z,K⟩:∃ z,z=pM t l:=⟨_,rfl⟩
    have HZ:Hid (z=pM t l):=K
    rw [<- K]
    clear K
    have e7:=A5 wr d.heap.size 4 _ _ _ G7.out
    have L:∀ j,wr.cell? ⟨d.heap.size+1,j,none⟩=_:=λj=>A5 wr (d.heap.size+1) j _ _ _ G8.out
    have e80:=L 0
    have e81:=L 1
    have e82:=L 2
    have e83:=L 3
    have e84:=L 4
    have f84:=K1 wr (d.heap.size+1) 4 _ _ G8.out
    have T:(wr.setCell ⟨d.heap.size+1,4,none⟩ (.i (L4 (aX B z)))).heap[w.heap.size]?=some (.cells #[.i 0,.i 0,.i 0,.i 0,.i 0] 61 (0,0)):=by
     rw [A6 _ _ _ _ (by show w.heap.size≠d.heap.size+1;omega)];exact G6.out
    simp at e7 e80 e81 e82 e83 e84
    clear L
    go_wp2_with (first | (go_at_call 116;with_reducible refine (gI z B W1 W2 _).mono ?_;rintro e w2 ⟨rfl,hw2⟩;have hw3:=hw2.symm;subst hw3) | (refine wpList_store_rowTo rfl 61 (.tmp 6) (.tmp 59) rfl rfl w.heap.size #[.i p,.i M,.i N,.i O,.i (L4 (aX B z))] rfl rfl 61 _ T bP rfl (gJ p M N O _) ?_))
    refine G3 (F0 results93 _ _ _ _ _ _ _ rfl (setRow_heap _ _ _ _ _ _ T) underlying61 rfl bP) rfl ⟨?_,?_⟩
    ·rw [<- Q1.out,<- Q2.out,<- Q3.out,<- HZ.out]
    ·exact ay (o.setCell (by show w.heap.size<=d.heap.size+1;omega) _) (M5 _) _)
theorem Io (n c:Nat) (hn:n<=1048576) (b:q.heap[z]?=some (.cells #[.slice J n c,.i (n:Int)] 191 (0,0))): H1 prog 112 #[.p z 0] q λe j=>e=.returned (.int .i32 (-1))/\∃ k,j=q.drewN k:=by
 have f:=A5 q z 0 _ _ _ b;have g:=A5 q z 1 _ _ _ b;simp at f g;have l:((n:Int)==(n:Int)):=bh
 clear b;go_enter func112,ntmps112;go_wp2_with fail;go_quiet (fail)
 go_wp2_with fail;go_ret;exact ⟨rfl,_,rfl⟩
theorem FX (n c at_:Nat) (x:Int) (hn:n<=1048576) (bZ:at_<n) (j:A≠z) (d:q.heap[z]?=some (.cells #[.slice (some ⟨A,D,none⟩) n c,.i (at_:Int)] 191 (0,0))) (hx:q.cell? ⟨A,D+at_,none⟩=some (.int .i32 x)): H1 prog 112 #[.p z 0] q λe s=>e=.returned (.int .i32 x)/\∃ w r,s=((q.drewN w).setCell ⟨z,1,none⟩ (.i ((at_+1:Nat):Int))).drewN r:=by
 have l:=A5 q z 0 _ _ _ d;have m:=A5 q z 1 _ _ _ d;have f:=K1 q z 1 _ _ d;simp at l m;have b:((at_:Int)==(n:Int))=false:=by simp;omega
 have R:∀ k v,((q.drewN k).setCell ⟨z,1,none⟩ v).heap[z]?=some (.cells #[.slice (some ⟨A,D,none⟩) n c,v] 191 (0,0)):=λk v=>I4 (q.drewN k) z 1 _ _ v d;have t:∀ k v,((q.drewN k).setCell ⟨z,1,none⟩ v).cell? ⟨z,0,none⟩=some (.slice (some ⟨A,D,none⟩) n c):=λk v=>A5 _ _ _ _ _ _ (R k v);have u:∀ k v,((q.drewN k).setCell ⟨z,1,none⟩ v).cell? ⟨z,1,none⟩=some v:=λk v=>A5 _ _ _ _ _ _ (R k v);have y:∀ k v,((q.drewN k).setCell ⟨z,1,none⟩ v).cell? ⟨A,D+at_,none⟩=some (.int .i32 x):=by intro k v;unfold R5 at hx ⊢;rw [A6 _ _ _ _ (by show A≠z;exact j)];exact hx
 have o:L4 ((at_:Int)+1)=((at_+1:Nat):Int):=by unfold L4;omega
 have p:L4 (((at_+1:Nat):Int)-1)=(at_:Int):=by unfold L4;omega
 clear d R;go_enter func112,ntmps112;go_wp2_with fail;go_quiet (fail)
 go_wp2_with fail;go_quiet (fail)
 go_wp2_with fail;go_ret;exact ⟨rfl,_,_,rfl⟩
structure RL (w wr:A0) (gr gb c at_:Nat) (rs ns ms:List Int) (nv mv:H8):Prop where
 row:wr.heap[gr]?=some (.cells #[.slice (some ⟨gb,0,none⟩) rs.length c,.i (at_:Int)] 191 (0,0))
 run:∀ (k:Nat) (x:Int),rs[k]?=some x->wr.cell? ⟨gb,k,none⟩=some (.int .i32 x)
 nm:wr.ownsRow w.heap.size 21 1 nv ns.length (ns.map (L5 .i32))
 nu:wr.ownsRow w.heap.size 2 1 mv ms.length (ms.map (L5 .i64))
 bel:Bw w wr
 lo:w.heap.size<=gr
 ne:gb≠gr
 gbl:gb<wr.heap.size
 nap:∀ k,nv.ownBlock=some k->k≠gr/\k≠gb/\mv.ownBlock≠some k
 map_:∀ k,mv.ownBlock=some k->k≠gr/\k≠gb
 le:at_<=rs.length
 small:rs.length<=1048576
theorem pN {xs:List H8} (h:w.ownsRow c b 1 f n xs) (k:Nat) (hk:f.ownBlock=some k):k<w.heap.size:=by
 rcases h.2 with ⟨a,_⟩|⟨g,cap,base,a,v,e,_⟩;·rw [a] at hk;cases hk
 ·rw [a] at hk;simp only [L6,Option.some.injEq] at hk;subst hk;by_cases d:g<w.heap.size;·exact d
  ·rw [Array.getElem?_eq_none aa] at e;cases e
theorem pO {o:Obj} (h:w.heap[b]?=some o):b<w.heap.size:=by
 by_cases a:b<w.heap.size;·exact a
 ·rw [Array.getElem?_eq_none aa] at h;cases h
theorem RL.keep {wr:A0} (h:RL w wr b n c x d e o f l) (hb:Bw wr a):RL w a b n c x d e o f l :=
 ⟨by rw [hb.block _ (pO h.row)];exact h.row,λk at_ rs=>(hb.cell (World.block_lt_of_cell? _ _ (h.run k at_ rs))).trans (h.run k at_ rs),aZ h.nm hb,aZ h.nu hb,ae h.bel hb,h.lo,h.ne,L7 h.gbl hb.size,h.nap,h.map_,h.le,h.small⟩
theorem RL.step {wr:A0} (h:RL w wr n b c x d e o f l) (bZ:x<d.length):RL w (wr.setCell ⟨n,1,none⟩ (.i ((x+1:Nat):Int))) n b c (x+1) d e o f l:=by
 have i:wr.grownBy (wr.setCell ⟨n,1,none⟩ (.i ((x+1:Nat):Int))) (some n):=
  ⟨rfl,rfl,rfl,by simp [S1],λk _ at_=>A6 _ _ _ _ (by show k≠n;intro ns;exact at_ (by rw [ns]))⟩
 refine ⟨I4 wr n 1 _ _ _ h.row,λk rs at_=>?_,sX h.nm i (λk at_ ns=>(h.nap k at_).1 (Option.some.inj ns).symm),sX h.nu i (λk at_ ns=>(h.map_ k at_).1 (Option.some.inj ns).symm),h.bel.setCell h.lo _,h.lo,h.ne,?_,h.nap,h.map_,bZ,h.small⟩;·have g:=h.run k rs at_;unfold R5 at g ⊢;rw [A6 _ _ _ _ (by show b≠n;exact h.ne)];exact g
 ·have:=h.gbl;simpa [S1] using this
def ii (w:A0) (e:Nat) (a ns ms:List Int) (f mv:H8) (wr:A0):Prop:=∃ d c at_ b,RL w wr e d c at_ b ns ms f mv/\a=b.drop at_
theorem ii.bel {wr:A0} (h:ii w b d e o f l wr):Bw w wr:=by obtain ⟨ms,c,at_,i,a,g⟩:=h;exact a.bel
theorem ii.next {wr:A0} (h:ii w c d e o f l wr): H1 prog 112 #[.p c 0] wr λns p=>ns=.returned (.int .i32 (d.headD (-1)))/\Hid (ii w c d.tail e o f l p):=by
 obtain ⟨mv,i,at_,a,b,m⟩:=h;by_cases bZ:at_<a.length;·have s:a[at_]?=some a[at_]:=List.getElem?_eq_getElem bZ;have g:=b.run at_ a[at_] s;have j:a.drop at_=a[at_]::a.drop (at_+1):=List.drop_eq_getElem_cons bZ;refine (FX wr c mv 0 a.length i at_ a[at_] b.small bZ b.ne b.row (by rw [Nat.zero_add];exact g)).mono ?_;rintro ns p ⟨rfl,t,u,rfl⟩;refine ⟨by rw [m,j];rfl,?_⟩;have n:Bw wr (wr.drewN t):=ig (P2 _ _) _;have r:=(b.keep n).step bZ;exact ⟨mv,i,at_+1,a,r.keep (ig (P2 _ _) _),by rw [m,j];rfl⟩
 ·have ms:at_=a.length:=(by have:=b.le;omega);have q:=b.row;rw [ms] at q;refine (Io wr c _ a.length i b.small q).mono ?_;rintro ns p ⟨rfl,k,rfl⟩;have j:d=[]:=(by rw [m,ms];simp);refine ⟨by rw [j];rfl,?_⟩;exact ⟨mv,i,at_,a,b.keep (ig (P2 _ _) _),by rw [j,ms];simp⟩
theorem Ip:(prog.info? 21).map (λi=>(i.zero,i.size,i.bytes))=some (some (.int .i32 0),1,4):=by kernel_rfl
theorem Iq:(prog.info? 2).map (λi=>(i.zero,i.size,i.bytes))=some (some (.i 0),1,8):=by kernel_rfl
theorem RL.rowsKept {wr:A0} (h:RL w wr b n c x d e o l f) {row:Option Nat} (rs:wr.grownBy a row) (g:row≠some b) (i:row≠some n): a.heap[b]?=some (.cells #[.slice (some ⟨n,0,none⟩) d.length c,.i (x:Int)] 191 (0,0))/\(∀ (k:Nat) (at_:Int),d[k]?=some at_->a.cell? ⟨n,k,none⟩=some (.int .i32 at_)):=by refine ⟨by rw [rs.block b (pO h.row) (λns=>g ns.symm)];exact h.row,λk at_ j=>?_⟩;have mv:=h.run k at_ j;unfold R5 at mv ⊢;rw [rs.block n h.gbl (λns=>i ns.symm)];exact mv
theorem pP {wr:A0} (v:Q.guard=none) (rest x:Operand) (L:Q.op=.call {callee:=.builtin .append,args:=#[rest,x],argTypes:=#[189,189]}) (r:Int) (M:k.eval rest=f) (hx:k.eval x=.slice (some ⟨wr.heap.size,0,none⟩) 1 1) (I:ii w c d e o f l wr) (hn:e.length<=1048576) (h:∀ j p,ii w c d (e++[r]) o j l p->wpList prog s m B (k.put Q.dst j) p): wpList prog s m (Q::B) k (wr.alloc (.cells #[.int .i32 r] 21 (0,0))):=by
 obtain ⟨O,K,y,z,A⟩:=info_parts Ip;obtain ⟨G,C,at_,P,H,i⟩:=I;have b:=H.keep ((P2 wr.heap.size wr).alloc (M5 _) (.cells #[.int .i32 r] 21 (0,0)));refine H5 _ v rest x 189 L w.heap.size 21 O (.int .i32 0) 1 4 underlying189 K y z A rfl ba f e.length (e.map (L5 .i32)) M b.nm ⟨wr.heap.size,0,none⟩ 1 1 [.int .i32 r] hx rfl (gF wr _ _) ex ct aa b.bel.size ?_;intro R p mv n _ u;refine h R p ⟨G,C,at_,P,?_,i⟩;obtain ⟨E,F⟩:=b.rowsKept n (λms=>(b.nap _ ms).1 rfl) (λms=>(b.nap _ ms).2.1 rfl);have N:wr.heap.size<(wr.alloc (.cells #[.int .i32 r] 21 (0,0))).heap.size:=bh
 refine ⟨E,F,?_,sX b.nu n (λa ns ms=>(b.nap a ms).2.2 ns),R4 b.bel n b.bel.size ?_,b.lo,b.ne,L7 b.gbl n.size,?_,b.map_,b.le,b.small⟩;·rw [S2,T0];exact mv
 ·intro a ns;rcases b.nm.2 with ⟨t,_⟩|⟨g,cap,D,t,J,_⟩;·rw [t] at ns;cases ns
  ·rw [t] at ns;simp only [L6,Option.some.injEq] at ns;omega
 ·intro a ns;rcases u with ms|ms;·exact b.nap a (by rw [<- ms];exact ns)
  ·rw [ns] at ms;have S:=Option.some.inj ms;refine ⟨λq=>?_,λq=>?_,λq=>?_⟩;·have:=pO b.row;omega
   ·have:=b.gbl;omega
   ·have:=pN b.nu a q;omega
theorem aj {wr:A0} (v:Q.guard=none) (rest x:Operand) (M:Q.op=.call {callee:=.builtin .append,args:=#[rest,x],argTypes:=#[143,143]}) (r:Int) (N:k.eval rest=l) (hx:k.eval x=.slice (some ⟨wr.heap.size,0,none⟩) 1 1) (J:ii w c d e o f l wr) (hn:o.length<=1048577) (h:∀ mv t,ii w c d e (o++[r]) f mv t->wpList prog s m B (k.put Q.dst mv) t): wpList prog s m (Q::B) k (wr.alloc (.cells #[.i r] 2 (0,0))):=by
 obtain ⟨P,L,y,z,A⟩:=info_parts Iq;obtain ⟨H,n,at_,R,I,j⟩:=J;have b:=I.keep ((P2 wr.heap.size wr).alloc (M5 _) (.cells #[.i r] 2 (0,0)));refine H5 _ v rest x 143 M w.heap.size 2 P (.i 0) 1 8 underlying143 L y z A rfl ba l o.length (o.map (L5 .i64)) N b.nu ⟨wr.heap.size,0,none⟩ 1 1 [.i r] hx rfl (gF wr _ _) ex ct aa b.bel.size ?_;intro S t i p _ C;refine h S t ⟨H,n,at_,R,?_,j⟩;obtain ⟨F,G⟩:=b.rowsKept p (λms=>(b.map_ _ ms).1 rfl) (λms=>(b.map_ _ ms).2 rfl);have O:wr.heap.size<(wr.alloc (.cells #[.i r] 2 (0,0))).heap.size:=bh
 refine ⟨F,G,sX b.nm p (λa ns ms=>(b.nap a ns).2.2 ms),?_,R4 b.bel p b.bel.size ?_,b.lo,b.ne,L7 b.gbl p.size,?_,?_,b.le,b.small⟩;·rw [S2,T0];exact i
 ·intro a ns;rcases b.nu.2 with ⟨u,_⟩|⟨g,cap,D,u,K,_⟩;·rw [u] at ns;cases ns
  ·rw [u] at ns;simp only [L6,Option.some.injEq] at ns;omega
 ·intro a ns;refine ⟨(b.nap a ns).1,(b.nap a ns).2.1,λq=>?_⟩;rcases C with ms | ms;·exact (b.nap a ns).2.2 (by rw [<- ms];exact q)
  ·rw [q] at ms;have E:=Option.some.inj ms;have:=pN b.nm a ns;omega
 ·intro a ns;rcases C with ms|ms;·exact b.map_ a (by rw [<- ms];exact ns)
  ·rw [ns] at ms;have E:=Option.some.inj ms;refine ⟨λq=>?_,λq=>?_⟩;·have:=pO b.row;omega
   ·have:=b.gbl;omega
def mz (J:Nat->Act->A0->Prop) (Q:Exit->Act->A0->Prop):Exit->Act->A0->Prop
 | .goto l,a,w=>J l a w
 | e,a,w=>Q e a w
theorem sJ {P:Program} {c:Code} (J:Nat->Nat->Act->A0->Prop) (s:c.wp P (mz (λl k w=>∃ Q,J l Q k w) m) k w) (pass:∀ l Q k w,J l Q k w->∃ rest,findLabel c l=some rest/\rest.wp P (mz (λv y A=>∃ x,x<Q/\J v x y A) m) k w):(Code.scope c).wp P m k w:=by
 intro b a z;have key:∀ n l k w,J l n k w->∃ rest,findLabel c l=some rest/\∃ e y A,m e y A/\Arrives P (lone (b.at k (.code rest::.inScope c::a)) z w) b a z e y A:=by
  intro n;induction n using Nat.strongRecOn with
  | _ n I =>
    intro l k w F;obtain ⟨rest,G,H⟩:=pass l n k w F;refine ⟨rest,G,?_⟩;obtain ⟨e,d,g,o,f⟩:=H b (.inScope c::a) z;cases e with
    | normal=>exact ⟨.normal,d,g,o,Steps.trans f (.one K4)⟩
    | exit id=>exact ⟨.exit id,d,g,o,λD C=>f D (by simp [exitTo,C])⟩
    | goto v =>obtain ⟨x,bZ,t⟩:=o;obtain ⟨j,u,q,p,r,i,h⟩:=I x bZ v d g t;have B:gotoIn v (.inScope c::a)=some (.code j::.inScope c::a):=(by simp [gotoIn,u]);exact ⟨q,p,r,i,.of_steps (f _ B) h⟩
    | ret=>exact ⟨_,d,g,o,f⟩
    | panic E=>exact ⟨_,d,g,o,f⟩
    | outgrown=>exact ⟨_,d,g,o,f⟩
 obtain ⟨e,d,g,o,f⟩:=s b (.inScope c::a) z;cases e with
 | normal=>exact ⟨.normal,d,g,o,.head F3 (Steps.trans f (.one K4))⟩
 | exit id=>exact ⟨.exit id,d,g,o,λD C=>.head F3 (f D (by simp [exitTo,C]))⟩
 | goto v =>obtain ⟨x,t⟩:=o;obtain ⟨j,u,q,p,r,i,h⟩:=key x v d g t;have B:gotoIn v (.inScope c::a)=some (.code j::.inScope c::a):=(by simp [gotoIn,u]);exact ⟨q,p,r,i,.of_steps (.head F3 (f _ B)) h⟩
 | ret=>exact ⟨_,d,g,o,.of_steps (.one F3) f⟩
 | panic E=>exact ⟨_,d,g,o,.of_steps (.one F3) f⟩
 | outgrown=>exact ⟨_,d,g,o,.of_steps (.one F3) f⟩
inductive jK where
 | name (rem ns:List Int)
 | ahead (rem ns ms:List Int)
 | num (r:Int) (rem ns ms:List Int) (sign acc:Int)
abbrev RdRes:=Option (List Int × List Int)
def bD (r:Int) (a ns ms:List Int) (sign acc:Int):jK ⊕ RdRes :=
 if 48<=r/\r<=57 then .inl (.num (a.headD (-1)) a.tail ns ms sign (L4 (L4 (acc*10)+(r-48))))
 else if r=32 then .inl (.ahead a ns (ms++[L4 (sign*acc)]))
 else if r=-1 then .inr (some (ns,ms++[L4 (sign*acc)]))
 else .inr none
def cq (a ns ms:List Int):jK ⊕ RdRes :=
 if a.headD (-1)=120 then bD (a.tail.headD (-1)) a.tail.tail ns ms 1 0
 else if a.headD (-1)=45 then bD (a.tail.headD (-1)) a.tail.tail ns ms (-1) 0
 else bD (a.headD (-1)) a.tail ns ms 1 0
def fh (a ns:List Int):jK ⊕ RdRes :=
 if a.headD (-1)=-1 then .inr (some (ns,[]))
 else if a.headD (-1)=32 then cq a.tail ns []
 else .inl (.name a.tail (ns++[a.headD (-1)]))
def ap:jK->jK ⊕ RdRes
 | .name a b=>fh a b
 | .ahead a b d=>cq a b d
 | .num r a b d sign c=>bD r a b d sign c
inductive dh:jK->RdRes->Prop
 | stop {s:jK} {r:RdRes} (h:ap s=.inr r):dh s r
 | go {s s':jK} {r:RdRes} (h:ap s=.inl s') (k:dh s' r):dh s r
theorem dh.same {s:jK} {r r':RdRes} (h:dh s r) (c:dh s r'):r=r':=by
 induction h with
 | stop h =>
   cases c with
   | stop k=>rw [h] at k;exact Sum.inr.inj k
   | go k _=>rw [h] at k;cases k
 | go h k d =>
   cases c with
   | stop a=>rw [h] at a;cases a
   | go a b=>rw [h] at a;exact d (by rw [Sum.inl.inj a];exact b)
def jL (s:ByteArray):List Int:=(M7 s s.size 0 #[]).toList.map intOf
theorem tV:∀ (bound i:Nat) (a:Array H8),(∀ v ∈ a.toList,L5 .i32 (intOf v)=v)->∀ v ∈ (M7 P bound i a).toList,L5 .i32 (intOf v)=v:=by
 intro bound;induction bound with
 | zero=>intro i a h;exact h
 | succ n c =>
   intro i a h;unfold M7;split
   ·refine c _ _ ?_;intro v b;rw [Array.toList_push,List.mem_append] at b;rcases b with b|b;·exact h v b
    ·simp only [List.mem_cons,List.not_mem_nil,or_false] at b;rw [b];rfl
   ·exact h
theorem xX:M7 P P.size 0 #[]=((jL P).map (L5 .i32)).toArray:=by apply Array.toList_inj.1;simp only [jL,List.map_map];symm;rw [List.map_congr_left (g:=id),List.map_id];intro v a;exact tV P P.size 0 #[] bh v a
theorem Cs:(jL P).length<=P.size:=by have:=size_runesFrom P P.size 0 #[];simpa [jL] using this
