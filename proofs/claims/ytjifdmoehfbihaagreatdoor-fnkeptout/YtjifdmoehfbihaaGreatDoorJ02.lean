/- Own lemmas. -/
import Derived.Test.YtjifdmoehfbihaaGreatDoorAuj
import Derived.Test.YtjifdmoehfbihaaGreatDoorJ01
import Derived.WalkLawsBesides
import Derived.Laws.CopyOwn
import Derived.Deep.AppendSrc
set_option maxRecDepth 100000
set_option maxHeartbeats 1600000
namespace Go.Proofs.YtjifdmoehfbihaaGreatDoor
open Go.RowKit Tryz
open IntKind renaming u64->Uz
set_option linter.unusedVariables false
variable {a b w w':World} {d t c f B n g:Nat} {e:TypeId} {E x:List Int} {j o k W s m:Value} {r l o1 o2 o3:Obj} {y Q:Option Addr} {p:List Value} {q:IntKind} {A:Array Value} {P:Int} {z:Option Nat} {C:Nat × Nat} {D:Array Oper} {F:List Oper} {G:Oper} {I:Act} {J:Exit->Act->World->Prop} (K L:Int) (M:Bool) (N:World) (O:Option Addr) (R S:Nat) (T:Option Addr) (V:Nat) (X:List Int) (Y:Nat) (Z:Int)
def Sl (k:IntKind) (w:World) (a:Option Addr) (zs:List Int):Prop :=
 ∀ i,i<zs.length->∃ b c,a=some ⟨b,c,none⟩/\b<w.heap.size/\w.cell? ⟨b,c+i,none⟩=some (.int k (zs.getD i 0))
theorem Sl.below (h:Sl q a y E) (hb:Bw a b):Sl q b y E:=by intro i g;obtain ⟨w,d,e,c,f⟩:=h i g;exact ⟨w,d,e,Nat.lt_of_lt_of_le c hb.size,(hb.cell (by exact c)).trans f⟩
theorem dH (h:a.ownsRow d e t j n p) (hb:Bw a b):b.ownsRow d e t j n p:=by
 obtain ⟨f,w'⟩:=h;refine ⟨f,?_⟩;rcases w' with w'|⟨g,cap,w,v,i,c,r⟩;·exact Or.inl w'
 ·have base:g<a.heap.size:=by
   rcases Nat.lt_or_ge g a.heap.size with h|h;·exact h
   ·rw [Array.getElem?_eq_none h] at c;cases c
  exact Or.inr ⟨g,cap,w,v,i,by rw [hb.block g base];exact c,r⟩
theorem SJ (h:a.ownsRow d e t (.slice (some ⟨c,0,none⟩) n f) n p):c<a.heap.size:=by
 obtain ⟨j,w⟩:=h;rcases w with ⟨w,_⟩|⟨i,b,cap,base,k,g,r⟩;·cases w
 ·simp only [Value.slice.injEq,Option.some.injEq,Addr.mk.injEq,and_true,true_and] at base;obtain ⟨rfl,rfl⟩:=base;rcases Nat.lt_or_ge c a.heap.size with h|h;·exact h
  ·rw [Array.getElem?_eq_none h] at g;cases g
theorem kI (h:a.ownsRow d e 1 (.slice (some ⟨t,0,none⟩) n c) n (E.map (Value.int q))):Sl q a (some ⟨t,0,none⟩) E:=by
 intro i w;have b:n=E.length:=by have:=h.1;simp at this;omega
 refine ⟨t,0,rfl,SJ h,?_⟩;rw [Nat.zero_add,h.cellAt i ab];simp [List.getElem?_map,List.getElem?_eq_getElem w,List.getD]
theorem fL (h:a.ownsRow d e 1 (.slice y n t) n (E.map (Value.int q))):Sl q a y E:=by
 rcases h.2 with ⟨g,j⟩|⟨f,b,w,c,l,m,r⟩;·intro i o;have:=h.1;simp at this;omega
 ·simp only [Value.slice.injEq,true_and] at c;obtain ⟨rfl,rfl⟩:=c;exact kI h
theorem IW (ys:List Int) (k n:Nat) (hx:X.length=n) (hy:ys.length=n) (hk:k<n) (h:X.take k=ys.take k) (he:X.getD k 0=ys.getD k 0):X.take (k+1)=ys.take (k+1):=by
 rw [List.take_succ_eq_append_getElem ab,List.take_succ_eq_append_getElem ab,h];have a:X.getD k 0=X[k]:=by simp [List.getD,List.getElem?_eq_getElem (show k<X.length by omega)]
 have e2:ys.getD k 0=ys[k]:=by simp [List.getD,List.getElem?_eq_getElem (show k<ys.length by omega)]
 rw [<- a,<- e2,he]
def Bn (k:IntKind) (w:World) (a:Option Addr) (len cap:Nat) (zs:List Int):Prop :=
 (a=none/\len=0/\cap=0/\zs=[]) \/
 ∃ x,a=some x/\len<=cap/\cap<=maxLen/\zs.length=cap/\(∀ i,i<zs.length->w.cell? (x.add i)=some (.int k (zs.getD i 0)))/\∀ n ∈ zs,(Lit.int k n).wf=true
theorem Bn.sl (h:Bn q a y d t E): ∃ n:List Int,n.length=d/\Sl q a y n/\(∀ w ∈ n,(Lit.int q w).wf=true)/\d<=maxLen:=by
 rcases h with ⟨rfl,rfl,rfl,rfl⟩ | ⟨x,rfl,r,s,cap,c,m⟩;·exact ⟨[],rfl,λi l=>absurd l cp,cp,et⟩
 ·refine ⟨E.take d,bv,?_,λw k=>m w (List.mem_of_mem_take k),ab⟩;intro i l;simp only [List.length_take] at l;obtain ⟨b,f,g⟩:=x;have len:g=none:=(by simpa [Addr.add] using World.cell?_spot (c 0 ab));subst len;have p:(⟨b,f,none⟩:Addr).add i=⟨b,f+i,none⟩:=by
   by_cases o:i=0;·subst o;simp [Addr.add]
   ·simp [Addr.add,o]
  have j:=c i ab;rw [p] at j;refine ⟨b,f,rfl,World.block_lt_of_cell? _ _ j,?_⟩;have e:(E.take d).getD i 0=E.getD i 0:=(by simp [List.getD,show i<d by omega]);rw [e];exact j
theorem aa {w1:World} (h:Bw a w1) (k:Bw w1 b):Bw a b :=
 h.trans (k.mono h.size)
theorem jd (h:∀ y ∈ E,(Lit.int .u8 y).wf=true) (k:Nat):0<=E.getD k 0/\E.getD k 0<=255:=by
 by_cases a:k<E.length;·have:=h (E.getD k 0) (by simp [List.getD,List.getElem?_eq_getElem a]);simpa [Lit.wf,IntKind.min,IntKind.max,IntKind.signed,IntKind.bits] using this
 ·simp [List.getD,List.getElem?_eq_none (Nat.le_of_not_lt a)]
theorem nv:(X.map (Value.int .u8)).set Y (.int .u8 Z)=(X.set Y Z).map (Value.int .u8):=by rw [List.map_set]
theorem Ef:(K=1\/K=2\/K=4\/K=8)\/((K==1)=false/\(K==2)=false/\(K==4)=false/\(K==8)=false):=by
 by_cases a:K=1;·exact .inl (.inl a)
 ·by_cases b:K=2;·exact .inl (.inr (.inl b))
  ·by_cases c:K=4;·exact .inl (.inr (.inr (.inl c)))
   ·by_cases d:K=8;·exact .inl (.inr (.inr (.inr d)))
    ·exact .inr (by simp [a,b,c,d])
theorem KY (h:(P==1)=false/\(P==2)=false/\(P==4)=false/\(P==8)=false):jp P=false:=by simp at h;simp [jp,h]
theorem SK (h:(Lit.int .u64 P).wf=true):0<=P/\P<=18446744073709551615:=by simpa [Lit.wf,IntKind.min,IntKind.max,IntKind.signed,IntKind.bits] using h
theorem aZ {w:World} (h:w.grownBy a z) (k:a.grownBy b z):w.grownBy b z :=
 ⟨k.os.trans h.os,k.tape.trans h.tape,k.output.trans h.output,Nat.le_trans h.size k.size,λi d c=>(k.block i (Nat.lt_of_lt_of_le d h.size) c).trans (h.block i d c)⟩
theorem ny (row:Option Nat):N.grownBy N row:=⟨rfl,rfl,rfl,Nat.le_refl _,λ_ _ _=>rfl⟩
theorem Po (hs:Sl .u8 a (some ⟨d,t,none⟩) E) (o:Obj) (j:Nat) (u:Value) (c:(E.map (Value.int .u8))[j]?=some u): (a.alloc o).cell? ((⟨d,t,none⟩:Addr).add j)=some u:=by
 have w:j<E.length:=by
  rcases Nat.lt_or_ge j E.length with h|h;·exact h
  ·rw [List.getElem?_eq_none eo] at c;cases c
 obtain ⟨n,k,e,f,m⟩:=hs j w;simp only [Option.some.injEq,Addr.mk.injEq,and_true] at e;obtain ⟨rfl,rfl⟩:=e;have l:(⟨d,t,none⟩:Addr).add j=⟨d,t+j,none⟩:=by
  by_cases i:j=0;·subst i;simp [Addr.add]
  ·simp [Addr.add,i]
 have g:u=.int .u8 (E.getD j 0):=by simp [List.getElem?_eq_getElem w] at c;simp [List.getD,List.getElem?_eq_getElem w,c]
 rw [l,g,<- m];exact ((Below.refl a.heap.size a).alloc (Nat.le_refl _) o).cell (by exact f)
theorem jV (h:a.ownsRow d e 1 j n p) (hn:0<n):∃ g c,j=.slice (some ⟨g,0,none⟩) n c/\d<=g:=by
 rcases h.2 with ⟨_,f⟩|⟨g,cap,w,base,b,_⟩;·omega
 ·exact ⟨g,cap,base,b⟩
theorem zB:(⟨R,S,none⟩:Addr).add V=⟨R,S+V,none⟩:=by
 by_cases c:V=0;·subst c;simp [Addr.add]
 ·simp [Addr.add,c]
theorem mO {P:Program} (y:G.guard=none) (d s:Operand) (p:TypeId) (S:G.op=.call {callee:=.builtin .copy,args:=#[d,s],argTypes:=#[p,p]}) (e:TypeId) (T:P.underlying p=some (.slice e)) (w:(P.info? e).map (·.size)=some 1) (k:IntKind) (base g n c b l cap:Nat) (zs:List Int) (ys:List Value) (hd:I.eval d=.slice (some ⟨g,0,none⟩) n c) (hs:I.eval s=.slice (some ⟨b,l,none⟩) n cap) (q:a.ownsRow base e 1 (.slice (some ⟨g,0,none⟩) n c) n ys) (C:Sl k a (some ⟨b,l,none⟩) zs) (hz:zs.length=n) (h:∀ rest,rest.ownsRow base e 1 (.slice (some ⟨g,0,none⟩) n c) n (zs.map (Value.int k))->a.grownBy rest (some g)->wpList P D J F (I.put G.dst (goInt n)) rest):wpList P D J (G::F) I a:=by
 rcases q.2 with ⟨M,_⟩|⟨W,V,m,K,v,Q,A,x,O,E⟩;·cases M
 ·simp only [Value.slice.injEq,Option.some.injEq,Addr.mk.injEq,and_true,true_and] at K;obtain ⟨rfl,rfl⟩:=K;have t:(zs.map (Value.int k)).length=n:=(by rw [List.length_map,hz]);have o:m.toList.length=c:=(by rw [Array.length_toList];omega);refine wpList_copy_own y d s p p S e T w g 0 n c ⟨b,l,none⟩ n cap hd hs m e Q (zs.map (Value.int k)) (by rw [t];exact (Nat.min_self n).symm) ?_ (by rw [t];omega) (ints_oneCell _ _) ?_
  ·intro j u f;have z:j<zs.length:=by
    rcases Nat.lt_or_ge j zs.length with h|h;·exact h
    ·rw [List.getElem?_eq_none eo] at f;cases f
   obtain ⟨U,L,H,R,N⟩:=C j z;simp only [Option.some.injEq,Addr.mk.injEq,and_true] at H;obtain ⟨rfl,rfl⟩:=H;have r:u=.int k (zs.getD j 0):=(by simp [List.getElem?_eq_getElem z] at f;simp [List.getD,List.getElem?_eq_getElem z,f]);rw [zB,r];exact N
  ·rw [t];refine h _ ⟨by rw [t];omega,.inr ⟨g,c,_,rfl,v,setRow_heap a g _ _ e _ Q,A,x,?_,?_⟩⟩ ⟨rfl,rfl,rfl,by simp [World.setRow],λi X B=>setRow_other a g i _ (by intro h;apply B;rw [h])⟩;·simp [hz];omega
   ·simp [hz]
theorem zC (h:a.ownsRow d e t j n p) (w':a.grownBy b z) (w:∀ k,j.ownBlock=some k->z≠some k): b.ownsRow d e t j n p:=by
 refine h.kept w' ?_;cases c:j.ownBlock with
 | none=>exact .inl rfl
 | some k=>exact .inr (λh=>w k c h.symm)
theorem cF (h:a.ownsRow d e c j n p) (hb:t<=d):a.ownsRow t e c j n p:=by
 obtain ⟨w,size⟩:=h;refine ⟨w,?_⟩;rcases size with size|⟨g,cap,b,i,f,r⟩;·exact Or.inl size
 ·exact Or.inr ⟨g,cap,b,i,Nat.le_trans hb f,r⟩
theorem info5:(prog.info? 5).map (λi=>(i.zero,i.size,i.bytes))=some (some (.int .u8 0),1,1):=by kernel_rfl
theorem pN (w:World) (hn:R<=1048576): CE 59 #[.slice O R S] w (.bool (bf R)):=by
 by_cases b:4096<=R
 ·by_cases c:R<=65536
  ·have f:decide ((R:Int)<=65536)=true:=bv;by_cases d:R%4096=0;·have F:Hid (bf R=true):=(by show bf R=true;simp [bf,b,c,d]);have g:((R:Int)%4096==0)=true:=bv;go_enter func59,ntmps59;go_wp2;go_ret;exact ⟨bh,rfl⟩
   ·have F:Hid (bf R=false):=(by show bf R=false;simp [bf,d]);have g:((R:Int)%4096==0)=false:=bv;go_enter func59,ntmps59;exact v9
  ·have F:Hid (bf R=false):=(by show bf R=false;simp [bf,c]);have f:decide ((R:Int)<=65536)=false:=bv;go_enter func59,ntmps59;exact v9
 ·have F:Hid (bf R=false):=(by show bf R=false;simp [bf,b]);have l:decide ((4096:Int)<=R)=false:=bv;go_enter func59,ntmps59;exact v9
theorem fx (w:World) (hn:R<=1048576): CE 69 #[.slice O R S] w (.bool (bf R)):=by
 by_cases b:4096<=R
 ·by_cases c:R<=65536
  ·have f:decide ((R:Int)<=65536)=true:=bv;by_cases d:R%4096=0;·have F:Hid (bf R=true):=(by show bf R=true;simp [bf,b,c,d]);have g:((R:Int)%4096==0)=true:=bv;go_enter func69,ntmps69;go_wp2;go_ret;exact ⟨bh,rfl⟩
   ·have F:Hid (bf R=false):=(by show bf R=false;simp [bf,d]);have g:((R:Int)%4096==0)=false:=bv;go_enter func69,ntmps69;exact v9
  ·have F:Hid (bf R=false):=(by show bf R=false;simp [bf,c]);have f:decide ((R:Int)<=65536)=false:=bv;go_enter func69,ntmps69;exact v9
 ·have F:Hid (bf R=false):=(by show bf R=false;simp [bf,b]);have l:decide ((4096:Int)<=R)=false:=bv;go_enter func69,ntmps69;exact v9
theorem O9 (xs:List Int) (w:World) (hn:R<=1048576) (F:0<=Z) (G:Z<=1099511627776) (d:w.ownsRow V 5 1 (.slice O R S) R (xs.map (Value.int .u8))): Calls prog 46 #[.slice O R S,.i Z] w λe B=>e=.returned (.i (Z+R)) /\ B.ownsRow V 5 1 (.slice O R S) R ((n7 Z R).map (Value.int .u8))/\w.grownBy B (Value.slice O R S).ownBlock:=by
 have s:Hid (xs.length=R):=by show xs.length=R;have:=d.1;simpa using this
 rcases d.2 with ⟨y,I⟩ | ⟨g,u,C,A,J,_⟩;·simp only [Value.slice.injEq] at y;obtain ⟨rfl,rfl,rfl⟩:=y;have t:xs=[]:=List.eq_nil_of_length_eq_zero s.out;subst t;go_enter func46,ntmps46;go_wp2;refine wp_loop_rounds 1 ?_;rw [rounds_succ];go_wp2;go_ret;exact ⟨cp,d,⟨rfl,rfl,rfl,Nat.le_refl _,λ_ _ _=>rfl⟩⟩
 ·simp only [Value.slice.injEq,true_and] at A;obtain ⟨rfl,rfl⟩:=A;have m:w.ownsRow V 5 1 (.slice (some ⟨g,0,none⟩) R S) R ((Mk xs Z R 0).map (Value.int .u8)):=(by rw [Pj];exact d);clear d;go_enter func46,ntmps46;go_wp2;go_loopw [1,5] (λc i wr=>∃ j:Nat,j<=R/\i=.i j/\c=.i (Z+j)/\wr.ownsRow V 5 1 (.slice (some ⟨g,0,none⟩) R S) R ((Mk xs Z R j).map (Value.int .u8))/\w.grownBy wr (some g))
   (λ_ i _=>R-(intOf i).toNat)
  case atStart=>exact ⟨0,Nat.zero_le _,rfl,cp,m,⟨rfl,rfl,rfl,Nat.le_refl _,λ_ _ _=>rfl⟩⟩
  case round =>
   obtain ⟨j,E,rfl,rfl,d,l⟩:=hrel;clear m;by_cases p:j<R
   ·have D:wr.frozen? ⟨g,j,none⟩=false:=d.frozenAt j;have f:=d.stored j (.int .u8 ((Z+(j:Int))%256));obtain ⟨K,H⟩:∃ v,wr.cell? ⟨g,j,none⟩=some v:=(by rw [d.cellAt j ab];exact ⟨_,List.getElem?_eq_getElem (by rw [List.length_map,SF _ _ _ _ s.out E];exact p)⟩);rw [nv,SG _ _ _ _ s.out p] at f;have o:w.grownBy (wr.setCell ⟨g,j,none⟩ (.int .u8 ((Z+(j:Int))%256))) (some g):=
     ⟨f.2.os.trans l.os,f.2.tape.trans l.tape,f.2.output.trans l.output,Nat.le_trans l.size f.2.size,λb z q=>(f.2.block b (Nat.lt_of_lt_of_le z l.size) q).trans (l.block b z q)⟩
    have r:=f.1;clear f d;go_wp2;go_roundw;case rel=>exact ⟨j+1,ab,by go_num,by go_num,r,o⟩
    case measure=>simp [intOf];omega
   ·have:j=R:=by omega
    subst this;rw [SE _ _ _ s.out] at d;go_wp2;go_ret;exact ⟨rfl,d,l⟩
theorem gK:CE 229 #[.i K] N (.bool (jp K)):=by
 rcases Ef K with (rfl|rfl|rfl|rfl)|h;·go_enter func229,ntmps229;exact wl
 ·go_enter func229,ntmps229;exact wl
 ·go_enter func229,ntmps229;exact wl
 ·go_enter func229,ntmps229;exact wl
 ·have F:Hid (jp K=false):=KY h;obtain ⟨c,d,f,g⟩:=h;go_enter func229,ntmps229;exact v9
def fi (n:Nat) (addr size:Int):Int:=if gi n addr size then addr-2147483648 else 0
theorem lq (size:Int) (w:World) (hn:R<=1048576) (t:0<=Z) (p:Z<=18446744073709551615): CE 226 #[.slice O R S,.u Z,.i size] w (.tuple #[.i (fi R Z size),.bool (gi R Z size)]):=by
 cases j:bf R;·have b:Hid (gi R Z size=false):=(by show gi R Z size=false;simp [gi,j]);have d:Hid (fi R Z size=0):=ps;go_enter func226,ntmps226;go_wp2_with (go_at_call 69;refine (fx _ _ _ _ hn).mono ?_;rintro e c ⟨rfl,rfl⟩);go_ret2;exact ⟨tt,rfl⟩
 ·have u:=fT j;cases g:jp size;·have b:Hid (gi R Z size=false):=(by show gi R Z size=false;simp [gi,g]);have d:Hid (fi R Z size=0):=ps;go_enter func226,ntmps226;go_wp2_with (first | (go_at_call 69;refine (fx _ _ _ _ hn).mono ?_;rintro e c ⟨rfl,rfl⟩) | (go_at_call 229;refine (gK _ _).mono ?_;rintro e c ⟨rfl,rfl⟩));go_ret2;exact ⟨tt,rfl⟩
  ·have l:size=1\/size=2\/size=4\/size=8:=of_decide_eq_true g;have r:1<=size:=ab;have s:size<=8:=ab;clear l;by_cases f:Z<2147483648;·have b:Hid (gi R Z size=false):=ki;have d:Hid (fi R Z size=0):=ps;have m:decide (Z<2147483648)=true:=i3;go_enter func226,ntmps226;go_wp2_with (first | (go_at_call 69;refine (fx _ _ _ _ hn).mono ?_;rintro e c ⟨rfl,rfl⟩) | (go_at_call 229;refine (gK _ _).mono ?_;rintro e c ⟨rfl,rfl⟩));go_ret2;exact ⟨tt,rfl⟩
   ·have m:decide (Z<2147483648)=false:=i3;by_cases q:Z-2147483648+size<=R;·have b:Hid (gi R Z size=true):=(by show gi R Z size=true;simp [gi,j,g];omega);have d:Hid (fi R Z size=Z-2147483648):=(by show fi R Z size=_;simp [fi,b.out]);have o:decide ((R:Int)-size<Z-2147483648)=false:=bv;go_enter func226,ntmps226;go_wp2_with (first | (go_at_call 69;refine (fx _ _ _ _ hn).mono ?_;rintro e c ⟨rfl,rfl⟩) | (go_at_call 229;refine (gK _ _).mono ?_;rintro e c ⟨rfl,rfl⟩));go_ret2;exact ⟨tt,rfl⟩
    ·have b:Hid (gi R Z size=false):=ki;have d:Hid (fi R Z size=0):=ps;have o:decide ((R:Int)-size<Z-2147483648)=true:=bv;go_enter func226,ntmps226;go_wp2_with (first | (go_at_call 69;refine (fx _ _ _ _ hn).mono ?_;rintro e c ⟨rfl,rfl⟩) | (go_at_call 229;refine (gK _ _).mono ?_;rintro e c ⟨rfl,rfl⟩));go_ret2;exact ⟨tt,rfl⟩
theorem vh (size:Int) (w:World) (hr:bf R=true) (g:jp size=true) (t:0<=Z) (p:Z<=18446744073709551615): CE 117 #[.slice O R S,.u Z,.i size] w (.bool (gi R Z size)):=by
 have u:=fT hr;have l:size=1\/size=2\/size=4\/size=8:=of_decide_eq_true g;have q:1<=size:=ab
 have r:size<=8:=ab
 clear l;by_cases b:2147483648<=Z
 ·by_cases d:Z-2147483648<R
  ·by_cases f:size<=R-(Z-2147483648);·have c:Hid (gi R Z size=true):=(by show gi R Z size=true;simp [gi,hr,g];omega);have j:decide (2147483648<=Z)=true:=la;have m:decide (Z-2147483648<(R:Int))=true:=kc;have o:decide (size<=(R:Int)-(Z-2147483648))=true:=i3;go_enter func117,ntmps117;go_wp2;go_ret;exact ⟨by rw [c.out];rfl,rfl⟩
   ·have c:Hid (gi R Z size=false):=ki;have j:decide (2147483648<=Z)=true:=la;have m:decide (Z-2147483648<(R:Int))=true:=kc;have o:decide (size<=(R:Int)-(Z-2147483648))=false:=i3;exact ww
  ·have c:Hid (gi R Z size=false):=ki;have j:decide (2147483648<=Z)=true:=la;have m:decide (Z-2147483648<(R:Int))=false:=kc;exact ww
 ·have c:Hid (gi R Z size=false):=ki;have j:decide (2147483648<=Z)=false:=la;exact ww
theorem vi (zs:List Int) (w:World) (hz:zs.length=R) (hn:R<=1048576) (hs:Sl .u8 w O zs) (p:∀ y ∈ zs,(Lit.int .u8 y).wf=true) (u:1<=Y) (hm:Y<=8) (C:V+Y<=R): CE 118 #[.slice O R S,.u (2147483648+(V:Int)),.i (Y:Int)] w (.u (le zs V Y)):=by
 have q:Hid (zs.length=R):=hz;have o:Hid (∀ y ∈ zs,(Lit.int .u8 y).wf=true):=p;clear hz p;go_enter func118,ntmps118;go_wp2;go_loop [8,9] (λx i=>∃ j:Nat,j<=Y/\i=.i ((j:Int)-1)/\x=.u (le zs (V+j) (Y-j))) (λ_ i=>(intOf i+1).toNat);case atStart=>exact ⟨Y,Nat.le_refl _,rfl,by simp [le]⟩
 case round =>
  obtain ⟨j,D,rfl,rfl⟩:=hrel;by_cases t:1<=j
  ·obtain ⟨k,rfl⟩:∃ k,j=k+1:=⟨j-1,ab⟩;obtain ⟨b,z,rfl,B,s⟩:=hs (V+k) (by have:=q.out;omega);have g:=jd o.out (V+k);obtain ⟨x,d⟩:∃ x,x=zs.getD (V+k) 0:=⟨_,rfl⟩;obtain ⟨y,c⟩:∃ y,y=le zs (V+(k+1)) (Y-(k+1)):=⟨_,rfl⟩;rw [<- d] at s g;rw [<- c];have l:=SA zs (jd o.out) (Y-(k+1)) (V+(k+1)) ab;rw [<- c] at l;have cap:Hid (bits .or .u64 (y*256) x=le zs (V+k) (Y-k)):=(by show bits .or .u64 (y*256) x=le zs (V+k) (Y-k);rw [SC y x l.1 l.2 g.1 g.2,show Y-k=(Y-(k+1))+1 from ab,le,d,c];rfl);clear d c;go_wp2;go_round;case rel=>exact ⟨k,ab,by go_num,by rw [<- cap.out]⟩
   case measure=>simp [intOf]
  ·have r:j=0:=ab;subst r;exact wl
theorem SM (c d e b6 f:Int) (w:World):(Instr.index 253 (.agg #[.int .u8 K,.int .u8 L,.int .u8 Z,.int .u8 c,.int .u8 d,.int .u8 e,.int .u8 b6,.int .u8 f]) (.i 0)).run prog w=.ok (.int .u8 K) w:=by kernel_rfl
theorem SO (c d e b6 f:Int) (w:World):(Instr.index 253 (.agg #[.int .u8 K,.int .u8 L,.int .u8 Z,.int .u8 c,.int .u8 d,.int .u8 e,.int .u8 b6,.int .u8 f]) (.i 1)).run prog w=.ok (.int .u8 L) w:=by kernel_rfl
theorem SP (c d e b6 f:Int) (w:World):(Instr.index 253 (.agg #[.int .u8 K,.int .u8 L,.int .u8 Z,.int .u8 c,.int .u8 d,.int .u8 e,.int .u8 b6,.int .u8 f]) (.i 2)).run prog w=.ok (.int .u8 Z) w:=by kernel_rfl
theorem SQ (a d e b6 f:Int) (w:World):(Instr.index 253 (.agg #[.int .u8 K,.int .u8 L,.int .u8 Z,.int .u8 a,.int .u8 d,.int .u8 e,.int .u8 b6,.int .u8 f]) (.i 3)).run prog w=.ok (.int .u8 a) w:=by kernel_rfl
theorem SS (d a e b6 f:Int) (w:World):(Instr.index 253 (.agg #[.int .u8 K,.int .u8 L,.int .u8 Z,.int .u8 d,.int .u8 a,.int .u8 e,.int .u8 b6,.int .u8 f]) (.i 4)).run prog w=.ok (.int .u8 a) w:=by kernel_rfl
theorem ST (d e a b6 f:Int) (w:World):(Instr.index 253 (.agg #[.int .u8 K,.int .u8 L,.int .u8 Z,.int .u8 d,.int .u8 e,.int .u8 a,.int .u8 b6,.int .u8 f]) (.i 5)).run prog w=.ok (.int .u8 a) w:=by kernel_rfl
theorem SU (c d e b6 f:Int) (w:World):(Instr.index 253 (.agg #[.int .u8 K,.int .u8 L,.int .u8 Z,.int .u8 c,.int .u8 d,.int .u8 e,.int .u8 b6,.int .u8 f]) (.i 6)).run prog w=.ok (.int .u8 b6) w:=by kernel_rfl
theorem SV (d e f b6 a:Int) (w:World):(Instr.index 253 (.agg #[.int .u8 K,.int .u8 L,.int .u8 Z,.int .u8 d,.int .u8 e,.int .u8 f,.int .u8 b6,.int .u8 a]) (.i 7)).run prog w=.ok (.int .u8 a) w:=by kernel_rfl
theorem VM (c d e b6 f:Int) (w:World) (k:Nat) (hk:k<8): (Instr.index 253 (.agg #[.int .u8 K,.int .u8 L,.int .u8 Z,.int .u8 c,.int .u8 d,.int .u8 e,.int .u8 b6,.int .u8 f]) (.i (k:Int))).run prog w=.ok (.int .u8 ([K,L,Z,c,d,e,b6,f].getD k 0)) w:=by
 match k,hk with
 | 0,_=>exact SM K L Z c d e b6 f w
 | 1,_=>exact SO K L Z c d e b6 f w
 | 2,_=>exact SP K L Z c d e b6 f w
 | 3,_=>exact SQ K L Z c d e b6 f w
 | 4,_=>exact SS K L Z c d e b6 f w
 | 5,_=>exact ST K L Z c d e b6 f w
 | 6,_=>exact SU K L Z c d e b6 f w
 | 7,_=>exact SV K L Z c d e b6 f w
theorem vj (f b2 g j l b6 m:Int) (w:World) (hb:X=[Z,f,b2,g,j,l,b6,m]) (q:∀ i,0<=X.getD i 0/\X.getD i 0<=255): CB 227 #[.agg #[.int .u8 Z,.int .u8 f,.int .u8 b2,.int .u8 g,.int .u8 j,.int .u8 l,.int .u8 b6,.int .u8 m]] w (.u (le X 0 8)):=by
 have r:Hid (X=[Z,f,b2,g,j,l,b6,m]):=hb;have p:Hid (∀ i,0<=X.getD i 0/\X.getD i 0<=255):=q;clear hb q;go_enter func227,ntmps227;go_wp2;go_loop [3,7] (λx i=>∃ k:Nat,k<=8/\i=.i (k:Int)/\x=.u (le X 0 k)) (λ_ i=>8-(intOf i).toNat);case atStart=>exact ⟨0,ab,rfl,rfl⟩
 case round =>
  obtain ⟨k,B,rfl,rfl⟩:=hrel;by_cases o:k<8
  ·obtain ⟨x,b⟩:∃ x,x=X.getD k 0:=⟨_,rfl⟩;obtain ⟨y,c⟩:∃ y,y=le X 0 k:=⟨_,rfl⟩;have u:=p.out k;have z:=yr X p.out k 0;rw [<- b] at u;rw [<- c] at z ⊢;have t:∀ w,(Instr.index 253 (.agg #[.int .u8 Z,.int .u8 f,.int .u8 b2,.int .u8 g,.int .u8 j,.int .u8 l,.int .u8 b6,.int .u8 m]) (.i (k:Int))).run prog w=.ok (.int .u8 x) w:=(by intro w;rw [b,r.out];exact VM Z f b2 g j l b6 m w k o);have S:Hid (bits .or .u64 y (Uz.wrap (x*2^(8*k)))=le X 0 (k+1)):=(by show bits .or .u64 y (Uz.wrap (x*2^(8*k)))=le X 0 (k+1);have:=IQ X p.out 0 k o;rw [Nat.zero_add] at this;rw [b,c];exact this);clear b c;go_wp2;go_round;case rel=>exact ⟨k+1,ab,by go_num,by rw [S.out]⟩
   case measure=>simp [intOf];omega
  ·have s:k=8:=ab;subst s;go_wp2;go_ret;exact ⟨rfl,bal _ _⟩
theorem qt (w:World) (c:1<=R) (hm:R<=8) (b:0<=K) (hx:K<18446744073709551616): CE 228 #[.u K,.i (R:Int)] w (.u (K%256^R)):=by have F:Hid (Uz.wrap (K*2^(64-8*R))/2^(64-8*R)=K%256^R):=yt K R c hm b;go_enter func228,ntmps228;go_wp2;go_ret;exact ⟨by rw [<- F.out];rfl,rfl⟩
def mP (zs:List Int) (n:Nat) (addr size:Int):Int:=if gi n addr size then le zs (addr-2147483648).toNat size.toNat else 0
theorem RV (w:World) (hz:X.length=V) (u:S+8<=V) (hs:Sl .u8 w (some ⟨R,0,none⟩) X) (r:∀ y ∈ X,(Lit.int .u8 y).wf=true): ∃ d f h j k l m o:Int,∃ B:{bs:List Int // bs=[d,f,h,j,k,l,m,o]}, w.cell? ⟨R,S,none⟩=some (.int .u8 d)/\w.cell? ⟨R,S+1,none⟩=some (.int .u8 f)/\w.cell? ⟨R,S+2,none⟩=some (.int .u8 h)/\w.cell? ⟨R,S+3,none⟩=some (.int .u8 j) /\ w.cell? ⟨R,S+4,none⟩=some (.int .u8 k)/\w.cell? ⟨R,S+5,none⟩=some (.int .u8 l)/\w.cell? ⟨R,S+6,none⟩=some (.int .u8 m)/\w.cell? ⟨R,S+7,none⟩=some (.int .u8 o) /\ Hid (∀ i,0<=B.1.getD i 0/\B.1.getD i 0<=255)/\Hid (le B.1 0 8=le X S 8):=by
 have c:∀ i,i<8->w.cell? ⟨R,S+i,none⟩=some (.int .u8 (X.getD (S+i) 0)):=by intro i t;obtain ⟨b,s,e,_,q⟩:=hs (S+i) ab;simp only [Option.some.injEq,Addr.mk.injEq,and_true] at e;obtain ⟨rfl,rfl⟩:=e;rw [Nat.zero_add] at q;exact q
 have a:=jd r;refine ⟨_,_,_,_,_,_,_,_,⟨[X.getD S 0,X.getD (S+1) 0,X.getD (S+2) 0,X.getD (S+3) 0,X.getD (S+4) 0,X.getD (S+5) 0,X.getD (S+6) 0,X.getD (S+7) 0],rfl⟩,c 0 ab,c 1 ab,c 2 ab,c 3 ab,c 4 ab,c 5 ab,c 6 ab,c 7 ab,?_,?_⟩
 ·intro i;match i with
  | 0=>exact a S
  | 1=>exact a (S+1)
  | 2=>exact a (S+2)
  | 3=>exact a (S+3)
  | 4=>exact a (S+4)
  | 5=>exact a (S+5)
  | 6=>exact a (S+6)
  | 7=>exact a (S+7)
  | i+8=>simp
 ·show le [X.getD S 0,X.getD (S+1) 0,X.getD (S+2) 0,X.getD (S+3) 0,X.getD (S+4) 0,X.getD (S+5) 0,X.getD (S+6) 0,X.getD (S+7) 0] 0 8=le X S 8;rfl
theorem qu (size:Int) (w:World) (hz:X.length=S) (hn:S<=1048576) (hs:Sl .u8 w (some ⟨R,0,none⟩) X) (Q:∀ y ∈ X,(Lit.int .u8 y).wf=true) (O:S<=V) (I:V<=9223372036854775807) (G:0<=Z) (j:Z<=18446744073709551615): CB 188 #[.slice (some ⟨R,0,none⟩) S V,.u Z,.i size] w (.tuple #[.u (mP X S Z size),.bool (gi S Z size)]):=by
 have K:Hid (X.length=S):=hz;have c:Hid (∀ y ∈ X,(Lit.int .u8 y).wf=true):=Q;clear hz Q;cases b:gi S Z size;·have q:Hid (mP X S Z size=0):=(by show mP X S Z size=0;simp [mP,b]);go_enter func188,ntmps188;go_wp2_with (go_at_call 226;refine (lq _ _ _ _ _ _ hn G j).mono ?_;rintro e r ⟨rfl,rfl⟩);go_ret2;exact ⟨by rw [q.out];rfl,Below.refl _ _⟩
 ·obtain ⟨_,_,hb1,hb2,hs1,hs2,hn1,hn2⟩:=iR b;obtain ⟨f,hf⟩:∃ f:Nat,Z=2147483648+(f:Int):=⟨(Z-2147483648).toNat,ab⟩;obtain ⟨m,hm⟩:∃ m:Nat,size=(m:Int):=⟨size.toNat,ab⟩;subst hf hm;have q:Hid (mP X S (2147483648+(f:Int)) (m:Int)=le X f m):=(by show mP X S (2147483648+(f:Int)) (m:Int)=le X f m;simp only [mP,b,if_true];rw [show (2147483648+(f:Int)-2147483648).toNat=f from ab,Int.toNat_natCast]);have M:Hid (fi S (2147483648+(f:Int)) (m:Int)=f):=(by show fi S (2147483648+(f:Int)) (m:Int)=f;simp only [fi,b,if_true];omega);by_cases hle:f<=S-8;·have H:∀ w,(Instr.arrayAt 253 (.slice (some ⟨R,f,none⟩) 8 (V-f))).run prog w=.ok (.p R f) w:=λw=>run_arrayAt w 253 _ 8 _ 8 (V-f) underlying253 ab;obtain ⟨s,t,u,z,A,C,E,F,B,n,T,U,cap,W,zs,Y,addr,l,L⟩:=RV R f S X w K.out ab hs c.out;go_enter func188,ntmps188;go_wp2_with (first | (go_at_call 226;refine (lq _ _ _ _ _ _ hn G j).mono ?_;rw [M.out];rintro e r ⟨rfl,rfl⟩) | (go_at_call 227;refine (vj B.1 s t u z A C E F _ B.2 l.out).mono ?_;rw [L.out];rintro e w1 ⟨rfl,o⟩));have g:Hid (le X f 8%256^m=le X f m):=(by have:=KT X (jd c.out) f m (8-m);rw [show m+(8-m)=8 from ab] at this;exact this);have N:=uT X (jd c.out) 8 f ab;refine (qt (le X f 8) m _ ab ab N.1 N.2).mono ?_;rw [g.out];rintro e w2 ⟨rfl,rfl⟩;go_wp2_with fail;go_ret2;exact ⟨by rw [q.out];rfl,o⟩
  ·obtain ⟨p,hp⟩:∃ p,S=p+8:=⟨S-8,ab⟩;obtain ⟨d,hd⟩:∃ d,f=p+d:=⟨f-p,ab⟩;subst hp hd;have H:∀ w,(Instr.arrayAt 253 (.slice (some ⟨R,p,none⟩) 8 (V-p))).run prog w=.ok (.p R p) w:=λw=>run_arrayAt w 253 _ 8 _ 8 (V-p) underlying253 ab;obtain ⟨s,t,u,z,A,C,E,F,B,n,T,U,cap,W,zs,Y,addr,l,L⟩:=RV R p (p+8) X w K.out ab hs c.out;have P:gi (p+8) (2147483648+((p:Int)+(d:Int))) (m:Int)=true:=(by rw [<- Int.natCast_add];exact b);have D:Hid (le X p 8/2^(8*d)=le X (p+d) (8-d)):=(by show le X p 8/2^(8*d)=le X (p+d) (8-d);have:=SB X (jd c.out) p d (8-d);rw [show d+(8-d)=8 from ab] at this;rw [uU];exact this);have g:Hid (le X (p+d) (8-d)%256^m=le X (p+d) m):=(by have:=KT X (jd c.out) (p+d) m (8-d-m);rw [show m+(8-d-m)=8-d from ab] at this;exact this);have J:Hid (0<=le X (p+d) (8-d)/\le X (p+d) (8-d)<18446744073709551616):=uT X (jd c.out) (8-d) (p+d) ab;go_enter func188,ntmps188;go_wp2_with (first | (go_at_call 226;refine (lq _ _ _ _ _ _ hn G j).mono ?_;rw [M.out];rintro e r ⟨rfl,rfl⟩) | (go_at_call 227;refine (vj B.1 s t u z A C E F _ B.2 l.out).mono ?_;rw [L.out];rintro e w1 ⟨rfl,o⟩));rw [D.out];refine (qt (le X (p+d) (8-d)) m _ ab ab J.out.1 J.out.2).mono ?_;rw [g.out];rintro e w2 ⟨rfl,rfl⟩;go_wp2_with fail;go_ret2;exact ⟨by rw [q.out];rfl,o⟩
theorem yv (m base:Nat) (zs:List Int) (x:Int) (w:World) (hn:S<=1048576) (hm:m<=8) (E:Y+m<=S) (q:0<=x) (s:x<=18446744073709551615) (c:w.ownsRow base 5 1 (.slice (some ⟨R,0,none⟩) S V) S (zs.map (Value.int .u8))): Calls prog 119 #[.slice (some ⟨R,0,none⟩) S V,.u (2147483648+(Y:Int)),.i (m:Int),.u x] w λe z=>e=.returned (.tuple #[]) /\ z.ownsRow base 5 1 (.slice (some ⟨R,0,none⟩) S V) S ((jT zs Y x m).map (Value.int .u8))/\w.grownBy z (some R):=by
 have A:Hid (zs.length=S):=by show zs.length=S;have:=c.1;simpa using this
 go_enter func119,ntmps119;go_wp2;go_loopw [3,9] (λy i wr=>∃ j:Nat,j<=m/\i=.i (j:Int)/\y=.u (x/256^j)/\wr.ownsRow base 5 1 (.slice (some ⟨R,0,none⟩) S V) S ((jT zs Y x j).map (Value.int .u8))/\w.grownBy wr (some R))
  (λ_ i _=>m-(intOf i).toNat)
 case atStart=>exact ⟨0,Nat.zero_le _,rfl,cp,c,ny _ _⟩
 case round =>
  obtain ⟨j,F,rfl,rfl,b,p⟩:=hrel;clear c;by_cases C:j<m
  ·have B:wr.frozen? ⟨R,Y+j,none⟩=false:=b.frozenAt (Y+j);have d:=b.stored (Y+j) (.int .u8 (x/256^j%256));obtain ⟨G,D⟩:∃ v,wr.cell? ⟨R,Y+j,none⟩=some v:=(by rw [b.cellAt (Y+j) ab];exact ⟨_,List.getElem?_eq_getElem (by rw [List.length_map,jc,A.out];omega)⟩);rw [nv] at d;have o:(wr.setCell ⟨R,Y+j,none⟩ (.int .u8 (x/256^j%256))).ownsRow base 5 1 (.slice (some ⟨R,0,none⟩) S V) S ((jT zs Y x (j+1)).map (Value.int .u8)):=d.1;have l:=aZ p d.2;have N:Hid (x/256^(j+1)=x/256^j/256):=(by show x/256^(j+1)=x/256^j/256;rw [Int.pow_succ,Int.ediv_ediv_of_nonneg (Int.le_of_lt (Int.pow_pos ab))]);have t:0<=x/256^j:=Int.ediv_nonneg q (Int.le_of_lt (Int.pow_pos ab));have u:x/256^j<=18446744073709551615:=Int.le_trans (Int.ediv_le_self _ q) s;obtain ⟨y,r⟩:∃ y,y=x/256^j:=⟨_,rfl⟩;rw [<- r] at o l t u N ⊢;clear d b r;go_wp2;go_roundw;case rel=>exact ⟨j+1,ab,by go_num,by rw [N.out],o,l⟩
   case measure=>simp [intOf];omega
  ·have:j=m:=by omega
   subst this;go_wp2;go_end0;exact ⟨rfl,b,p⟩
def iU (zs:List Int) (n:Nat) (addr size x:Int):Nat:=(kH zs n addr size x).length
theorem Pp:N.ownsRow R 5 1 (.slice none 0 0) 0 (([]:List Int).map (Value.int .u8)):=World.ownsRow_nil N R 5 1
theorem xD (size x:Int) (w:World) (hz:X.length=R) (hn:R<=1048576) (hs:Sl .u8 w O X) (n:0<=Z) (A:Z<=18446744073709551615) (L:0<=x) (hx1:x<=18446744073709551615): Calls prog 194 #[.slice O R S,.u Z,.i size,.u x] w λe F=>∃ (Q:Option Addr) (c:Nat),e=.returned (.tuple #[.slice Q (iU X R Z size x) c,.bool (gi R Z size)]) /\ F.ownsRow w.heap.size 5 1 (.slice Q (iU X R Z size x) c) (iU X R Z size x) ((kH X R Z size x).map (Value.int .u8))/\Bw w F:=by
 have E:Hid (X.length=R):=hz;clear hz;cases q:gi R Z size;·have z:Hid (kH X R Z size x=[]):=(by show kH X R Z size x=[];simp [kH,q]);have G:Hid (iU X R Z size x=0):=(by show iU X R Z size x=0;simp [iU,z.out]);go_enter func194,ntmps194;go_wp2_with (go_at_call 226;refine (lq _ _ _ _ _ _ hn n A).mono ?_;rintro e F ⟨rfl,rfl⟩);go_ret2;rw [z.out,G.out];exact ⟨_,_,rfl,Pp _ _,Below.refl _ _⟩
 ·obtain ⟨hr,hsz,W,zs,hs1,hs2,hn1,hn2⟩:=iR q;obtain ⟨f,Y⟩:∃ f:Nat,Z=2147483648+(f:Int):=⟨(Z-2147483648).toNat,ab⟩;obtain ⟨m,hm⟩:∃ m:Nat,size=(m:Int):=⟨size.toNat,ab⟩;subst Y hm;have z:Hid (kH X R (2147483648+(f:Int)) (m:Int) x=jT X f x m):=(by show kH X R (2147483648+(f:Int)) (m:Int) x=jT X f x m;simp only [kH,q,if_true];rw [show (2147483648+(f:Int)-2147483648).toNat=f from ab,Int.toNat_natCast]);have G:Hid (iU X R (2147483648+(f:Int)) (m:Int) x=R):=(by show iU X R (2147483648+(f:Int)) (m:Int) x=R;rw [iU,z.out,jc,E.out]);have V:Hid (fi R (2147483648+(f:Int)) (m:Int)=f):=(by show fi R (2147483648+(f:Int)) (m:Int)=f;simp only [fi,q,if_true];omega);obtain ⟨b,P,rfl,cap,I⟩:=hs 0 (by have:=E.out;omega);clear I;obtain ⟨U,T,N,D,a⟩:=info_parts info5;have C:(prog.info? 5).map (·.size)=some 1:=(by rw [T];simp [D]);have B:U.bytes*R<=281474976710656:=(by rw [a];omega);have H:R<=maxLen:=et;go_enter func194,ntmps194;go_wp2_with (first | (go_at_call 226;refine (lq _ _ _ _ _ _ hn n A).mono ?_;rw [V.out];rintro e F ⟨rfl,J⟩;have K:=J.symm;subst K) | (at_make;refine wpList_make_full _ rfl (.tmp 24) (.tmp 24) 24 rfl w.heap.size 5 U (.int .u8 0) 1 underlying24 T N D .i64 .i64 _ _ R rfl rfl rfl rfl B H (Nat.le_refl _) ?_;intro w1 s g) | (refine mO rfl (.tmp 26) (.tmp 27) 24 rfl 5 underlying24 C .u8 w.heap.size w.heap.size R R b P S X _ rfl rfl s (hs.below ((Below.refl _ _).grown g (Nat.le_refl _) tk)) E.out ?_;intro w2 p l));have o:Bw w w2:=Below.grown ((Below.refl _ _).grown g (Nat.le_refl _) tk) l g.size (by intro k h;cases h;exact Nat.le_refl _);clear s g l hs;go_loopw [30] (λi wr=>∃ j:Nat,j<=m/\i=.i (j:Int)/\wr.ownsRow w.heap.size 5 1 (.slice (some ⟨w.heap.size,0,none⟩) R R) R ((jT X f x j).map (Value.int .u8))/\Bw w wr)
   (λi _=>m-(intOf i).toNat)
  case atStart=>exact ⟨0,Nat.zero_le _,rfl,p,o⟩
  case round =>
   obtain ⟨j,hj,rfl,d,r⟩:=hrel;clear p o;by_cases hlt:j<m
   ·have addr:wr.frozen? ⟨w.heap.size,f+j,none⟩=false:=d.frozenAt (f+j);have y:=(d.stored (f+j) (.int .u8 (x/256^j%256))).1;obtain ⟨v3,hv3⟩:∃ v,wr.cell? ⟨w.heap.size,f+j,none⟩=some v:=(by rw [d.cellAt (f+j) ab];exact ⟨_,List.getElem?_eq_getElem (by rw [List.length_map,jc,E.out];omega)⟩);rw [nv] at y;have t:(wr.setCell ⟨w.heap.size,f+j,none⟩ (.int .u8 (x/256^j%256))).ownsRow w.heap.size 5 1 (.slice (some ⟨w.heap.size,0,none⟩) R R) R ((jT X f x (j+1)).map (Value.int .u8)):=y;have u:Bw w (wr.setCell ⟨w.heap.size,f+j,none⟩ (.int .u8 (x/256^j%256))):=r.setCell (Nat.le_refl _) _;have M:0<=x/256^j:=Int.ediv_nonneg L (Int.le_of_lt (Int.pow_pos ab));clear y d;rw [<- uU] at t u M;go_wp2;go_roundw;case rel=>exact ⟨j+1,ab,by go_num,t,u⟩
    case measure=>simp [intOf];omega
   ·have:j=m:=by omega
    subst this;go_wp2;go_ret2;rw [G.out,z.out];exact ⟨_,_,rfl,d,r⟩
structure FRow where
 t:TypeId
 v:Value
 n:Nat
 xs:List Value
structure bz (B E:Nat) (w:World) (L:List FRow):Prop where
 own:∀ r ∈ L,w.ownsRow B r.t 1 r.v r.n r.xs
 hi:∀ r ∈ L,∀ k,r.v.ownBlock=some k->k<E
 ne:L.Pairwise (λr s=>∀ k,r.v.ownBlock=some k->s.v.ownBlock≠some k)
structure lB (B E:Nat) (w w':World):Prop where
 os:w'.os=w.os
 tape:w'.tape=w.tape
 output:w'.output=w.output
 size:w.heap.size<=w'.heap.size
 block:∀ k,k<w.heap.size->(k<B\/E<=k)->w'.heap[k]?=w.heap[k]?
theorem lB.refl (w:World):lB R S w w:=⟨rfl,rfl,rfl,Nat.le_refl _,λ_ _ _=>rfl⟩
theorem lB.of_below {E:Nat} (h:Bw a b):lB B E a b:=⟨h.os,h.tape,h.output,h.size,λk w _=>h.block k w⟩
theorem lB.below (h:lB B t a b) (w':d<=B) (E:d<=a.heap.size):Below d a b:=⟨h.os,h.tape,h.output,h.size,λk c=>h.block k ab (.inl ab)⟩
theorem lB.of_grown (h:a.grownBy b z) (hr:∀ k,z=some k->B<=k/\k<d):lB B d a b :=
 ⟨h.os,h.tape,h.output,h.size,λk w w'=>h.block k w (λe=>by have:=hr k e.symm;omega)⟩
theorem eu (h:a.ownsRow B e 1 j n p) (hk:∀ k,j.ownBlock=some k->w'.heap[k]?=a.heap[k]?):w'.ownsRow B e 1 j n p:=by
 refine ⟨h.1,?_⟩;rcases h.2 with b|⟨g,cap,w,c,b,d,t⟩;·exact .inl b
 ·exact .inr ⟨g,cap,w,c,b,(hk g (by rw [c];rfl)).trans d,t⟩
theorem bz.mono {L:List FRow} (h:bz B d a L) (hk:∀ k,B<=k->k<d->k<a.heap.size->w'.heap[k]?=a.heap[k]?):bz B d w' L :=
 ⟨λr w=>eu (h.own r w) (λk e=>hk k ((h.own r w).lt k e).1 (h.hi r w k e) ((h.own r w).lt k e).2),h.hi,h.ne⟩
theorem bz.below {L:List FRow} (h:bz B d a L) (hb:Bw a b):bz B d b L:=h.mono λk _ _ w=>hb.block k w
theorem bz.low {B B':Nat} {L:List FRow} (h:bz B d a L) (hb:B'<=B) (he:d<=t):bz B' t a L :=
 ⟨λr w=>cF (h.own r w) hb,λr w k e=>Nat.lt_of_lt_of_le (h.hi r w k e) he,h.ne⟩
theorem bz.set {L:List FRow} (h:bz B d a L) (p:Addr) (v:Value) (E:p.block<B\/d<=p.block):bz B d (a.setCell p v) L:=h.mono λk w b c=>Below.heap_setCell a p v k ab
theorem bz.nil (w:World):bz R S w []:=⟨λr a=>(nomatch a),λr a=>(nomatch a),List.Pairwise.nil⟩
theorem bz.cons {L:List FRow} (h:bz B d a L) (r:FRow) (base E':Nat) (b:a.ownsRow base r.t 1 r.v r.n r.xs) (E:d<=base) (c:B<=base) (f:a.heap.size<=E') (h4:d<=E'):bz B E' a (r::L):=by
 refine ⟨λs w=>?_,λs w k e=>?_,List.pairwise_cons.2 ⟨λs w k e e2=>?_,h.ne⟩⟩
 ·rcases List.mem_cons.1 w with rfl|w;·exact cF b c
  ·exact h.own s w
 ·rcases List.mem_cons.1 w with rfl|w;·have:=(b.lt k e).2;omega
  ·have:=h.hi s w k e;omega
 ·have:=(b.lt k e).1;have:=h.hi s w k e2;omega
theorem bz.snoc {L:List FRow} (h:bz B d a L) (r:FRow) (base E':Nat) (i:a.ownsRow base r.t 1 r.v r.n r.xs) (E:d<=base) (f:B<=base) (g:a.heap.size<=E') (h4:d<=E'):bz B E' a (L++[r]):=by
 have c:=h.cons r base E' i E f g h4;refine ⟨λs w=>c.own s ?_,λs w=>c.hi s ?_,List.pairwise_append.2 ⟨h.ne,List.pairwise_singleton _ _,λs w q b k e e2=>?_⟩⟩
 ·rcases List.mem_append.1 w with w|w;·exact List.mem_cons_of_mem _ w
  ·rw [List.mem_singleton.1 w];exact List.mem_cons_self ..
 ·rcases List.mem_append.1 w with w|w;·exact List.mem_cons_of_mem _ w
  ·rw [List.mem_singleton.1 w];exact List.mem_cons_self ..
 ·simp only [List.mem_singleton] at b;subst b;exact (List.pairwise_cons.1 c.ne).1 s w k e2 e
theorem bz.mark {L1 L2:List FRow} {r:FRow} (h:bz B d a (L1++r::L2)) (g:a.grownBy b r.v.ownBlock) (xs:List Value) (j:b.ownsRow B r.t 1 r.v r.n xs):bz B d b (L1++⟨r.t,r.v,r.n,xs⟩::L2)/\lB B d a b:=by
 have w':=List.pairwise_append.1 h.ne;have c:=List.pairwise_cons.1 w'.2.1;have kept:∀ s ∈ L1++r::L2,(∀ k,s.v.ownBlock=some k->r.v.ownBlock≠some k)->b.ownsRow B s.t 1 s.v s.n s.xs:=λs w i=>eu (h.own s w) (λk e=>g.block k ((h.own s w).lt k e).2 (λe2=>i k e e2.symm));have f:r ∈ L1++r::L2:=cp
 refine ⟨⟨λs w=>?_,λs w k e=>?_,?_⟩,lB.of_grown g λk e=>⟨((h.own r f).lt k e).1,h.hi r f k e⟩⟩
 ·rcases List.mem_append.1 w with w | w;·exact kept s (List.mem_append_left _ w) (λk e=>w'.2.2 s w r (List.mem_cons_self ..) k e)
  ·rcases List.mem_cons.1 w with rfl|w;·exact j
   ·exact kept s (List.mem_append_right _ (List.mem_cons_of_mem _ w)) (λk e e2=>c.1 s w k e2 e)
 ·rcases List.mem_append.1 w with w|w;·exact h.hi s (List.mem_append_left _ w) k e
  ·rcases List.mem_cons.1 w with rfl|w;·exact h.hi r f k e
   ·exact h.hi s (List.mem_append_right _ (List.mem_cons_of_mem _ w)) k e
 ·refine List.pairwise_append.2 ⟨w'.1,List.pairwise_cons.2 ⟨λs w k e=>c.1 s w k e,c.2⟩,λs w q E k e=>?_⟩;rcases List.mem_cons.1 E with rfl | E;·exact w'.2.2 s w r (List.mem_cons_self ..) k e
  ·exact w'.2.2 s w q (List.mem_cons_of_mem _ E) k e
def aF (a:Option Addr) (n c:Nat) (xs:List Int):FRow:=⟨5,.slice a n c,n,xs.map (Value.int .u8)⟩
def gj (a1:Option Addr) (a c1:Nat) (xs:List Int) (a2:Option Addr) (b c2:Nat) (ys:List Int):List FRow:=[aF a1 a c1 xs,aF a2 b c2 ys]
theorem bz.in_ (h:bz B d a (gj y t c E Q f n x)):Sl .u8 a y E:=fL (h.own (aF y t c E) t5)
theorem bz.out_ (h:bz B d a (gj y t c E Q f n x)):Sl .u8 a Q x:=fL (h.own (aF Q f n x) t5)
theorem aG {p:Prop} (h:p):Hid p:=h
theorem br (hb:Bw a b) (h:a.heap[d]?=some r):b.heap[d]?=some r:=by rw [hb.block d (Array.getElem?_eq_some_iff.1 h).1];exact h
theorem hC (h:a.heap[d]?=some (.cells #[j,o,k,W,s,m] e (0,0))):a.cell? ⟨d,0,none⟩=some j/\a.cell? ⟨d,1,none⟩=some o/\a.cell? ⟨d,2,none⟩=some k/\a.cell? ⟨d,3,none⟩=some W/\a.cell? ⟨d,4,none⟩=some s/\a.cell? ⟨d,5,none⟩=some m:=by refine ⟨?_,?_,?_,?_,?_,?_⟩<;>simp [World.cell?,h]
theorem ic (h:a.heap[d]?=some (.cells A e (0,0))) (i:Nat):a.frozen? ⟨d,i,none⟩=false:=by simp [World.frozen?,h]
theorem Bo (h:a.heap[d]?=some (.cells A e (0,0))):a.frozen? ⟨d,0,none⟩=false/\a.frozen? ⟨d,1,none⟩=false/\a.frozen? ⟨d,2,none⟩=false/\a.frozen? ⟨d,3,none⟩=false/\a.frozen? ⟨d,4,none⟩=false/\a.frozen? ⟨d,5,none⟩=false :=
 ⟨ic h 0,ic h 1,ic h 2,ic h 3,ic h 4,ic h 5⟩
theorem vk (hb:Below ((w.alloc o1).alloc o2).heap.size ((w.alloc o1).alloc o2) a):a.heap[w.heap.size]?=some o1/\a.heap[w.heap.size+1]?=some o2:=by have e2:=heap_alloc_new (w.alloc o1) o2;rw [World.size_alloc] at e2;exact ⟨br hb ((Below.heap_alloc _ _ _ eh).trans (heap_alloc_new w o1)),br hb e2⟩
theorem Uw (hb:Below (((w.alloc o1).alloc o2).alloc o3).heap.size (((w.alloc o1).alloc o2).alloc o3) a): a.heap[w.heap.size]?=some o1/\a.heap[w.heap.size+1]?=some o2/\a.heap[w.heap.size+1+1]?=some o3:=by have e3:=heap_alloc_new ((w.alloc o1).alloc o2) o3;rw [World.size_alloc,World.size_alloc] at e3;have h:=vk (w:=w) (o1:=o1) (o2:=o2) (Below.refl _ ((w.alloc o1).alloc o2));exact ⟨br hb ((Below.heap_alloc _ _ _ eh).trans h.1),br hb ((Below.heap_alloc _ _ _ eh).trans h.2),br hb e3⟩
theorem bH (h:a.heap[d]?=some (.cells A e C)) (i:Nat) (v:Value): (a.setCell ⟨d,i,none⟩ v).heap[d]?=some (.cells (A.setIfInBounds i v) e C):=by simp [World.setCell,Array.getElem?_modify,h]
theorem gL (h:a.heap[d]?=some r) (p:Addr) (v:Value) (w:d≠p.block):(a.setCell p v).heap[d]?=some r:=(Below.heap_setCell a p v d w).trans h
theorem aX (p:Addr) (v:Value):(N.setCell p v).heap.size=N.heap.size:=by simp [World.setCell]
theorem bO:(prog.info? 30).map (·.size)=some 6:=by kernel_rfl
def Bp (w:World) (g:Nat) (a b c x3 d e:Value):World:=(((((w.setCell ⟨g,0,none⟩ a).setCell ⟨g,1,none⟩ b).setCell ⟨g,2,none⟩ c).setCell ⟨g,3,none⟩ x3).setCell ⟨g,4,none⟩ d).setCell ⟨g,5,none⟩ e
theorem n9 (h:a.heap[d]?=some (.cells #[j,o,k,W,s,m] e C)) (i w b x3 l t:Value):(Bp a d i w b x3 l t).heap[d]?=some (.cells #[i,w,b,x3,l,t] e C):=
 bH (bH (bH (bH (bH (bH h 0 i) 1 w) 2 b) 3 x3) 4 l) 5 t
theorem IY (a b c x3 d e:Value):(Bp N R a b c x3 d e).heap.size=N.heap.size:=by unfold Bp;simp only [aX]
theorem lC (h:Below B a b) (v:B<=g) (w c d x3 e f:Value):Below B a (Bp b g w c d x3 e f):=
 (((((h.setCell (by exact v) w).setCell (by exact v) c).setCell (by exact v) d).setCell (by exact v) x3).setCell (by exact v) e).setCell (by exact v) f
theorem bz.put6 {L:List FRow} (h:bz B d a L) (g:Nat) (w:g<B\/d<=g) (b c E x3 e f:Value):bz B d (Bp a g b c E x3 e f) L :=
 (((((h.set ⟨g,0,none⟩ b w).set ⟨g,1,none⟩ c w).set ⟨g,2,none⟩ E w).set ⟨g,3,none⟩ x3 w).set ⟨g,4,none⟩ e w).set ⟨g,5,none⟩ f w
theorem jh (hb:R<=N.heap.size) (o:Obj) (a:o=.cells #[] 5 (0,0)):(N.alloc o).ownsRow R 5 1 (.slice (some ⟨N.heap.size,0,none⟩) 0 0) 0 []:=by subst a;exact World.ownsRow_lit N #[] 0 hb et rfl
theorem ik (p:G.guard=none) (s x:Operand) (Q:G.op=.call {callee:=.builtin .append,args:=#[s,x],argTypes:=#[24,24]}) (base g:Nat) (hs:I.eval s=.slice (some ⟨g,0,none⟩) 0 0) (d:a.ownsRow base 5 1 (.slice (some ⟨g,0,none⟩) 0 0) 0 []) (ad:Option Addr) (m c:Nat) (zs:List Int) (hx:I.eval x=.slice ad m c) (hz:zs.length=m) (hm:m<=1048576) (q:Sl .u8 a ad zs) (f:base<=a.heap.size) (h:∀ l n t,t.ownsRow base 5 1 (.slice l m n) m (zs.map (Value.int .u8))->a.grownBy t (some g)->wpList prog D J F (I.put G.dst (.slice l m n)) t):wpList prog D J (G::F) I a:=by
 obtain ⟨w,H,B,C,r⟩:=info_parts info5;cases ad with
 | none =>
   have z:m=0:=by
    rcases Nat.eq_zero_or_pos m with o|o;·exact o
    ·obtain ⟨b,rest,e,_⟩:=q 0 ab;cases e
   subst z;have E:zs=[]:=List.length_eq_zero_iff.1 hz;subst E;refine wpList_plain p λK O=>?_;have S:=run_append_room_src (P:=prog) a 24 24 G.type 5 w underlying24 H g 0 0 0 (.slice none 0 c) 0 [] (Src.ofNil a underlying24 c) ab (λj i=>by simp at i) (λj i=>by simp at i);unfold Oper.wp execOp;simp only [Q,resolve,invoke,builtin,Sem.run_bind,Sem.run_pure,Result.andThen_ok,List.map_toArray,List.map_cons,List.map_nil,hs,hx,S];exact O _ _ (h _ _ a d ⟨rfl,rfl,rfl,Nat.le_refl _,λ_ _ _=>rfl⟩)
 | some A =>
   have k:∀ j u,(zs.map (Value.int .u8))[j]?=some u->a.cell? (A.add j)=some u:=by
    intro j u v;have i:j<zs.length:=by
     rcases Nat.lt_or_ge j zs.length with h|h;·exact h
     ·rw [List.getElem?_eq_none eo] at v;cases v
    obtain ⟨b,rest,e,_,R⟩:=q j i;cases e;rw [zB,R];rw [List.getElem?_map,List.getElem?_eq_getElem i] at v;rw [List.getD_eq_getElem?_getD,List.getElem?_eq_getElem i];exact v
   refine wpList_append_own _ p s x 24 Q base 5 w (.int .u8 0) 1 1 underlying24 H B C r rfl bc _ 0 [] hs d A m c (zs.map (Value.int .u8)) hx (by rw [List.length_map,hz];omega) k (ints_oneCell _ _) et ab f ?_;intro U t y N W;simp only [Nat.zero_add,List.nil_append] at y;have T:∃ l n,U=.slice l m n:=by
    rcases y.2 with ⟨e,M⟩|⟨V,cap,L,e,_⟩;·exact ⟨none,0,by rw [e,M]⟩
    ·exact ⟨_,_,e⟩
   obtain ⟨l,n,rfl⟩:=T;exact h l n t y N
structure DV where
 t:Int
 cm:Int
 so:Bool
 xs:List Int
 ys:List Int
 ir:Int
def zeroD:DV:=⟨0,0,false,[],[],0⟩
def gh (D:DV) (a1:Option Addr) (c1:Nat) (a2:Option Addr) (c2:Nat):Array Value:=#[.u D.t,.u D.cm,.bool D.so,.slice a1 D.xs.length c1,.slice a2 D.ys.length c2,.i D.ir]
theorem fM (D:DV) (a1:Option Addr) (c1:Nat) (a2:Option Addr) (c2:Nat):(gh D a1 c1 a2 c2).all (·.oneCell')=true:=by simp [gh,Value.oneCell']
def vm (D:DV) (a1:Option Addr) (c1:Nat) (a2:Option Addr) (c2:Nat):List FRow:=gj a1 D.xs.length c1 D.xs a2 D.ys.length c2 D.ys
def dW (D:DV):Prop:=(∀ y ∈ D.xs,(Lit.int .u8 y).wf=true)/\∀ y ∈ D.ys,(Lit.int .u8 y).wf=true
def nZ (b c:Nat) (a:Int):Bool:=decide (b<=16)&&decide (c<=4096)&&decide (0<=a/\a<=1)
def gD (addr size:Int):Nat :=
 if addr=33554432/\size=4 then 0 else if addr=33570816/\size=8 then 1 else if addr=33603576/\size=8 then 2 else if addr=268435456/\size=1 then 3 else if addr=268435457/\size=1 then 4 else if addr=268435461/\size=1 then 5 else 6
def gy (b:Bool):Int:=if b=true then 1 else 0
def jw (D:DV):Nat->Int × DV × Bool
 | 0=>(gy D.so,D,true)
 | 1=>(D.cm,D,true)
 | 2=>(D.t,D,true)
 | 3=>(D.xs.getD 0 0,⟨D.t,D.cm,D.so,D.xs.drop 1,D.ys,D.ir⟩,true)
 | 4=>(Uz.wrap D.ir,D,true)
 | 5=>(Uz.wrap (32+gy (decide (0<D.xs.length))),D,true)
 | _=>(0,zeroD,false)
def fX (D:DV) (x:Int):Nat->DV × Bool
 | 0=>(⟨D.t,D.cm,bits .and .u64 x 1==1,D.xs,D.ys,D.ir⟩,true)
 | 1=>(⟨D.t,x,D.so,D.xs,D.ys,D.ir⟩,true)
 | 2=>(⟨x,D.cm,D.so,D.xs,D.ys,D.ir⟩,true)
 | 3=>(⟨D.t,D.cm,D.so,D.xs,if D.ys.length<4096 then D.ys++[IntKind.u8.wrap x] else D.ys,D.ir⟩,true)
 | 4=>(⟨D.t,D.cm,D.so,D.xs,D.ys,wrap64 (bits .and .u64 x 1)⟩,true)
 | 5=>(D,true)
 | _=>(zeroD,false)
def dO (D:DV):Int:=Uz.wrap (Uz.wrap (Uz.wrap (8*gy D.so)+Uz.wrap (128*gy (decide (D.cm<=D.t))))+Uz.wrap (2048*gy ((D.ir==1)&&decide (0<D.xs.length))))
def vq (D:DV) (addr size:Int):Int × DV × Bool:=if nZ D.xs.length D.ys.length D.ir=true then jw D (gD addr size) else (0,zeroD,false)
def rP (D:DV) (addr size x:Int):DV × Bool:=if nZ D.xs.length D.ys.length D.ir=true then fX D x (gD addr size) else (zeroD,false)
def jj (D:DV):Int:=if nZ D.xs.length D.ys.length D.ir=true then dO D else 0
theorem jW (P:Nat->Prop) (c:K=33554432->L=4->P 0) (d:K=33570816->L=8->P 1) (e:K=33603576->L=8->P 2) (f:K=268435456->L=1->P 3) (h4:K=268435457->L=1->P 4) (g:K=268435461->L=1->P 5) (i:(K=33554432->¬ L=4)->(K=33570816->¬ L=8)->(K=33603576->¬ L=8)->(K=268435456->¬ L=1)->(K=268435457->¬ L=1)->(K=268435461->¬ L=1)->P 6):P (gD K L):=by
 unfold gD;split;·rename_i h;exact c h.1 h.2
 ·rename_i j;split;·rename_i h;exact d h.1 h.2
  ·rename_i k;split;·rename_i h;exact e h.1 h.2
   ·rename_i l;split;·rename_i h;exact f h.1 h.2
    ·rename_i m;split;·rename_i h;exact h4 h.1 h.2
     ·rename_i n;split;·rename_i h;exact g h.1 h.2
      ·rename_i o;exact i (λa b=>j ⟨a,b⟩) (λa b=>k ⟨a,b⟩) (λa b=>l ⟨a,b⟩) (λa b=>m ⟨a,b⟩) (λa b=>n ⟨a,b⟩) (λa b=>o ⟨a,b⟩)
theorem lD (w:World):bz R S w (vm zeroD none 0 none 0):=by
 refine ⟨λr a=>?_,λr a k e=>?_,?_⟩
 ·simp only [vm,gj,List.mem_cons,List.not_mem_nil,or_false] at a;rcases a with rfl|rfl;·exact ⟨rfl,.inl ⟨rfl,rfl⟩⟩
  ·exact ⟨rfl,.inl ⟨rfl,rfl⟩⟩
 ·simp only [vm,gj,List.mem_cons,List.not_mem_nil,or_false] at a;rcases a with rfl|rfl;·cases e
  ·cases e
 ·exact List.pairwise_cons.2 ⟨λs b k e=>(by cases e),List.pairwise_singleton _ _⟩
theorem bz.newIn (h:bz B t a (gj y c f E Q d n x)) (a1:Option Addr) (w c1:Nat) (zs:List Int) (base E':Nat) (i:a.ownsRow base 5 1 (.slice a1 w c1) w (zs.map (Value.int .u8))) (e:t<=base) (c2:B<=base) (g:a.heap.size<=E') (h4:t<=E'):bz B E' a (gj a1 w c1 zs Q d n x):=by have j:bz B t a [aF Q d n x]:=⟨λr b=>h.own r (List.mem_cons_of_mem _ b),λr b=>h.hi r (List.mem_cons_of_mem _ b),(List.pairwise_cons.1 h.ne).2⟩;exact j.cons (aF a1 w c1 zs) base E' i e c2 g h4
theorem bz.newOut (h:bz B t a (gj y d c E Q f n x)) (a1:Option Addr) (w j:Nat) (zs:List Int) (base E':Nat) (i:a.ownsRow base 5 1 (.slice a1 w j) w (zs.map (Value.int .u8))) (e:t<=base) (c2:B<=base) (g:a.heap.size<=E') (h4:t<=E'):bz B E' a (gj y d c E a1 w j zs):=by have c1:bz B t a [aF y d c E]:=⟨λr b=>h.own r (by rw [List.mem_singleton.1 b];exact List.mem_cons_self ..),λr b=>h.hi r (by rw [List.mem_singleton.1 b];exact List.mem_cons_self ..),List.pairwise_singleton _ _⟩;exact c1.snoc (aF a1 w j zs) base E' i e c2 g h4
theorem bU {P:Program} {fn:Func} {s p u:Tmp} {ty:TypeId} (h:fn.results=#[.tmp s,.cell p ty,.tmp u]) (tmps:Array Value) (w:World) (g:Nat) (t:TypeId) (cs:Array Value) (e:Nat × Nat) (d:TypeDesc) (k:tmps.getD p undef=.p g 0) (i:w.heap[g]?=some (.cells cs t e)) (l:P.underlying ty=some d) (hd:(match d with | .struct _ | .array _ _=>true | _=>false)=true) (j:(P.info? ty).map (·.size)=some cs.size):(results fn tmps).run P w=.ok (.tuple #[tmps.getD s undef,.agg cs,tmps.getD u undef]) w:=by
 have f:(results fn tmps).run P w=((asAddr (tmps.getD p undef)).run P w).andThen λa b=>((loadVar ty a).run P b).andThen λv c=>.ok (.tuple #[tmps.getD s undef,v,tmps.getD u undef]) c:=by simp only [results,h];simp [Sem.run_bind,Result.andThen]
 rw [f,k];simp [asAddr,run_loadVar_row w g t ty cs e d i l hd j]
theorem cW {P:Program} {fn:Func} {p u:Tmp} {ty:TypeId} (h:fn.results=#[.cell p ty,.tmp u]) (tmps:Array Value) (w:World) (g:Nat) (t:TypeId) (cs:Array Value) (e:Nat × Nat) (d:TypeDesc) (k:tmps.getD p undef=.p g 0) (i:w.heap[g]?=some (.cells cs t e)) (l:P.underlying ty=some d) (hd:(match d with | .struct _ | .array _ _=>true | _=>false)=true) (j:(P.info? ty).map (·.size)=some cs.size):(results fn tmps).run P w=.ok (.tuple #[.agg cs,tmps.getD u undef]) w:=by
 have f:(results fn tmps).run P w=((asAddr (tmps.getD p undef)).run P w).andThen λa b=>((loadVar ty a).run P b).andThen λv c=>.ok (.tuple #[v,tmps.getD u undef]) c:=by simp only [results,h];simp [Sem.run_bind,Result.andThen]
 rw [f,k];simp [asAddr,run_loadVar_row w g t ty cs e d i l hd j]
theorem Bq:(prog.info? 22).map (λi=>(i.zero,i.size,i.bytes))=some (some (.u 0),1,8):=by kernel_rfl
theorem kv:(X.map (Value.int .u64)).set Y (.u Z)=(X.set Y Z).map (Value.int .u64):=by rw [List.map_set]
structure MV where
 pc:Int
 x:List Int
 pr:Int
 cs:List Int
 ram:List Int
 d:DV
 hd:Int
 hl:Bool
 wt:Bool
structure MA where
 ax:Option Addr
 cx:Nat
 ac:Option Addr
 cc:Nat
 ar:Option Addr
 cr:Nat
 ai:Option Addr
 ci:Nat
 ao:Option Addr
 co:Nat
def aq:MV:=⟨0,[],0,[],[],zeroD,0,false,false⟩
def zeroA:MA:=⟨none,0,none,0,none,0,none,0,none,0⟩
def aj (M:MV) (A:MA):Array Value:=#[.u M.pc,.slice A.ax M.x.length A.cx,.i M.pr,.slice A.ac M.cs.length A.cc,.slice A.ar M.ram.length A.cr,.u M.d.t,.u M.d.cm,.bool M.d.so,.slice A.ai M.d.xs.length A.ci,.slice A.ao M.d.ys.length A.co,.i M.d.ir,.u M.hd,.bool M.hl,.bool M.wt]
def aK (a:Option Addr) (n c:Nat) (xs:List Int):FRow:=⟨22,.slice a n c,n,xs.map (Value.int .u64)⟩
def aH (M:MV) (A:MA):List FRow:=[aK A.ax M.x.length A.cx M.x,aK A.ac M.cs.length A.cc M.cs,aF A.ar M.ram.length A.cr M.ram,aF A.ai M.d.xs.length A.ci M.d.xs,aF A.ao M.d.ys.length A.co M.d.ys]
structure pn (w:World) (M:MV) (A:MA):Prop where
 x:Sl .u64 w A.ax M.x
 cs:Sl .u64 w A.ac M.cs
 ram:Sl .u8 w A.ar M.ram
 xs:Sl .u8 w A.ai M.d.xs
 ys:Sl .u8 w A.ao M.d.ys
theorem pn.below {M:MV} {A:MA} (h:pn a M A) (hb:Bw a b):pn b M A:=⟨h.x.below hb,h.cs.below hb,h.ram.below hb,h.xs.below hb,h.ys.below hb⟩
theorem bz.msl {M:MV} {A:MA} (h:bz B d a (aH M A)):pn a M A :=
 ⟨fL (h.own (aK A.ax M.x.length A.cx M.x) dv),fL (h.own (aK A.ac M.cs.length A.cc M.cs) dv),fL (h.own (aF A.ar M.ram.length A.cr M.ram) dv),fL (h.own (aF A.ai M.d.xs.length A.ci M.d.xs) dv),fL (h.own (aF A.ao M.d.ys.length A.co M.d.ys) dv)⟩
theorem be {t f i l g b c v13:Value} (h:a.heap[d]?=some (.cells #[o,W,s,t,f,i,j,k,l,m,g,b,c,v13] e (0,0))):a.cell? ⟨d,0,none⟩=some o/\a.cell? ⟨d,1,none⟩=some W/\a.cell? ⟨d,2,none⟩=some s/\a.cell? ⟨d,3,none⟩=some t/\a.cell? ⟨d,4,none⟩=some f/\a.cell? ⟨d,5,none⟩=some i/\a.cell? ⟨d,6,none⟩=some j/\a.cell? ⟨d,7,none⟩=some k/\a.cell? ⟨d,8,none⟩=some l/\a.cell? ⟨d,9,none⟩=some m/\a.cell? ⟨d,10,none⟩=some g/\a.cell? ⟨d,11,none⟩=some b/\a.cell? ⟨d,12,none⟩=some c/\a.cell? ⟨d,13,none⟩=some v13:=by simp [World.cell?,h]
theorem fj (h:a.heap[d]?=some (.cells A e (0,0))):a.frozen? ⟨d,0,none⟩=false/\a.frozen? ⟨d,1,none⟩=false/\a.frozen? ⟨d,2,none⟩=false/\a.frozen? ⟨d,3,none⟩=false/\a.frozen? ⟨d,4,none⟩=false/\a.frozen? ⟨d,5,none⟩=false/\a.frozen? ⟨d,6,none⟩=false/\a.frozen? ⟨d,7,none⟩=false/\a.frozen? ⟨d,8,none⟩=false/\a.frozen? ⟨d,9,none⟩=false/\a.frozen? ⟨d,10,none⟩=false/\a.frozen? ⟨d,11,none⟩=false/\a.frozen? ⟨d,12,none⟩=false/\a.frozen? ⟨d,13,none⟩=false :=
 ⟨ic h 0,ic h 1,ic h 2,ic h 3,ic h 4,ic h 5,ic h 6,ic h 7,ic h 8,ic h 9,ic h 10,ic h 11,ic h 12,ic h 13⟩
def KZ (w:World) (g:Nat) (e f h x3 i j k l m n a b c d:Value):World:=(((((((((((((w.setCell ⟨g,0,none⟩ e).setCell ⟨g,1,none⟩ f).setCell ⟨g,2,none⟩ h).setCell ⟨g,3,none⟩ x3).setCell ⟨g,4,none⟩ i).setCell ⟨g,5,none⟩ j).setCell ⟨g,6,none⟩ k).setCell ⟨g,7,none⟩ l).setCell ⟨g,8,none⟩ m).setCell ⟨g,9,none⟩ n).setCell ⟨g,10,none⟩ a).setCell ⟨g,11,none⟩ b).setCell ⟨g,12,none⟩ c).setCell ⟨g,13,none⟩ d
theorem rQ {y x v u f z c v13:Value} (h:a.heap[d]?=some (.cells #[j,o,k,W,s,m,y,x,v,u,f,z,c,v13] e C)) (w b g x3 Q v1 A n q r i l p B:Value):(KZ a d w b g x3 Q v1 A n q r i l p B).heap[d]?=some (.cells #[w,b,g,x3,Q,v1,A,n,q,r,i,l,p,B] e C):=by have G:(a.setCell ⟨d,0,none⟩ w).heap[d]?=some (.cells #[w,o,k,W,s,m,y,x,v,u,f,z,c,v13] e C):=bH h 0 w;have H:((a.setCell ⟨d,0,none⟩ w).setCell ⟨d,1,none⟩ b).heap[d]?=some (.cells #[w,b,k,W,s,m,y,x,v,u,f,z,c,v13] e C):=bH G 1 b;have I:(((a.setCell ⟨d,0,none⟩ w).setCell ⟨d,1,none⟩ b).setCell ⟨d,2,none⟩ g).heap[d]?=some (.cells #[w,b,g,W,s,m,y,x,v,u,f,z,c,v13] e C):=bH H 2 g;have J:((((a.setCell ⟨d,0,none⟩ w).setCell ⟨d,1,none⟩ b).setCell ⟨d,2,none⟩ g).setCell ⟨d,3,none⟩ x3).heap[d]?=some (.cells #[w,b,g,x3,s,m,y,x,v,u,f,z,c,v13] e C):=bH I 3 x3;have K:(((((a.setCell ⟨d,0,none⟩ w).setCell ⟨d,1,none⟩ b).setCell ⟨d,2,none⟩ g).setCell ⟨d,3,none⟩ x3).setCell ⟨d,4,none⟩ Q).heap[d]?=some (.cells #[w,b,g,x3,Q,m,y,x,v,u,f,z,c,v13] e C):=bH J 4 Q;have L:((((((a.setCell ⟨d,0,none⟩ w).setCell ⟨d,1,none⟩ b).setCell ⟨d,2,none⟩ g).setCell ⟨d,3,none⟩ x3).setCell ⟨d,4,none⟩ Q).setCell ⟨d,5,none⟩ v1).heap[d]?=some (.cells #[w,b,g,x3,Q,v1,y,x,v,u,f,z,c,v13] e C):=bH K 5 v1;have M:(((((((a.setCell ⟨d,0,none⟩ w).setCell ⟨d,1,none⟩ b).setCell ⟨d,2,none⟩ g).setCell ⟨d,3,none⟩ x3).setCell ⟨d,4,none⟩ Q).setCell ⟨d,5,none⟩ v1).setCell ⟨d,6,none⟩ A).heap[d]?=some (.cells #[w,b,g,x3,Q,v1,A,x,v,u,f,z,c,v13] e C):=bH L 6 A;have N:((((((((a.setCell ⟨d,0,none⟩ w).setCell ⟨d,1,none⟩ b).setCell ⟨d,2,none⟩ g).setCell ⟨d,3,none⟩ x3).setCell ⟨d,4,none⟩ Q).setCell ⟨d,5,none⟩ v1).setCell ⟨d,6,none⟩ A).setCell ⟨d,7,none⟩ n).heap[d]?=some (.cells #[w,b,g,x3,Q,v1,A,n,v,u,f,z,c,v13] e C):=bH M 7 n;have O:(((((((((a.setCell ⟨d,0,none⟩ w).setCell ⟨d,1,none⟩ b).setCell ⟨d,2,none⟩ g).setCell ⟨d,3,none⟩ x3).setCell ⟨d,4,none⟩ Q).setCell ⟨d,5,none⟩ v1).setCell ⟨d,6,none⟩ A).setCell ⟨d,7,none⟩ n).setCell ⟨d,8,none⟩ q).heap[d]?=some (.cells #[w,b,g,x3,Q,v1,A,n,q,u,f,z,c,v13] e C):=bH N 8 q;have P:((((((((((a.setCell ⟨d,0,none⟩ w).setCell ⟨d,1,none⟩ b).setCell ⟨d,2,none⟩ g).setCell ⟨d,3,none⟩ x3).setCell ⟨d,4,none⟩ Q).setCell ⟨d,5,none⟩ v1).setCell ⟨d,6,none⟩ A).setCell ⟨d,7,none⟩ n).setCell ⟨d,8,none⟩ q).setCell ⟨d,9,none⟩ r).heap[d]?=some (.cells #[w,b,g,x3,Q,v1,A,n,q,r,f,z,c,v13] e C):=bH O 9 r;have t:(((((((((((a.setCell ⟨d,0,none⟩ w).setCell ⟨d,1,none⟩ b).setCell ⟨d,2,none⟩ g).setCell ⟨d,3,none⟩ x3).setCell ⟨d,4,none⟩ Q).setCell ⟨d,5,none⟩ v1).setCell ⟨d,6,none⟩ A).setCell ⟨d,7,none⟩ n).setCell ⟨d,8,none⟩ q).setCell ⟨d,9,none⟩ r).setCell ⟨d,10,none⟩ i).heap[d]?=some (.cells #[w,b,g,x3,Q,v1,A,n,q,r,i,z,c,v13] e C):=bH P 10 i;have D:((((((((((((a.setCell ⟨d,0,none⟩ w).setCell ⟨d,1,none⟩ b).setCell ⟨d,2,none⟩ g).setCell ⟨d,3,none⟩ x3).setCell ⟨d,4,none⟩ Q).setCell ⟨d,5,none⟩ v1).setCell ⟨d,6,none⟩ A).setCell ⟨d,7,none⟩ n).setCell ⟨d,8,none⟩ q).setCell ⟨d,9,none⟩ r).setCell ⟨d,10,none⟩ i).setCell ⟨d,11,none⟩ l).heap[d]?=some (.cells #[w,b,g,x3,Q,v1,A,n,q,r,i,l,c,v13] e C):=bH t 11 l;have E:(((((((((((((a.setCell ⟨d,0,none⟩ w).setCell ⟨d,1,none⟩ b).setCell ⟨d,2,none⟩ g).setCell ⟨d,3,none⟩ x3).setCell ⟨d,4,none⟩ Q).setCell ⟨d,5,none⟩ v1).setCell ⟨d,6,none⟩ A).setCell ⟨d,7,none⟩ n).setCell ⟨d,8,none⟩ q).setCell ⟨d,9,none⟩ r).setCell ⟨d,10,none⟩ i).setCell ⟨d,11,none⟩ l).setCell ⟨d,12,none⟩ p).heap[d]?=some (.cells #[w,b,g,x3,Q,v1,A,n,q,r,i,l,p,v13] e C):=bH D 12 p;have F:((((((((((((((a.setCell ⟨d,0,none⟩ w).setCell ⟨d,1,none⟩ b).setCell ⟨d,2,none⟩ g).setCell ⟨d,3,none⟩ x3).setCell ⟨d,4,none⟩ Q).setCell ⟨d,5,none⟩ v1).setCell ⟨d,6,none⟩ A).setCell ⟨d,7,none⟩ n).setCell ⟨d,8,none⟩ q).setCell ⟨d,9,none⟩ r).setCell ⟨d,10,none⟩ i).setCell ⟨d,11,none⟩ l).setCell ⟨d,12,none⟩ p).setCell ⟨d,13,none⟩ B).heap[d]?=some (.cells #[w,b,g,x3,Q,v1,A,n,q,r,i,l,p,B] e C):=bH E 13 B;exact F
theorem oa (h:Below B a b) (v:B<=g) (f i j x3 k l m n o q w c d e:Value):Below B a (KZ b g f i j x3 k l m n o q w c d e):=
 ((((((((((((((h.setCell (p:=⟨g,0,none⟩) v f).setCell (p:=⟨g,1,none⟩) v i).setCell (p:=⟨g,2,none⟩) v j).setCell (p:=⟨g,3,none⟩) v x3).setCell (p:=⟨g,4,none⟩) v k).setCell (p:=⟨g,5,none⟩) v l).setCell (p:=⟨g,6,none⟩) v m).setCell (p:=⟨g,7,none⟩) v n).setCell (p:=⟨g,8,none⟩) v o).setCell (p:=⟨g,9,none⟩) v q).setCell (p:=⟨g,10,none⟩) v w).setCell (p:=⟨g,11,none⟩) v c).setCell (p:=⟨g,12,none⟩) v d).setCell (p:=⟨g,13,none⟩) v e)
theorem bz.put14 {L:List FRow} (h:bz B d a L) (g:Nat) (w:g<B\/d<=g) (f i j x3 k l m n o p b c E e:Value):bz B d (KZ a g f i j x3 k l m n o p b c E e) L :=
 ((((((((((((((h.set ⟨g,0,none⟩ f w).set ⟨g,1,none⟩ i w).set ⟨g,2,none⟩ j w).set ⟨g,3,none⟩ x3 w).set ⟨g,4,none⟩ k w).set ⟨g,5,none⟩ l w).set ⟨g,6,none⟩ m w).set ⟨g,7,none⟩ n w).set ⟨g,8,none⟩ o w).set ⟨g,9,none⟩ p w).set ⟨g,10,none⟩ b w).set ⟨g,11,none⟩ c w).set ⟨g,12,none⟩ E w).set ⟨g,13,none⟩ e w)
theorem od:(prog.info? 32).map (·.size)=some 14:=by kernel_rfl
theorem vt:CE 104 #[.bool M] N (.u (gy M)):=by
 cases M with
 | false =>go_enter func104,ntmps104;exact x7
 | true =>go_enter func104,ntmps104;exact x7
theorem SW:CE 51 #[.i K,.i 0,.i 1] N (.bool (decide (0<=K/\K<=1))):=by
 by_cases b:0<=K
 ·by_cases c:K<=1;·have F:Hid (decide (0<=K/\K<=1)=true):=(by show decide (0<=K/\K<=1)=true;simp [b,c]);have d:decide (0<=K)=true:=la;have f:decide (K<=1)=true:=i6;clear b c;generalize decide (0<=K/\K<=1)=v at *;go_enter func51,ntmps51;go_wp2;go_ret;exact ⟨bh,rfl⟩
  ·have F:Hid (decide (0<=K/\K<=1)=false):=(by show _=false;simp;omega);have d:decide (0<=K)=true:=la;have f:decide (K<=1)=false:=i6;clear b c;generalize decide (0<=K/\K<=1)=v at *;exact x8
 ·have F:Hid (decide (0<=K/\K<=1)=false):=(by show _=false;simp;omega);have d:decide (0<=K)=false:=la;clear b;generalize decide (0<=K/\K<=1)=v at *;exact x8
theorem xE (w:World) (f:R<=1048576) (g:V<=1048576): CB 60 #[.agg #[.u K,.u L,.bool M,.slice O R S,.slice T V Y,.i Z]] w (.bool (nZ R V Z)):=by
 have u:Hid (∀ w,CE 51 #[.i Z,.i 0,.i 1] w (.bool (decide (0<=Z/\Z<=1)))):=SW Z;have p:∀ o,Bw w (w.alloc o):=λo=>(Below.refl _ _).alloc (Nat.le_refl _) o;have F:nZ R V Z=(decide (R<=16)&&decide (V<=4096)&&decide (0<=Z/\Z<=1)):=rfl;generalize nZ R V Z=v at *;generalize decide (0<=Z/\Z<=1)=q at *;by_cases j:R<=16
 ·have y:decide ((R:Int)<=16)=true:=bv;by_cases m:V<=4096;·have z:decide ((V:Int)<=4096)=true:=bv;have l:Hid (v=q):=(by show v=q;rw [F,decide_eq_true j,decide_eq_true m];rfl);clear F j m f g;go_enter func60,ntmps60;go_wp2_with fail;refine (u.out _).mono ?_;rintro e B ⟨rfl,r⟩;subst r;go_wp2_with fail;go_ret;exact ⟨sx,p _⟩
  ·have z:decide ((V:Int)<=4096)=false:=bv;have l:Hid (v=false):=(by show v=_;rw [F,decide_eq_true j,decide_eq_false m];rfl);clear F j m f g;go_enter func60,ntmps60;go_wp2_with fail;go_ret;exact ⟨sx,p _⟩
 ·have y:decide ((R:Int)<=16)=false:=bv;have l:Hid (v=false):=(by show v=_;rw [F,decide_eq_false j];rfl);clear F j f g;go_enter func60,ntmps60;go_wp2_with fail;go_ret;exact ⟨sx,p _⟩
theorem dj (h:a.heap[d]?=some r) (W:Obj):(a.alloc W).heap[d]?=some r:=(Below.heap_alloc a W d (Array.getElem?_eq_some_iff.1 h).1).trans h
theorem Pq (w1:(((w.alloc o1).alloc o2).alloc o3).grownBy a (some (w.heap.size+1+1))):a.heap[w.heap.size]?=some o1/\a.heap[w.heap.size+1]?=some o2/\Bw w a/\w.heap.size+1+1+1<=a.heap.size:=by obtain ⟨c,d,_⟩:=Uw (w:=w) (o1:=o1) (o2:=o2) (o3:=o3) (Below.refl _ (((w.alloc o1).alloc o2).alloc o3));have b:=w1.size;simp only [World.size_alloc] at b;refine ⟨(w1.block _ eh bv).trans c,(w1.block _ eh cp).trans d,?_,b⟩;exact Below.grown ((((Below.refl _ _).alloc (Nat.le_refl _) o1).alloc cp o2).alloc bv o3) w1 eh (λk e=>by simp at e;omega)
theorem SX (w:(a.alloc r).grownBy b (some d)) (w1:d=a.heap.size):Bw a b:=by subst w1;exact Below.grown ((Below.refl _ _).alloc (Nat.le_refl _) r) w cp (λk c=>by simp at c;omega)
theorem Eg (xs ys:List Int) (w:World) (hx:xs.length=R) (hy:ys.length=V) (E:R<=1048576) (F:V<=1048576) (G:Sl .u8 w O xs) (H:Sl .u8 w T ys): Calls prog 72 #[.agg #[.u K,.u L,.bool M,.slice O R S,.slice T V Y,.i Z]] w λe l=>∃ (d:Option Addr) (f:Nat) (m:Option Addr) (q:Nat),e=.returned (.agg #[.u K,.u L,.bool M,.slice d R f,.slice m V q,.i Z]) /\ bz w.heap.size l.heap.size l (gj d R f xs m V q ys)/\Bw w l:=by
 have B:∀ b c1,Bw w ((w.alloc b).alloc c1):=λb c1=>((Below.refl _ _).alloc (Nat.le_refl _) b).alloc cp c1
 have X:=jh ((w.alloc (.cells #[.u K,.u L,.bool M,.slice O R S,.slice T V Y,.i Z] 30)).alloc (.cells #[.u 0,.u 0,.bool false,.slice none 0 0,.slice none 0 0,.i 0] 30)) (w.heap.size+1+1) cp (.cells #[] 5 (0,0)) rfl
 rw [World.size_alloc,World.size_alloc] at X
 have N:Hid (∀ l,Bw w l->Sl .u8 l O xs):=λl Q=>G.below Q
 have a1:Hid (∀ l,Bw w l->Sl .u8 l T ys):=λl Q=>H.below Q
 have t:Hid (xs.length=R/\ys.length=V/\R<=1048576/\V<=1048576):=⟨hx,hy,E,F⟩
 clear G H hx hy E F
 go_enter func72,ntmps72
 go_wp2_with (first
  | (at_builtin;refine ik rfl (.tmp 3) (.tmp 5) rfl (w.heap.size+1+1) _ rfl X O R S xs rfl t.out.1 t.out.2.2.1 (N.out _ ((B _ _).alloc (B _ _).size _)) cp ?_;intro d f u I z;obtain ⟨cm,r1,D,z1⟩:=Pq z;have c:=aG cm;have R1:=aG r1;have s:=aG D;have Z1:=aG z1;have A1:=aG ((bz.nil (w.heap.size+1+1) (w.heap.size+1+1) u).snoc (aF d R f xs) _ u.heap.size I (Nat.le_refl _) (Nat.le_refl _) (Nat.le_refl _) ab);obtain ⟨c2,r,p2,p3,p4,p5⟩:=hC cm;have f3:=ic cm 3;have C:=jh (u.setCell ⟨w.heap.size,3,none⟩ (.slice d R f)) u.heap.size ek (.cells #[] 5 (0,0)) rfl;rw [aX] at C;have y:(u.setCell ⟨w.heap.size,3,none⟩ (.slice d R f)).heap[w.heap.size]?=some (.cells #[.u K,.u L,.bool M,.slice d R f,.slice T V Y,.i Z] 30 (0,0)):=bH c.out 3 (.slice d R f);have a2:=λo=>(hC (dj y o)).2.2.2.2.1;clear cm r1 D z1 I z y)
  | (at_builtin;refine ik rfl (.tmp 8) (.tmp 10) rfl u.heap.size _ rfl C T V Y ys rfl t.out.2.1 t.out.2.2.2 (a1.out _ ((s.out.setCell (p:=⟨w.heap.size,3,none⟩) (Nat.le_refl _) _).alloc (s.out.setCell (p:=⟨w.heap.size,3,none⟩) (Nat.le_refl _) _).size _)) (by rw [World.size_alloc,aX];omega) ?_;intro m q w2 J A;have j:=SX A (by rw [aX]);have U:=j.size;have W:Hid (w2.heap[w.heap.size]?=some (.cells #[.u K,.u L,.bool M,.slice d R f,.slice T V Y,.i Z] 30 (0,0))):=br j (bH c.out 3 (.slice d R f));have P:=aG (br j (gL R1.out ⟨w.heap.size,3,none⟩ (.slice d R f) di));have B2:=aG (aa (s.out.setCell (p:=⟨w.heap.size,3,none⟩) (Nat.le_refl _) (.slice d R f)) j);rw [aX] at U;have A2:=aG (((A1.out.set ⟨w.heap.size,3,none⟩ (.slice d R f) (.inl di)).below j).snoc (aF m V q ys) _ w2.heap.size J (Nat.le_refl _) (by have:=Z1.out;omega) (Nat.le_refl _) U);clear c2 r p2 p3 p4 p5 f3 a2;obtain ⟨c2,r,p2,p3,p4,p5⟩:=hC W.out;have f4:=ic W.out 4;obtain ⟨s0,s1,s2,s3,s4,s5⟩:=hC P.out;obtain ⟨y0,y1,y2,y3,y4,y5⟩:=Bo P.out;clear J A j U))
 have T1:=gL P.out ⟨w.heap.size,4,none⟩ (.slice m V q) di
 have A3:=(A2.out.set ⟨w.heap.size,4,none⟩ (.slice m V q) (.inl di)).put6 (w.heap.size+1) (.inl ab) (.u K) (.u L) (.bool M) (.slice d R f) (.slice m V q) (.i Z)
 have B3:=lC (B2.out.setCell (p:=⟨w.heap.size,4,none⟩) (Nat.le_refl _) (.slice m V q)) (g:=w.heap.size+1) ab (.u K) (.u L) (.bool M) (.slice d R f) (.slice m V q) (.i Z)
 exact bodyPost_ret (results_cell_row results72 _ _ _ _ _ _ _ rfl (n9 T1 _ _ _ _ _ _) underlying30 rfl bO) rfl ⟨d,f,m,q,rfl,A3.low ab py,B3⟩
theorem Bt (h:a.heap[d]?=some r):a.drew.heap[d]?=some r:=h
theorem yw:((a.alloc r).alloc l).drew.heap[a.heap.size+1]?=some l:=(vk (w:=a) (o1:=r) (o2:=l) (Below.refl _ ((a.alloc r).alloc l))).2
theorem jq:((a.alloc r).alloc l).heap[a.heap.size+1]?=some l:=(vk (w:=a) (o1:=r) (o2:=l) (Below.refl _ ((a.alloc r).alloc l))).2
theorem po:Bw a ((a.alloc r).alloc l).drew:=(((Below.refl _ _).alloc (Nat.le_refl _) r).alloc cp l).drew
theorem eO:Bw a ((a.alloc r).alloc l):=((Below.refl _ _).alloc (Nat.le_refl _) r).alloc cp l
theorem K3 (w:World): CB 120 #[.agg #[.u K,.u L,.bool M,.slice O R S,.slice T V Y,.i Z],.u 33554432,.i 4] w (.tuple #[.u (gy M),.agg #[.u K,.u L,.bool M,.slice O R S,.slice T V Y,.i Z],.bool true]):=by
 have l:Hid (∀ w,CE 104 #[.bool M] w (.u (gy M))):=vt M;generalize gy M=v at *;go_enter func120,ntmps120;go_wp2_with fail;go_region_with (first | (go_at_call 104;with_reducible refine (l.out _).mono ?_;rintro e m ⟨rfl,c⟩;subst c));all_goals go_wp2_with fail
 all_goals exact bodyPost_ret (bU results120 _ _ _ _ _ _ _ rfl yw underlying30 rfl bO) rfl ⟨rfl,po⟩
theorem K4 (w:World): CB 120 #[.agg #[.u K,.u L,.bool M,.slice O R S,.slice T V Y,.i Z],.u 33570816,.i 8] w (.tuple #[.u L,.agg #[.u K,.u L,.bool M,.slice O R S,.slice T V Y,.i Z],.bool true]):=by go_enter func120,ntmps120;go_wp2_with fail;go_region;exact x9
theorem K5 (w:World): CB 120 #[.agg #[.u K,.u L,.bool M,.slice O R S,.slice T V Y,.i Z],.u 33603576,.i 8] w (.tuple #[.u K,.agg #[.u K,.u L,.bool M,.slice O R S,.slice T V Y,.i Z],.bool true]):=by go_enter func120,ntmps120;go_wp2_with fail;go_region;exact x9
theorem IZ (w:World): CB 120 #[.agg #[.u K,.u L,.bool M,.slice O 0 R,.slice T V Y,.i Z],.u 268435456,.i 1] w (.tuple #[.u 0,.agg #[.u K,.u L,.bool M,.slice O 0 R,.slice T V Y,.i Z],.bool true]):=by go_enter func120,ntmps120;go_wp2_with fail;go_region;exact x9
theorem K6 (w:World): CB 120 #[.agg #[.u K,.u L,.bool M,.slice O R S,.slice T V Y,.i Z],.u 268435457,.i 1] w (.tuple #[.u (Uz.wrap Z),.agg #[.u K,.u L,.bool M,.slice O R S,.slice T V Y,.i Z],.bool true]):=by go_enter func120,ntmps120;go_wp2_with fail;go_region;exact x9
theorem K7 (c:R<=1048576) (w:World): CB 120 #[.agg #[.u K,.u L,.bool M,.slice O R S,.slice T V Y,.i Z],.u 268435461,.i 1] w (.tuple #[.u (Uz.wrap (32+gy (decide (0<R)))),.agg #[.u K,.u L,.bool M,.slice O R S,.slice T V Y,.i Z],.bool true]):=by
 have m:Hid (∀ w,CE 104 #[.bool (decide (0<R))] w (.u (gy (decide (0<R))))):=vt _;generalize gy (decide (0<R))=v at *;clear c;go_enter func120,ntmps120;go_wp2_with fail;go_region_with (first | (go_at_call 104;with_reducible refine (m.out _).mono ?_;rintro e o ⟨rfl,d⟩;subst d));all_goals go_wp2_with fail
 all_goals exact bodyPost_ret (bU results120 _ _ _ _ _ _ _ rfl yw underlying30 rfl bO) rfl ⟨rfl,po⟩
theorem K8 (addr size:Int) (b:addr=33554432->¬ size=4) (k1:addr=33570816->¬ size=8) (k2:addr=33603576->¬ size=8) (c:addr=268435456->¬ size=1) (d:addr=268435457->¬ size=1) (f:addr=268435461->¬ size=1) (w:World): CB 120 #[.agg #[.u K,.u L,.bool M,.slice O R S,.slice T V Y,.i Z],.u addr,.i size] w (.tuple #[.u 0,.agg #[.u 0,.u 0,.bool false,.slice none 0 0,.slice none 0 0,.i 0],.bool false]):=by
 by_cases g:addr=33554432;·have z:(size==4)=false:=(by simpa using b g);subst g;clear b k1 k2 c d f;go_enter func120,ntmps120;go_wp2_with fail;exact bodyPost_ret (bU results120 _ _ _ _ _ _ _ rfl jq underlying30 rfl bO) rfl ⟨rfl,eO⟩
 ·have t0:(addr==33554432)=false:=v8;by_cases j:addr=33570816;·have A:(size==8)=false:=(by simpa using k1 j);subst j;clear b k1 k2 c d f;go_enter func120,ntmps120;go_wp2_with fail;exact bodyPost_ret (bU results120 _ _ _ _ _ _ _ rfl jq underlying30 rfl bO) rfl ⟨rfl,eO⟩
  ·have F:(addr==33570816)=false:=(by simpa using j);by_cases l:addr=33603576;·have B:(size==8)=false:=(by simpa using k2 l);subst l;clear b k1 k2 c d f;go_enter func120,ntmps120;go_wp2_with fail;exact bodyPost_ret (bU results120 _ _ _ _ _ _ _ rfl jq underlying30 rfl bO) rfl ⟨rfl,eO⟩
   ·have G:(addr==33603576)=false:=(by simpa using l);by_cases m:addr=268435456;·have C:(size==1)=false:=(by simpa using c m);subst m;clear b k1 k2 c d f;go_enter func120,ntmps120;go_wp2_with fail;exact bodyPost_ret (bU results120 _ _ _ _ _ _ _ rfl jq underlying30 rfl bO) rfl ⟨rfl,eO⟩
    ·have H:(addr==268435456)=false:=(by simpa using m);by_cases o:addr=268435457;·have D:(size==1)=false:=(by simpa using d o);subst o;clear b k1 k2 c d f;go_enter func120,ntmps120;go_wp2_with fail;exact bodyPost_ret (bU results120 _ _ _ _ _ _ _ rfl jq underlying30 rfl bO) rfl ⟨rfl,eO⟩
     ·have I:(addr==268435457)=false:=(by simpa using o);by_cases p:addr=268435461;·have E:(size==1)=false:=(by simpa using f p);subst p;clear b k1 k2 c d f;go_enter func120,ntmps120;go_wp2_with fail;exact bodyPost_ret (bU results120 _ _ _ _ _ _ _ rfl jq underlying30 rfl bO) rfl ⟨rfl,eO⟩
      ·have J:(addr==268435461)=false:=(by simpa using p);clear b k1 k2 c d f g j l m o p;go_enter func120,ntmps120;go_wp2_with fail;exact bodyPost_ret (bU results120 _ _ _ _ _ _ _ rfl jq underlying30 rfl bO) rfl ⟨rfl,eO⟩
theorem Sl.next (h:Sl .u8 a (some ⟨d,t,none⟩) E):Sl .u8 a (some ⟨d,t+1,none⟩) (E.drop 1):=by
 intro i g;rw [List.length_drop] at g;obtain ⟨j,c,e,w,f⟩:=h (i+1) ab;simp only [Option.some.injEq,Addr.mk.injEq,and_true] at e;obtain ⟨rfl,rfl⟩:=e;refine ⟨_,_,rfl,w,?_⟩;have e2:(E.drop 1).getD i 0=E.getD (i+1) 0:=by rw [List.getD_eq_getElem?_getD,List.getD_eq_getElem?_getD,List.getElem?_drop,Nat.add_comm]
 rw [e2,show t+1+i=t+(i+1) from ab];exact f
theorem I0 (h:bz B d a (gj y t c E Q f n x)) (hn:1<=t):∃ g,y=some ⟨g,0,none⟩/\t<=c/\c<=maxLen:=by
 have w:=h.own (aF y t c E) t5;rcases w.2 with ⟨_,c2⟩|⟨g,cap,b,i,_,_,c1,e,_⟩;·have:t=0:=c2;omega
 ·injection i with e1 e2 e3
  subst e1 e3;exact ⟨g,rfl,c1,e⟩
theorem zD (h:nZ d c P=true):d<=16/\c<=4096/\0<=P/\P<=1:=by unfold nZ at h;simp only [Bool.and_eq_true,decide_eq_true_eq] at h;exact ⟨h.1.1,h.1.2,h.2.1,h.2.2⟩
theorem I6 (x:Int) (w:World): CB 122 #[.agg #[.u K,.u L,.bool M,.slice O R S,.slice T V Y,.i Z],.u 33554432,.i 4,.u x] w (.tuple #[.agg #[.u K,.u L,.bool (bits .and .u64 x 1==1),.slice O R S,.slice T V Y,.i Z],.bool true]):=by go_enter func122,ntmps122;exact yn
theorem I7 (x:Int) (w:World): CB 122 #[.agg #[.u K,.u L,.bool M,.slice O R S,.slice T V Y,.i Z],.u 33570816,.i 8,.u x] w (.tuple #[.agg #[.u K,.u x,.bool M,.slice O R S,.slice T V Y,.i Z],.bool true]):=by go_enter func122,ntmps122;exact yn
theorem I8 (x:Int) (w:World): CB 122 #[.agg #[.u K,.u L,.bool M,.slice O R S,.slice T V Y,.i Z],.u 33603576,.i 8,.u x] w (.tuple #[.agg #[.u x,.u L,.bool M,.slice O R S,.slice T V Y,.i Z],.bool true]):=by go_enter func122,ntmps122;exact yn
theorem Eh (x:Int) (j:¬ V<4096) (c:V<=4096) (w:World): CB 122 #[.agg #[.u K,.u L,.bool M,.slice O R S,.slice T V Y,.i Z],.u 268435456,.i 1,.u x] w (.tuple #[.agg #[.u K,.u L,.bool M,.slice O R S,.slice T V Y,.i Z],.bool true]):=by
 have m:decide ((V:Int)<4096)=false:=by simp;omega
 clear j c;exact zz
theorem I9 (x:Int) (w:World): CB 122 #[.agg #[.u K,.u L,.bool M,.slice O R S,.slice T V Y,.i Z],.u 268435457,.i 1,.u x] w (.tuple #[.agg #[.u K,.u L,.bool M,.slice O R S,.slice T V Y,.i (wrap64 (bits .and .u64 x 1))],.bool true]):=by go_enter func122,ntmps122;exact yn
theorem Ja (x:Int) (w:World): CB 122 #[.agg #[.u K,.u L,.bool M,.slice O R S,.slice T V Y,.i Z],.u 268435461,.i 1,.u x] w (.tuple #[.agg #[.u K,.u L,.bool M,.slice O R S,.slice T V Y,.i Z],.bool true]):=by go_enter func122,ntmps122;exact yn
theorem Jb (x addr size:Int) (b:addr=33554432->¬ size=4) (k1:addr=33570816->¬ size=8) (k2:addr=33603576->¬ size=8) (c:addr=268435456->¬ size=1) (d:addr=268435457->¬ size=1) (f:addr=268435461->¬ size=1) (w:World): CB 122 #[.agg #[.u K,.u L,.bool M,.slice O R S,.slice T V Y,.i Z],.u addr,.i size,.u x] w (.tuple #[.agg #[.u 0,.u 0,.bool false,.slice none 0 0,.slice none 0 0,.i 0],.bool false]):=by
 by_cases g:addr=33554432;·have z:(size==4)=false:=(by simpa using b g);subst g;clear b k1 k2 c d f;exact zz
 ·have t0:(addr==33554432)=false:=v8;by_cases j:addr=33570816;·have A:(size==8)=false:=(by simpa using k1 j);subst j;clear b k1 k2 c d f;go_enter func122,ntmps122;go_wp2_with fail;exact bodyPost_ret (cW results122 _ _ _ _ _ _ _ rfl jq underlying30 rfl bO) rfl ⟨rfl,eO⟩
  ·have F:(addr==33570816)=false:=(by simpa using j);by_cases l:addr=33603576;·have B:(size==8)=false:=(by simpa using k2 l);subst l;clear b k1 k2 c d f;go_enter func122,ntmps122;go_wp2_with fail;exact bodyPost_ret (cW results122 _ _ _ _ _ _ _ rfl jq underlying30 rfl bO) rfl ⟨rfl,eO⟩
   ·have G:(addr==33603576)=false:=(by simpa using l);by_cases m:addr=268435456;·have C:(size==1)=false:=(by simpa using c m);subst m;clear b k1 k2 c d f;go_enter func122,ntmps122;go_wp2_with fail;exact bodyPost_ret (cW results122 _ _ _ _ _ _ _ rfl jq underlying30 rfl bO) rfl ⟨rfl,eO⟩
    ·have H:(addr==268435456)=false:=(by simpa using m);by_cases o:addr=268435457;·have D:(size==1)=false:=(by simpa using d o);subst o;clear b k1 k2 c d f;go_enter func122,ntmps122;go_wp2_with fail;exact bodyPost_ret (cW results122 _ _ _ _ _ _ _ rfl jq underlying30 rfl bO) rfl ⟨rfl,eO⟩
     ·have I:(addr==268435457)=false:=(by simpa using o);by_cases p:addr=268435461;·have E:(size==1)=false:=(by simpa using f p);subst p;clear b k1 k2 c d f;go_enter func122,ntmps122;go_wp2_with fail;exact bodyPost_ret (cW results122 _ _ _ _ _ _ _ rfl jq underlying30 rfl bO) rfl ⟨rfl,eO⟩
      ·have J:(addr==268435461)=false:=(by simpa using p);clear b k1 k2 c d f g j l m o p;exact zz
theorem Ps (j:Nat) (u:Value) (h:[Value.int .u8 Z][j]?=some u):(N.alloc (.cells #[.int .u8 Z] 5)).cell? ((⟨N.heap.size,0,none⟩:Addr).add j)=some u:=by
 have c:j=0:=by
  rcases Nat.eq_zero_or_pos j with a|a;·exact a
  ·rw [List.getElem?_eq_none bv] at h;cases h
 subst c;rw [zB];simp only [List.getElem?_cons_zero,Option.some.injEq] at h;subst h;have e:=heap_alloc_new N (.cells #[.int .u8 Z] 5);show (N.alloc (.cells #[.int .u8 Z] 5)).cell? ⟨N.heap.size,0,none⟩=_;simp only [World.cell?,e];rfl
theorem K9 (h:a.ownsRow d e 1 j n p):∃ w c,j=.slice w n c:=by
 rcases h.2 with ⟨t,base⟩|⟨f,cap,b,t,_⟩;·exact ⟨none,0,by rw [t,base]⟩
 ·exact ⟨_,_,t⟩
theorem VN {w2:World} {o2:Obj} (d:b.heap[a.heap.size]?=some l) (c:b.heap[a.heap.size+1]?=some o2) (f:b.ownsRow (a.heap.size+1+1) e 1 j n p) (w:(b.alloc r).grownBy w2 j.ownBlock): w2.heap[a.heap.size]?=some l/\w2.heap[a.heap.size+1]?=some o2/\Below (a.heap.size+1+1) b w2:=by have z:=(Array.getElem?_eq_some_iff.1 c).1;have w1:∀ k,k<a.heap.size+1+1->w2.heap[k]?=b.heap[k]?:=λk w1=>(w.block k i4 (λt=>by have:=(f.lt k t.symm).1;omega)).trans (Below.heap_alloc b r k ab);refine ⟨(w1 _ ab).trans d,(w1 _ ab).trans c,⟨w.os,w.tape,w.output,?_,w1⟩⟩;have:=w.size;rw [World.size_alloc] at this;omega
end Go.Proofs.YtjifdmoehfbihaaGreatDoor
