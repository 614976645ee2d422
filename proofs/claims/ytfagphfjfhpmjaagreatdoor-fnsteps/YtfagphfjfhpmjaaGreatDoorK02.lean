/- Own lemmas. -/
import Derived.Test.YtfagphfjfhpmjaaGreatDoorAut
import Derived.Test.YtfagphfjfhpmjaaGreatDoorK01
import Derived.WalkLawsBesides
import Derived.Laws.CopyOwn
import Derived.Deep.AppendSrc
set_option maxRecDepth 100000
set_option maxHeartbeats 1600000
namespace Go.Proofs.YtfagphfjfhpmjaaGreatDoor
open Go.RowKit Tryz
open IntKind renaming u64->Uz
set_option linter.unusedVariables false
variable {a b w w':World} {d t c f B n g:Nat} {e:TypeId} {E x:List Int} {v j o k W s:Value} {m r o1 o2 o3:Obj} {l y:Option Addr} {Q:List Value} {p:IntKind} {q:Array Value} {A:Int} {P:Option Nat} {z:Nat × Nat} {C:Array Oper} {D:List Oper} {F:Oper} {G:Act} {I:Exit->Act->World->Prop} (J K:Int) (L:Bool) (M:World) (N:Option Addr) (O R:Nat) (S:Option Addr) (T:Nat) (V:List Int) (X:Nat) (Y Z:Int)
def Sl (k:IntKind) (w:World) (a:Option Addr) (zs:List Int):Prop :=
 ∀ i,i<zs.length->∃ b c,a=some ⟨b,c,none⟩/\b<w.heap.size/\w.cell? ⟨b,c+i,none⟩=some (.int k (zs.getD i 0))
theorem Sl.below (h:Sl p a l E) (hb:Bw a b):Sl p b l E:=by intro i g;obtain ⟨w,d,e,c,f⟩:=h i g;exact ⟨w,d,e,Nat.lt_of_lt_of_le c hb.size,(hb.cell (by exact c)).trans f⟩
theorem dY (h:a.ownsRow d e t v n Q) (hb:Bw a b):b.ownsRow d e t v n Q:=by
 obtain ⟨f,w'⟩:=h;refine ⟨f,?_⟩;rcases w' with w'|⟨g,cap,w,j,i,c,r⟩;·exact Or.inl w'
 ·have base:g<a.heap.size:=by
   rcases Nat.lt_or_ge g a.heap.size with h|h;·exact h
   ·rw [Array.getElem?_eq_none h] at c;cases c
  exact Or.inr ⟨g,cap,w,j,i,by rw [hb.block g base];exact c,r⟩
theorem RJ (h:a.ownsRow d e t (.slice (some ⟨c,0,none⟩) n f) n Q):c<a.heap.size:=by
 obtain ⟨j,w⟩:=h;rcases w with ⟨w,_⟩|⟨i,b,cap,base,k,g,r⟩;·cases w
 ·simp only [Value.slice.injEq,Option.some.injEq,Addr.mk.injEq,and_true,true_and] at base;obtain ⟨rfl,rfl⟩:=base;rcases Nat.lt_or_ge c a.heap.size with h|h;·exact h
  ·rw [Array.getElem?_eq_none h] at g;cases g
theorem kE (h:a.ownsRow d e 1 (.slice (some ⟨t,0,none⟩) n c) n (E.map (Value.int p))):Sl p a (some ⟨t,0,none⟩) E:=by
 intro i w;have b:n=E.length:=by have:=h.1;simp at this;omega
 refine ⟨t,0,rfl,RJ h,?_⟩;rw [Nat.zero_add,h.cellAt i ab];simp [List.getElem?_map,List.getElem?_eq_getElem w,List.getD]
theorem fO (h:a.ownsRow d e 1 (.slice l n t) n (E.map (Value.int p))):Sl p a l E:=by
 rcases h.2 with ⟨g,j⟩|⟨f,b,w,c,cap,m,r⟩;·intro i o;have:=h.1;simp at this;omega
 ·simp only [Value.slice.injEq,true_and] at c;obtain ⟨rfl,rfl⟩:=c;exact kE h
theorem IB (ys:List Int) (k n:Nat) (hx:V.length=n) (hy:ys.length=n) (hk:k<n) (h:V.take k=ys.take k) (he:V.getD k 0=ys.getD k 0):V.take (k+1)=ys.take (k+1):=by
 rw [List.take_succ_eq_append_getElem ab,List.take_succ_eq_append_getElem ab,h];have a:V.getD k 0=V[k]:=by simp [List.getD,List.getElem?_eq_getElem (show k<V.length by omega)]
 have e2:ys.getD k 0=ys[k]:=by simp [List.getD,List.getElem?_eq_getElem (show k<ys.length by omega)]
 rw [<- a,<- e2,he]
def Be (k:IntKind) (w:World) (a:Option Addr) (len cap:Nat) (zs:List Int):Prop :=
 (a=none/\len=0/\cap=0/\zs=[]) \/
 ∃ x,a=some x/\len<=cap/\cap<=maxLen/\zs.length=cap/\(∀ i,i<zs.length->w.cell? (x.add i)=some (.int k (zs.getD i 0)))/\∀ n ∈ zs,(Lit.int k n).wf=true
theorem Be.sl (h:Be p a l d t E): ∃ n:List Int,n.length=d/\Sl p a l n/\(∀ y ∈ n,(Lit.int p y).wf=true)/\d<=maxLen:=by
 rcases h with ⟨rfl,rfl,rfl,rfl⟩ | ⟨x,rfl,r,s,cap,c,m⟩;·exact ⟨[],rfl,λi w=>absurd w cp,cp,et⟩
 ·refine ⟨E.take d,bv,?_,λy q=>m y (List.mem_of_mem_take q),ab⟩;intro i w;simp only [List.length_take] at w;obtain ⟨b,f,g⟩:=x;have len:g=none:=(by simpa [Addr.add] using World.cell?_spot (c 0 ab));subst len;have k:(⟨b,f,none⟩:Addr).add i=⟨b,f+i,none⟩:=by
   by_cases o:i=0;·subst o;simp [Addr.add]
   ·simp [Addr.add,o]
  have j:=c i ab;rw [k] at j;refine ⟨b,f,rfl,World.block_lt_of_cell? _ _ j,?_⟩;have e:(E.take d).getD i 0=E.getD i 0:=(by simp [List.getD,show i<d by omega]);rw [e];exact j
theorem aa {w1:World} (h:Bw a w1) (k:Bw w1 b):Bw a b :=
 h.trans (k.mono h.size)
theorem iW (h:∀ y ∈ E,(Lit.int .u8 y).wf=true) (k:Nat):0<=E.getD k 0/\E.getD k 0<=255:=by
 by_cases a:k<E.length;·have:=h (E.getD k 0) (by simp [List.getD,List.getElem?_eq_getElem a]);simpa [Lit.wf,IntKind.min,IntKind.max,IntKind.signed,IntKind.bits] using this
 ·simp [List.getD,List.getElem?_eq_none (Nat.le_of_not_lt a)]
theorem ns:(V.map (Value.int .u8)).set X (.int .u8 Y)=(V.set X Y).map (Value.int .u8):=by rw [List.map_set]
theorem DW:(J=1\/J=2\/J=4\/J=8)\/((J==1)=false/\(J==2)=false/\(J==4)=false/\(J==8)=false):=by
 by_cases a:J=1;·exact .inl (.inl a)
 ·by_cases b:J=2;·exact .inl (.inr (.inl b))
  ·by_cases c:J=4;·exact .inl (.inr (.inr (.inl c)))
   ·by_cases d:J=8;·exact .inl (.inr (.inr (.inr d)))
    ·exact .inr (by simp [a,b,c,d])
theorem KB (h:(A==1)=false/\(A==2)=false/\(A==4)=false/\(A==8)=false):jf A=false:=by simp at h;simp [jf,h]
theorem RK (h:(Lit.int .u64 A).wf=true):0<=A/\A<=18446744073709551615:=by simpa [Lit.wf,IntKind.min,IntKind.max,IntKind.signed,IntKind.bits] using h
theorem aW {w:World} (h:w.grownBy a P) (k:a.grownBy b P):w.grownBy b P :=
 ⟨k.os.trans h.os,k.tape.trans h.tape,k.output.trans h.output,Nat.le_trans h.size k.size,λi d c=>(k.block i (Nat.lt_of_lt_of_le d h.size) c).trans (h.block i d c)⟩
theorem lw (row:Option Nat):M.grownBy M row:=⟨rfl,rfl,rfl,Nat.le_refl _,λ_ _ _=>rfl⟩
theorem OK (hs:Sl .u8 a (some ⟨d,t,none⟩) E) (o:Obj) (j:Nat) (u:Value) (c:(E.map (Value.int .u8))[j]?=some u): (a.alloc o).cell? ((⟨d,t,none⟩:Addr).add j)=some u:=by
 have w:j<E.length:=by
  rcases Nat.lt_or_ge j E.length with h|h;·exact h
  ·rw [List.getElem?_eq_none el] at c;cases c
 obtain ⟨n,k,e,f,m⟩:=hs j w;simp only [Option.some.injEq,Addr.mk.injEq,and_true] at e;obtain ⟨rfl,rfl⟩:=e;have l:(⟨d,t,none⟩:Addr).add j=⟨d,t+j,none⟩:=by
  by_cases i:j=0;·subst i;simp [Addr.add]
  ·simp [Addr.add,i]
 have g:u=.int .u8 (E.getD j 0):=by simp [List.getElem?_eq_getElem w] at c;simp [List.getD,List.getElem?_eq_getElem w,c]
 rw [l,g,<- m];exact ((Below.refl a.heap.size a).alloc (Nat.le_refl _) o).cell (by exact f)
theorem jP (h:a.ownsRow d e 1 v n Q) (hn:0<n):∃ g c,v=.slice (some ⟨g,0,none⟩) n c/\d<=g:=by
 rcases h.2 with ⟨_,f⟩|⟨g,cap,w,base,b,_⟩;·omega
 ·exact ⟨g,cap,base,b⟩
theorem zp:(⟨O,R,none⟩:Addr).add T=⟨O,R+T,none⟩:=by
 by_cases c:T=0;·subst c;simp [Addr.add]
 ·simp [Addr.add,c]
theorem mM {P:Program} (y:F.guard=none) (d s:Operand) (p:TypeId) (S:F.op=.call {callee:=.builtin .copy,args:=#[d,s],argTypes:=#[p,p]}) (e:TypeId) (T:P.underlying p=some (.slice e)) (r:(P.info? e).map (·.size)=some 1) (k:IntKind) (base g n c b l cap:Nat) (zs:List Int) (ys:List Value) (hd:G.eval d=.slice (some ⟨g,0,none⟩) n c) (hs:G.eval s=.slice (some ⟨b,l,none⟩) n cap) (q:a.ownsRow base e 1 (.slice (some ⟨g,0,none⟩) n c) n ys) (w:Sl k a (some ⟨b,l,none⟩) zs) (hz:zs.length=n) (h:∀ o,o.ownsRow base e 1 (.slice (some ⟨g,0,none⟩) n c) n (zs.map (Value.int k))->a.grownBy o (some g)->wpList P C I D (G.put F.dst (goInt n)) o):wpList P C I (F::D) G a:=by
 rcases q.2 with ⟨M,_⟩|⟨W,V,m,K,v,J,A,x,O,E⟩;·cases M
 ·simp only [Value.slice.injEq,Option.some.injEq,Addr.mk.injEq,and_true,true_and] at K;obtain ⟨rfl,rfl⟩:=K;have t:(zs.map (Value.int k)).length=n:=(by rw [List.length_map,hz]);have Q:m.toList.length=c:=(by rw [Array.length_toList];omega);refine wpList_copy_own y d s p p S e T r g 0 n c ⟨b,l,none⟩ n cap hd hs m e J (zs.map (Value.int k)) (by rw [t];exact (Nat.min_self n).symm) ?_ (by rw [t];omega) (ints_oneCell _ _) ?_
  ·intro j u f;have z:j<zs.length:=by
    rcases Nat.lt_or_ge j zs.length with h|h;·exact h
    ·rw [List.getElem?_eq_none el] at f;cases f
   obtain ⟨U,L,H,R,N⟩:=w j z;simp only [Option.some.injEq,Addr.mk.injEq,and_true] at H;obtain ⟨rfl,rfl⟩:=H;have rest:u=.int k (zs.getD j 0):=(by simp [List.getElem?_eq_getElem z] at f;simp [List.getD,List.getElem?_eq_getElem z,f]);rw [zp,rest];exact N
  ·rw [t];refine h _ ⟨by rw [t];omega,.inr ⟨g,c,_,rfl,v,setRow_heap a g _ _ e _ J,A,x,?_,?_⟩⟩ ⟨rfl,rfl,rfl,by simp [World.setRow],λi X B=>setRow_other a g i _ (by intro h;apply B;rw [h])⟩;·simp [hz];omega
   ·simp [hz]
theorem zq (h:a.ownsRow d e t v n Q) (w':a.grownBy b P) (w:∀ k,v.ownBlock=some k->P≠some k): b.ownsRow d e t v n Q:=by
 refine h.kept w' ?_;cases c:v.ownBlock with
 | none=>exact .inl rfl
 | some k=>exact .inr (λh=>w k c h.symm)
theorem cG (h:a.ownsRow d e c v n Q) (hb:t<=d):a.ownsRow t e c v n Q:=by
 obtain ⟨w,size⟩:=h;refine ⟨w,?_⟩;rcases size with size|⟨g,cap,b,i,f,r⟩;·exact Or.inl size
 ·exact Or.inr ⟨g,cap,b,i,Nat.le_trans hb f,r⟩
theorem info5:(prog.info? 5).map (λi=>(i.zero,i.size,i.bytes))=some (some (.int .u8 0),1,1):=by kernel_rfl
theorem pN (w:World) (hn:O<=1048576): CE 69 #[.slice N O R] w (.bool (bf O)):=by
 by_cases b:4096<=O
 ·by_cases c:O<=65536
  ·have f:decide ((O:Int)<=65536)=true:=bv;by_cases d:O%4096=0;·have F:Hid (bf O=true):=(by show bf O=true;simp [bf,b,c,d]);have g:((O:Int)%4096==0)=true:=bv;go_enter func69,ntmps69;go_wp2;go_ret;exact ⟨bh,rfl⟩
   ·have F:Hid (bf O=false):=(by show bf O=false;simp [bf,d]);have g:((O:Int)%4096==0)=false:=bv;go_enter func69,ntmps69;exact wl
  ·have F:Hid (bf O=false):=(by show bf O=false;simp [bf,c]);have f:decide ((O:Int)<=65536)=false:=bv;go_enter func69,ntmps69;exact wl
 ·have F:Hid (bf O=false):=(by show bf O=false;simp [bf,b]);have l:decide ((4096:Int)<=O)=false:=bv;go_enter func69,ntmps69;exact wl
theorem fs (w:World) (hn:O<=1048576): CE 79 #[.slice N O R] w (.bool (bf O)):=by
 by_cases b:4096<=O
 ·by_cases c:O<=65536
  ·have f:decide ((O:Int)<=65536)=true:=bv;by_cases d:O%4096=0;·have F:Hid (bf O=true):=(by show bf O=true;simp [bf,b,c,d]);have g:((O:Int)%4096==0)=true:=bv;go_enter func79,ntmps79;go_wp2;go_ret;exact ⟨bh,rfl⟩
   ·have F:Hid (bf O=false):=(by show bf O=false;simp [bf,d]);have g:((O:Int)%4096==0)=false:=bv;go_enter func79,ntmps79;exact wl
  ·have F:Hid (bf O=false):=(by show bf O=false;simp [bf,c]);have f:decide ((O:Int)<=65536)=false:=bv;go_enter func79,ntmps79;exact wl
 ·have F:Hid (bf O=false):=(by show bf O=false;simp [bf,b]);have l:decide ((4096:Int)<=O)=false:=bv;go_enter func79,ntmps79;exact wl
theorem Oz (xs:List Int) (w:World) (hn:O<=1048576) (F:0<=Y) (G:Y<=1099511627776) (d:w.ownsRow T 5 1 (.slice N O R) O (xs.map (Value.int .u8))): Calls prog 56 #[.slice N O R,.i Y] w λe B=>e=.returned (.i (Y+O)) /\ B.ownsRow T 5 1 (.slice N O R) O ((n6 Y O).map (Value.int .u8))/\w.grownBy B (Value.slice N O R).ownBlock:=by
 have s:Hid (xs.length=O):=by show xs.length=O;have:=d.1;simpa using this
 rcases d.2 with ⟨y,I⟩ | ⟨g,u,C,A,J,_⟩;·simp only [Value.slice.injEq] at y;obtain ⟨rfl,rfl,rfl⟩:=y;have t:xs=[]:=List.eq_nil_of_length_eq_zero s.out;subst t;go_enter func56,ntmps56;go_wp2;refine wp_loop_rounds 1 ?_;rw [rounds_succ];go_wp2;go_ret;exact ⟨cp,d,⟨rfl,rfl,rfl,Nat.le_refl _,λ_ _ _=>rfl⟩⟩
 ·simp only [Value.slice.injEq,true_and] at A;obtain ⟨rfl,rfl⟩:=A;have m:w.ownsRow T 5 1 (.slice (some ⟨g,0,none⟩) O R) O ((Mk xs Y O 0).map (Value.int .u8)):=(by rw [OH];exact d);clear d;go_enter func56,ntmps56;go_wp2;go_loopw [1,5] (λc i wr=>∃ j:Nat,j<=O/\i=.i j/\c=.i (Y+j)/\wr.ownsRow T 5 1 (.slice (some ⟨g,0,none⟩) O R) O ((Mk xs Y O j).map (Value.int .u8))/\w.grownBy wr (some g))
   (λ_ i _=>O-(intOf i).toNat)
  case atStart=>exact ⟨0,Nat.zero_le _,rfl,cp,m,⟨rfl,rfl,rfl,Nat.le_refl _,λ_ _ _=>rfl⟩⟩
  case round =>
   obtain ⟨j,E,rfl,rfl,d,l⟩:=hrel;clear m;by_cases p:j<O
   ·have D:wr.frozen? ⟨g,j,none⟩=false:=d.frozenAt j;have f:=d.stored j (.int .u8 ((Y+(j:Int))%256));obtain ⟨K,H⟩:∃ v,wr.cell? ⟨g,j,none⟩=some v:=(by rw [d.cellAt j ab];exact ⟨_,List.getElem?_eq_getElem (by rw [List.length_map,RD _ _ _ _ s.out E];exact p)⟩);rw [ns,RE _ _ _ _ s.out p] at f;have o:w.grownBy (wr.setCell ⟨g,j,none⟩ (.int .u8 ((Y+(j:Int))%256))) (some g):=
     ⟨f.2.os.trans l.os,f.2.tape.trans l.tape,f.2.output.trans l.output,Nat.le_trans l.size f.2.size,λb z q=>(f.2.block b (Nat.lt_of_lt_of_le z l.size) q).trans (l.block b z q)⟩
    have r:=f.1;clear f d;go_wp2;go_roundw;case rel=>exact ⟨j+1,ab,by go_num,by go_num,r,o⟩
    case measure=>simp [intOf];omega
   ·have:j=O:=by omega
    subst this;rw [RC _ _ _ s.out] at d;go_wp2;go_ret;exact ⟨rfl,d,l⟩
theorem gG:CE 251 #[.i J] M (.bool (jf J)):=by
 rcases DW J with (rfl|rfl|rfl|rfl)|h;·go_enter func251,ntmps251;exact ww
 ·go_enter func251,ntmps251;exact ww
 ·go_enter func251,ntmps251;exact ww
 ·go_enter func251,ntmps251;exact ww
 ·have F:Hid (jf J=false):=KB h;obtain ⟨c,d,f,g⟩:=h;go_enter func251,ntmps251;exact wl
def fh (n:Nat) (addr size:Int):Int:=if gB n addr size then addr-2147483648 else 0
theorem lj (w:World) (hn:O<=1048576) (t:0<=Y) (p:Y<=18446744073709551615): CE 248 #[.slice N O R,.u Y,.i Z] w (.tuple #[.i (fh O Y Z),.bool (gB O Y Z)]):=by
 cases j:bf O;·have b:Hid (gB O Y Z=false):=(by show gB O Y Z=false;simp [gB,j]);have d:Hid (fh O Y Z=0):=sb;go_enter func248,ntmps248;go_wp2_with (go_at_call 79;refine (fs _ _ _ _ hn).mono ?_;rintro e c ⟨rfl,rfl⟩);go_ret2;exact ⟨tk,rfl⟩
 ·have u:=gq j;cases g:jf Z;·have b:Hid (gB O Y Z=false):=(by show gB O Y Z=false;simp [gB,g]);have d:Hid (fh O Y Z=0):=sb;go_enter func248,ntmps248;go_wp2_with (first | (go_at_call 79;refine (fs _ _ _ _ hn).mono ?_;rintro e c ⟨rfl,rfl⟩) | (go_at_call 251;refine (gG _ _).mono ?_;rintro e c ⟨rfl,rfl⟩));go_ret2;exact ⟨tk,rfl⟩
  ·have l:Z=1\/Z=2\/Z=4\/Z=8:=of_decide_eq_true g;have r:1<=Z:=ab;have s:Z<=8:=ab;clear l;by_cases f:Y<2147483648;·have b:Hid (gB O Y Z=false):=l0;have d:Hid (fh O Y Z=0):=sb;have m:decide (Y<2147483648)=true:=kd;go_enter func248,ntmps248;go_wp2_with (first | (go_at_call 79;refine (fs _ _ _ _ hn).mono ?_;rintro e c ⟨rfl,rfl⟩) | (go_at_call 251;refine (gG _ _).mono ?_;rintro e c ⟨rfl,rfl⟩));go_ret2;exact ⟨tk,rfl⟩
   ·have m:decide (Y<2147483648)=false:=kd;by_cases q:Y-2147483648+Z<=O;·have b:Hid (gB O Y Z=true):=(by show gB O Y Z=true;simp [gB,j,g];omega);have d:Hid (fh O Y Z=Y-2147483648):=(by show fh O Y Z=_;simp [fh,b.out]);have o:decide ((O:Int)-Z<Y-2147483648)=false:=bv;go_enter func248,ntmps248;go_wp2_with (first | (go_at_call 79;refine (fs _ _ _ _ hn).mono ?_;rintro e c ⟨rfl,rfl⟩) | (go_at_call 251;refine (gG _ _).mono ?_;rintro e c ⟨rfl,rfl⟩));go_ret2;exact ⟨tk,rfl⟩
    ·have b:Hid (gB O Y Z=false):=l0;have d:Hid (fh O Y Z=0):=sb;have o:decide ((O:Int)-Z<Y-2147483648)=true:=bv;go_enter func248,ntmps248;go_wp2_with (first | (go_at_call 79;refine (fs _ _ _ _ hn).mono ?_;rintro e c ⟨rfl,rfl⟩) | (go_at_call 251;refine (gG _ _).mono ?_;rintro e c ⟨rfl,rfl⟩));go_ret2;exact ⟨tk,rfl⟩
theorem vb (w:World) (hr:bf O=true) (g:jf Z=true) (t:0<=Y) (p:Y<=18446744073709551615): CE 135 #[.slice N O R,.u Y,.i Z] w (.bool (gB O Y Z)):=by
 have u:=gq hr;have l:Z=1\/Z=2\/Z=4\/Z=8:=of_decide_eq_true g;have q:1<=Z:=ab
 have r:Z<=8:=ab
 clear l;by_cases b:2147483648<=Y
 ·by_cases d:Y-2147483648<O
  ·by_cases f:Z<=O-(Y-2147483648);·have c:Hid (gB O Y Z=true):=(by show gB O Y Z=true;simp [gB,hr,g];omega);have j:decide (2147483648<=Y)=true:=lh;have m:decide (Y-2147483648<(O:Int))=true:=kp;have o:decide (Z<=(O:Int)-(Y-2147483648))=true:=kd;go_enter func135,ntmps135;go_wp2;go_ret;exact ⟨by rw [c.out];rfl,rfl⟩
   ·have c:Hid (gB O Y Z=false):=l0;have j:decide (2147483648<=Y)=true:=lh;have m:decide (Y-2147483648<(O:Int))=true:=kp;have o:decide (Z<=(O:Int)-(Y-2147483648))=false:=kd;exact x7
  ·have c:Hid (gB O Y Z=false):=l0;have j:decide (2147483648<=Y)=true:=lh;have m:decide (Y-2147483648<(O:Int))=false:=kp;exact x7
 ·have c:Hid (gB O Y Z=false):=l0;have j:decide (2147483648<=Y)=false:=lh;exact x7
theorem vd (zs:List Int) (w:World) (hz:zs.length=O) (hn:O<=1048576) (hs:Sl .u8 w N zs) (p:∀ y ∈ zs,(Lit.int .u8 y).wf=true) (u:1<=X) (hm:X<=8) (C:T+X<=O): CE 136 #[.slice N O R,.u (2147483648+(T:Int)),.i (X:Int)] w (.u (le zs T X)):=by
 have q:Hid (zs.length=O):=hz;have o:Hid (∀ y ∈ zs,(Lit.int .u8 y).wf=true):=p;clear hz p;go_enter func136,ntmps136;go_wp2;go_loop [8,9] (λx i=>∃ j:Nat,j<=X/\i=.i ((j:Int)-1)/\x=.u (le zs (T+j) (X-j))) (λ_ i=>(intOf i+1).toNat);case atStart=>exact ⟨X,Nat.le_refl _,rfl,by simp [le]⟩
 case round =>
  obtain ⟨j,D,rfl,rfl⟩:=hrel;by_cases t:1<=j
  ·obtain ⟨k,rfl⟩:∃ k,j=k+1:=⟨j-1,ab⟩;obtain ⟨b,z,rfl,B,s⟩:=hs (T+k) (by have:=q.out;omega);have g:=iW o.out (T+k);obtain ⟨x,d⟩:∃ x,x=zs.getD (T+k) 0:=⟨_,rfl⟩;obtain ⟨y,c⟩:∃ y,y=le zs (T+(k+1)) (X-(k+1)):=⟨_,rfl⟩;rw [<- d] at s g;rw [<- c];have l:=Rx zs (iW o.out) (X-(k+1)) (T+(k+1)) ab;rw [<- c] at l;have S:Hid (bits .or .u64 (y*256) x=le zs (T+k) (X-k)):=(by show bits .or .u64 (y*256) x=le zs (T+k) (X-k);rw [Rz y x l.1 l.2 g.1 g.2,show X-k=(X-(k+1))+1 from ab,le,d,c];rfl);clear d c;go_wp2;go_round;case rel=>exact ⟨k,ab,by go_num,by rw [<- S.out]⟩
   case measure=>simp [intOf]
  ·have r:j=0:=ab;subst r;exact ww
theorem RL (d e b6 f:Int) (w:World):(Instr.index 281 (.agg #[.int .u8 J,.int .u8 K,.int .u8 Y,.int .u8 Z,.int .u8 d,.int .u8 e,.int .u8 b6,.int .u8 f]) (.i 0)).run prog w=.ok (.int .u8 J) w:=by kernel_rfl
theorem RM (d e b6 f:Int) (w:World):(Instr.index 281 (.agg #[.int .u8 J,.int .u8 K,.int .u8 Y,.int .u8 Z,.int .u8 d,.int .u8 e,.int .u8 b6,.int .u8 f]) (.i 1)).run prog w=.ok (.int .u8 K) w:=by kernel_rfl
theorem RQ (d e b6 f:Int) (w:World):(Instr.index 281 (.agg #[.int .u8 J,.int .u8 K,.int .u8 Y,.int .u8 Z,.int .u8 d,.int .u8 e,.int .u8 b6,.int .u8 f]) (.i 2)).run prog w=.ok (.int .u8 Y) w:=by kernel_rfl
theorem RS (d e b6 f:Int) (w:World):(Instr.index 281 (.agg #[.int .u8 J,.int .u8 K,.int .u8 Y,.int .u8 Z,.int .u8 d,.int .u8 e,.int .u8 b6,.int .u8 f]) (.i 3)).run prog w=.ok (.int .u8 Z) w:=by kernel_rfl
theorem RT (a e b6 f:Int) (w:World):(Instr.index 281 (.agg #[.int .u8 J,.int .u8 K,.int .u8 Y,.int .u8 Z,.int .u8 a,.int .u8 e,.int .u8 b6,.int .u8 f]) (.i 4)).run prog w=.ok (.int .u8 a) w:=by kernel_rfl
theorem RU (e a b6 f:Int) (w:World):(Instr.index 281 (.agg #[.int .u8 J,.int .u8 K,.int .u8 Y,.int .u8 Z,.int .u8 e,.int .u8 a,.int .u8 b6,.int .u8 f]) (.i 5)).run prog w=.ok (.int .u8 a) w:=by kernel_rfl
theorem RV (d e b6 f:Int) (w:World):(Instr.index 281 (.agg #[.int .u8 J,.int .u8 K,.int .u8 Y,.int .u8 Z,.int .u8 d,.int .u8 e,.int .u8 b6,.int .u8 f]) (.i 6)).run prog w=.ok (.int .u8 b6) w:=by kernel_rfl
theorem RW (e f b6 a:Int) (w:World):(Instr.index 281 (.agg #[.int .u8 J,.int .u8 K,.int .u8 Y,.int .u8 Z,.int .u8 e,.int .u8 f,.int .u8 b6,.int .u8 a]) (.i 7)).run prog w=.ok (.int .u8 a) w:=by kernel_rfl
theorem UT (d e b6 f:Int) (w:World) (k:Nat) (hk:k<8): (Instr.index 281 (.agg #[.int .u8 J,.int .u8 K,.int .u8 Y,.int .u8 Z,.int .u8 d,.int .u8 e,.int .u8 b6,.int .u8 f]) (.i (k:Int))).run prog w=.ok (.int .u8 ([J,K,Y,Z,d,e,b6,f].getD k 0)) w:=by
 match k,hk with
 | 0,_=>exact RL J K Y Z d e b6 f w
 | 1,_=>exact RM J K Y Z d e b6 f w
 | 2,_=>exact RQ J K Y Z d e b6 f w
 | 3,_=>exact RS J K Y Z d e b6 f w
 | 4,_=>exact RT J K Y Z d e b6 f w
 | 5,_=>exact RU J K Y Z d e b6 f w
 | 6,_=>exact RV J K Y Z d e b6 f w
 | 7,_=>exact RW J K Y Z d e b6 f w
theorem ve (b2 g j l b6 m:Int) (w:World) (hb:V=[Y,Z,b2,g,j,l,b6,m]) (q:∀ i,0<=V.getD i 0/\V.getD i 0<=255): CB 249 #[.agg #[.int .u8 Y,.int .u8 Z,.int .u8 b2,.int .u8 g,.int .u8 j,.int .u8 l,.int .u8 b6,.int .u8 m]] w (.u (le V 0 8)):=by
 have r:Hid (V=[Y,Z,b2,g,j,l,b6,m]):=hb;have p:Hid (∀ i,0<=V.getD i 0/\V.getD i 0<=255):=q;clear hb q;go_enter func249,ntmps249;go_wp2;go_loop [3,7] (λx i=>∃ k:Nat,k<=8/\i=.i (k:Int)/\x=.u (le V 0 k)) (λ_ i=>8-(intOf i).toNat);case atStart=>exact ⟨0,ab,rfl,rfl⟩
 case round =>
  obtain ⟨k,B,rfl,rfl⟩:=hrel;by_cases o:k<8
  ·obtain ⟨x,b⟩:∃ x,x=V.getD k 0:=⟨_,rfl⟩;obtain ⟨y,c⟩:∃ y,y=le V 0 k:=⟨_,rfl⟩;have u:=p.out k;have z:=yg V p.out k 0;rw [<- b] at u;rw [<- c] at z ⊢;have t:∀ w,(Instr.index 281 (.agg #[.int .u8 Y,.int .u8 Z,.int .u8 b2,.int .u8 g,.int .u8 j,.int .u8 l,.int .u8 b6,.int .u8 m]) (.i (k:Int))).run prog w=.ok (.int .u8 x) w:=(by intro w;rw [b,r.out];exact UT Y Z b2 g j l b6 m w k o);have S:Hid (bits .or .u64 y (Uz.wrap (x*2^(8*k)))=le V 0 (k+1)):=(by show bits .or .u64 y (Uz.wrap (x*2^(8*k)))=le V 0 (k+1);have:=Iw V p.out 0 k o;rw [Nat.zero_add] at this;rw [b,c];exact this);clear b c;go_wp2;go_round;case rel=>exact ⟨k+1,ab,by go_num,by rw [S.out]⟩
   case measure=>simp [intOf];omega
  ·have s:k=8:=ab;subst s;go_wp2;go_ret;exact ⟨rfl,bal _ _⟩
theorem qt (w:World) (c:1<=O) (hm:O<=8) (b:0<=J) (hx:J<18446744073709551616): CE 250 #[.u J,.i (O:Int)] w (.u (J%256^O)):=by have F:Hid (Uz.wrap (J*2^(64-8*O))/2^(64-8*O)=J%256^O):=yh J O c hm b;go_enter func250,ntmps250;go_wp2;go_ret;exact ⟨by rw [<- F.out];rfl,rfl⟩
def mN (zs:List Int) (n:Nat) (addr size:Int):Int:=if gB n addr size then le zs (addr-2147483648).toNat size.toNat else 0
theorem QV (w:World) (hz:V.length=T) (u:R+8<=T) (hs:Sl .u8 w (some ⟨O,0,none⟩) V) (r:∀ y ∈ V,(Lit.int .u8 y).wf=true): ∃ d f h j k l m o:Int,∃ B:{bs:List Int // bs=[d,f,h,j,k,l,m,o]}, w.cell? ⟨O,R,none⟩=some (.int .u8 d)/\w.cell? ⟨O,R+1,none⟩=some (.int .u8 f)/\w.cell? ⟨O,R+2,none⟩=some (.int .u8 h)/\w.cell? ⟨O,R+3,none⟩=some (.int .u8 j) /\ w.cell? ⟨O,R+4,none⟩=some (.int .u8 k)/\w.cell? ⟨O,R+5,none⟩=some (.int .u8 l)/\w.cell? ⟨O,R+6,none⟩=some (.int .u8 m)/\w.cell? ⟨O,R+7,none⟩=some (.int .u8 o) /\ Hid (∀ i,0<=B.1.getD i 0/\B.1.getD i 0<=255)/\Hid (le B.1 0 8=le V R 8):=by
 have c:∀ i,i<8->w.cell? ⟨O,R+i,none⟩=some (.int .u8 (V.getD (R+i) 0)):=by intro i t;obtain ⟨b,s,e,_,q⟩:=hs (R+i) ab;simp only [Option.some.injEq,Addr.mk.injEq,and_true] at e;obtain ⟨rfl,rfl⟩:=e;rw [Nat.zero_add] at q;exact q
 have a:=iW r;refine ⟨_,_,_,_,_,_,_,_,⟨[V.getD R 0,V.getD (R+1) 0,V.getD (R+2) 0,V.getD (R+3) 0,V.getD (R+4) 0,V.getD (R+5) 0,V.getD (R+6) 0,V.getD (R+7) 0],rfl⟩,c 0 ab,c 1 ab,c 2 ab,c 3 ab,c 4 ab,c 5 ab,c 6 ab,c 7 ab,?_,?_⟩
 ·intro i;match i with
  | 0=>exact a R
  | 1=>exact a (R+1)
  | 2=>exact a (R+2)
  | 3=>exact a (R+3)
  | 4=>exact a (R+4)
  | 5=>exact a (R+5)
  | 6=>exact a (R+6)
  | 7=>exact a (R+7)
  | i+8=>simp
 ·show le [V.getD R 0,V.getD (R+1) 0,V.getD (R+2) 0,V.getD (R+3) 0,V.getD (R+4) 0,V.getD (R+5) 0,V.getD (R+6) 0,V.getD (R+7) 0] 0 8=le V R 8;rfl
theorem qu (w:World) (hz:V.length=R) (hn:R<=1048576) (hs:Sl .u8 w (some ⟨O,0,none⟩) V) (Q:∀ y ∈ V,(Lit.int .u8 y).wf=true) (g:R<=T) (I:T<=9223372036854775807) (G:0<=Y) (j:Y<=18446744073709551615): CB 208 #[.slice (some ⟨O,0,none⟩) R T,.u Y,.i Z] w (.tuple #[.u (mN V R Y Z),.bool (gB R Y Z)]):=by
 have K:Hid (V.length=R):=hz;have c:Hid (∀ y ∈ V,(Lit.int .u8 y).wf=true):=Q;clear hz Q;cases b:gB R Y Z;·have q:Hid (mN V R Y Z=0):=(by show mN V R Y Z=0;simp [mN,b]);go_enter func208,ntmps208;go_wp2_with (go_at_call 248;refine (lj _ _ _ _ _ _ hn G j).mono ?_;rintro e r ⟨rfl,rfl⟩);go_ret2;exact ⟨by rw [q.out];rfl,Below.refl _ _⟩
 ·obtain ⟨_,_,hb1,hb2,hs1,hs2,hn1,hn2⟩:=kl b;obtain ⟨f,hf⟩:∃ f:Nat,Y=2147483648+(f:Int):=⟨(Y-2147483648).toNat,ab⟩;obtain ⟨m,hm⟩:∃ m:Nat,Z=(m:Int):=⟨Z.toNat,ab⟩;subst hf hm;have q:Hid (mN V R (2147483648+(f:Int)) (m:Int)=le V f m):=(by show mN V R (2147483648+(f:Int)) (m:Int)=le V f m;simp only [mN,b,if_true];rw [show (2147483648+(f:Int)-2147483648).toNat=f from ab,Int.toNat_natCast]);have M:Hid (fh R (2147483648+(f:Int)) (m:Int)=f):=(by show fh R (2147483648+(f:Int)) (m:Int)=f;simp only [fh,b,if_true];omega);by_cases hle:f<=R-8;·have H:∀ w,(Instr.arrayAt 281 (.slice (some ⟨O,f,none⟩) 8 (T-f))).run prog w=.ok (.p O f) w:=λw=>run_arrayAt w 281 _ 8 _ 8 (T-f) underlying281 ab;obtain ⟨s,t,u,z,A,C,E,F,B,S,cap,U,zs,W,X,addr,size,l,L⟩:=QV O f R V w K.out ab hs c.out;go_enter func208,ntmps208;go_wp2_with (first | (go_at_call 248;refine (lj _ _ _ _ _ _ hn G j).mono ?_;rw [M.out];rintro e r ⟨rfl,rfl⟩) | (go_at_call 249;refine (ve B.1 s t u z A C E F _ B.2 l.out).mono ?_;rw [L.out];rintro e w1 ⟨rfl,o⟩));have n:Hid (le V f 8%256^m=le V f m):=(by have:=Kw V (iW c.out) f m (8-m);rw [show m+(8-m)=8 from ab] at this;exact this);have N:=uO V (iW c.out) 8 f ab;refine (qt (le V f 8) m _ ab ab N.1 N.2).mono ?_;rw [n.out];rintro e w2 ⟨rfl,rfl⟩;go_wp2_with fail;go_ret2;exact ⟨by rw [q.out];rfl,o⟩
  ·obtain ⟨p,hp⟩:∃ p,R=p+8:=⟨R-8,ab⟩;obtain ⟨d,hd⟩:∃ d,f=p+d:=⟨f-p,ab⟩;subst hp hd;have H:∀ w,(Instr.arrayAt 281 (.slice (some ⟨O,p,none⟩) 8 (T-p))).run prog w=.ok (.p O p) w:=λw=>run_arrayAt w 281 _ 8 _ 8 (T-p) underlying281 ab;obtain ⟨s,t,u,z,A,C,E,F,B,S,cap,U,zs,W,X,addr,size,l,L⟩:=QV O p (p+8) V w K.out ab hs c.out;have P:gB (p+8) (2147483648+((p:Int)+(d:Int))) (m:Int)=true:=(by rw [<- Int.natCast_add];exact b);have D:Hid (le V p 8/2^(8*d)=le V (p+d) (8-d)):=(by show le V p 8/2^(8*d)=le V (p+d) (8-d);have:=Ry V (iW c.out) p d (8-d);rw [show d+(8-d)=8 from ab] at this;rw [uP];exact this);have n:Hid (le V (p+d) (8-d)%256^m=le V (p+d) m):=(by have:=Kw V (iW c.out) (p+d) m (8-d-m);rw [show m+(8-d-m)=8-d from ab] at this;exact this);have J:Hid (0<=le V (p+d) (8-d)/\le V (p+d) (8-d)<18446744073709551616):=uO V (iW c.out) (8-d) (p+d) ab;go_enter func208,ntmps208;go_wp2_with (first | (go_at_call 248;refine (lj _ _ _ _ _ _ hn G j).mono ?_;rw [M.out];rintro e r ⟨rfl,rfl⟩) | (go_at_call 249;refine (ve B.1 s t u z A C E F _ B.2 l.out).mono ?_;rw [L.out];rintro e w1 ⟨rfl,o⟩));rw [D.out];refine (qt (le V (p+d) (8-d)) m _ ab ab J.out.1 J.out.2).mono ?_;rw [n.out];rintro e w2 ⟨rfl,rfl⟩;go_wp2_with fail;go_ret2;exact ⟨by rw [q.out];rfl,o⟩
theorem yj (m base:Nat) (zs:List Int) (x:Int) (w:World) (hn:R<=1048576) (hm:m<=8) (E:X+m<=R) (q:0<=x) (s:x<=18446744073709551615) (c:w.ownsRow base 5 1 (.slice (some ⟨O,0,none⟩) R T) R (zs.map (Value.int .u8))): Calls prog 137 #[.slice (some ⟨O,0,none⟩) R T,.u (2147483648+(X:Int)),.i (m:Int),.u x] w λe z=>e=.returned (.tuple #[]) /\ z.ownsRow base 5 1 (.slice (some ⟨O,0,none⟩) R T) R ((km zs X x m).map (Value.int .u8))/\w.grownBy z (some O):=by
 have A:Hid (zs.length=R):=by show zs.length=R;have:=c.1;simpa using this
 go_enter func137,ntmps137;go_wp2;go_loopw [3,9] (λy i wr=>∃ j:Nat,j<=m/\i=.i (j:Int)/\y=.u (x/256^j)/\wr.ownsRow base 5 1 (.slice (some ⟨O,0,none⟩) R T) R ((km zs X x j).map (Value.int .u8))/\w.grownBy wr (some O))
  (λ_ i _=>m-(intOf i).toNat)
 case atStart=>exact ⟨0,Nat.zero_le _,rfl,cp,c,lw _ _⟩
 case round =>
  obtain ⟨j,F,rfl,rfl,b,p⟩:=hrel;clear c;by_cases C:j<m
  ·have B:wr.frozen? ⟨O,X+j,none⟩=false:=b.frozenAt (X+j);have d:=b.stored (X+j) (.int .u8 (x/256^j%256));obtain ⟨G,D⟩:∃ v,wr.cell? ⟨O,X+j,none⟩=some v:=(by rw [b.cellAt (X+j) ab];exact ⟨_,List.getElem?_eq_getElem (by rw [List.length_map,jq,A.out];omega)⟩);rw [ns] at d;have o:(wr.setCell ⟨O,X+j,none⟩ (.int .u8 (x/256^j%256))).ownsRow base 5 1 (.slice (some ⟨O,0,none⟩) R T) R ((km zs X x (j+1)).map (Value.int .u8)):=d.1;have l:=aW p d.2;have N:Hid (x/256^(j+1)=x/256^j/256):=(by show x/256^(j+1)=x/256^j/256;rw [Int.pow_succ,Int.ediv_ediv_of_nonneg (Int.le_of_lt (Int.pow_pos ab))]);have t:0<=x/256^j:=Int.ediv_nonneg q (Int.le_of_lt (Int.pow_pos ab));have u:x/256^j<=18446744073709551615:=Int.le_trans (Int.ediv_le_self _ q) s;obtain ⟨y,r⟩:∃ y,y=x/256^j:=⟨_,rfl⟩;rw [<- r] at o l t u N ⊢;clear d b r;go_wp2;go_roundw;case rel=>exact ⟨j+1,ab,by go_num,by rw [N.out],o,l⟩
   case measure=>simp [intOf];omega
  ·have:j=m:=by omega
   subst this;go_wp2;go_end0;exact ⟨rfl,b,p⟩
def iN (zs:List Int) (n:Nat) (addr size x:Int):Nat:=(kC zs n addr size x).length
theorem OL:M.ownsRow O 5 1 (.slice none 0 0) 0 (([]:List Int).map (Value.int .u8)):=World.ownsRow_nil M O 5 1
theorem xu (x:Int) (w:World) (hz:V.length=O) (hn:O<=1048576) (hs:Sl .u8 w N V) (cap:0<=Y) (A:Y<=18446744073709551615) (L:0<=x) (hx1:x<=18446744073709551615): Calls prog 214 #[.slice N O R,.u Y,.i Z,.u x] w λe F=>∃ (Q:Option Addr) (c:Nat),e=.returned (.tuple #[.slice Q (iN V O Y Z x) c,.bool (gB O Y Z)]) /\ F.ownsRow w.heap.size 5 1 (.slice Q (iN V O Y Z x) c) (iN V O Y Z x) ((kC V O Y Z x).map (Value.int .u8))/\Bw w F:=by
 have E:Hid (V.length=O):=hz;clear hz;cases q:gB O Y Z;·have z:Hid (kC V O Y Z x=[]):=(by show kC V O Y Z x=[];simp [kC,q]);have G:Hid (iN V O Y Z x=0):=(by show iN V O Y Z x=0;simp [iN,z.out]);go_enter func214,ntmps214;go_wp2_with (go_at_call 248;refine (lj _ _ _ _ _ _ hn cap A).mono ?_;rintro e F ⟨rfl,rfl⟩);go_ret2;rw [z.out,G.out];exact ⟨_,_,rfl,OL _ _,Below.refl _ _⟩
 ·obtain ⟨hr,hsz,W,X,hs1,hs2,hn1,hn2⟩:=kl q;obtain ⟨f,addr⟩:∃ f:Nat,Y=2147483648+(f:Int):=⟨(Y-2147483648).toNat,ab⟩;obtain ⟨m,hm⟩:∃ m:Nat,Z=(m:Int):=⟨Z.toNat,ab⟩;subst addr hm;have z:Hid (kC V O (2147483648+(f:Int)) (m:Int) x=km V f x m):=(by show kC V O (2147483648+(f:Int)) (m:Int) x=km V f x m;simp only [kC,q,if_true];rw [show (2147483648+(f:Int)-2147483648).toNat=f from ab,Int.toNat_natCast]);have G:Hid (iN V O (2147483648+(f:Int)) (m:Int) x=O):=(by show iN V O (2147483648+(f:Int)) (m:Int) x=O;rw [iN,z.out,jq,E.out]);have zs:Hid (fh O (2147483648+(f:Int)) (m:Int)=f):=(by show fh O (2147483648+(f:Int)) (m:Int)=f;simp only [fh,q,if_true];omega);obtain ⟨b,P,rfl,S,I⟩:=hs 0 (by have:=E.out;omega);clear I;obtain ⟨U,T,a,D,n⟩:=info_parts info5;have C:(prog.info? 5).map (·.size)=some 1:=(by rw [T];simp [D]);have B:U.bytes*O<=281474976710656:=(by rw [n];omega);have H:O<=maxLen:=et;go_enter func214,ntmps214;go_wp2_with (first | (go_at_call 248;refine (lj _ _ _ _ _ _ hn cap A).mono ?_;rw [zs.out];rintro e F ⟨rfl,J⟩;have K:=J.symm;subst K) | (at_make;refine wpList_make_full _ rfl (.tmp 24) (.tmp 24) 24 rfl w.heap.size 5 U (.int .u8 0) 1 underlying24 T a D .i64 .i64 _ _ O rfl rfl rfl rfl B H (Nat.le_refl _) ?_;intro w1 s g) | (refine mM rfl (.tmp 26) (.tmp 27) 24 rfl 5 underlying24 C .u8 w.heap.size w.heap.size O O b P R V _ rfl rfl s (hs.below ((Below.refl _ _).grown g (Nat.le_refl _) (by intro k h;cases h))) E.out ?_;intro w2 p l));have o:Bw w w2:=Below.grown ((Below.refl _ _).grown g (Nat.le_refl _) (by intro k h;cases h)) l g.size (by intro k h;cases h;exact Nat.le_refl _);clear s g l hs;go_loopw [30] (λi wr=>∃ j:Nat,j<=m/\i=.i (j:Int)/\wr.ownsRow w.heap.size 5 1 (.slice (some ⟨w.heap.size,0,none⟩) O O) O ((km V f x j).map (Value.int .u8))/\Bw w wr)
   (λi _=>m-(intOf i).toNat)
  case atStart=>exact ⟨0,Nat.zero_le _,rfl,p,o⟩
  case round =>
   obtain ⟨j,hj,rfl,d,r⟩:=hrel;clear p o;by_cases hlt:j<m
   ·have size:wr.frozen? ⟨w.heap.size,f+j,none⟩=false:=d.frozenAt (f+j);have y:=(d.stored (f+j) (.int .u8 (x/256^j%256))).1;obtain ⟨v3,hv3⟩:∃ v,wr.cell? ⟨w.heap.size,f+j,none⟩=some v:=(by rw [d.cellAt (f+j) ab];exact ⟨_,List.getElem?_eq_getElem (by rw [List.length_map,jq,E.out];omega)⟩);rw [ns] at y;have t:(wr.setCell ⟨w.heap.size,f+j,none⟩ (.int .u8 (x/256^j%256))).ownsRow w.heap.size 5 1 (.slice (some ⟨w.heap.size,0,none⟩) O O) O ((km V f x (j+1)).map (Value.int .u8)):=y;have u:Bw w (wr.setCell ⟨w.heap.size,f+j,none⟩ (.int .u8 (x/256^j%256))):=r.setCell (Nat.le_refl _) _;have M:0<=x/256^j:=Int.ediv_nonneg L (Int.le_of_lt (Int.pow_pos ab));clear y d;rw [<- uP] at t u M;go_wp2;go_roundw;case rel=>exact ⟨j+1,ab,by go_num,t,u⟩
    case measure=>simp [intOf];omega
   ·have:j=m:=by omega
    subst this;go_wp2;go_ret2;rw [G.out,z.out];exact ⟨_,_,rfl,d,r⟩
structure FRow where
 t:TypeId
 v:Value
 n:Nat
 xs:List Value
structure bA (B E:Nat) (w:World) (L:List FRow):Prop where
 own:∀ r ∈ L,w.ownsRow B r.t 1 r.v r.n r.xs
 hi:∀ r ∈ L,∀ k,r.v.ownBlock=some k->k<E
 ne:L.Pairwise (λr s=>∀ k,r.v.ownBlock=some k->s.v.ownBlock≠some k)
structure ly (B E:Nat) (w w':World):Prop where
 os:w'.os=w.os
 tape:w'.tape=w.tape
 output:w'.output=w.output
 size:w.heap.size<=w'.heap.size
 block:∀ k,k<w.heap.size->(k<B\/E<=k)->w'.heap[k]?=w.heap[k]?
theorem ly.refl (w:World):ly O R w w:=⟨rfl,rfl,rfl,Nat.le_refl _,λ_ _ _=>rfl⟩
theorem ly.of_below {E:Nat} (h:Bw a b):ly B E a b:=⟨h.os,h.tape,h.output,h.size,λk w _=>h.block k w⟩
theorem ly.below (h:ly B t a b) (w':d<=B) (E:d<=a.heap.size):Below d a b:=⟨h.os,h.tape,h.output,h.size,λk c=>h.block k ab (.inl ab)⟩
theorem ly.of_grown (h:a.grownBy b P) (hr:∀ k,P=some k->B<=k/\k<d):ly B d a b :=
 ⟨h.os,h.tape,h.output,h.size,λk w w'=>h.block k w (λe=>by have:=hr k e.symm;omega)⟩
theorem eg (h:a.ownsRow B e 1 v n Q) (hk:∀ k,v.ownBlock=some k->w'.heap[k]?=a.heap[k]?):w'.ownsRow B e 1 v n Q:=by
 refine ⟨h.1,?_⟩;rcases h.2 with b|⟨g,cap,w,c,b,d,t⟩;·exact .inl b
 ·exact .inr ⟨g,cap,w,c,b,(hk g (by rw [c];rfl)).trans d,t⟩
theorem bA.mono {L:List FRow} (h:bA B d a L) (hk:∀ k,B<=k->k<d->k<a.heap.size->w'.heap[k]?=a.heap[k]?):bA B d w' L :=
 ⟨λr w=>eg (h.own r w) (λk e=>hk k ((h.own r w).lt k e).1 (h.hi r w k e) ((h.own r w).lt k e).2),h.hi,h.ne⟩
theorem bA.below {L:List FRow} (h:bA B d a L) (hb:Bw a b):bA B d b L:=h.mono λk _ _ w=>hb.block k w
theorem bA.low {B B':Nat} {L:List FRow} (h:bA B d a L) (hb:B'<=B) (he:d<=t):bA B' t a L :=
 ⟨λr w=>cG (h.own r w) hb,λr w k e=>Nat.lt_of_lt_of_le (h.hi r w k e) he,h.ne⟩
theorem bA.set {L:List FRow} (h:bA B d a L) (p:Addr) (v:Value) (E:p.block<B\/d<=p.block):bA B d (a.setCell p v) L:=h.mono λk w b c=>Below.heap_setCell a p v k ab
theorem bA.nil (w:World):bA O R w []:=⟨λr a=>(nomatch a),λr a=>(nomatch a),List.Pairwise.nil⟩
theorem bA.cons {L:List FRow} (h:bA B d a L) (r:FRow) (base E':Nat) (b:a.ownsRow base r.t 1 r.v r.n r.xs) (E:d<=base) (c:B<=base) (f:a.heap.size<=E') (h4:d<=E'):bA B E' a (r::L):=by
 refine ⟨λs w=>?_,λs w k e=>?_,List.pairwise_cons.2 ⟨λs w k e e2=>?_,h.ne⟩⟩
 ·rcases List.mem_cons.1 w with rfl|w;·exact cG b c
  ·exact h.own s w
 ·rcases List.mem_cons.1 w with rfl|w;·have:=(b.lt k e).2;omega
  ·have:=h.hi s w k e;omega
 ·have:=(b.lt k e).1;have:=h.hi s w k e2;omega
theorem bA.snoc {L:List FRow} (h:bA B d a L) (r:FRow) (base E':Nat) (i:a.ownsRow base r.t 1 r.v r.n r.xs) (E:d<=base) (f:B<=base) (g:a.heap.size<=E') (h4:d<=E'):bA B E' a (L++[r]):=by
 have c:=h.cons r base E' i E f g h4;refine ⟨λs w=>c.own s ?_,λs w=>c.hi s ?_,List.pairwise_append.2 ⟨h.ne,List.pairwise_singleton _ _,λs w q b k e e2=>?_⟩⟩
 ·rcases List.mem_append.1 w with w|w;·exact List.mem_cons_of_mem _ w
  ·rw [List.mem_singleton.1 w];exact List.mem_cons_self ..
 ·rcases List.mem_append.1 w with w|w;·exact List.mem_cons_of_mem _ w
  ·rw [List.mem_singleton.1 w];exact List.mem_cons_self ..
 ·simp only [List.mem_singleton] at b;subst b;exact (List.pairwise_cons.1 c.ne).1 s w k e2 e
theorem bA.mark {L1 L2:List FRow} {r:FRow} (h:bA B d a (L1++r::L2)) (g:a.grownBy b r.v.ownBlock) (xs:List Value) (j:b.ownsRow B r.t 1 r.v r.n xs):bA B d b (L1++⟨r.t,r.v,r.n,xs⟩::L2)/\ly B d a b:=by
 have w':=List.pairwise_append.1 h.ne;have c:=List.pairwise_cons.1 w'.2.1;have kept:∀ s ∈ L1++r::L2,(∀ k,s.v.ownBlock=some k->r.v.ownBlock≠some k)->b.ownsRow B s.t 1 s.v s.n s.xs:=λs w i=>eg (h.own s w) (λk e=>g.block k ((h.own s w).lt k e).2 (λe2=>i k e e2.symm));have f:r ∈ L1++r::L2:=cp
 refine ⟨⟨λs w=>?_,λs w k e=>?_,?_⟩,ly.of_grown g λk e=>⟨((h.own r f).lt k e).1,h.hi r f k e⟩⟩
 ·rcases List.mem_append.1 w with w | w;·exact kept s (List.mem_append_left _ w) (λk e=>w'.2.2 s w r (List.mem_cons_self ..) k e)
  ·rcases List.mem_cons.1 w with rfl|w;·exact j
   ·exact kept s (List.mem_append_right _ (List.mem_cons_of_mem _ w)) (λk e e2=>c.1 s w k e2 e)
 ·rcases List.mem_append.1 w with w|w;·exact h.hi s (List.mem_append_left _ w) k e
  ·rcases List.mem_cons.1 w with rfl|w;·exact h.hi r f k e
   ·exact h.hi s (List.mem_append_right _ (List.mem_cons_of_mem _ w)) k e
 ·refine List.pairwise_append.2 ⟨w'.1,List.pairwise_cons.2 ⟨λs w k e=>c.1 s w k e,c.2⟩,λs w q E k e=>?_⟩;rcases List.mem_cons.1 E with rfl | E;·exact w'.2.2 s w r (List.mem_cons_self ..) k e
  ·exact w'.2.2 s w q (List.mem_cons_of_mem _ E) k e
def aD (a:Option Addr) (n c:Nat) (xs:List Int):FRow:=⟨5,.slice a n c,n,xs.map (Value.int .u8)⟩
def fW (a1:Option Addr) (a c1:Nat) (xs:List Int) (a2:Option Addr) (b c2:Nat) (ys:List Int):List FRow:=[aD a1 a c1 xs,aD a2 b c2 ys]
theorem bA.in_ (h:bA B d a (fW l t c E y f n x)):Sl .u8 a l E:=fO (h.own (aD l t c E) tt)
theorem bA.out_ (h:bA B d a (fW l t c E y f n x)):Sl .u8 a y x:=fO (h.own (aD y f n x) tt)
theorem aE {p:Prop} (h:p):Hid p:=h
theorem bq (hb:Bw a b) (h:a.heap[d]?=some m):b.heap[d]?=some m:=by rw [hb.block d (Array.getElem?_eq_some_iff.1 h).1];exact h
theorem g7 (h:a.heap[d]?=some (.cells #[v,j,o,k,W,s] e (0,0))):a.cell? ⟨d,0,none⟩=some v/\a.cell? ⟨d,1,none⟩=some j/\a.cell? ⟨d,2,none⟩=some o/\a.cell? ⟨d,3,none⟩=some k/\a.cell? ⟨d,4,none⟩=some W/\a.cell? ⟨d,5,none⟩=some s:=by refine ⟨?_,?_,?_,?_,?_,?_⟩<;>simp [World.cell?,h]
theorem hO (h:a.heap[d]?=some (.cells q e (0,0))) (i:Nat):a.frozen? ⟨d,i,none⟩=false:=by simp [World.frozen?,h]
theorem Bf (h:a.heap[d]?=some (.cells q e (0,0))):a.frozen? ⟨d,0,none⟩=false/\a.frozen? ⟨d,1,none⟩=false/\a.frozen? ⟨d,2,none⟩=false/\a.frozen? ⟨d,3,none⟩=false/\a.frozen? ⟨d,4,none⟩=false/\a.frozen? ⟨d,5,none⟩=false :=
 ⟨hO h 0,hO h 1,hO h 2,hO h 3,hO h 4,hO h 5⟩
theorem vf (hb:Below ((w.alloc o1).alloc o2).heap.size ((w.alloc o1).alloc o2) a):a.heap[w.heap.size]?=some o1/\a.heap[w.heap.size+1]?=some o2:=by have e2:=heap_alloc_new (w.alloc o1) o2;rw [World.size_alloc] at e2;exact ⟨bq hb ((Below.heap_alloc _ _ _ eh).trans (heap_alloc_new w o1)),bq hb e2⟩
theorem TH (hb:Below (((w.alloc o1).alloc o2).alloc o3).heap.size (((w.alloc o1).alloc o2).alloc o3) a): a.heap[w.heap.size]?=some o1/\a.heap[w.heap.size+1]?=some o2/\a.heap[w.heap.size+1+1]?=some o3:=by have e3:=heap_alloc_new ((w.alloc o1).alloc o2) o3;rw [World.size_alloc,World.size_alloc] at e3;have h:=vf (w:=w) (o1:=o1) (o2:=o2) (Below.refl _ ((w.alloc o1).alloc o2));exact ⟨bq hb ((Below.heap_alloc _ _ _ eh).trans h.1),bq hb ((Below.heap_alloc _ _ _ eh).trans h.2),bq hb e3⟩
theorem bI (h:a.heap[d]?=some (.cells q e z)) (i:Nat) (v:Value): (a.setCell ⟨d,i,none⟩ v).heap[d]?=some (.cells (q.setIfInBounds i v) e z):=by simp [World.setCell,Array.getElem?_modify,h]
theorem gH (h:a.heap[d]?=some m) (p:Addr) (v:Value) (w:d≠p.block):(a.setCell p v).heap[d]?=some m:=(Below.heap_setCell a p v d w).trans h
theorem aT (p:Addr) (v:Value):(M.setCell p v).heap.size=M.heap.size:=by simp [World.setCell]
theorem bN:(prog.info? 30).map (·.size)=some 6:=by kernel_rfl
def Bg (w:World) (g:Nat) (a b c x3 d e:Value):World:=(((((w.setCell ⟨g,0,none⟩ a).setCell ⟨g,1,none⟩ b).setCell ⟨g,2,none⟩ c).setCell ⟨g,3,none⟩ x3).setCell ⟨g,4,none⟩ d).setCell ⟨g,5,none⟩ e
theorem n8 (h:a.heap[d]?=some (.cells #[v,j,o,k,W,s] e z)) (i g c x3 l m:Value):(Bg a d i g c x3 l m).heap[d]?=some (.cells #[i,g,c,x3,l,m] e z):=
 bI (bI (bI (bI (bI (bI h 0 i) 1 g) 2 c) 3 x3) 4 l) 5 m
theorem IC (a b c x3 d e:Value):(Bg M O a b c x3 d e).heap.size=M.heap.size:=by unfold Bg;simp only [aT]
theorem lz (h:Below B a b) (v:B<=g) (w c d x3 e f:Value):Below B a (Bg b g w c d x3 e f):=
 (((((h.setCell (by exact v) w).setCell (by exact v) c).setCell (by exact v) d).setCell (by exact v) x3).setCell (by exact v) e).setCell (by exact v) f
theorem bA.put6 {L:List FRow} (h:bA B d a L) (g:Nat) (w:g<B\/d<=g) (b c E x3 e f:Value):bA B d (Bg a g b c E x3 e f) L :=
 (((((h.set ⟨g,0,none⟩ b w).set ⟨g,1,none⟩ c w).set ⟨g,2,none⟩ E w).set ⟨g,3,none⟩ x3 w).set ⟨g,4,none⟩ e w).set ⟨g,5,none⟩ f w
theorem iZ (hb:O<=M.heap.size) (o:Obj) (a:o=.cells #[] 5 (0,0)):(M.alloc o).ownsRow O 5 1 (.slice (some ⟨M.heap.size,0,none⟩) 0 0) 0 []:=by subst a;exact World.ownsRow_lit M #[] 0 hb et rfl
theorem ic (p:F.guard=none) (s x:Operand) (w:F.op=.call {callee:=.builtin .append,args:=#[s,x],argTypes:=#[24,24]}) (base g:Nat) (hs:G.eval s=.slice (some ⟨g,0,none⟩) 0 0) (d:a.ownsRow base 5 1 (.slice (some ⟨g,0,none⟩) 0 0) 0 []) (ad:Option Addr) (m c:Nat) (zs:List Int) (hx:G.eval x=.slice ad m c) (hz:zs.length=m) (hm:m<=1048576) (q:Sl .u8 a ad zs) (f:base<=a.heap.size) (h:∀ l n t,t.ownsRow base 5 1 (.slice l m n) m (zs.map (Value.int .u8))->a.grownBy t (some g)->wpList prog C I D (G.put F.dst (.slice l m n)) t):wpList prog C I (F::D) G a:=by
 obtain ⟨J,H,B,r,rest⟩:=info_parts info5;cases ad with
 | none =>
   have z:m=0:=by
    rcases Nat.eq_zero_or_pos m with Q|Q;·exact Q
    ·obtain ⟨b,o,e,_⟩:=q 0 ab;cases e
   subst z;have E:zs=[]:=List.length_eq_zero_iff.1 hz;subst E;refine wpList_plain p λK O=>?_;have S:=run_append_room_src (P:=prog) a 24 24 F.type 5 J underlying24 H g 0 0 0 (.slice none 0 c) 0 [] (Src.ofNil a underlying24 c) ab (λj i=>by simp at i) (λj i=>by simp at i);unfold Oper.wp execOp;simp only [w,resolve,invoke,builtin,Sem.run_bind,Sem.run_pure,Result.andThen_ok,List.map_toArray,List.map_cons,List.map_nil,hs,hx,S];exact O _ _ (h _ _ a d ⟨rfl,rfl,rfl,Nat.le_refl _,λ_ _ _=>rfl⟩)
 | some A =>
   have k:∀ j u,(zs.map (Value.int .u8))[j]?=some u->a.cell? (A.add j)=some u:=by
    intro j u v;have i:j<zs.length:=by
     rcases Nat.lt_or_ge j zs.length with h|h;·exact h
     ·rw [List.getElem?_eq_none el] at v;cases v
    obtain ⟨b,o,e,_,R⟩:=q j i;cases e;rw [zp,R];rw [List.getElem?_map,List.getElem?_eq_getElem i] at v;rw [List.getD_eq_getElem?_getD,List.getElem?_eq_getElem i];exact v
   refine wpList_append_own _ p s x 24 w base 5 J (.int .u8 0) 1 1 underlying24 H B r rest rfl bc _ 0 [] hs d A m c (zs.map (Value.int .u8)) hx (by rw [List.length_map,hz];omega) k (ints_oneCell _ _) et ab f ?_;intro U t y N W;simp only [Nat.zero_add,List.nil_append] at y;have T:∃ l n,U=.slice l m n:=by
    rcases y.2 with ⟨e,M⟩|⟨V,cap,L,e,_⟩;·exact ⟨none,0,by rw [e,M]⟩
    ·exact ⟨_,_,e⟩
   obtain ⟨l,n,rfl⟩:=T;exact h l n t y N
structure DV where
 t:Int
 cm:Int
 so:Bool
 xs:List Int
 ys:List Int
 ir:Int
def zeroD:DV:=⟨0,0,false,[],[],0⟩
def fU (D:DV) (a1:Option Addr) (c1:Nat) (a2:Option Addr) (c2:Nat):Array Value:=#[.u D.t,.u D.cm,.bool D.so,.slice a1 D.xs.length c1,.slice a2 D.ys.length c2,.i D.ir]
theorem fG (D:DV) (a1:Option Addr) (c1:Nat) (a2:Option Addr) (c2:Nat):(fU D a1 c1 a2 c2).all (·.oneCell')=true:=by simp [fU,Value.oneCell']
def vg (D:DV) (a1:Option Addr) (c1:Nat) (a2:Option Addr) (c2:Nat):List FRow:=fW a1 D.xs.length c1 D.xs a2 D.ys.length c2 D.ys
def dU (D:DV):Prop:=(∀ y ∈ D.xs,(Lit.int .u8 y).wf=true)/\∀ y ∈ D.ys,(Lit.int .u8 y).wf=true
def nY (b c:Nat) (a:Int):Bool:=decide (b<=16)&&decide (c<=4096)&&decide (0<=a/\a<=1)
def gA (addr size:Int):Nat :=
 if addr=33554432/\size=4 then 0 else if addr=33570816/\size=8 then 1 else if addr=33603576/\size=8 then 2 else if addr=268435456/\size=1 then 3 else if addr=268435457/\size=1 then 4 else if addr=268435461/\size=1 then 5 else 6
def gt (b:Bool):Int:=if b=true then 1 else 0
def jn (D:DV):Nat->Int × DV × Bool
 | 0=>(gt D.so,D,true)
 | 1=>(D.cm,D,true)
 | 2=>(D.t,D,true)
 | 3=>(D.xs.getD 0 0,⟨D.t,D.cm,D.so,D.xs.drop 1,D.ys,D.ir⟩,true)
 | 4=>(Uz.wrap D.ir,D,true)
 | 5=>(Uz.wrap (32+gt (decide (0<D.xs.length))),D,true)
 | _=>(0,zeroD,false)
def fP (D:DV) (x:Int):Nat->DV × Bool
 | 0=>(⟨D.t,D.cm,bits .and .u64 x 1==1,D.xs,D.ys,D.ir⟩,true)
 | 1=>(⟨D.t,x,D.so,D.xs,D.ys,D.ir⟩,true)
 | 2=>(⟨x,D.cm,D.so,D.xs,D.ys,D.ir⟩,true)
 | 3=>(⟨D.t,D.cm,D.so,D.xs,if D.ys.length<4096 then D.ys++[IntKind.u8.wrap x] else D.ys,D.ir⟩,true)
 | 4=>(⟨D.t,D.cm,D.so,D.xs,D.ys,wrap64 (bits .and .u64 x 1)⟩,true)
 | 5=>(D,true)
 | _=>(zeroD,false)
def dP (D:DV):Int:=Uz.wrap (Uz.wrap (Uz.wrap (8*gt D.so)+Uz.wrap (128*gt (decide (D.cm<=D.t))))+Uz.wrap (2048*gt ((D.ir==1)&&decide (0<D.xs.length))))
def vh (D:DV) (addr size:Int):Int × DV × Bool:=if nY D.xs.length D.ys.length D.ir=true then jn D (gA addr size) else (0,zeroD,false)
def rN (D:DV) (addr size x:Int):DV × Bool:=if nY D.xs.length D.ys.length D.ir=true then fP D x (gA addr size) else (zeroD,false)
def i7 (D:DV):Int:=if nY D.xs.length D.ys.length D.ir=true then dP D else 0
theorem jQ (P:Nat->Prop) (c:J=33554432->K=4->P 0) (d:J=33570816->K=8->P 1) (e:J=33603576->K=8->P 2) (f:J=268435456->K=1->P 3) (h4:J=268435457->K=1->P 4) (g:J=268435461->K=1->P 5) (i:(J=33554432->¬ K=4)->(J=33570816->¬ K=8)->(J=33603576->¬ K=8)->(J=268435456->¬ K=1)->(J=268435457->¬ K=1)->(J=268435461->¬ K=1)->P 6):P (gA J K):=by
 unfold gA;split;·rename_i h;exact c h.1 h.2
 ·rename_i j;split;·rename_i h;exact d h.1 h.2
  ·rename_i k;split;·rename_i h;exact e h.1 h.2
   ·rename_i l;split;·rename_i h;exact f h.1 h.2
    ·rename_i m;split;·rename_i h;exact h4 h.1 h.2
     ·rename_i n;split;·rename_i h;exact g h.1 h.2
      ·rename_i o;exact i (λa b=>j ⟨a,b⟩) (λa b=>k ⟨a,b⟩) (λa b=>l ⟨a,b⟩) (λa b=>m ⟨a,b⟩) (λa b=>n ⟨a,b⟩) (λa b=>o ⟨a,b⟩)
theorem lA (w:World):bA O R w (vg zeroD none 0 none 0):=by
 refine ⟨λr a=>?_,λr a k e=>?_,?_⟩
 ·simp only [vg,fW,List.mem_cons,List.not_mem_nil,or_false] at a;rcases a with rfl|rfl;·exact ⟨rfl,.inl ⟨rfl,rfl⟩⟩
  ·exact ⟨rfl,.inl ⟨rfl,rfl⟩⟩
 ·simp only [vg,fW,List.mem_cons,List.not_mem_nil,or_false] at a;rcases a with rfl|rfl;·cases e
  ·cases e
 ·exact List.pairwise_cons.2 ⟨λs b k e=>v9,List.pairwise_singleton _ _⟩
theorem bA.newIn (h:bA B t a (fW l c f E y d n x)) (a1:Option Addr) (w c1:Nat) (zs:List Int) (base E':Nat) (i:a.ownsRow base 5 1 (.slice a1 w c1) w (zs.map (Value.int .u8))) (e:t<=base) (c2:B<=base) (g:a.heap.size<=E') (h4:t<=E'):bA B E' a (fW a1 w c1 zs y d n x):=by have j:bA B t a [aD y d n x]:=⟨λr b=>h.own r (List.mem_cons_of_mem _ b),λr b=>h.hi r (List.mem_cons_of_mem _ b),(List.pairwise_cons.1 h.ne).2⟩;exact j.cons (aD a1 w c1 zs) base E' i e c2 g h4
theorem bA.newOut (h:bA B t a (fW l d c E y f n x)) (a1:Option Addr) (w j:Nat) (zs:List Int) (base E':Nat) (i:a.ownsRow base 5 1 (.slice a1 w j) w (zs.map (Value.int .u8))) (e:t<=base) (c2:B<=base) (g:a.heap.size<=E') (h4:t<=E'):bA B E' a (fW l d c E a1 w j zs):=by have c1:bA B t a [aD l d c E]:=⟨λr b=>h.own r (by rw [List.mem_singleton.1 b];exact List.mem_cons_self ..),λr b=>h.hi r (by rw [List.mem_singleton.1 b];exact List.mem_cons_self ..),List.pairwise_singleton _ _⟩;exact c1.snoc (aD a1 w j zs) base E' i e c2 g h4
theorem bT {P:Program} {fn:Func} {s p u:Tmp} {ty:TypeId} (h:fn.results=#[.tmp s,.cell p ty,.tmp u]) (tmps:Array Value) (w:World) (g:Nat) (t:TypeId) (cs:Array Value) (e:Nat × Nat) (d:TypeDesc) (k:tmps.getD p undef=.p g 0) (i:w.heap[g]?=some (.cells cs t e)) (l:P.underlying ty=some d) (hd:(match d with | .struct _ | .array _ _=>true | _=>false)=true) (j:(P.info? ty).map (·.size)=some cs.size):(results fn tmps).run P w=.ok (.tuple #[tmps.getD s undef,.agg cs,tmps.getD u undef]) w:=by
 have f:(results fn tmps).run P w=((asAddr (tmps.getD p undef)).run P w).andThen λa b=>((loadVar ty a).run P b).andThen λv c=>.ok (.tuple #[tmps.getD s undef,v,tmps.getD u undef]) c:=by simp only [results,h];simp [Sem.run_bind,Result.andThen]
 rw [f,k];simp [asAddr,run_loadVar_row w g t ty cs e d i l hd j]
theorem cT {P:Program} {fn:Func} {p u:Tmp} {ty:TypeId} (h:fn.results=#[.cell p ty,.tmp u]) (tmps:Array Value) (w:World) (g:Nat) (t:TypeId) (cs:Array Value) (e:Nat × Nat) (d:TypeDesc) (k:tmps.getD p undef=.p g 0) (i:w.heap[g]?=some (.cells cs t e)) (l:P.underlying ty=some d) (hd:(match d with | .struct _ | .array _ _=>true | _=>false)=true) (j:(P.info? ty).map (·.size)=some cs.size):(results fn tmps).run P w=.ok (.tuple #[.agg cs,tmps.getD u undef]) w:=by
 have f:(results fn tmps).run P w=((asAddr (tmps.getD p undef)).run P w).andThen λa b=>((loadVar ty a).run P b).andThen λv c=>.ok (.tuple #[v,tmps.getD u undef]) c:=by simp only [results,h];simp [Sem.run_bind,Result.andThen]
 rw [f,k];simp [asAddr,run_loadVar_row w g t ty cs e d i l hd j]
theorem Bh:(prog.info? 22).map (λi=>(i.zero,i.size,i.bytes))=some (some (.u 0),1,8):=by kernel_rfl
theorem ks:(V.map (Value.int .u64)).set X (.u Y)=(V.set X Y).map (Value.int .u64):=by rw [List.map_set]
structure MV where
 pc:Int
 x:List Int
 pr:Int
 cs:List Int
 ram:List Int
 d:DV
 hd:Int
 hl:Bool
 wt:Bool
structure MA where
 ax:Option Addr
 cx:Nat
 ac:Option Addr
 cc:Nat
 ar:Option Addr
 cr:Nat
 ai:Option Addr
 ci:Nat
 ao:Option Addr
 co:Nat
def zeroM:MV:=⟨0,[],0,[],[],zeroD,0,false,false⟩
def zeroA:MA:=⟨none,0,none,0,none,0,none,0,none,0⟩
def aj (M:MV) (A:MA):Array Value:=#[.u M.pc,.slice A.ax M.x.length A.cx,.i M.pr,.slice A.ac M.cs.length A.cc,.slice A.ar M.ram.length A.cr,.u M.d.t,.u M.d.cm,.bool M.d.so,.slice A.ai M.d.xs.length A.ci,.slice A.ao M.d.ys.length A.co,.i M.d.ir,.u M.hd,.bool M.hl,.bool M.wt]
def aJ (a:Option Addr) (n c:Nat) (xs:List Int):FRow:=⟨22,.slice a n c,n,xs.map (Value.int .u64)⟩
def aG (M:MV) (A:MA):List FRow:=[aJ A.ax M.x.length A.cx M.x,aJ A.ac M.cs.length A.cc M.cs,aD A.ar M.ram.length A.cr M.ram,aD A.ai M.d.xs.length A.ci M.d.xs,aD A.ao M.d.ys.length A.co M.d.ys]
structure nR (w:World) (M:MV) (A:MA):Prop where
 x:Sl .u64 w A.ax M.x
 cs:Sl .u64 w A.ac M.cs
 ram:Sl .u8 w A.ar M.ram
 xs:Sl .u8 w A.ai M.d.xs
 ys:Sl .u8 w A.ao M.d.ys
theorem nR.below {M:MV} {A:MA} (h:nR a M A) (hb:Bw a b):nR b M A:=⟨h.x.below hb,h.cs.below hb,h.ram.below hb,h.xs.below hb,h.ys.below hb⟩
theorem bA.msl {M:MV} {A:MA} (h:bA B d a (aG M A)):nR a M A :=
 ⟨fO (h.own (aJ A.ax M.x.length A.cx M.x) dv),fO (h.own (aJ A.ac M.cs.length A.cc M.cs) dv),fO (h.own (aD A.ar M.ram.length A.cr M.ram) dv),fO (h.own (aD A.ai M.d.xs.length A.ci M.d.xs) dv),fO (h.own (aD A.ao M.d.ys.length A.co M.d.ys) dv)⟩
theorem aZ {f i l m g b c v13:Value} (h:a.heap[d]?=some (.cells #[v,o,W,s,f,i,j,k,l,m,g,b,c,v13] e (0,0))):a.cell? ⟨d,0,none⟩=some v/\a.cell? ⟨d,1,none⟩=some o/\a.cell? ⟨d,2,none⟩=some W/\a.cell? ⟨d,3,none⟩=some s/\a.cell? ⟨d,4,none⟩=some f/\a.cell? ⟨d,5,none⟩=some i/\a.cell? ⟨d,6,none⟩=some j/\a.cell? ⟨d,7,none⟩=some k/\a.cell? ⟨d,8,none⟩=some l/\a.cell? ⟨d,9,none⟩=some m/\a.cell? ⟨d,10,none⟩=some g/\a.cell? ⟨d,11,none⟩=some b/\a.cell? ⟨d,12,none⟩=some c/\a.cell? ⟨d,13,none⟩=some v13:=by simp [World.cell?,h]
theorem fi (h:a.heap[d]?=some (.cells q e (0,0))):a.frozen? ⟨d,0,none⟩=false/\a.frozen? ⟨d,1,none⟩=false/\a.frozen? ⟨d,2,none⟩=false/\a.frozen? ⟨d,3,none⟩=false/\a.frozen? ⟨d,4,none⟩=false/\a.frozen? ⟨d,5,none⟩=false/\a.frozen? ⟨d,6,none⟩=false/\a.frozen? ⟨d,7,none⟩=false/\a.frozen? ⟨d,8,none⟩=false/\a.frozen? ⟨d,9,none⟩=false/\a.frozen? ⟨d,10,none⟩=false/\a.frozen? ⟨d,11,none⟩=false/\a.frozen? ⟨d,12,none⟩=false/\a.frozen? ⟨d,13,none⟩=false :=
 ⟨hO h 0,hO h 1,hO h 2,hO h 3,hO h 4,hO h 5,hO h 6,hO h 7,hO h 8,hO h 9,hO h 10,hO h 11,hO h 12,hO h 13⟩
def KD (w:World) (g:Nat) (e f h x3 i j k l m n a b c d:Value):World:=(((((((((((((w.setCell ⟨g,0,none⟩ e).setCell ⟨g,1,none⟩ f).setCell ⟨g,2,none⟩ h).setCell ⟨g,3,none⟩ x3).setCell ⟨g,4,none⟩ i).setCell ⟨g,5,none⟩ j).setCell ⟨g,6,none⟩ k).setCell ⟨g,7,none⟩ l).setCell ⟨g,8,none⟩ m).setCell ⟨g,9,none⟩ n).setCell ⟨g,10,none⟩ a).setCell ⟨g,11,none⟩ b).setCell ⟨g,12,none⟩ c).setCell ⟨g,13,none⟩ d
theorem rO {t y x u f A c v13:Value} (h:a.heap[d]?=some (.cells #[j,o,k,W,s,t,y,x,v,u,f,A,c,v13] e z)) (w b g x3 Q v1 m n q r i l p B:Value):(KD a d w b g x3 Q v1 m n q r i l p B).heap[d]?=some (.cells #[w,b,g,x3,Q,v1,m,n,q,r,i,l,p,B] e z):=by have G:(a.setCell ⟨d,0,none⟩ w).heap[d]?=some (.cells #[w,o,k,W,s,t,y,x,v,u,f,A,c,v13] e z):=bI h 0 w;have H:((a.setCell ⟨d,0,none⟩ w).setCell ⟨d,1,none⟩ b).heap[d]?=some (.cells #[w,b,k,W,s,t,y,x,v,u,f,A,c,v13] e z):=bI G 1 b;have I:(((a.setCell ⟨d,0,none⟩ w).setCell ⟨d,1,none⟩ b).setCell ⟨d,2,none⟩ g).heap[d]?=some (.cells #[w,b,g,W,s,t,y,x,v,u,f,A,c,v13] e z):=bI H 2 g;have J:((((a.setCell ⟨d,0,none⟩ w).setCell ⟨d,1,none⟩ b).setCell ⟨d,2,none⟩ g).setCell ⟨d,3,none⟩ x3).heap[d]?=some (.cells #[w,b,g,x3,s,t,y,x,v,u,f,A,c,v13] e z):=bI I 3 x3;have K:(((((a.setCell ⟨d,0,none⟩ w).setCell ⟨d,1,none⟩ b).setCell ⟨d,2,none⟩ g).setCell ⟨d,3,none⟩ x3).setCell ⟨d,4,none⟩ Q).heap[d]?=some (.cells #[w,b,g,x3,Q,t,y,x,v,u,f,A,c,v13] e z):=bI J 4 Q;have L:((((((a.setCell ⟨d,0,none⟩ w).setCell ⟨d,1,none⟩ b).setCell ⟨d,2,none⟩ g).setCell ⟨d,3,none⟩ x3).setCell ⟨d,4,none⟩ Q).setCell ⟨d,5,none⟩ v1).heap[d]?=some (.cells #[w,b,g,x3,Q,v1,y,x,v,u,f,A,c,v13] e z):=bI K 5 v1;have M:(((((((a.setCell ⟨d,0,none⟩ w).setCell ⟨d,1,none⟩ b).setCell ⟨d,2,none⟩ g).setCell ⟨d,3,none⟩ x3).setCell ⟨d,4,none⟩ Q).setCell ⟨d,5,none⟩ v1).setCell ⟨d,6,none⟩ m).heap[d]?=some (.cells #[w,b,g,x3,Q,v1,m,x,v,u,f,A,c,v13] e z):=bI L 6 m;have N:((((((((a.setCell ⟨d,0,none⟩ w).setCell ⟨d,1,none⟩ b).setCell ⟨d,2,none⟩ g).setCell ⟨d,3,none⟩ x3).setCell ⟨d,4,none⟩ Q).setCell ⟨d,5,none⟩ v1).setCell ⟨d,6,none⟩ m).setCell ⟨d,7,none⟩ n).heap[d]?=some (.cells #[w,b,g,x3,Q,v1,m,n,v,u,f,A,c,v13] e z):=bI M 7 n;have O:(((((((((a.setCell ⟨d,0,none⟩ w).setCell ⟨d,1,none⟩ b).setCell ⟨d,2,none⟩ g).setCell ⟨d,3,none⟩ x3).setCell ⟨d,4,none⟩ Q).setCell ⟨d,5,none⟩ v1).setCell ⟨d,6,none⟩ m).setCell ⟨d,7,none⟩ n).setCell ⟨d,8,none⟩ q).heap[d]?=some (.cells #[w,b,g,x3,Q,v1,m,n,q,u,f,A,c,v13] e z):=bI N 8 q;have P:((((((((((a.setCell ⟨d,0,none⟩ w).setCell ⟨d,1,none⟩ b).setCell ⟨d,2,none⟩ g).setCell ⟨d,3,none⟩ x3).setCell ⟨d,4,none⟩ Q).setCell ⟨d,5,none⟩ v1).setCell ⟨d,6,none⟩ m).setCell ⟨d,7,none⟩ n).setCell ⟨d,8,none⟩ q).setCell ⟨d,9,none⟩ r).heap[d]?=some (.cells #[w,b,g,x3,Q,v1,m,n,q,r,f,A,c,v13] e z):=bI O 9 r;have C:(((((((((((a.setCell ⟨d,0,none⟩ w).setCell ⟨d,1,none⟩ b).setCell ⟨d,2,none⟩ g).setCell ⟨d,3,none⟩ x3).setCell ⟨d,4,none⟩ Q).setCell ⟨d,5,none⟩ v1).setCell ⟨d,6,none⟩ m).setCell ⟨d,7,none⟩ n).setCell ⟨d,8,none⟩ q).setCell ⟨d,9,none⟩ r).setCell ⟨d,10,none⟩ i).heap[d]?=some (.cells #[w,b,g,x3,Q,v1,m,n,q,r,i,A,c,v13] e z):=bI P 10 i;have D:((((((((((((a.setCell ⟨d,0,none⟩ w).setCell ⟨d,1,none⟩ b).setCell ⟨d,2,none⟩ g).setCell ⟨d,3,none⟩ x3).setCell ⟨d,4,none⟩ Q).setCell ⟨d,5,none⟩ v1).setCell ⟨d,6,none⟩ m).setCell ⟨d,7,none⟩ n).setCell ⟨d,8,none⟩ q).setCell ⟨d,9,none⟩ r).setCell ⟨d,10,none⟩ i).setCell ⟨d,11,none⟩ l).heap[d]?=some (.cells #[w,b,g,x3,Q,v1,m,n,q,r,i,l,c,v13] e z):=bI C 11 l;have E:(((((((((((((a.setCell ⟨d,0,none⟩ w).setCell ⟨d,1,none⟩ b).setCell ⟨d,2,none⟩ g).setCell ⟨d,3,none⟩ x3).setCell ⟨d,4,none⟩ Q).setCell ⟨d,5,none⟩ v1).setCell ⟨d,6,none⟩ m).setCell ⟨d,7,none⟩ n).setCell ⟨d,8,none⟩ q).setCell ⟨d,9,none⟩ r).setCell ⟨d,10,none⟩ i).setCell ⟨d,11,none⟩ l).setCell ⟨d,12,none⟩ p).heap[d]?=some (.cells #[w,b,g,x3,Q,v1,m,n,q,r,i,l,p,v13] e z):=bI D 12 p;have F:((((((((((((((a.setCell ⟨d,0,none⟩ w).setCell ⟨d,1,none⟩ b).setCell ⟨d,2,none⟩ g).setCell ⟨d,3,none⟩ x3).setCell ⟨d,4,none⟩ Q).setCell ⟨d,5,none⟩ v1).setCell ⟨d,6,none⟩ m).setCell ⟨d,7,none⟩ n).setCell ⟨d,8,none⟩ q).setCell ⟨d,9,none⟩ r).setCell ⟨d,10,none⟩ i).setCell ⟨d,11,none⟩ l).setCell ⟨d,12,none⟩ p).setCell ⟨d,13,none⟩ B).heap[d]?=some (.cells #[w,b,g,x3,Q,v1,m,n,q,r,i,l,p,B] e z):=bI E 13 B;exact F
theorem n9 (h:Below B a b) (v:B<=g) (f i j x3 k l m n o q w c d e:Value):Below B a (KD b g f i j x3 k l m n o q w c d e):=
 ((((((((((((((h.setCell (p:=⟨g,0,none⟩) v f).setCell (p:=⟨g,1,none⟩) v i).setCell (p:=⟨g,2,none⟩) v j).setCell (p:=⟨g,3,none⟩) v x3).setCell (p:=⟨g,4,none⟩) v k).setCell (p:=⟨g,5,none⟩) v l).setCell (p:=⟨g,6,none⟩) v m).setCell (p:=⟨g,7,none⟩) v n).setCell (p:=⟨g,8,none⟩) v o).setCell (p:=⟨g,9,none⟩) v q).setCell (p:=⟨g,10,none⟩) v w).setCell (p:=⟨g,11,none⟩) v c).setCell (p:=⟨g,12,none⟩) v d).setCell (p:=⟨g,13,none⟩) v e)
theorem bA.put14 {L:List FRow} (h:bA B d a L) (g:Nat) (w:g<B\/d<=g) (f i j x3 k l m n o p b c E e:Value):bA B d (KD a g f i j x3 k l m n o p b c E e) L :=
 ((((((((((((((h.set ⟨g,0,none⟩ f w).set ⟨g,1,none⟩ i w).set ⟨g,2,none⟩ j w).set ⟨g,3,none⟩ x3 w).set ⟨g,4,none⟩ k w).set ⟨g,5,none⟩ l w).set ⟨g,6,none⟩ m w).set ⟨g,7,none⟩ n w).set ⟨g,8,none⟩ o w).set ⟨g,9,none⟩ p w).set ⟨g,10,none⟩ b w).set ⟨g,11,none⟩ c w).set ⟨g,12,none⟩ E w).set ⟨g,13,none⟩ e w)
theorem oa:(prog.info? 32).map (·.size)=some 14:=by kernel_rfl
theorem vi:CE 120 #[.bool L] M (.u (gt L)):=by
 cases L with
 | false =>go_enter func120,ntmps120;exact x8
 | true =>go_enter func120,ntmps120;exact x8
theorem RY:CE 61 #[.i J,.i 0,.i 1] M (.bool (decide (0<=J/\J<=1))):=by
 by_cases b:0<=J
 ·by_cases c:J<=1;·have F:Hid (decide (0<=J/\J<=1)=true):=(by show decide (0<=J/\J<=1)=true;simp [b,c]);have d:decide (0<=J)=true:=lh;have f:decide (J<=1)=true:=kc;clear b c;generalize decide (0<=J/\J<=1)=v at *;go_enter func61,ntmps61;go_wp2;go_ret;exact ⟨bh,rfl⟩
  ·have F:Hid (decide (0<=J/\J<=1)=false):=(by show _=false;simp;omega);have d:decide (0<=J)=true:=lh;have f:decide (J<=1)=false:=kc;clear b c;generalize decide (0<=J/\J<=1)=v at *;exact x9
 ·have F:Hid (decide (0<=J/\J<=1)=false):=(by show _=false;simp;omega);have d:decide (0<=J)=false:=lh;clear b;generalize decide (0<=J/\J<=1)=v at *;exact x9
theorem xv (w:World) (f:O<=1048576) (g:T<=1048576): CB 70 #[.agg #[.u J,.u K,.bool L,.slice N O R,.slice S T X,.i Y]] w (.bool (nY O T Y)):=by
 have u:Hid (∀ w,CE 61 #[.i Y,.i 0,.i 1] w (.bool (decide (0<=Y/\Y<=1)))):=RY Y;have p:∀ o,Bw w (w.alloc o):=λo=>(Below.refl _ _).alloc (Nat.le_refl _) o;have F:nY O T Y=(decide (O<=16)&&decide (T<=4096)&&decide (0<=Y/\Y<=1)):=rfl;generalize nY O T Y=v at *;generalize decide (0<=Y/\Y<=1)=q at *;by_cases j:O<=16
 ·have y:decide ((O:Int)<=16)=true:=bv;by_cases m:T<=4096;·have z:decide ((T:Int)<=4096)=true:=bv;have l:Hid (v=q):=(by show v=q;rw [F,decide_eq_true j,decide_eq_true m];rfl);clear F j m f g;go_enter func70,ntmps70;go_wp2_with fail;refine (u.out _).mono ?_;rintro e B ⟨rfl,r⟩;subst r;go_wp2_with fail;go_ret;exact ⟨by rw [l.out];rfl,p _⟩
  ·have z:decide ((T:Int)<=4096)=false:=bv;have l:Hid (v=false):=(by show v=_;rw [F,decide_eq_true j,decide_eq_false m];rfl);clear F j m f g;go_enter func70,ntmps70;go_wp2_with fail;go_ret;exact ⟨by rw [l.out];rfl,p _⟩
 ·have y:decide ((O:Int)<=16)=false:=bv;have l:Hid (v=false):=(by show v=_;rw [F,decide_eq_false j];rfl);clear F j f g;go_enter func70,ntmps70;go_wp2_with fail;go_ret;exact ⟨by rw [l.out];rfl,p _⟩
theorem de (h:a.heap[d]?=some m) (W:Obj):(a.alloc W).heap[d]?=some m:=(Below.heap_alloc a W d (Array.getElem?_eq_some_iff.1 h).1).trans h
theorem OM (w1:(((w.alloc o1).alloc o2).alloc o3).grownBy a (some (w.heap.size+1+1))):a.heap[w.heap.size]?=some o1/\a.heap[w.heap.size+1]?=some o2/\Bw w a/\w.heap.size+1+1+1<=a.heap.size:=by obtain ⟨c,d,_⟩:=TH (w:=w) (o1:=o1) (o2:=o2) (o3:=o3) (Below.refl _ (((w.alloc o1).alloc o2).alloc o3));have b:=w1.size;simp only [World.size_alloc] at b;refine ⟨(w1.block _ eh bv).trans c,(w1.block _ eh cp).trans d,?_,b⟩;exact Below.grown ((((Below.refl _ _).alloc (Nat.le_refl _) o1).alloc cp o2).alloc bv o3) w1 eh (λk e=>by simp at e;omega)
theorem RZ (w:(a.alloc m).grownBy b (some d)) (w1:d=a.heap.size):Bw a b:=by subst w1;exact Below.grown ((Below.refl _ _).alloc (Nat.le_refl _) m) w cp (λk c=>by simp at c;omega)
theorem DX (xs ys:List Int) (w:World) (hx:xs.length=O) (hy:ys.length=T) (E:O<=1048576) (F:T<=1048576) (G:Sl .u8 w N xs) (H:Sl .u8 w S ys): Calls prog 88 #[.agg #[.u J,.u K,.bool L,.slice N O R,.slice S T X,.i Y]] w λe l=>∃ (d:Option Addr) (f:Nat) (m:Option Addr) (q:Nat),e=.returned (.agg #[.u J,.u K,.bool L,.slice d O f,.slice m T q,.i Y]) /\ bA w.heap.size l.heap.size l (fW d O f xs m T q ys)/\Bw w l:=by
 have B:∀ c1 a2,Bw w ((w.alloc c1).alloc a2):=λc1 a2=>((Below.refl _ _).alloc (Nat.le_refl _) c1).alloc cp a2
 have c2:=iZ ((w.alloc (.cells #[.u J,.u K,.bool L,.slice N O R,.slice S T X,.i Y] 30)).alloc (.cells #[.u 0,.u 0,.bool false,.slice none 0 0,.slice none 0 0,.i 0] 30)) (w.heap.size+1+1) cp (.cells #[] 5 (0,0)) rfl
 rw [World.size_alloc,World.size_alloc] at c2
 have a1:Hid (∀ l,Bw w l->Sl .u8 l N xs):=λl Q=>G.below Q
 have b:Hid (∀ l,Bw w l->Sl .u8 l S ys):=λl Q=>H.below Q
 have cm:Hid (xs.length=O/\ys.length=T/\O<=1048576/\T<=1048576):=⟨hx,hy,E,F⟩
 clear G H hx hy E F
 go_enter func88,ntmps88
 go_wp2_with (first
  | (at_builtin;refine ic rfl (.tmp 3) (.tmp 5) rfl (w.heap.size+1+1) _ rfl c2 N O R xs rfl cm.out.1 cm.out.2.2.1 (a1.out _ ((B _ _).alloc (B _ _).size _)) cp ?_;intro d f u I z;obtain ⟨s,r1,D,z1⟩:=OM z;have V:=aE s;have R1:=aE r1;have M:=aE D;have Z1:=aE z1;have A1:=aE ((bA.nil (w.heap.size+1+1) (w.heap.size+1+1) u).snoc (aD d O f xs) _ u.heap.size I (Nat.le_refl _) (Nat.le_refl _) (Nat.le_refl _) ab);obtain ⟨r,Z,p2,p3,p4,p5⟩:=g7 s;have f3:=hO s 3;have C:=iZ (u.setCell ⟨w.heap.size,3,none⟩ (.slice d O f)) u.heap.size eo (.cells #[] 5 (0,0)) rfl;rw [aT] at C;have y:(u.setCell ⟨w.heap.size,3,none⟩ (.slice d O f)).heap[w.heap.size]?=some (.cells #[.u J,.u K,.bool L,.slice d O f,.slice S T X,.i Y] 30 (0,0)):=bI V.out 3 (.slice d O f);have c:=λo=>(g7 (de y o)).2.2.2.2.1;clear s r1 D z1 I z y)
  | (at_builtin;refine ic rfl (.tmp 8) (.tmp 10) rfl u.heap.size _ rfl C S T X ys rfl cm.out.2.1 cm.out.2.2.2 (b.out _ ((M.out.setCell (p:=⟨w.heap.size,3,none⟩) (Nat.le_refl _) _).alloc (M.out.setCell (p:=⟨w.heap.size,3,none⟩) (Nat.le_refl _) _).size _)) (by rw [World.size_alloc,aT];omega) ?_;intro m q w2 t A;have j:=RZ A (by rw [aT]);have U:=j.size;have W:Hid (w2.heap[w.heap.size]?=some (.cells #[.u J,.u K,.bool L,.slice d O f,.slice S T X,.i Y] 30 (0,0))):=bq j (bI V.out 3 (.slice d O f));have P:=aE (bq j (gH R1.out ⟨w.heap.size,3,none⟩ (.slice d O f) di));have B2:=aE (aa (M.out.setCell (p:=⟨w.heap.size,3,none⟩) (Nat.le_refl _) (.slice d O f)) j);rw [aT] at U;have A2:=aE (((A1.out.set ⟨w.heap.size,3,none⟩ (.slice d O f) (.inl di)).below j).snoc (aD m T q ys) _ w2.heap.size t (Nat.le_refl _) (by have:=Z1.out;omega) (Nat.le_refl _) U);clear r Z p2 p3 p4 p5 f3 c;obtain ⟨r,Z,p2,p3,p4,p5⟩:=g7 W.out;have f4:=hO W.out 4;obtain ⟨s0,s1,s2,s3,s4,s5⟩:=g7 P.out;obtain ⟨y0,y1,y2,y3,y4,y5⟩:=Bf P.out;clear t A j U))
 have T1:=gH P.out ⟨w.heap.size,4,none⟩ (.slice m T q) di
 have A3:=(A2.out.set ⟨w.heap.size,4,none⟩ (.slice m T q) (.inl di)).put6 (w.heap.size+1) (.inl ab) (.u J) (.u K) (.bool L) (.slice d O f) (.slice m T q) (.i Y)
 have B3:=lz (B2.out.setCell (p:=⟨w.heap.size,4,none⟩) (Nat.le_refl _) (.slice m T q)) (g:=w.heap.size+1) ab (.u J) (.u K) (.bool L) (.slice d O f) (.slice m T q) (.i Y)
 exact bodyPost_ret (results_cell_row results88 _ _ _ _ _ _ _ rfl (n8 T1 _ _ _ _ _ _) underlying30 rfl bN) rfl ⟨d,f,m,q,rfl,A3.low ab pp,B3⟩
theorem Bi (h:a.heap[d]?=some m):a.drew.heap[d]?=some m:=h
theorem yk:((a.alloc m).alloc r).drew.heap[a.heap.size+1]?=some r:=(vf (w:=a) (o1:=m) (o2:=r) (Below.refl _ ((a.alloc m).alloc r))).2
theorem jg:((a.alloc m).alloc r).heap[a.heap.size+1]?=some r:=(vf (w:=a) (o1:=m) (o2:=r) (Below.refl _ ((a.alloc m).alloc r))).2
theorem pn:Bw a ((a.alloc m).alloc r).drew:=(((Below.refl _ _).alloc (Nat.le_refl _) m).alloc cp r).drew
theorem eE:Bw a ((a.alloc m).alloc r):=((Below.refl _ _).alloc (Nat.le_refl _) m).alloc cp r
theorem KE (w:World): CB 138 #[.agg #[.u J,.u K,.bool L,.slice N O R,.slice S T X,.i Y],.u 33554432,.i 4] w (.tuple #[.u (gt L),.agg #[.u J,.u K,.bool L,.slice N O R,.slice S T X,.i Y],.bool true]):=by
 have l:Hid (∀ w,CE 120 #[.bool L] w (.u (gt L))):=vi L;generalize gt L=v at *;go_enter func138,ntmps138;go_wp2_with fail;go_region_with (first | (go_at_call 120;with_reducible refine (l.out _).mono ?_;rintro e m ⟨rfl,c⟩;subst c));all_goals go_wp2_with fail
 all_goals exact bodyPost_ret (bT results138 _ _ _ _ _ _ _ rfl yk underlying30 rfl bN) rfl ⟨rfl,pn⟩
theorem KF (w:World): CB 138 #[.agg #[.u J,.u K,.bool L,.slice N O R,.slice S T X,.i Y],.u 33570816,.i 8] w (.tuple #[.u K,.agg #[.u J,.u K,.bool L,.slice N O R,.slice S T X,.i Y],.bool true]):=by go_enter func138,ntmps138;go_wp2_with fail;go_region;exact yn
theorem KG (w:World): CB 138 #[.agg #[.u J,.u K,.bool L,.slice N O R,.slice S T X,.i Y],.u 33603576,.i 8] w (.tuple #[.u J,.agg #[.u J,.u K,.bool L,.slice N O R,.slice S T X,.i Y],.bool true]):=by go_enter func138,ntmps138;go_wp2_with fail;go_region;exact yn
theorem ID (w:World): CB 138 #[.agg #[.u J,.u K,.bool L,.slice N 0 O,.slice S T X,.i Y],.u 268435456,.i 1] w (.tuple #[.u 0,.agg #[.u J,.u K,.bool L,.slice N 0 O,.slice S T X,.i Y],.bool true]):=by go_enter func138,ntmps138;go_wp2_with fail;go_region;exact yn
theorem KH (w:World): CB 138 #[.agg #[.u J,.u K,.bool L,.slice N O R,.slice S T X,.i Y],.u 268435457,.i 1] w (.tuple #[.u (Uz.wrap Y),.agg #[.u J,.u K,.bool L,.slice N O R,.slice S T X,.i Y],.bool true]):=by go_enter func138,ntmps138;go_wp2_with fail;go_region;exact yn
theorem KJ (c:O<=1048576) (w:World): CB 138 #[.agg #[.u J,.u K,.bool L,.slice N O R,.slice S T X,.i Y],.u 268435461,.i 1] w (.tuple #[.u (Uz.wrap (32+gt (decide (0<O)))),.agg #[.u J,.u K,.bool L,.slice N O R,.slice S T X,.i Y],.bool true]):=by
 have m:Hid (∀ w,CE 120 #[.bool (decide (0<O))] w (.u (gt (decide (0<O))))):=vi _;generalize gt (decide (0<O))=v at *;clear c;go_enter func138,ntmps138;go_wp2_with fail;go_region_with (first | (go_at_call 120;with_reducible refine (m.out _).mono ?_;rintro e o ⟨rfl,d⟩;subst d));all_goals go_wp2_with fail
 all_goals exact bodyPost_ret (bT results138 _ _ _ _ _ _ _ rfl yk underlying30 rfl bN) rfl ⟨rfl,pn⟩
theorem KK (size:Int) (b:Z=33554432->¬ size=4) (k1:Z=33570816->¬ size=8) (k2:Z=33603576->¬ size=8) (c:Z=268435456->¬ size=1) (d:Z=268435457->¬ size=1) (f:Z=268435461->¬ size=1) (w:World): CB 138 #[.agg #[.u J,.u K,.bool L,.slice N O R,.slice S T X,.i Y],.u Z,.i size] w (.tuple #[.u 0,.agg #[.u 0,.u 0,.bool false,.slice none 0 0,.slice none 0 0,.i 0],.bool false]):=by
 by_cases g:Z=33554432;·have z:(size==4)=false:=(by simpa using b g);subst g;clear b k1 k2 c d f;go_enter func138,ntmps138;go_wp2_with fail;exact bodyPost_ret (bT results138 _ _ _ _ _ _ _ rfl jg underlying30 rfl bN) rfl ⟨rfl,eE⟩
 ·have t0:(Z==33554432)=false:=v8;by_cases j:Z=33570816;·have A:(size==8)=false:=(by simpa using k1 j);subst j;clear b k1 k2 c d f;go_enter func138,ntmps138;go_wp2_with fail;exact bodyPost_ret (bT results138 _ _ _ _ _ _ _ rfl jg underlying30 rfl bN) rfl ⟨rfl,eE⟩
  ·have F:(Z==33570816)=false:=(by simpa using j);by_cases l:Z=33603576;·have B:(size==8)=false:=(by simpa using k2 l);subst l;clear b k1 k2 c d f;go_enter func138,ntmps138;go_wp2_with fail;exact bodyPost_ret (bT results138 _ _ _ _ _ _ _ rfl jg underlying30 rfl bN) rfl ⟨rfl,eE⟩
   ·have G:(Z==33603576)=false:=(by simpa using l);by_cases m:Z=268435456;·have C:(size==1)=false:=(by simpa using c m);subst m;clear b k1 k2 c d f;go_enter func138,ntmps138;go_wp2_with fail;exact bodyPost_ret (bT results138 _ _ _ _ _ _ _ rfl jg underlying30 rfl bN) rfl ⟨rfl,eE⟩
    ·have H:(Z==268435456)=false:=(by simpa using m);by_cases o:Z=268435457;·have D:(size==1)=false:=(by simpa using d o);subst o;clear b k1 k2 c d f;go_enter func138,ntmps138;go_wp2_with fail;exact bodyPost_ret (bT results138 _ _ _ _ _ _ _ rfl jg underlying30 rfl bN) rfl ⟨rfl,eE⟩
     ·have I:(Z==268435457)=false:=(by simpa using o);by_cases p:Z=268435461;·have E:(size==1)=false:=(by simpa using f p);subst p;clear b k1 k2 c d f;go_enter func138,ntmps138;go_wp2_with fail;exact bodyPost_ret (bT results138 _ _ _ _ _ _ _ rfl jg underlying30 rfl bN) rfl ⟨rfl,eE⟩
      ·have t:(Z==268435461)=false:=(by simpa using p);clear b k1 k2 c d f g j l m o p;go_enter func138,ntmps138;go_wp2_with fail;exact bodyPost_ret (bT results138 _ _ _ _ _ _ _ rfl jg underlying30 rfl bN) rfl ⟨rfl,eE⟩
theorem Sl.next (h:Sl .u8 a (some ⟨d,t,none⟩) E):Sl .u8 a (some ⟨d,t+1,none⟩) (E.drop 1):=by
 intro i g;rw [List.length_drop] at g;obtain ⟨j,c,e,w,f⟩:=h (i+1) ab;simp only [Option.some.injEq,Addr.mk.injEq,and_true] at e;obtain ⟨rfl,rfl⟩:=e;refine ⟨_,_,rfl,w,?_⟩;have e2:(E.drop 1).getD i 0=E.getD (i+1) 0:=by rw [List.getD_eq_getElem?_getD,List.getD_eq_getElem?_getD,List.getElem?_drop,Nat.add_comm]
 rw [e2,show t+1+i=t+(i+1) from ab];exact f
theorem IE (h:bA B d a (fW l t c E y f n x)) (hn:1<=t):∃ g,l=some ⟨g,0,none⟩/\t<=c/\c<=maxLen:=by
 have w:=h.own (aD l t c E) tt;rcases w.2 with ⟨_,c2⟩|⟨g,cap,b,i,_,_,c1,e,_⟩;·have:t=0:=c2;omega
 ·injection i with e1 e2 e3
  subst e1 e3;exact ⟨g,rfl,c1,e⟩
theorem zr (h:nY d c A=true):d<=16/\c<=4096/\0<=A/\A<=1:=by unfold nY at h;simp only [Bool.and_eq_true,decide_eq_true_eq] at h;exact ⟨h.1.1,h.1.2,h.2.1,h.2.2⟩
theorem IF (w:World): CB 139 #[.agg #[.u J,.u K,.bool L,.slice N O R,.slice S T X,.i Y],.u 33554432,.i 4,.u Z] w (.tuple #[.agg #[.u J,.u K,.bool (bits .and .u64 Z 1==1),.slice N O R,.slice S T X,.i Y],.bool true]):=by go_enter func139,ntmps139;exact zz
theorem IG (w:World): CB 139 #[.agg #[.u J,.u K,.bool L,.slice N O R,.slice S T X,.i Y],.u 33570816,.i 8,.u Z] w (.tuple #[.agg #[.u J,.u Z,.bool L,.slice N O R,.slice S T X,.i Y],.bool true]):=by go_enter func139,ntmps139;exact zz
theorem IH (w:World): CB 139 #[.agg #[.u J,.u K,.bool L,.slice N O R,.slice S T X,.i Y],.u 33603576,.i 8,.u Z] w (.tuple #[.agg #[.u Z,.u K,.bool L,.slice N O R,.slice S T X,.i Y],.bool true]):=by go_enter func139,ntmps139;exact zz
theorem DY (j:¬ T<4096) (c:T<=4096) (w:World): CB 139 #[.agg #[.u J,.u K,.bool L,.slice N O R,.slice S T X,.i Y],.u 268435456,.i 1,.u Z] w (.tuple #[.agg #[.u J,.u K,.bool L,.slice N O R,.slice S T X,.i Y],.bool true]):=by
 have m:decide ((T:Int)<4096)=false:=by simp;omega
 clear j c;exact a00
theorem II (w:World): CB 139 #[.agg #[.u J,.u K,.bool L,.slice N O R,.slice S T X,.i Y],.u 268435457,.i 1,.u Z] w (.tuple #[.agg #[.u J,.u K,.bool L,.slice N O R,.slice S T X,.i (wrap64 (bits .and .u64 Z 1))],.bool true]):=by go_enter func139,ntmps139;exact zz
theorem IJ (w:World): CB 139 #[.agg #[.u J,.u K,.bool L,.slice N O R,.slice S T X,.i Y],.u 268435461,.i 1,.u Z] w (.tuple #[.agg #[.u J,.u K,.bool L,.slice N O R,.slice S T X,.i Y],.bool true]):=by go_enter func139,ntmps139;exact zz
theorem IK (addr size:Int) (b:addr=33554432->¬ size=4) (k1:addr=33570816->¬ size=8) (k2:addr=33603576->¬ size=8) (c:addr=268435456->¬ size=1) (d:addr=268435457->¬ size=1) (f:addr=268435461->¬ size=1) (w:World): CB 139 #[.agg #[.u J,.u K,.bool L,.slice N O R,.slice S T X,.i Y],.u addr,.i size,.u Z] w (.tuple #[.agg #[.u 0,.u 0,.bool false,.slice none 0 0,.slice none 0 0,.i 0],.bool false]):=by
 by_cases g:addr=33554432;·have z:(size==4)=false:=(by simpa using b g);subst g;clear b k1 k2 c d f;exact a00
 ·have t0:(addr==33554432)=false:=v8;by_cases j:addr=33570816;·have A:(size==8)=false:=(by simpa using k1 j);subst j;clear b k1 k2 c d f;go_enter func139,ntmps139;go_wp2_with fail;exact bodyPost_ret (cT results139 _ _ _ _ _ _ _ rfl jg underlying30 rfl bN) rfl ⟨rfl,eE⟩
  ·have F:(addr==33570816)=false:=(by simpa using j);by_cases l:addr=33603576;·have B:(size==8)=false:=(by simpa using k2 l);subst l;clear b k1 k2 c d f;go_enter func139,ntmps139;go_wp2_with fail;exact bodyPost_ret (cT results139 _ _ _ _ _ _ _ rfl jg underlying30 rfl bN) rfl ⟨rfl,eE⟩
   ·have G:(addr==33603576)=false:=(by simpa using l);by_cases m:addr=268435456;·have C:(size==1)=false:=(by simpa using c m);subst m;clear b k1 k2 c d f;go_enter func139,ntmps139;go_wp2_with fail;exact bodyPost_ret (cT results139 _ _ _ _ _ _ _ rfl jg underlying30 rfl bN) rfl ⟨rfl,eE⟩
    ·have H:(addr==268435456)=false:=(by simpa using m);by_cases o:addr=268435457;·have D:(size==1)=false:=(by simpa using d o);subst o;clear b k1 k2 c d f;go_enter func139,ntmps139;go_wp2_with fail;exact bodyPost_ret (cT results139 _ _ _ _ _ _ _ rfl jg underlying30 rfl bN) rfl ⟨rfl,eE⟩
     ·have I:(addr==268435457)=false:=(by simpa using o);by_cases p:addr=268435461;·have E:(size==1)=false:=(by simpa using f p);subst p;clear b k1 k2 c d f;go_enter func139,ntmps139;go_wp2_with fail;exact bodyPost_ret (cT results139 _ _ _ _ _ _ _ rfl jg underlying30 rfl bN) rfl ⟨rfl,eE⟩
      ·have t:(addr==268435461)=false:=(by simpa using p);clear b k1 k2 c d f g j l m o p;exact a00
theorem OO (j:Nat) (u:Value) (h:[Value.int .u8 Y][j]?=some u):(M.alloc (.cells #[.int .u8 Y] 5)).cell? ((⟨M.heap.size,0,none⟩:Addr).add j)=some u:=by
 have c:j=0:=by
  rcases Nat.eq_zero_or_pos j with a|a;·exact a
  ·rw [List.getElem?_eq_none bv] at h;cases h
 subst c;rw [zp];simp only [List.getElem?_cons_zero,Option.some.injEq] at h;subst h;have e:=heap_alloc_new M (.cells #[.int .u8 Y] 5);show (M.alloc (.cells #[.int .u8 Y] 5)).cell? ⟨M.heap.size,0,none⟩=_;simp only [World.cell?,e];rfl
theorem KL (h:a.ownsRow d e 1 v n Q):∃ w c,v=.slice w n c:=by
 rcases h.2 with ⟨t,base⟩|⟨f,cap,b,t,_⟩;·exact ⟨none,0,by rw [t,base]⟩
 ·exact ⟨_,_,t⟩
theorem UU {w2:World} {o2:Obj} (d:b.heap[a.heap.size]?=some r) (c:b.heap[a.heap.size+1]?=some o2) (f:b.ownsRow (a.heap.size+1+1) e 1 v n Q) (w:(b.alloc m).grownBy w2 v.ownBlock): w2.heap[a.heap.size]?=some r/\w2.heap[a.heap.size+1]?=some o2/\Below (a.heap.size+1+1) b w2:=by have z:=(Array.getElem?_eq_some_iff.1 c).1;have w1:∀ k,k<a.heap.size+1+1->w2.heap[k]?=b.heap[k]?:=λk w1=>(w.block k i4 (λt=>by have:=(f.lt k t.symm).1;omega)).trans (Below.heap_alloc b m k ab);refine ⟨(w1 _ ab).trans d,(w1 _ ab).trans c,⟨w.os,w.tape,w.output,?_,w1⟩⟩;have:=w.size;rw [World.size_alloc] at this;omega
end Go.Proofs.YtfagphfjfhpmjaaGreatDoor
