/- Own lemmas. -/
import Derived.Test.YtfagphfjfhpmjaaGreatDoorAuj
import Derived.Test.YtfagphfjfhpmjaaGreatDoorJ01
import Derived.WalkLawsBesides
import Derived.Laws.CopyOwn
import Derived.Deep.AppendSrc
set_option maxRecDepth 100000
set_option maxHeartbeats 1600000
namespace Go.Proofs.YtfagphfjfhpmjaaGreatDoor
open Go.RowKit Tryz
open IntKind renaming u64->Uz
set_option linter.unusedVariables false
variable {a n w:World} {g b B e k E:Nat} {c:TypeId} {d f:List Int} {t j m o q x:Value} {W l:Option Addr} {r:List Value} {s:IntKind} {y:Array Value} {p:Nat × Nat} {Q:Int} {z:Option Nat} {A:Array Oper} {C:List Oper} {D:Oper} {G:Act} {P:Exit->Act->World->Prop} {o1 o2:Obj} (F:IntKind) (I:List Int) (J:Int) (M N:Option Addr) (K L O R:Nat) (S:List Int) (T V:Int) (X:Bool) (Y:List Int) (Z:Int)
def Sl (k:IntKind) (w:World) (a:Option Addr) (zs:List Int):Prop :=
 ∀ i,i<zs.length->∃ b c,a=some ⟨b,c,none⟩/\b<w.heap.size/\w.cell? ⟨b,c+i,none⟩=some (.int k (zs.getD i 0))
theorem Sl.below (h:Sl s a W d) (hb:Bw a n):Sl s n W d:=by intro i g;obtain ⟨b,zs,e,c,f⟩:=h i g;exact ⟨b,zs,e,Nat.lt_of_lt_of_le c hb.size,(hb.cell (by exact c)).trans f⟩
def Lk (k:IntKind) (zs:List Int) (n j:Nat):List Value:=(zs.take j).map (Value.int k)++List.replicate (n-j) (.int k 0)
theorem Jd (hz:I.length=K) (a:L<=K):(Lk F I K L).length=K:=by simp [Lk];omega
theorem EO:Lk F I K 0=List.replicate K (.int F 0):=by simp [Lk]
theorem Je (hz:I.length=K):Lk F I K K=I.map (Value.int F):=by simp [Lk,<- hz]
theorem Jf (hz:I.length=K) (d:L<K):(Lk F I K L).set L (.int F (I.getD L 0))=Lk F I K (L+1):=by
 unfold Lk;have a:I.take (L+1)=I.take L++[I.getD L 0]:=by rw [List.take_succ_eq_append_getElem ab];simp [List.getD,List.getElem?_eq_getElem (show L<I.length by omega)]
 have b:K-L=(K-(L+1))+1:=ab
 rw [a,b,List.replicate_succ,List.set_append_right _ _ a8];have c:L-((I.take L).map (Value.int F)).length=0:=by simp;omega
 rw [c];simp
theorem du (h:a.ownsRow g c b t B r) (hb:Bw a n):n.ownsRow g c b t B r:=by
 obtain ⟨f,base⟩:=h;refine ⟨f,?_⟩;rcases base with base|⟨w',cap,w,j,i,e,xs⟩;·exact Or.inl base
 ·have d:w'<a.heap.size:=by
   rcases Nat.lt_or_ge w' a.heap.size with h|h;·exact h
   ·rw [Array.getElem?_eq_none h] at e;cases e
  exact Or.inr ⟨w',cap,w,j,i,by rw [hb.block w' d];exact e,xs⟩
theorem Pt (h:a.ownsRow b c B (.slice (some ⟨g,0,none⟩) e k) e r):g<a.heap.size:=by
 obtain ⟨j,w⟩:=h;rcases w with ⟨w,_⟩|⟨i,base,f,d,n,cap,xs⟩;·cases w
 ·simp only [Value.slice.injEq,Option.some.injEq,Addr.mk.injEq,and_true,true_and] at d;obtain ⟨rfl,rfl⟩:=d;rcases Nat.lt_or_ge g a.heap.size with h|h;·exact h
  ·rw [Array.getElem?_eq_none h] at cap;cases cap
theorem me (h:a.ownsRow b c 1 (.slice (some ⟨g,0,none⟩) B e) B (d.map (Value.int s))):Sl s a (some ⟨g,0,none⟩) d:=by
 intro i w;have base:B=d.length:=by have:=h.1;simp at this;omega
 refine ⟨g,0,rfl,Pt h,?_⟩;rw [Nat.zero_add,h.cellAt i ab];simp [List.getElem?_map,List.getElem?_eq_getElem w,List.getD]
theorem gj (h:a.ownsRow g c 1 (.slice W b B) b (d.map (Value.int s))):Sl s a W d:=by
 rcases h.2 with ⟨w,j⟩|⟨f,base,zs,cap,l,m,r⟩;·intro i o;have:=h.1;simp at this;omega
 ·simp only [Value.slice.injEq,true_and] at cap;obtain ⟨rfl,rfl⟩:=cap;exact me h
theorem xe (k n:Nat) (hx:I.length=n) (hy:S.length=n) (hk:k<n) (h:I.take k=S.take k) (he:I.getD k 0=S.getD k 0):I.take (k+1)=S.take (k+1):=by
 rw [List.take_succ_eq_append_getElem ab,List.take_succ_eq_append_getElem ab,h];have a:I.getD k 0=I[k]:=by simp [List.getD,List.getElem?_eq_getElem (show k<I.length by omega)]
 have b:S.getD k 0=S[k]:=by simp [List.getD,List.getElem?_eq_getElem (show k<S.length by omega)]
 rw [<- a,<- b,he]
def Ak (k:IntKind) (w:World) (a:Option Addr) (len cap:Nat) (zs:List Int):Prop :=
 (a=none/\len=0/\cap=0/\zs=[]) \/
 ∃ x,a=some x/\len<=cap/\cap<=maxLen/\zs.length=cap/\(∀ i,i<zs.length->w.cell? (x.add i)=some (.int k (zs.getD i 0)))/\∀ n ∈ zs,(Lit.int k n).wf=true
theorem Ak.sl (h:Ak s a W g b d): ∃ n:List Int,n.length=g/\Sl s a W n/\(∀ y ∈ n,(Lit.int s y).wf=true)/\g<=maxLen:=by
 rcases h with ⟨rfl,rfl,rfl,rfl⟩ | ⟨x,rfl,r,k,t,c,m⟩;·exact ⟨[],rfl,λi l=>absurd l bc,bc,fb⟩
 ·refine ⟨d.take g,a8,?_,λy q=>m y (List.mem_of_mem_take q),ab⟩;intro i l;simp only [List.length_take] at l;obtain ⟨cap,f,len⟩:=x;have zs:len=none:=(by simpa [Addr.add] using World.cell?_spot (c 0 ab));subst zs;have p:(⟨cap,f,none⟩:Addr).add i=⟨cap,f+i,none⟩:=by
   by_cases o:i=0;·subst o;simp [Addr.add]
   ·simp [Addr.add,o]
  have j:=c i ab;rw [p] at j;refine ⟨cap,f,rfl,World.block_lt_of_cell? _ _ j,?_⟩;have e:(d.take g).getD i 0=d.getD i 0:=(by simp [List.getD,show i<g by omega]);rw [e];exact j
theorem aa {w1:World} (h:Bw a w1) (k:Bw w1 n):Bw a n :=
 h.trans (k.mono h.size)
theorem ja (h:∀ y ∈ d,(Lit.int .u8 y).wf=true) (k:Nat):0<=d.getD k 0/\d.getD k 0<=255:=by
 by_cases a:k<d.length;·have:=h (d.getD k 0) (by simp [List.getD,List.getElem?_eq_getElem a]);simpa [Lit.wf,IntKind.min,IntKind.max,IntKind.signed,IntKind.bits] using this
 ·simp [List.getD,List.getElem?_eq_none (Nat.le_of_not_lt a)]
theorem mX:(I.map (Value.int .u8)).set K (.int .u8 T)=(I.set K T).map (Value.int .u8):=by rw [List.map_set]
theorem CN:(J=1\/J=2\/J=4\/J=8)\/((J==1)=false/\(J==2)=false/\(J==4)=false/\(J==8)=false):=by
 by_cases a:J=1;·exact .inl (.inl a)
 ·by_cases b:J=2;·exact .inl (.inr (.inl b))
  ·by_cases c:J=4;·exact .inl (.inr (.inr (.inl c)))
   ·by_cases d:J=8;·exact .inl (.inr (.inr (.inr d)))
    ·exact .inr (by simp [a,b,c,d])
theorem Jg (h:(Q==1)=false/\(Q==2)=false/\(Q==4)=false/\(Q==8)=false):jr Q=false:=by simp at h;simp [jr,h]
theorem CO (h:(Lit.int .u64 Q).wf=true):0<=Q/\Q<=18446744073709551615:=by simpa [Lit.wf,IntKind.min,IntKind.max,IntKind.signed,IntKind.bits] using h
theorem bH {b:World} (h:n.grownBy a z) (k:a.grownBy b z):n.grownBy b z :=
 ⟨k.os.trans h.os,k.tape.trans h.tape,k.output.trans h.output,Nat.le_trans h.size k.size,λi d c=>(k.block i (Nat.lt_of_lt_of_le d h.size) c).trans (h.block i d c)⟩
theorem pC (w:World) (row:Option Nat):w.grownBy w row:=⟨rfl,rfl,rfl,Nat.le_refl _,λ_ _ _=>rfl⟩
theorem MO (hs:Sl .u8 a (some ⟨b,g,none⟩) d) (o:Obj) (j:Nat) (u:Value) (c:(d.map (Value.int .u8))[j]?=some u): (a.alloc o).cell? ((⟨b,g,none⟩:Addr).add j)=some u:=by
 have zs:j<d.length:=by
  rcases Nat.lt_or_ge j d.length with h|h;·exact h
  ·rw [List.getElem?_eq_none cp] at c;cases c
 obtain ⟨n,k,e,f,m⟩:=hs j zs;simp only [Option.some.injEq,Addr.mk.injEq,and_true] at e;obtain ⟨rfl,rfl⟩:=e;have l:(⟨b,g,none⟩:Addr).add j=⟨b,g+j,none⟩:=by
  by_cases i:j=0;·subst i;simp [Addr.add]
  ·simp [Addr.add,i]
 have w:u=.int .u8 (d.getD j 0):=by simp [List.getElem?_eq_getElem zs] at c;simp [List.getD,List.getElem?_eq_getElem zs,c]
 rw [l,w,<- m];exact ((Below.refl a.heap.size a).alloc (Nat.le_refl _) o).cell (by exact f)
theorem oK (h:a.ownsRow g c 1 t b r) (hn:0<b):∃ base e,t=.slice (some ⟨base,0,none⟩) b e/\g<=base:=by
 rcases h.2 with ⟨_,f⟩|⟨base,cap,w,d,n,_⟩;·omega
 ·exact ⟨base,cap,d,n⟩
theorem Al:(⟨K,L,none⟩:Addr).add O=⟨K,L+O,none⟩:=by
 by_cases c:O=0;·subst c;simp [Addr.add]
 ·simp [Addr.add,c]
theorem mE {Q:Program} (y:D.guard=none) (d s:Operand) (p:TypeId) (S:D.op=.call {callee:=.builtin .copy,args:=#[d,s],argTypes:=#[p,p]}) (e:TypeId) (T:Q.underlying p=some (.slice e)) (rest:(Q.info? e).map (·.size)=some 1) (k:IntKind) (base g n c b l cap:Nat) (zs:List Int) (ys:List Value) (hd:G.eval d=.slice (some ⟨g,0,none⟩) n c) (hs:G.eval s=.slice (some ⟨b,l,none⟩) n cap) (q:a.ownsRow base e 1 (.slice (some ⟨g,0,none⟩) n c) n ys) (r:Sl k a (some ⟨b,l,none⟩) zs) (hz:zs.length=n) (h:∀ o,o.ownsRow base e 1 (.slice (some ⟨g,0,none⟩) n c) n (zs.map (Value.int k))->a.grownBy o (some g)->wpList Q A P C (G.put D.dst (goInt n)) o):wpList Q A P (D::C) G a:=by
 rcases q.2 with ⟨M,_⟩|⟨W,V,m,K,v,J,w,x,O,E⟩;·cases M
 ·simp only [Value.slice.injEq,Option.some.injEq,Addr.mk.injEq,and_true,true_and] at K;obtain ⟨rfl,rfl⟩:=K;have t:(zs.map (Value.int k)).length=n:=(by rw [List.length_map,hz]);have I:m.toList.length=c:=(by rw [Array.length_toList];omega);refine wpList_copy_own y d s p p S e T rest g 0 n c ⟨b,l,none⟩ n cap hd hs m e J (zs.map (Value.int k)) (by rw [t];exact (Nat.min_self n).symm) ?_ (by rw [t];omega) (ints_oneCell _ _) ?_
  ·intro j u f;have z:j<zs.length:=by
    rcases Nat.lt_or_ge j zs.length with h|h;·exact h
    ·rw [List.getElem?_eq_none cp] at f;cases f
   obtain ⟨U,L,H,R,N⟩:=r j z;simp only [Option.some.injEq,Addr.mk.injEq,and_true] at H;obtain ⟨rfl,rfl⟩:=H;have F:u=.int k (zs.getD j 0):=(by simp [List.getElem?_eq_getElem z] at f;simp [List.getD,List.getElem?_eq_getElem z,f]);rw [Al,F];exact N
  ·rw [t];refine h _ ⟨by rw [t];omega,.inr ⟨g,c,_,rfl,v,setRow_heap a g _ _ e _ J,w,x,?_,?_⟩⟩ ⟨rfl,rfl,rfl,by simp [World.setRow],λi X B=>setRow_other a g i _ (by intro h;apply B;rw [h])⟩;·simp [hz];omega
   ·simp [hz]
theorem dG (h:a.ownsRow g c B t e r) (hb:b<=g):a.ownsRow b c B t e r:=by
 obtain ⟨d,n⟩:=h;refine ⟨d,?_⟩;rcases n with n|⟨w,cap,base,i,f,xs⟩;·exact Or.inl n
 ·exact Or.inr ⟨w,cap,base,i,Nat.le_trans hb f,xs⟩
theorem info5:(prog.info? 5).map (λi=>(i.zero,i.size,i.bytes))=some (some (.int .u8 0),1,1):=by kernel_rfl
theorem Am (w:World) (hz:S.length=K) (hn:K<=1048576) (hs:Sl .u8 w M S): Calls prog 46 #[.slice M K L] w λe B=>e=.returned (.slice (some ⟨w.heap.size,0,none⟩) K K) /\ B.ownsRow w.heap.size 5 1 (.slice (some ⟨w.heap.size,0,none⟩) K K) K (S.map (Value.int .u8))/\Bw w B:=by
 obtain ⟨A,G,t,u,p⟩:=info_parts info5;have r:A.bytes*K<=281474976710656:=by rw [p];omega
 have s:K<=maxLen:=by unfold maxLen;omega
 have q:Hid (S.length=K):=hz;clear hz p;go_enter func46,ntmps46;go_wp2_with (at_make;refine wpList_make_full _ rfl (.tmp 6) (.tmp 6) 24 rfl w.heap.size 5 A (.int .u8 0) 1 underlying24 G t u .i64 .i64 _ _ K rfl rfl rfl rfl r s (Nat.le_refl _) ?_;intro C c f);have g:C.ownsRow w.heap.size 5 1 (.slice (some ⟨w.heap.size,0,none⟩) K K) K (Lk .u8 S K 0):=by rw [EO,<- toList_madeCells_one];simpa [Value.cells] using c
 have j:Bw w C:=(Below.refl _ _).grown f (Nat.le_refl _) v8;clear c f;go_loopw [4] (λi wr=>∃ k:Nat,k<=K/\i=.i k/\wr.ownsRow w.heap.size 5 1 (.slice (some ⟨w.heap.size,0,none⟩) K K) K (Lk .u8 S K k)/\Bw w wr)
  (λi _=>K-(intOf i).toNat)
 case atStart=>exact ⟨0,Nat.zero_le _,rfl,g,j⟩
 case round =>
  obtain ⟨k,H,rfl,c,d⟩:=hrel;clear g j;by_cases l:k<K
  ·obtain ⟨b,y,rfl,D,z⟩:=hs k (by have:=q.out;omega);have E:wr.cell? ⟨b,y+k,none⟩=some (.int .u8 (S.getD k 0)):=(d.cell (by exact D)).trans z;have F:wr.frozen? ⟨w.heap.size,k,none⟩=false:=c.frozenAt k;have m:=(c.stored k (.int .u8 (S.getD k 0))).1;have o:Bw w (wr.setCell ⟨w.heap.size,k,none⟩ (.int .u8 (S.getD k 0))):=d.setCell (Nat.le_refl _) _;obtain ⟨J,I⟩:∃ v,wr.cell? ⟨w.heap.size,k,none⟩=some v:=(by rw [c.cellAt k ab];exact ⟨_,List.getElem?_eq_getElem (by rw [Jd _ _ _ _ q.out H];exact l)⟩);rw [Jf _ _ _ _ q.out l] at m;clear z c;go_wp2;go_roundw;case rel=>exact ⟨k+1,ab,by go_num,m,o⟩
   case measure=>simp [intOf];omega
  ·have:k=K:=by omega
   subst this;rw [Je _ _ _ q.out] at c;go_wp2;go_ret;exact ⟨rfl,c,d⟩
theorem nQ (w:World) (hx:S.length=K) (hy:Y.length=L) (hn:K<=1048576) (hm:L<=1048576) (hs:Sl .u8 w M S) (J:Sl .u8 w N Y): CB 53 #[.slice M K O,.slice N L R] w (.bool (decide (S=Y))):=by
 by_cases q:K=L
 ·subst q;have r:Hid (S.length=K):=hx;have s:Hid (Y.length=K):=hy;have I:((K:Int) != (K:Int))=false:=bc;clear hx hy;go_enter func53,ntmps53;go_wp2;go_loopw [5] (λi wr=>∃ k:Nat,k<=K/\i=.i k/\Hid (S.take k=Y.take k)/\Bw w wr)
   (λi _=>K-(intOf i).toNat)
  case atStart=>exact ⟨0,Nat.zero_le _,rfl,(rfl:S.take 0=Y.take 0),Below.refl _ _⟩
  case round =>
   obtain ⟨k,P,rfl,o,c⟩:=hrel;by_cases A:k<K
   ·obtain ⟨E,n,rfl,t,j⟩:=hs k (by have:=r.out;omega);obtain ⟨G,m,rfl,u,l⟩:=J k (by have:=s.out;omega);obtain ⟨x,f⟩:∃ x,x=S.getD k 0:=⟨_,rfl⟩;obtain ⟨y,g⟩:∃ y,y=Y.getD k 0:=⟨_,rfl⟩;have b:wr.cell? ⟨E,n+k,none⟩=some (.int .u8 x):=(by rw [f];exact (c.cell (by exact t)).trans j);have ca:wr.cell? ⟨G,m+k,none⟩=some (.int .u8 y):=(by rw [g];exact (c.cell x7).trans l);have B:Hid (x=S.getD k 0):=f;have C:Hid (y=Y.getD k 0):=g;clear j l f g;by_cases d:x=y
    ·subst d;have H:=xe S Y k K r.out s.out A o.out (B.out.symm.trans C.out);have D:Hid (S.take (k+1)=Y.take (k+1)):=H;clear H;have p:(x != x)=false:=bc;go_wp2;go_region;all_goals go_wp2
     all_goals go_roundw
     case rel=>exact ⟨k+1,ab,by go_num,D,c.drew⟩
     case measure=>simp [intOf];omega
    ·have F:Hid (decide (S=Y)=false):=ki;have p:(x != y)=true:=ps;clear d;go_wp2;go_region;all_goals go_wp2
     all_goals go_ret
     all_goals exact ⟨a7,c.drew⟩
   ·have z:k=K:=ab;subst z;have F:Hid (decide (S=Y)=true):=d7;go_wp2;go_ret;exact ⟨a7,c⟩
 ·have F:Hid (decide (S=Y)=false):=ko;have p:((K:Int) != (L:Int))=true:=a8;clear hx hy;go_enter func53,ntmps53;go_wp2;go_ret;exact ⟨a7,Below.refl _ _⟩
theorem vT (w:World) (hn:K<=1048576): CE 69 #[.slice M K L] w (.bool (bq K)):=by
 by_cases b:4096<=K
 ·by_cases c:K<=65536
  ·have f:decide ((K:Int)<=65536)=true:=a8;by_cases d:K%4096=0;·have F:Hid (bq K=true):=(by show bq K=true;simp [bq,b,c,d]);have g:((K:Int)%4096==0)=true:=a8;go_enter func69,ntmps69;go_wp2;go_ret;exact ⟨a7,rfl⟩
   ·have F:Hid (bq K=false):=(by show bq K=false;simp [bq,d]);have g:((K:Int)%4096==0)=false:=a8;go_enter func69,ntmps69;exact zz
  ·have F:Hid (bq K=false):=(by show bq K=false;simp [bq,c]);have f:decide ((K:Int)<=65536)=false:=a8;go_enter func69,ntmps69;exact zz
 ·have F:Hid (bq K=false):=(by show bq K=false;simp [bq,b]);have l:decide ((4096:Int)<=K)=false:=a8;go_enter func69,ntmps69;exact zz
theorem fh (w:World) (hn:K<=1048576): CE 79 #[.slice M K L] w (.bool (bq K)):=by
 by_cases b:4096<=K
 ·by_cases c:K<=65536
  ·have f:decide ((K:Int)<=65536)=true:=a8;by_cases d:K%4096=0;·have F:Hid (bq K=true):=(by show bq K=true;simp [bq,b,c,d]);have g:((K:Int)%4096==0)=true:=a8;go_enter func79,ntmps79;go_wp2;go_ret;exact ⟨a7,rfl⟩
   ·have F:Hid (bq K=false):=(by show bq K=false;simp [bq,d]);have g:((K:Int)%4096==0)=false:=a8;go_enter func79,ntmps79;exact zz
  ·have F:Hid (bq K=false):=(by show bq K=false;simp [bq,c]);have f:decide ((K:Int)<=65536)=false:=a8;go_enter func79,ntmps79;exact zz
 ·have F:Hid (bq K=false):=(by show bq K=false;simp [bq,b]);have l:decide ((4096:Int)<=K)=false:=a8;go_enter func79,ntmps79;exact zz
theorem mg (w:World) (hn:K<=1048576) (F:0<=T) (G:T<=1099511627776) (d:w.ownsRow O 5 1 (.slice M K L) K (Y.map (Value.int .u8))): Calls prog 56 #[.slice M K L,.i T] w λe B=>e=.returned (.i (T+K)) /\ B.ownsRow O 5 1 (.slice M K L) K ((dC T K).map (Value.int .u8))/\w.grownBy B (Value.slice M K L).ownBlock:=by
 have s:Hid (Y.length=K):=by show Y.length=K;have:=d.1;simpa using this
 rcases d.2 with ⟨y,I⟩ | ⟨g,u,C,A,J,_⟩;·simp only [Value.slice.injEq] at y;obtain ⟨rfl,rfl,rfl⟩:=y;have t:Y=[]:=List.eq_nil_of_length_eq_zero s.out;subst t;go_enter func56,ntmps56;go_wp2;refine wp_loop_rounds 1 ?_;rw [rounds_succ];go_wp2;go_ret;exact ⟨bc,d,⟨rfl,rfl,rfl,Nat.le_refl _,λ_ _ _=>rfl⟩⟩
 ·simp only [Value.slice.injEq,true_and] at A;obtain ⟨rfl,rfl⟩:=A;have m:w.ownsRow O 5 1 (.slice (some ⟨g,0,none⟩) K L) K ((Mk Y T K 0).map (Value.int .u8)):=(by rw [ML];exact d);clear d;go_enter func56,ntmps56;go_wp2;go_loopw [1,5] (λc i wr=>∃ j:Nat,j<=K/\i=.i j/\c=.i (T+j)/\wr.ownsRow O 5 1 (.slice (some ⟨g,0,none⟩) K L) K ((Mk Y T K j).map (Value.int .u8))/\w.grownBy wr (some g))
   (λ_ i _=>K-(intOf i).toNat)
  case atStart=>exact ⟨0,Nat.zero_le _,rfl,bc,m,⟨rfl,rfl,rfl,Nat.le_refl _,λ_ _ _=>rfl⟩⟩
  case round =>
   obtain ⟨j,E,rfl,rfl,d,l⟩:=hrel;clear m;by_cases p:j<K
   ·have D:wr.frozen? ⟨g,j,none⟩=false:=d.frozenAt j;have f:=d.stored j (.int .u8 ((T+(j:Int))%256));obtain ⟨n,H⟩:∃ v,wr.cell? ⟨g,j,none⟩=some v:=(by rw [d.cellAt j ab];exact ⟨_,List.getElem?_eq_getElem (by rw [List.length_map,Po _ _ _ _ s.out E];exact p)⟩);rw [mX,Pq _ _ _ _ s.out p] at f;have o:w.grownBy (wr.setCell ⟨g,j,none⟩ (.int .u8 ((T+(j:Int))%256))) (some g):=
     ⟨f.2.os.trans l.os,f.2.tape.trans l.tape,f.2.output.trans l.output,Nat.le_trans l.size f.2.size,λb z q=>(f.2.block b (Nat.lt_of_lt_of_le z l.size) q).trans (l.block b z q)⟩
    have r:=f.1;clear f d;go_wp2;go_roundw;case rel=>exact ⟨j+1,ab,by go_num,by go_num,r,o⟩
    case measure=>simp [intOf];omega
   ·have:j=K:=by omega
    subst this;rw [Pn _ _ _ s.out] at d;go_wp2;go_ret;exact ⟨rfl,d,l⟩
theorem mh (w:World) (hn:K<=1048576) (g:0<=T) (l:T<=1099511627776) (hs:Sl .u8 w M (dC T K)): CE 59 #[.slice M K L,.i T] w (.i (T+K)):=by
 go_enter func59,ntmps59;go_wp2;go_loop [1,5] (λc i=>∃ j:Nat,j<=K/\i=.i j/\c=.i (T+j)) (λ_ i=>K-(intOf i).toNat);case atStart=>exact ⟨0,Nat.zero_le _,rfl,bc⟩
 case round =>
  obtain ⟨j,r,rfl,rfl⟩:=hrel;by_cases d:j<K
  ·obtain ⟨b,o,rfl,q,f⟩:=hs j (by rw [mA];exact d);rw [Gy T K j d] at f;have m:((T+(j:Int))%256 != (T+(j:Int))%256)=false:=bc;go_wp2;go_round;case rel=>exact ⟨j+1,ab,by go_num,by go_num⟩
   case measure=>simp [intOf];omega
  ·have:j=K:=by omega
   subst this;exact z0
theorem gG (w:World):CE 251 #[.i J] w (.bool (jr J)):=by
 rcases CN J with (rfl|rfl|rfl|rfl)|h;·go_enter func251,ntmps251;exact z0
 ·go_enter func251,ntmps251;exact z0
 ·go_enter func251,ntmps251;exact z0
 ·go_enter func251,ntmps251;exact z0
 ·have F:Hid (jr J=false):=Jg h;obtain ⟨c,d,f,g⟩:=h;go_enter func251,ntmps251;exact zz
def eR (n:Nat) (addr size:Int):Int:=if gU n addr size then addr-2147483648 else 0
theorem kO (w:World) (hn:K<=1048576) (t:0<=T) (p:T<=18446744073709551615): CE 248 #[.slice M K L,.u T,.i V] w (.tuple #[.i (eR K T V),.bool (gU K T V)]):=by
 cases j:bq K;·have b:Hid (gU K T V=false):=(by show gU K T V=false;simp [gU,j]);have d:Hid (eR K T V=0):=sp;go_enter func248,ntmps248;go_wp2_with (go_at_call 79;refine (fh _ _ _ _ hn).mono ?_;rintro e c ⟨rfl,rfl⟩);go_ret2;exact ⟨v9,rfl⟩
 ·have u:=gu j;cases g:jr V;·have b:Hid (gU K T V=false):=(by show gU K T V=false;simp [gU,g]);have d:Hid (eR K T V=0):=sp;go_enter func248,ntmps248;go_wp2_with (first | (go_at_call 79;refine (fh _ _ _ _ hn).mono ?_;rintro e c ⟨rfl,rfl⟩) | (go_at_call 251;refine (gG _ _).mono ?_;rintro e c ⟨rfl,rfl⟩));go_ret2;exact ⟨v9,rfl⟩
  ·have l:V=1\/V=2\/V=4\/V=8:=of_decide_eq_true g;have r:1<=V:=ab;have s:V<=8:=ab;clear l;by_cases f:T<2147483648;·have b:Hid (gU K T V=false):=kc;have d:Hid (eR K T V=0):=sp;have m:decide (T<2147483648)=true:=e9;go_enter func248,ntmps248;go_wp2_with (first | (go_at_call 79;refine (fh _ _ _ _ hn).mono ?_;rintro e c ⟨rfl,rfl⟩) | (go_at_call 251;refine (gG _ _).mono ?_;rintro e c ⟨rfl,rfl⟩));go_ret2;exact ⟨v9,rfl⟩
   ·have m:decide (T<2147483648)=false:=e9;by_cases q:T-2147483648+V<=K;·have b:Hid (gU K T V=true):=(by show gU K T V=true;simp [gU,j,g];omega);have d:Hid (eR K T V=T-2147483648):=(by show eR K T V=_;simp [eR,b.out]);have o:decide ((K:Int)-V<T-2147483648)=false:=a8;go_enter func248,ntmps248;go_wp2_with (first | (go_at_call 79;refine (fh _ _ _ _ hn).mono ?_;rintro e c ⟨rfl,rfl⟩) | (go_at_call 251;refine (gG _ _).mono ?_;rintro e c ⟨rfl,rfl⟩));go_ret2;exact ⟨v9,rfl⟩
    ·have b:Hid (gU K T V=false):=kc;have d:Hid (eR K T V=0):=sp;have o:decide ((K:Int)-V<T-2147483648)=true:=a8;go_enter func248,ntmps248;go_wp2_with (first | (go_at_call 79;refine (fh _ _ _ _ hn).mono ?_;rintro e c ⟨rfl,rfl⟩) | (go_at_call 251;refine (gG _ _).mono ?_;rintro e c ⟨rfl,rfl⟩));go_ret2;exact ⟨v9,rfl⟩
theorem tY (w:World) (hr:bq K=true) (g:jr V=true) (t:0<=T) (p:T<=18446744073709551615): CE 135 #[.slice M K L,.u T,.i V] w (.bool (gU K T V)):=by
 have u:=gu hr;have l:V=1\/V=2\/V=4\/V=8:=of_decide_eq_true g;have q:1<=V:=ab
 have r:V<=8:=ab
 clear l;by_cases b:2147483648<=T
 ·by_cases d:T-2147483648<K
  ·by_cases f:V<=K-(T-2147483648);·have c:Hid (gU K T V=true):=(by show gU K T V=true;simp [gU,hr,g];omega);have j:decide (2147483648<=T)=true:=i6;have m:decide (T-2147483648<(K:Int))=true:=ps;have o:decide (V<=(K:Int)-(T-2147483648))=true:=e9;go_enter func135,ntmps135;go_wp2;go_ret;exact ⟨by rw [c.out];rfl,rfl⟩
   ·have c:Hid (gU K T V=false):=kc;have j:decide (2147483648<=T)=true:=i6;have m:decide (T-2147483648<(K:Int))=true:=ps;have o:decide (V<=(K:Int)-(T-2147483648))=false:=e9;exact a00
  ·have c:Hid (gU K T V=false):=kc;have j:decide (2147483648<=T)=true:=i6;have m:decide (T-2147483648<(K:Int))=false:=ps;exact a00
 ·have c:Hid (gU K T V=false):=kc;have j:decide (2147483648<=T)=false:=i6;exact a00
theorem tZ (w:World) (hz:S.length=K) (hn:K<=1048576) (hs:Sl .u8 w M S) (p:∀ y ∈ S,(Lit.int .u8 y).wf=true) (u:1<=R) (hm:R<=8) (C:O+R<=K): CE 136 #[.slice M K L,.u (2147483648+(O:Int)),.i (R:Int)] w (.u (le S O R)):=by
 have q:Hid (S.length=K):=hz;have o:Hid (∀ y ∈ S,(Lit.int .u8 y).wf=true):=p;clear hz p;go_enter func136,ntmps136;go_wp2;go_loop [8,9] (λx i=>∃ j:Nat,j<=R/\i=.i ((j:Int)-1)/\x=.u (le S (O+j) (R-j))) (λ_ i=>(intOf i+1).toNat);case atStart=>exact ⟨R,Nat.le_refl _,rfl,by simp [le]⟩
 case round =>
  obtain ⟨j,D,rfl,rfl⟩:=hrel;by_cases t:1<=j
  ·obtain ⟨k,rfl⟩:∃ k,j=k+1:=⟨j-1,ab⟩;obtain ⟨b,z,rfl,B,s⟩:=hs (O+k) (by have:=q.out;omega);have g:=ja o.out (O+k);obtain ⟨x,d⟩:∃ x,x=S.getD (O+k) 0:=⟨_,rfl⟩;obtain ⟨y,c⟩:∃ y,y=le S (O+(k+1)) (R-(k+1)):=⟨_,rfl⟩;rw [<- d] at s g;rw [<- c];have l:=Ph S (ja o.out) (R-(k+1)) (O+(k+1)) ab;rw [<- c] at l;have zs:Hid (bits .or .u64 (y*256) x=le S (O+k) (R-k)):=(by show bits .or .u64 (y*256) x=le S (O+k) (R-k);rw [Pj y x l.1 l.2 g.1 g.2,show R-k=(R-(k+1))+1 from ab,le,d,c];rfl);clear d c;go_wp2;go_round;case rel=>exact ⟨k,ab,by go_num,by rw [<- zs.out]⟩
   case measure=>simp [intOf]
  ·have r:j=0:=ab;subst r;exact z0
theorem Pu (e f b6 g:Int) (w:World):(Instr.index 281 (.agg #[.int .u8 J,.int .u8 T,.int .u8 V,.int .u8 Z,.int .u8 e,.int .u8 f,.int .u8 b6,.int .u8 g]) (.i 0)).run prog w=.ok (.int .u8 J) w:=by kernel_rfl
theorem Pv (e f b6 g:Int) (w:World):(Instr.index 281 (.agg #[.int .u8 J,.int .u8 T,.int .u8 V,.int .u8 Z,.int .u8 e,.int .u8 f,.int .u8 b6,.int .u8 g]) (.i 1)).run prog w=.ok (.int .u8 T) w:=by kernel_rfl
theorem Pw (e f b6 g:Int) (w:World):(Instr.index 281 (.agg #[.int .u8 J,.int .u8 T,.int .u8 V,.int .u8 Z,.int .u8 e,.int .u8 f,.int .u8 b6,.int .u8 g]) (.i 2)).run prog w=.ok (.int .u8 V) w:=by kernel_rfl
theorem Px (e f b6 g:Int) (w:World):(Instr.index 281 (.agg #[.int .u8 J,.int .u8 T,.int .u8 V,.int .u8 Z,.int .u8 e,.int .u8 f,.int .u8 b6,.int .u8 g]) (.i 3)).run prog w=.ok (.int .u8 Z) w:=by kernel_rfl
theorem Pz (a f b6 g:Int) (w:World):(Instr.index 281 (.agg #[.int .u8 J,.int .u8 T,.int .u8 V,.int .u8 Z,.int .u8 a,.int .u8 f,.int .u8 b6,.int .u8 g]) (.i 4)).run prog w=.ok (.int .u8 a) w:=by kernel_rfl
theorem PA (f a b6 g:Int) (w:World):(Instr.index 281 (.agg #[.int .u8 J,.int .u8 T,.int .u8 V,.int .u8 Z,.int .u8 f,.int .u8 a,.int .u8 b6,.int .u8 g]) (.i 5)).run prog w=.ok (.int .u8 a) w:=by kernel_rfl
theorem PC (e f b6 g:Int) (w:World):(Instr.index 281 (.agg #[.int .u8 J,.int .u8 T,.int .u8 V,.int .u8 Z,.int .u8 e,.int .u8 f,.int .u8 b6,.int .u8 g]) (.i 6)).run prog w=.ok (.int .u8 b6) w:=by kernel_rfl
theorem PD (f g b6 a:Int) (w:World):(Instr.index 281 (.agg #[.int .u8 J,.int .u8 T,.int .u8 V,.int .u8 Z,.int .u8 f,.int .u8 g,.int .u8 b6,.int .u8 a]) (.i 7)).run prog w=.ok (.int .u8 a) w:=by kernel_rfl
theorem Sm (e f b6 g:Int) (w:World) (k:Nat) (hk:k<8): (Instr.index 281 (.agg #[.int .u8 J,.int .u8 T,.int .u8 V,.int .u8 Z,.int .u8 e,.int .u8 f,.int .u8 b6,.int .u8 g]) (.i (k:Int))).run prog w=.ok (.int .u8 ([J,T,V,Z,e,f,b6,g].getD k 0)) w:=by
 match k,hk with
 | 0,_=>exact Pu J T V Z e f b6 g w
 | 1,_=>exact Pv J T V Z e f b6 g w
 | 2,_=>exact Pw J T V Z e f b6 g w
 | 3,_=>exact Px J T V Z e f b6 g w
 | 4,_=>exact Pz J T V Z e f b6 g w
 | 5,_=>exact PA J T V Z e f b6 g w
 | 6,_=>exact PC J T V Z e f b6 g w
 | 7,_=>exact PD J T V Z e f b6 g w
theorem t9 (l m b6 o:Int) (w:World) (hb:I=[J,T,V,Z,l,m,b6,o]) (r:∀ i,0<=I.getD i 0/\I.getD i 0<=255): CB 249 #[.agg #[.int .u8 J,.int .u8 T,.int .u8 V,.int .u8 Z,.int .u8 l,.int .u8 m,.int .u8 b6,.int .u8 o]] w (.u (le I 0 8)):=by
 have s:Hid (I=[J,T,V,Z,l,m,b6,o]):=hb;have q:Hid (∀ i,0<=I.getD i 0/\I.getD i 0<=255):=r;clear hb r;go_enter func249,ntmps249;go_wp2;go_loop [3,7] (λx i=>∃ k:Nat,k<=8/\i=.i (k:Int)/\x=.u (le I 0 k)) (λ_ i=>8-(intOf i).toNat);case atStart=>exact ⟨0,ab,rfl,rfl⟩
 case round =>
  obtain ⟨k,C,rfl,rfl⟩:=hrel;by_cases p:k<8
  ·obtain ⟨x,b⟩:∃ x,x=I.getD k 0:=⟨_,rfl⟩;obtain ⟨y,c⟩:∃ y,y=le I 0 k:=⟨_,rfl⟩;have z:=q.out k;have A:=xc I q.out k 0;rw [<- b] at z;rw [<- c] at A ⊢;have u:∀ w,(Instr.index 281 (.agg #[.int .u8 J,.int .u8 T,.int .u8 V,.int .u8 Z,.int .u8 l,.int .u8 m,.int .u8 b6,.int .u8 o]) (.i (k:Int))).run prog w=.ok (.int .u8 x) w:=(by intro w;rw [b,s.out];exact Sm J T V Z l m b6 o w k p);have S:Hid (bits .or .u64 y (Uz.wrap (x*2^(8*k)))=le I 0 (k+1)):=(by show bits .or .u64 y (Uz.wrap (x*2^(8*k)))=le I 0 (k+1);have:=Gx I q.out 0 k p;rw [Nat.zero_add] at this;rw [b,c];exact this);clear b c;go_wp2;go_round;case rel=>exact ⟨k+1,ab,by go_num,by rw [S.out]⟩
   case measure=>simp [intOf];omega
  ·have t:k=8:=ab;subst t;go_wp2;go_ret;exact ⟨rfl,bal _ _⟩
theorem pR (w:World) (c:1<=K) (hm:K<=8) (b:0<=J) (hx:J<18446744073709551616): CE 250 #[.u J,.i (K:Int)] w (.u (J%256^K)):=by have F:Hid (Uz.wrap (J*2^(64-8*K))/2^(64-8*K)=J%256^K):=xd J K c hm b;go_enter func250,ntmps250;go_wp2;go_ret;exact ⟨by rw [<- F.out];rfl,rfl⟩
def mF (zs:List Int) (n:Nat) (addr size:Int):Int:=if gU n addr size then le zs (addr-2147483648).toNat size.toNat else 0
theorem OR (w:World) (hz:S.length=O) (u:L+8<=O) (hs:Sl .u8 w (some ⟨K,0,none⟩) S) (r:∀ y ∈ S,(Lit.int .u8 y).wf=true): ∃ d f h j k l m o:Int,∃ B:{bs:List Int // bs=[d,f,h,j,k,l,m,o]}, w.cell? ⟨K,L,none⟩=some (.int .u8 d)/\w.cell? ⟨K,L+1,none⟩=some (.int .u8 f)/\w.cell? ⟨K,L+2,none⟩=some (.int .u8 h)/\w.cell? ⟨K,L+3,none⟩=some (.int .u8 j) /\ w.cell? ⟨K,L+4,none⟩=some (.int .u8 k)/\w.cell? ⟨K,L+5,none⟩=some (.int .u8 l)/\w.cell? ⟨K,L+6,none⟩=some (.int .u8 m)/\w.cell? ⟨K,L+7,none⟩=some (.int .u8 o) /\ Hid (∀ i,0<=B.1.getD i 0/\B.1.getD i 0<=255)/\Hid (le B.1 0 8=le S L 8):=by
 have c:∀ i,i<8->w.cell? ⟨K,L+i,none⟩=some (.int .u8 (S.getD (L+i) 0)):=by intro i t;obtain ⟨b,s,e,_,q⟩:=hs (L+i) ab;simp only [Option.some.injEq,Addr.mk.injEq,and_true] at e;obtain ⟨rfl,rfl⟩:=e;rw [Nat.zero_add] at q;exact q
 have a:=ja r;refine ⟨_,_,_,_,_,_,_,_,⟨[S.getD L 0,S.getD (L+1) 0,S.getD (L+2) 0,S.getD (L+3) 0,S.getD (L+4) 0,S.getD (L+5) 0,S.getD (L+6) 0,S.getD (L+7) 0],rfl⟩,c 0 ab,c 1 ab,c 2 ab,c 3 ab,c 4 ab,c 5 ab,c 6 ab,c 7 ab,?_,?_⟩
 ·intro i;match i with
  | 0=>exact a L
  | 1=>exact a (L+1)
  | 2=>exact a (L+2)
  | 3=>exact a (L+3)
  | 4=>exact a (L+4)
  | 5=>exact a (L+5)
  | 6=>exact a (L+6)
  | 7=>exact a (L+7)
  | i+8=>simp
 ·show le [S.getD L 0,S.getD (L+1) 0,S.getD (L+2) 0,S.getD (L+3) 0,S.getD (L+4) 0,S.getD (L+5) 0,S.getD (L+6) 0,S.getD (L+7) 0] 0 8=le S L 8;rfl
theorem pS (w:World) (hz:S.length=L) (hn:L<=1048576) (hs:Sl .u8 w (some ⟨K,0,none⟩) S) (Q:∀ y ∈ S,(Lit.int .u8 y).wf=true) (cap:L<=O) (I:O<=9223372036854775807) (G:0<=T) (j:T<=18446744073709551615): CB 208 #[.slice (some ⟨K,0,none⟩) L O,.u T,.i V] w (.tuple #[.u (mF S L T V),.bool (gU L T V)]):=by
 have g:Hid (S.length=L):=hz;have c:Hid (∀ y ∈ S,(Lit.int .u8 y).wf=true):=Q;clear hz Q;cases b:gU L T V;·have q:Hid (mF S L T V=0):=(by show mF S L T V=0;simp [mF,b]);go_enter func208,ntmps208;go_wp2_with (go_at_call 248;refine (kO _ _ _ _ _ _ hn G j).mono ?_;rintro e r ⟨rfl,rfl⟩);go_ret2;exact ⟨by rw [q.out];rfl,Below.refl _ _⟩
 ·obtain ⟨_,_,hb1,hb2,hs1,hs2,hn1,hn2⟩:=j8 b;obtain ⟨f,hf⟩:∃ f:Nat,T=2147483648+(f:Int):=⟨(T-2147483648).toNat,ab⟩;obtain ⟨m,hm⟩:∃ m:Nat,V=(m:Int):=⟨V.toNat,ab⟩;subst hf hm;have q:Hid (mF S L (2147483648+(f:Int)) (m:Int)=le S f m):=(by show mF S L (2147483648+(f:Int)) (m:Int)=le S f m;simp only [mF,b,if_true];rw [show (2147483648+(f:Int)-2147483648).toNat=f from ab,Int.toNat_natCast]);have M:Hid (eR L (2147483648+(f:Int)) (m:Int)=f):=(by show eR L (2147483648+(f:Int)) (m:Int)=f;simp only [eR,b,if_true];omega);by_cases hle:f<=L-8;·have H:∀ w,(Instr.arrayAt 281 (.slice (some ⟨K,f,none⟩) 8 (O-f))).run prog w=.ok (.p K f) w:=λw=>run_arrayAt w 281 _ 8 _ 8 (O-f) underlying281 ab;obtain ⟨s,t,u,z,A,C,E,F,B,zs,addr,U,size,W,X,Y,Z,l,n⟩:=OR K f L S w g.out ab hs c.out;go_enter func208,ntmps208;go_wp2_with (first | (go_at_call 248;refine (kO _ _ _ _ _ _ hn G j).mono ?_;rw [M.out];rintro e r ⟨rfl,rfl⟩) | (go_at_call 249;refine (t9 B.1 s t u z A C E F _ B.2 l.out).mono ?_;rw [n.out];rintro e w1 ⟨rfl,o⟩));have R:Hid (le S f 8%256^m=le S f m):=(by have:=Jb S (ja c.out) f m (8-m);rw [show m+(8-m)=8 from ab] at this;exact this);have N:=tN S (ja c.out) 8 f ab;refine (pR (le S f 8) m _ ab ab N.1 N.2).mono ?_;rw [R.out];rintro e w2 ⟨rfl,rfl⟩;go_wp2_with fail;go_ret2;exact ⟨by rw [q.out];rfl,o⟩
  ·obtain ⟨p,hp⟩:∃ p,L=p+8:=⟨L-8,ab⟩;obtain ⟨d,hd⟩:∃ d,f=p+d:=⟨f-p,ab⟩;subst hp hd;have H:∀ w,(Instr.arrayAt 281 (.slice (some ⟨K,p,none⟩) 8 (O-p))).run prog w=.ok (.p K p) w:=λw=>run_arrayAt w 281 _ 8 _ 8 (O-p) underlying281 ab;obtain ⟨s,t,u,z,A,C,E,F,B,zs,addr,U,size,W,X,Y,Z,l,n⟩:=OR K p (p+8) S w g.out ab hs c.out;have P:gU (p+8) (2147483648+((p:Int)+(d:Int))) (m:Int)=true:=(by rw [<- Int.natCast_add];exact b);have D:Hid (le S p 8/2^(8*d)=le S (p+d) (8-d)):=(by show le S p 8/2^(8*d)=le S (p+d) (8-d);have:=Pi S (ja c.out) p d (8-d);rw [show d+(8-d)=8 from ab] at this;rw [tO];exact this);have R:Hid (le S (p+d) (8-d)%256^m=le S (p+d) m):=(by have:=Jb S (ja c.out) (p+d) m (8-d-m);rw [show m+(8-d-m)=8-d from ab] at this;exact this);have J:Hid (0<=le S (p+d) (8-d)/\le S (p+d) (8-d)<18446744073709551616):=tN S (ja c.out) (8-d) (p+d) ab;go_enter func208,ntmps208;go_wp2_with (first | (go_at_call 248;refine (kO _ _ _ _ _ _ hn G j).mono ?_;rw [M.out];rintro e r ⟨rfl,rfl⟩) | (go_at_call 249;refine (t9 B.1 s t u z A C E F _ B.2 l.out).mono ?_;rw [n.out];rintro e w1 ⟨rfl,o⟩));rw [D.out];refine (pR (le S (p+d) (8-d)) m _ ab ab J.out.1 J.out.2).mono ?_;rw [R.out];rintro e w2 ⟨rfl,rfl⟩;go_wp2_with fail;go_ret2;exact ⟨by rw [q.out];rfl,o⟩
theorem GC (m base:Nat) (zs:List Int) (x:Int) (w:World) (hn:L<=1048576) (hm:m<=8) (E:R+m<=L) (q:0<=x) (s:x<=18446744073709551615) (c:w.ownsRow base 5 1 (.slice (some ⟨K,0,none⟩) L O) L (zs.map (Value.int .u8))): Calls prog 137 #[.slice (some ⟨K,0,none⟩) L O,.u (2147483648+(R:Int)),.i (m:Int),.u x] w λe z=>e=.returned (.tuple #[]) /\ z.ownsRow base 5 1 (.slice (some ⟨K,0,none⟩) L O) L ((lP zs R x m).map (Value.int .u8))/\w.grownBy z (some K):=by
 have A:Hid (zs.length=L):=by show zs.length=L;have:=c.1;simpa using this
 go_enter func137,ntmps137;go_wp2;go_loopw [3,9] (λy i wr=>∃ j:Nat,j<=m/\i=.i (j:Int)/\y=.u (x/256^j)/\wr.ownsRow base 5 1 (.slice (some ⟨K,0,none⟩) L O) L ((lP zs R x j).map (Value.int .u8))/\w.grownBy wr (some K))
  (λ_ i _=>m-(intOf i).toNat)
 case atStart=>exact ⟨0,Nat.zero_le _,rfl,bc,c,pC _ _⟩
 case round =>
  obtain ⟨j,F,rfl,rfl,b,p⟩:=hrel;clear c;by_cases C:j<m
  ·have B:wr.frozen? ⟨K,R+j,none⟩=false:=b.frozenAt (R+j);have d:=b.stored (R+j) (.int .u8 (x/256^j%256));obtain ⟨G,D⟩:∃ v,wr.cell? ⟨K,R+j,none⟩=some v:=(by rw [b.cellAt (R+j) ab];exact ⟨_,List.getElem?_eq_getElem (by rw [List.length_map,kI,A.out];omega)⟩);rw [mX] at d;have o:(wr.setCell ⟨K,R+j,none⟩ (.int .u8 (x/256^j%256))).ownsRow base 5 1 (.slice (some ⟨K,0,none⟩) L O) L ((lP zs R x (j+1)).map (Value.int .u8)):=d.1;have l:=bH p d.2;have N:Hid (x/256^(j+1)=x/256^j/256):=(by show x/256^(j+1)=x/256^j/256;rw [Int.pow_succ,Int.ediv_ediv_of_nonneg (Int.le_of_lt (Int.pow_pos ab))]);have t:0<=x/256^j:=Int.ediv_nonneg q (Int.le_of_lt (Int.pow_pos ab));have u:x/256^j<=18446744073709551615:=Int.le_trans (Int.ediv_le_self _ q) s;obtain ⟨y,r⟩:∃ y,y=x/256^j:=⟨_,rfl⟩;rw [<- r] at o l t u N ⊢;clear d b r;go_wp2;go_roundw;case rel=>exact ⟨j+1,ab,by go_num,by rw [N.out],o,l⟩
   case measure=>simp [intOf];omega
  ·have:j=m:=by omega
   subst this;go_wp2;go_end0;exact ⟨rfl,b,p⟩
def iR (zs:List Int) (n:Nat) (addr size x:Int):Nat:=(ks zs n addr size x).length
theorem MP (w:World) (base:Nat):w.ownsRow base 5 1 (.slice none 0 0) 0 (([]:List Int).map (Value.int .u8)):=World.ownsRow_nil w base 5 1
theorem vU (w:World) (hz:S.length=K) (hn:K<=1048576) (hs:Sl .u8 w M S) (R:0<=T) (A:T<=18446744073709551615) (cap:0<=Z) (hx1:Z<=18446744073709551615): Calls prog 214 #[.slice M K L,.u T,.i V,.u Z] w λe F=>∃ (Q:Option Addr) (c:Nat),e=.returned (.tuple #[.slice Q (iR S K T V Z) c,.bool (gU K T V)]) /\ F.ownsRow w.heap.size 5 1 (.slice Q (iR S K T V Z) c) (iR S K T V Z) ((ks S K T V Z).map (Value.int .u8))/\Bw w F:=by
 have E:Hid (S.length=K):=hz;clear hz;cases q:gU K T V;·have z:Hid (ks S K T V Z=[]):=(by show ks S K T V Z=[];simp [ks,q]);have G:Hid (iR S K T V Z=0):=(by show iR S K T V Z=0;simp [iR,z.out]);go_enter func214,ntmps214;go_wp2_with (go_at_call 248;refine (kO _ _ _ _ _ _ hn R A).mono ?_;rintro e F ⟨rfl,rfl⟩);go_ret2;rw [z.out,G.out];exact ⟨_,_,rfl,MP _ _,Below.refl _ _⟩
 ·obtain ⟨hr,hsz,W,X,hs1,hs2,hn1,hn2⟩:=j8 q;obtain ⟨f,Y⟩:∃ f:Nat,T=2147483648+(f:Int):=⟨(T-2147483648).toNat,ab⟩;obtain ⟨m,hm⟩:∃ m:Nat,V=(m:Int):=⟨V.toNat,ab⟩;subst Y hm;have z:Hid (ks S K (2147483648+(f:Int)) (m:Int) Z=lP S f Z m):=(by show ks S K (2147483648+(f:Int)) (m:Int) Z=lP S f Z m;simp only [ks,q,if_true];rw [show (2147483648+(f:Int)-2147483648).toNat=f from ab,Int.toNat_natCast]);have G:Hid (iR S K (2147483648+(f:Int)) (m:Int) Z=K):=(by show iR S K (2147483648+(f:Int)) (m:Int) Z=K;rw [iR,z.out,kI,E.out]);have size:Hid (eR K (2147483648+(f:Int)) (m:Int)=f):=(by show eR K (2147483648+(f:Int)) (m:Int)=f;simp only [eR,q,if_true];omega);obtain ⟨b,P,rfl,zs,I⟩:=hs 0 (by have:=E.out;omega);clear I;obtain ⟨U,addr,N,D,O⟩:=info_parts info5;have C:(prog.info? 5).map (·.size)=some 1:=(by rw [addr];simp [D]);have B:U.bytes*K<=281474976710656:=(by rw [O];omega);have H:K<=maxLen:=fb;go_enter func214,ntmps214;go_wp2_with (first | (go_at_call 248;refine (kO _ _ _ _ _ _ hn R A).mono ?_;rw [size.out];rintro e F ⟨rfl,J⟩;have n:=J.symm;subst n) | (at_make;refine wpList_make_full _ rfl (.tmp 24) (.tmp 24) 24 rfl w.heap.size 5 U (.int .u8 0) 1 underlying24 addr N D .i64 .i64 _ _ K rfl rfl rfl rfl B H (Nat.le_refl _) ?_;intro w1 s g) | (refine mE rfl (.tmp 26) (.tmp 27) 24 rfl 5 underlying24 C .u8 w.heap.size w.heap.size K K b P L S _ rfl rfl s (hs.below ((Below.refl _ _).grown g (Nat.le_refl _) v8)) E.out ?_;intro w2 p l));have o:Bw w w2:=Below.grown ((Below.refl _ _).grown g (Nat.le_refl _) v8) l g.size (by intro k h;cases h;exact Nat.le_refl _);clear s g l hs;go_loopw [30] (λi wr=>∃ j:Nat,j<=m/\i=.i (j:Int)/\wr.ownsRow w.heap.size 5 1 (.slice (some ⟨w.heap.size,0,none⟩) K K) K ((lP S f Z j).map (Value.int .u8))/\Bw w wr)
   (λi _=>m-(intOf i).toNat)
  case atStart=>exact ⟨0,Nat.zero_le _,rfl,p,o⟩
  case round =>
   obtain ⟨j,hj,rfl,d,r⟩:=hrel;clear p o;by_cases hlt:j<m
   ·have x:wr.frozen? ⟨w.heap.size,f+j,none⟩=false:=d.frozenAt (f+j);have y:=(d.stored (f+j) (.int .u8 (Z/256^j%256))).1;obtain ⟨v3,hv3⟩:∃ v,wr.cell? ⟨w.heap.size,f+j,none⟩=some v:=(by rw [d.cellAt (f+j) ab];exact ⟨_,List.getElem?_eq_getElem (by rw [List.length_map,kI,E.out];omega)⟩);rw [mX] at y;have t:(wr.setCell ⟨w.heap.size,f+j,none⟩ (.int .u8 (Z/256^j%256))).ownsRow w.heap.size 5 1 (.slice (some ⟨w.heap.size,0,none⟩) K K) K ((lP S f Z (j+1)).map (Value.int .u8)):=y;have u:Bw w (wr.setCell ⟨w.heap.size,f+j,none⟩ (.int .u8 (Z/256^j%256))):=r.setCell (Nat.le_refl _) _;have a:0<=Z/256^j:=Int.ediv_nonneg cap (Int.le_of_lt (Int.pow_pos ab));clear y d;rw [<- tO] at t u a;go_wp2;go_roundw;case rel=>exact ⟨j+1,ab,by go_num,t,u⟩
    case measure=>simp [intOf];omega
   ·have:j=m:=by omega
    subst this;go_wp2;go_ret2;rw [G.out,z.out];exact ⟨_,_,rfl,d,r⟩
structure FRow where
 t:TypeId
 v:Value
 n:Nat
 xs:List Value
structure aZ (B E:Nat) (w:World) (L:List FRow):Prop where
 own:∀ r ∈ L,w.ownsRow B r.t 1 r.v r.n r.xs
 hi:∀ r ∈ L,∀ k,r.v.ownBlock=some k->k<E
 ne:L.Pairwise (λr s=>∀ k,r.v.ownBlock=some k->s.v.ownBlock≠some k)
structure nR (B E:Nat) (w w':World):Prop where
 os:w'.os=w.os
 tape:w'.tape=w.tape
 output:w'.output=w.output
 size:w.heap.size<=w'.heap.size
 block:∀ k,k<w.heap.size->(k<B\/E<=k)->w'.heap[k]?=w.heap[k]?
theorem nR.refl (w:World):nR K L w w:=⟨rfl,rfl,rfl,Nat.le_refl _,λ_ _ _=>rfl⟩
theorem nR.below (h:nR B E a n) (b:g<=B) (d:g<=a.heap.size):Below g a n:=⟨h.os,h.tape,h.output,h.size,λk c=>h.block k ab (.inl ab)⟩
theorem nR.of_grown (h:a.grownBy n z) (hr:∀ k,z=some k->B<=k/\k<E):nR B E a n :=
 ⟨h.os,h.tape,h.output,h.size,λk w b=>h.block k w (λe=>by have:=hr k e.symm;omega)⟩
theorem ew {w':World} (h:a.ownsRow B c 1 t g r) (hk:∀ k,t.ownBlock=some k->w'.heap[k]?=a.heap[k]?):w'.ownsRow B c 1 t g r:=by
 refine ⟨h.1,?_⟩;rcases h.2 with b|⟨n,cap,w,v,b,d,e⟩;·exact .inl b
 ·exact .inr ⟨n,cap,w,v,b,(hk n (by rw [v];rfl)).trans d,e⟩
theorem aZ.mono {L:List FRow} (h:aZ B E a L) (hk:∀ k,B<=k->k<E->k<a.heap.size->n.heap[k]?=a.heap[k]?):aZ B E n L :=
 ⟨λr w=>ew (h.own r w) (λk e=>hk k ((h.own r w).lt k e).1 (h.hi r w k e) ((h.own r w).lt k e).2),h.hi,h.ne⟩
theorem aZ.below {L:List FRow} (h:aZ B E a L) (hb:Bw a n):aZ B E n L:=h.mono λk _ _ w=>hb.block k w
theorem aZ.keep {L:List FRow} (h:aZ B E a L) (hk:nR g b a n) (hd:E<=g\/b<=B):aZ B E n L:=h.mono λk d e c=>hk.block k c ab
theorem aZ.low {B B':Nat} {L:List FRow} (h:aZ B E a L) (hb:B'<=B) (he:E<=b):aZ B' b a L :=
 ⟨λr w=>dG (h.own r w) hb,λr w k e=>Nat.lt_of_lt_of_le (h.hi r w k e) he,h.ne⟩
theorem aZ.set {L:List FRow} (h:aZ B E a L) (p:Addr) (v:Value) (d:p.block<B\/E<=p.block):aZ B E (a.setCell p v) L:=h.mono λk w b c=>Below.heap_setCell a p v k ab
theorem aZ.nil (w:World):aZ K L w []:=⟨λr a=>(nomatch a),λr a=>(nomatch a),List.Pairwise.nil⟩
theorem aZ.cons {L:List FRow} (h:aZ B E a L) (r:FRow) (base b:Nat) (c:a.ownsRow base r.t 1 r.v r.n r.xs) (g:E<=base) (f:B<=base) (i:a.heap.size<=b) (j:E<=b):aZ B b a (r::L):=by
 refine ⟨λs w=>?_,λs w k e=>?_,List.pairwise_cons.2 ⟨λs w k e d=>?_,h.ne⟩⟩
 ·rcases List.mem_cons.1 w with rfl|w;·exact dG c f
  ·exact h.own s w
 ·rcases List.mem_cons.1 w with rfl|w;·have:=(c.lt k e).2;omega
  ·have:=h.hi s w k e;omega
 ·have:=(c.lt k e).1;have:=h.hi s w k d;omega
theorem aZ.snoc {L:List FRow} (h:aZ B E a L) (r:FRow) (base b:Nat) (m:a.ownsRow base r.t 1 r.v r.n r.xs) (g:E<=base) (i:B<=base) (j:a.heap.size<=b) (l:E<=b):aZ B b a (L++[r]):=by
 have c:=h.cons r base b m g i j l;refine ⟨λs w=>c.own s ?_,λs w=>c.hi s ?_,List.pairwise_append.2 ⟨h.ne,List.pairwise_singleton _ _,λs w q d k e f=>?_⟩⟩
 ·rcases List.mem_append.1 w with w|w;·exact List.mem_cons_of_mem _ w
  ·rw [List.mem_singleton.1 w];exact List.mem_cons_self ..
 ·rcases List.mem_append.1 w with w|w;·exact List.mem_cons_of_mem _ w
  ·rw [List.mem_singleton.1 w];exact List.mem_cons_self ..
 ·simp only [List.mem_singleton] at d;subst d;exact (List.pairwise_cons.1 c.ne).1 s w k f e
theorem aZ.mark {L1 L2:List FRow} {r:FRow} (h:aZ B E a (L1++r::L2)) (i:a.grownBy n r.v.ownBlock) (xs:List Value) (l:n.ownsRow B r.t 1 r.v r.n xs):aZ B E n (L1++⟨r.t,r.v,r.n,xs⟩::L2)/\nR B E a n:=by
 have b:=List.pairwise_append.1 h.ne;have c:=List.pairwise_cons.1 b.2.1;have kept:∀ s ∈ L1++r::L2,(∀ k,s.v.ownBlock=some k->r.v.ownBlock≠some k)->n.ownsRow B s.t 1 s.v s.n s.xs:=λs w j=>ew (h.own s w) (λk e=>i.block k ((h.own s w).lt k e).2 (λd=>j k e d.symm));have g:r ∈ L1++r::L2:=bc
 refine ⟨⟨λs w=>?_,λs w k e=>?_,?_⟩,nR.of_grown i λk e=>⟨((h.own r g).lt k e).1,h.hi r g k e⟩⟩
 ·rcases List.mem_append.1 w with w | w;·exact kept s (List.mem_append_left _ w) (λk e=>b.2.2 s w r (List.mem_cons_self ..) k e)
  ·rcases List.mem_cons.1 w with rfl|w;·exact l
   ·exact kept s (List.mem_append_right _ (List.mem_cons_of_mem _ w)) (λk e d=>c.1 s w k d e)
 ·rcases List.mem_append.1 w with w|w;·exact h.hi s (List.mem_append_left _ w) k e
  ·rcases List.mem_cons.1 w with rfl|w;·exact h.hi r g k e
   ·exact h.hi s (List.mem_append_right _ (List.mem_cons_of_mem _ w)) k e
 ·refine List.pairwise_append.2 ⟨b.1,List.pairwise_cons.2 ⟨λs w k e=>c.1 s w k e,c.2⟩,λs w q f k e=>?_⟩;rcases List.mem_cons.1 f with rfl | f;·exact b.2.2 s w r (List.mem_cons_self ..) k e
  ·exact b.2.2 s w q (List.mem_cons_of_mem _ f) k e
def aw (a:Option Addr) (n c:Nat) (xs:List Int):FRow:=⟨5,.slice a n c,n,xs.map (Value.int .u8)⟩
def fC (a:Option Addr) (e c:Nat) (xs:List Int) (b:Option Addr) (f d:Nat) (ys:List Int):List FRow:=[aw a e c xs,aw b f d ys]
theorem aZ.in_ (h:aZ B E a (fC W g b d l k e f)):Sl .u8 a W d:=gj (h.own (aw W g b d) x9)
theorem aZ.out_ (h:aZ B E a (fC W g e d l k b f)):Sl .u8 a l f:=gj (h.own (aw l k b f) x9)
theorem ak {p:Prop} (h:p):Hid p:=h
theorem aB (hb:Bw a n) {g:Nat} {o:Obj} (h:a.heap[g]?=some o):n.heap[g]?=some o:=by rw [hb.block g (Array.getElem?_eq_some_iff.1 h).1];exact h
theorem aH (h:a.heap[g]?=some (.cells #[t,j,m,o,q,x] c (0,0))):a.cell? ⟨g,0,none⟩=some t/\a.cell? ⟨g,1,none⟩=some j/\a.cell? ⟨g,2,none⟩=some m/\a.cell? ⟨g,3,none⟩=some o/\a.cell? ⟨g,4,none⟩=some q/\a.cell? ⟨g,5,none⟩=some x:=by refine ⟨?_,?_,?_,?_,?_,?_⟩<;>simp [World.cell?,h]
theorem dh (h:a.heap[g]?=some (.cells y c (0,0))) (i:Nat):a.frozen? ⟨g,i,none⟩=false:=by simp [World.frozen?,h]
theorem kY (h:a.heap[g]?=some (.cells y c (0,0))):a.frozen? ⟨g,0,none⟩=false/\a.frozen? ⟨g,1,none⟩=false/\a.frozen? ⟨g,2,none⟩=false/\a.frozen? ⟨g,3,none⟩=false/\a.frozen? ⟨g,4,none⟩=false/\a.frozen? ⟨g,5,none⟩=false :=
 ⟨dh h 0,dh h 1,dh h 2,dh h 3,dh h 4,dh h 5⟩
theorem jH (hb:Below ((w.alloc o1).alloc o2).heap.size ((w.alloc o1).alloc o2) a):a.heap[w.heap.size]?=some o1/\a.heap[w.heap.size+1]?=some o2:=by have w2:=heap_alloc_new (w.alloc o1) o2;rw [World.size_alloc] at w2;exact ⟨aB hb ((Below.heap_alloc _ _ _ bv).trans (heap_alloc_new w o1)),aB hb w2⟩
theorem EP {o3:Obj} (hb:Below (((w.alloc o1).alloc o2).alloc o3).heap.size (((w.alloc o1).alloc o2).alloc o3) a): a.heap[w.heap.size]?=some o1/\a.heap[w.heap.size+1]?=some o2/\a.heap[w.heap.size+1+1]?=some o3:=by have w2:=heap_alloc_new ((w.alloc o1).alloc o2) o3;rw [World.size_alloc,World.size_alloc] at w2;have h:=jH (w:=w) (o1:=o1) (o2:=o2) (Below.refl _ ((w.alloc o1).alloc o2));exact ⟨aB hb ((Below.heap_alloc _ _ _ bv).trans h.1),aB hb ((Below.heap_alloc _ _ _ bv).trans h.2),aB hb w2⟩
theorem bC (h:a.heap[g]?=some (.cells y c p)) (i:Nat) (v:Value): (a.setCell ⟨g,i,none⟩ v).heap[g]?=some (.cells (y.setIfInBounds i v) c p):=by simp [World.setCell,Array.getElem?_modify,h]
theorem dS {o:Obj} (h:a.heap[g]?=some o) (p:Addr) (v:Value) (w:g≠p.block):(a.setCell p v).heap[g]?=some o:=(Below.heap_setCell a p v g w).trans h
theorem aO (w:World) (p:Addr) (v:Value):(w.setCell p v).heap.size=w.heap.size:=by simp [World.setCell]
theorem aT:(prog.info? 30).map (·.size)=some 6:=by kernel_rfl
def PE (w:World) (g:Nat) (a b c x3 d e:Value):World:=(((((w.setCell ⟨g,0,none⟩ a).setCell ⟨g,1,none⟩ b).setCell ⟨g,2,none⟩ c).setCell ⟨g,3,none⟩ x3).setCell ⟨g,4,none⟩ d).setCell ⟨g,5,none⟩ e
theorem eH (h:a.heap[g]?=some (.cells #[t,j,m,o,q,x] c p)) (i w k x3 l b:Value):(PE a g i w k x3 l b).heap[g]?=some (.cells #[i,w,k,x3,l,b] c p):=
 bC (bC (bC (bC (bC (bC h 0 i) 1 w) 2 k) 3 x3) 4 l) 5 b
theorem cK (h:Below B a n) {g:Nat} (v:B<=g) (b c d x3 e f:Value):Below B a (PE n g b c d x3 e f):=
 (((((h.setCell (by exact v) b).setCell (by exact v) c).setCell (by exact v) d).setCell (by exact v) x3).setCell (by exact v) e).setCell (by exact v) f
theorem aZ.put6 {L:List FRow} (h:aZ B E a L) (g:Nat) (w:g<B\/E<=g) (b c d x3 e f:Value):aZ B E (PE a g b c d x3 e f) L :=
 (((((h.set ⟨g,0,none⟩ b w).set ⟨g,1,none⟩ c w).set ⟨g,2,none⟩ d w).set ⟨g,3,none⟩ x3 w).set ⟨g,4,none⟩ e w).set ⟨g,5,none⟩ f w
theorem jL (w:World) (base:Nat) (hb:base<=w.heap.size) (o:Obj) (a:o=.cells #[] 5 (0,0)):(w.alloc o).ownsRow base 5 1 (.slice (some ⟨w.heap.size,0,none⟩) 0 0) 0 []:=by subst a;exact World.ownsRow_lit w #[] 0 hb fb rfl
theorem io {Q:Exit->Act->World->Prop} (p:D.guard=none) (s x:Operand) (I:D.op=.call {callee:=.builtin .append,args:=#[s,x],argTypes:=#[24,24]}) (base g:Nat) (hs:G.eval s=.slice (some ⟨g,0,none⟩) 0 0) (d:a.ownsRow base 5 1 (.slice (some ⟨g,0,none⟩) 0 0) 0 []) (ad:Option Addr) (m c:Nat) (zs:List Int) (hx:G.eval x=.slice ad m c) (hz:zs.length=m) (hm:m<=1048576) (q:Sl .u8 a ad zs) (f:base<=a.heap.size) (h:∀ l n t,t.ownsRow base 5 1 (.slice l m n) m (zs.map (Value.int .u8))->a.grownBy t (some g)->wpList prog A Q C (G.put D.dst (.slice l m n)) t):wpList prog A Q (D::C) G a:=by
 obtain ⟨J,H,B,rest,o⟩:=info_parts info5;cases ad with
 | none =>
   have z:m=0:=by
    rcases Nat.eq_zero_or_pos m with w|w;·exact w
    ·obtain ⟨b,F,e,_⟩:=q 0 ab;cases e
   subst z;have E:zs=[]:=List.length_eq_zero_iff.1 hz;subst E;refine wpList_plain p λK O=>?_;have S:=run_append_room_src (P:=prog) a 24 24 D.type 5 J underlying24 H g 0 0 0 (.slice none 0 c) 0 [] (Src.ofNil a underlying24 c) ab (λj i=>by simp at i) (λj i=>by simp at i);unfold Oper.wp execOp;simp only [I,resolve,invoke,builtin,Sem.run_bind,Sem.run_pure,Result.andThen_ok,List.map_toArray,List.map_cons,List.map_nil,hs,hx,S];exact O _ _ (h _ _ a d ⟨rfl,rfl,rfl,Nat.le_refl _,λ_ _ _=>rfl⟩)
 | some r =>
   have k:∀ j u,(zs.map (Value.int .u8))[j]?=some u->a.cell? (r.add j)=some u:=by
    intro j u v;have i:j<zs.length:=by
     rcases Nat.lt_or_ge j zs.length with h|h;·exact h
     ·rw [List.getElem?_eq_none cp] at v;cases v
    obtain ⟨b,F,e,_,R⟩:=q j i;cases e;rw [Al,R];rw [List.getElem?_map,List.getElem?_eq_getElem i] at v;rw [List.getD_eq_getElem?_getD,List.getElem?_eq_getElem i];exact v
   refine wpList_append_own _ p s x 24 I base 5 J (.int .u8 0) 1 1 underlying24 H B rest o rfl a6 _ 0 [] hs d r m c (zs.map (Value.int .u8)) hx (by rw [List.length_map,hz];omega) k (ints_oneCell _ _) fb ab f ?_;intro U t y N W;simp only [Nat.zero_add,List.nil_append] at y;have T:∃ l n,U=.slice l m n:=by
    rcases y.2 with ⟨e,M⟩|⟨V,cap,L,e,_⟩;·exact ⟨none,0,by rw [e,M]⟩
    ·exact ⟨_,_,e⟩
   obtain ⟨l,n,rfl⟩:=T;exact h l n t y N
theorem qV (w':World) (d:S.length=K) (f:K<=1048576) (i:Sl .u8 w' M S):
 Calls prog 46 #[.slice M K L] w' λe b=>∃ g,e=.returned (.slice (some ⟨g,0,none⟩) K K)/\b.ownsRow w'.heap.size 5 1 (.slice (some ⟨g,0,none⟩) K K) K (S.map (Value.int .u8))/\Bw w' b :=
 (Am M K L S w' d f i).mono λe b h=>⟨_,h.1,h.2.1,h.2.2⟩
theorem GD (F:Option Addr) (b M:Nat) (G:Option Addr) (c N:Nat) (q:Int) (xs ys:List Int) (w:World) (hx:xs.length=b) (hy:ys.length=c) (A:b<=1048576) (B:c<=1048576) (C:Sl .u8 w F xs) (D:Sl .u8 w G ys): Calls prog 47 #[.agg #[.u J,.u T,.bool X,.slice F b M,.slice G c N,.i q]] w λe d=>∃ j m:Nat,e=.returned (.agg #[.u J,.u T,.bool X,.slice (some ⟨j,0,none⟩) b b,.slice (some ⟨m,0,none⟩) c c,.i q]) /\ aZ w.heap.size d.heap.size d (fC (some ⟨j,0,none⟩) b b xs (some ⟨m,0,none⟩) c c ys)/\Bw w d:=by have u:Hid (∀ d,Bw w d->Calls prog 46 #[.slice F b M] d λe l=>∃ g,e=.returned (.slice (some ⟨g,0,none⟩) b b)/\l.ownsRow d.heap.size 5 1 (.slice (some ⟨g,0,none⟩) b b) b (xs.map (Value.int .u8))/\Bw d l):=λd O=>qV F b M xs d hx A (C.below O);have y:Hid (∀ d,Bw w d->Calls prog 46 #[.slice G c N] d λe l=>∃ g,e=.returned (.slice (some ⟨g,0,none⟩) c c)/\l.ownsRow d.heap.size 5 1 (.slice (some ⟨g,0,none⟩) c c) c (ys.map (Value.int .u8))/\Bw d l):=λd O=>qV G c N ys d hy B (D.below O);have z:∀ P Q R,Bw w (((w.alloc P).alloc Q).alloc R):=λP Q R=>(((Below.refl _ _).alloc (Nat.le_refl _) P).alloc bc Q).alloc a8 R;clear C D hx hy A B;go_enter func47,ntmps47;go_wp2_with fail;refine (u.out _ (z _ _ _)).mono ?_;rintro e w1 ⟨j,rfl,r,o⟩;obtain ⟨S,r1,H⟩:=EP o;have I:=o.size;simp only [World.size_alloc] at r I;have V:=ak S;have R1:=ak r1;have R2:=ak H;have t:=ak (aa (z _ _ _) o);have U:=ak ((aZ.nil (w.heap.size+1+1+1) (w.heap.size+1+1+1) w1).snoc (aw (some ⟨j,0,none⟩) b b xs) _ w1.heap.size r (Nat.le_refl _) (Nat.le_refl _) (Nat.le_refl _) I);obtain ⟨-,-,-,W,E,Y⟩:=aH S;obtain ⟨Z,q1,q2,q3,q4,q5⟩:=aH H;have f3:=dh H 3;clear S r1 H r o u;go_wp2_with fail;refine (y.out _ (t.out.setCell a8 _)).mono ?_;rintro e w2 ⟨m,rfl,s,f⟩;have cm:=f.size;rw [aO] at s cm;have S0:=ak (aB f (dS V.out ⟨w.heap.size+1+1,3,none⟩ (.slice (some ⟨j,0,none⟩) b b) a9));have K:=ak (aB f (dS R1.out ⟨w.heap.size+1+1,3,none⟩ (.slice (some ⟨j,0,none⟩) b b) a9));have L:Hid (w2.heap[w.heap.size+1+1]?=some (.cells #[.u J,.u T,.bool X,.slice (some ⟨j,0,none⟩) b b,.slice none 0 0,.i 0] 30 (0,0))):=aB f (bC R2.out 3 (.slice (some ⟨j,0,none⟩) b b));have B2:=ak (aa (t.out.setCell (p:=⟨w.heap.size+1+1,3,none⟩) a9 (.slice (some ⟨j,0,none⟩) b b)) f);have A2:=ak (((U.out.set ⟨w.heap.size+1+1,3,none⟩ (.slice (some ⟨j,0,none⟩) b b) (.inl a9)).below f).snoc (aw (some ⟨m,0,none⟩) c c ys) _ w2.heap.size s (Nat.le_refl _) I (Nat.le_refl _) cm);clear W E Y Z q1 q2 q3 q4 q5 f3;obtain ⟨-,-,-,W,E,Y⟩:=aH S0.out;obtain ⟨Z,q1,q2,q3,q4,q5⟩:=aH L.out;obtain ⟨s0,s1,s2,s3,s4,s5⟩:=aH K.out;have f4:=dh L.out 4;have f5:=dh L.out 5;obtain ⟨y0,y1,y2,y3,y4,y5⟩:=kY K.out;clear I cm s f y V R1 R2 t U;go_wp2_with fail;have T1:=dS (dS K.out ⟨w.heap.size+1+1,4,none⟩ (.slice (some ⟨m,0,none⟩) c c) a9) ⟨w.heap.size+1+1,5,none⟩ (.i q) a9;have A3:=((A2.out.set ⟨w.heap.size+1+1,4,none⟩ (.slice (some ⟨m,0,none⟩) c c) (.inl a9)).set ⟨w.heap.size+1+1,5,none⟩ (.i q) (.inl a9)).put6 (w.heap.size+1) (.inl ab) (.u J) (.u T) (.bool X) (.slice (some ⟨j,0,none⟩) b b) (.slice (some ⟨m,0,none⟩) c c) (.i q);have B3:=cK ((B2.out.setCell (p:=⟨w.heap.size+1+1,4,none⟩) a9 (.slice (some ⟨m,0,none⟩) c c)).setCell (p:=⟨w.heap.size+1+1,5,none⟩) a9 (.i q)) (g:=w.heap.size+1) ab (.u J) (.u T) (.bool X) (.slice (some ⟨j,0,none⟩) b b) (.slice (some ⟨m,0,none⟩) c c) (.i q);exact bodyPost_ret (results_cell_row results47 _ _ _ _ _ _ _ rfl (eH T1 _ _ _ _ _ _) underlying30 rfl aT) rfl ⟨j,m,rfl,A3.low ab eh,B3⟩
theorem ke (w:World) (f: -1<=T) (g:T<=1048576) (hn:K<=9223372036854775807): CE 41 #[.slice M K L,.i T] w (.i (if (K:Int)<=T then T-K else -1)):=by
 by_cases h:(K:Int)<=T;·have d:decide (T-(K:Int)<0)=false:=a8;rw [if_pos h];clear h;go_enter func41,ntmps41;exact a01
 ·have d:decide (T-(K:Int)<0)=true:=a8;rw [if_neg h];clear h;go_enter func41,ntmps41;exact a01
def Jh (a b:Nat) (l:Int):Int:=if (a:Int)+b<=l then l-a-b else -1
theorem GE (m:Option Addr) (b q:Nat) (p:Option Addr) (d r:Nat) (E l:Int) (w:World) (C:0<=l) (s:l<=1048576) (f:b<=9223372036854775807) (g:d<=9223372036854775807): CB 42 #[.agg #[.u J,.u T,.bool X,.slice m b q,.slice p d r,.i E],.i l] w (.i (Jh b d l)):=by
 have D:∀ o,Bw w (w.alloc o):=λo=>(Below.refl _ _).alloc (Nat.le_refl _) o;by_cases u:(b:Int)<=l
 ·have y:Hid (∀ w,CE 41 #[.slice m b q,.i l] w (.i (l-b))):=λw=>by have:=ke m b q l w ab s f;rw [if_pos u] at this;exact this
  have I:decide (l-(b:Int)<0)=false:=a8;by_cases z:(d:Int)<=l-b
  ·have B:Hid (∀ w,CE 41 #[.slice p d r,.i (l-b)] w (.i (l-b-d))):=λw=>by have:=ke p d r (l-b) w ab ab g;rw [if_pos z] at this;exact this
   have t:decide (l-(b:Int)-(d:Int)<0)=false:=a8;have F:Hid (Jh b d l=l-b-d):=(by show Jh b d l=_;unfold Jh;rw [if_pos ab]);clear u z C s f g;generalize l-(b:Int)-(d:Int)=K at *;generalize l-(b:Int)=G at *;go_enter func42,ntmps42;go_wp2_with fail;refine (y.out _).mono ?_;rintro e A ⟨rfl,c⟩;subst c;go_wp2_with fail;refine (B.out _).mono ?_;exact a02
  ·have B:Hid (∀ w,CE 41 #[.slice p d r,.i (l-b)] w (.i (-1))):=λw=>by have:=ke p d r (l-b) w ab ab g;rw [if_neg z] at this;exact this
   have F:Hid (Jh b d l=-1):=(by show Jh b d l=_;unfold Jh;rw [if_neg ab]);clear u z C s f g;generalize l-(b:Int)=G at *;go_enter func42,ntmps42;go_wp2_with fail;refine (y.out _).mono ?_;rintro e A ⟨rfl,c⟩;subst c;go_wp2_with fail;refine (B.out _).mono ?_;exact a02
 ·have y:Hid (∀ w,CE 41 #[.slice m b q,.i l] w (.i (-1))):=λw=>by have:=ke m b q l w ab s f;rw [if_neg u] at this;exact this
  have F:Hid (Jh b d l=-1):=(by show Jh b d l=_;unfold Jh;rw [if_neg ab]);clear u C s f g;go_enter func42,ntmps42;go_wp2_with fail;refine (y.out _).mono ?_;exact a02
theorem CR (y A:Option Addr) (d G I:Nat) (z B:Option Addr) (f H t:Nat) (C:Int) (xs ys:List Int) (w:World) (hx:xs.length=d) (hy:ys.length=f) (j:d<=1048576) (l:f<=1048576) (q:Sl .u8 w y xs) (r:Sl .u8 w z ys) (s:Sl .u8 w A xs) (u:Sl .u8 w B ys): CB 54 #[.agg #[.u J,.u T,.bool X,.slice y d G,.slice z f H,.i C],.agg #[.u J,.u T,.bool X,.slice A d I,.slice B f t,.i C]] w (.bool true):=by
 have E:Hid (∀ b,Bw w b->CB 53 #[.slice y d G,.slice A d I] b (.bool true)):=λb p=>by have:=nQ y A d d G I xs xs b hx hx j j (q.below p) (s.below p);rw [decide_eq_true rfl] at this;exact this
 have F:Hid (∀ b,Bw w b->CB 53 #[.slice z f H,.slice B f t] b (.bool true)):=λb p=>by have:=nQ z B f f H t ys ys b hy hy l l (r.below p) (u.below p);rw [decide_eq_true rfl] at this;exact this
 have O:∀ o K,Bw w ((w.alloc o).alloc K):=λo K=>((Below.refl _ _).alloc (Nat.le_refl _) o).alloc bc K;have t1:(J != J)=false:=bc
 have t2:(T != T)=false:=bc
 have t3:(X != X)=false:=bc
 have t4:(C != C)=false:=bc
 clear q r s u hx hy j l;go_enter func54,ntmps54;go_wp2_with fail;refine (E.out _ (O _ _)).mono ?_;rintro e w1 ⟨rfl,g⟩;obtain ⟨L,M⟩:=jH g;have N:=ak (aa (O _ _) g);obtain ⟨P,Q,R,S,cm,U⟩:=aH L;obtain ⟨V,W,D,Y,Z,q5⟩:=aH M;have R0:=ak L;have R1:=ak M;clear g L M;go_wp2_with fail;refine (F.out _ N.out).mono ?_;rintro e w2 ⟨rfl,c⟩;have B2:=ak (aa N.out c);clear P Q R S cm U V W D Y Z q5;obtain ⟨P,Q,R,S,cm,U⟩:=aH (aB c R0.out);obtain ⟨V,W,D,Y,Z,q5⟩:=aH (aB c R1.out);clear c;go_wp2_with fail;go_ret;exact ⟨rfl,B2.out⟩
theorem An (q:Option Addr) (b s:Nat) (r:Option Addr) (c u:Nat) (C k:Int) (w:World) (g:b<=1048576) (j:c<=1048576) (f:0<=k) (z:k<=4294967296) (l:Sl .u8 w q (dC k b)) (m:Sl .u8 w r (dC (k+b) c)): CB 60 #[.agg #[.u J,.u T,.bool X,.slice q b s,.slice r c u,.i C],.i k] w (.i (k+b+c)):=by
 have y:∀ o,Bw w (w.alloc o):=λo=>(Below.refl _ _).alloc (Nat.le_refl _) o;have A:Hid (∀ o,Calls prog 59 #[.slice q b s,.i k] (w.alloc o) λe p=>e=.returned (.i (k+b))/\p=w.alloc o):=λo=>mh q b s k (w.alloc o) g f ab (l.below (y o));have B:Hid (∀ o,Calls prog 59 #[.slice r c u,.i (k+b)] (w.alloc o) λe p=>e=.returned (.i (k+b+c))/\p=w.alloc o):=λo=>mh r c u (k+b) (w.alloc o) j ab ab (m.below (y o));have F:decide (k+(b:Int)<0)=false:=by simp;omega
 have G:decide (k+(b:Int)+(c:Int)<0)=false:=by simp;omega
 clear l m f z g j;generalize k+(b:Int)+(c:Int)=I at *;generalize k+(b:Int)=H at *;go_enter func60,ntmps60;go_wp2_with fail;refine (A.out _).mono ?_;rintro e E ⟨rfl,d⟩;subst d;go_wp2_with fail;refine (B.out _).mono ?_;rintro e E ⟨rfl,d⟩;subst d;go_wp2_with fail;go_ret;exact ⟨rfl,y _⟩
structure DV where
 t:Int
 cm:Int
 so:Bool
 xs:List Int
 ys:List Int
 ir:Int
def zeroD:DV:=⟨0,0,false,[],[],0⟩
def il (D:DV) (a:Option Addr) (c:Nat) (b:Option Addr) (d:Nat):Array Value:=#[.u D.t,.u D.cm,.bool D.so,.slice a D.xs.length c,.slice b D.ys.length d,.i D.ir]
theorem gm (D:DV) (a:Option Addr) (c:Nat) (b:Option Addr) (d:Nat):(il D a c b d).all (·.oneCell')=true:=by simp [il,Value.oneCell']
def vO (D:DV) (a:Option Addr) (c:Nat) (b:Option Addr) (d:Nat):List FRow:=fC a D.xs.length c D.xs b D.ys.length d D.ys
def dp (D:DV):Prop:=(∀ y ∈ D.xs,(Lit.int .u8 y).wf=true)/\∀ y ∈ D.ys,(Lit.int .u8 y).wf=true
def kP (b c:Nat) (a:Int):Bool:=decide (b<=16)&&decide (c<=4096)&&decide (0<=a/\a<=1)
def gC (addr size:Int):Nat :=
 if addr=33554432/\size=4 then 0 else if addr=33570816/\size=8 then 1 else if addr=33603576/\size=8 then 2 else if addr=268435456/\size=1 then 3 else if addr=268435457/\size=1 then 4 else if addr=268435461/\size=1 then 5 else 6
def gv (b:Bool):Int:=if b=true then 1 else 0
def jq (D:DV):Nat->Int × DV × Bool
 | 0=>(gv D.so,D,true)
 | 1=>(D.cm,D,true)
 | 2=>(D.t,D,true)
 | 3=>(D.xs.getD 0 0,⟨D.t,D.cm,D.so,D.xs.drop 1,D.ys,D.ir⟩,true)
 | 4=>(Uz.wrap D.ir,D,true)
 | 5=>(Uz.wrap (32+gv (decide (0<D.xs.length))),D,true)
 | _=>(0,zeroD,false)
def fL (D:DV) (x:Int):Nat->DV × Bool
 | 0=>(⟨D.t,D.cm,bits .and .u64 x 1==1,D.xs,D.ys,D.ir⟩,true)
 | 1=>(⟨D.t,x,D.so,D.xs,D.ys,D.ir⟩,true)
 | 2=>(⟨x,D.cm,D.so,D.xs,D.ys,D.ir⟩,true)
 | 3=>(⟨D.t,D.cm,D.so,D.xs,if D.ys.length<4096 then D.ys++[IntKind.u8.wrap x] else D.ys,D.ir⟩,true)
 | 4=>(⟨D.t,D.cm,D.so,D.xs,D.ys,wrap64 (bits .and .u64 x 1)⟩,true)
 | 5=>(D,true)
 | _=>(zeroD,false)
def dD (D:DV):Int:=Uz.wrap (Uz.wrap (Uz.wrap (8*gv D.so)+Uz.wrap (128*gv (decide (D.cm<=D.t))))+Uz.wrap (2048*gv ((D.ir==1)&&decide (0<D.xs.length))))
def ue (D:DV) (addr size:Int):Int × DV × Bool:=if kP D.xs.length D.ys.length D.ir=true then jq D (gC addr size) else (0,zeroD,false)
def qW (D:DV) (addr size x:Int):DV × Bool:=if kP D.xs.length D.ys.length D.ir=true then fL D x (gC addr size) else (zeroD,false)
def hH (D:DV):Int:=if kP D.xs.length D.ys.length D.ir=true then dD D else 0
def gy (D:DV) (n:Int):DV:=if (kP D.xs.length D.ys.length D.ir&&!decide (n<0))=true then ⟨Uz.wrap (D.t+Uz.wrap n),D.cm,D.so,D.xs,D.ys,D.ir⟩ else zeroD
def gM (D:DV) (b:Int):DV:=if kP D.xs.length D.ys.length D.ir=true then ⟨D.t,D.cm,D.so,if D.xs.length<16 then D.xs++[b] else D.xs,D.ys,D.ir⟩ else zeroD
theorem jM (P:Nat->Prop) (c:J=33554432->T=4->P 0) (d:J=33570816->T=8->P 1) (e:J=33603576->T=8->P 2) (f:J=268435456->T=1->P 3) (g:J=268435457->T=1->P 4) (i:J=268435461->T=1->P 5) (j:(J=33554432->¬ T=4)->(J=33570816->¬ T=8)->(J=33603576->¬ T=8)->(J=268435456->¬ T=1)->(J=268435457->¬ T=1)->(J=268435461->¬ T=1)->P 6):P (gC J T):=by
 unfold gC;split;·rename_i h;exact c h.1 h.2
 ·rename_i k;split;·rename_i h;exact d h.1 h.2
  ·rename_i l;split;·rename_i h;exact e h.1 h.2
   ·rename_i m;split;·rename_i h;exact f h.1 h.2
    ·rename_i n;split;·rename_i h;exact g h.1 h.2
     ·rename_i o;split;·rename_i h;exact i h.1 h.2
      ·rename_i p;exact j (λa b=>k ⟨a,b⟩) (λa b=>l ⟨a,b⟩) (λa b=>m ⟨a,b⟩) (λa b=>n ⟨a,b⟩) (λa b=>o ⟨a,b⟩) (λa b=>p ⟨a,b⟩)
theorem gO (w:World):aZ K L w (vO zeroD none 0 none 0):=by
 refine ⟨λr a=>?_,λr a k e=>?_,?_⟩
 ·simp only [vO,fC,List.mem_cons,List.not_mem_nil,or_false] at a;rcases a with rfl|rfl;·exact ⟨rfl,.inl ⟨rfl,rfl⟩⟩
  ·exact ⟨rfl,.inl ⟨rfl,rfl⟩⟩
 ·simp only [vO,fC,List.mem_cons,List.not_mem_nil,or_false] at a;rcases a with rfl|rfl;·cases e
  ·cases e
 ·exact List.pairwise_cons.2 ⟨λs b k e=>x8,List.pairwise_singleton _ _⟩
theorem aZ.newIn (h:aZ B E a (fC W b k d l g e f)) (w:Option Addr) (n c:Nat) (zs:List Int) (base q:Nat) (p:a.ownsRow base 5 1 (.slice w n c) n (zs.map (Value.int .u8))) (j:E<=base) (xs:B<=base) (m:a.heap.size<=q) (o:E<=q):aZ B q a (fC w n c zs l g e f):=by have t:aZ B E a [aw l g e f]:=⟨λr ys=>h.own r (List.mem_cons_of_mem _ ys),λr ys=>h.hi r (List.mem_cons_of_mem _ ys),(List.pairwise_cons.1 h.ne).2⟩;exact t.cons (aw w n c zs) base q p j xs m o
theorem aZ.newOut (h:aZ B E a (fC W g e d l b k f)) (w:Option Addr) (n c:Nat) (zs:List Int) (base q:Nat) (p:a.ownsRow base 5 1 (.slice w n c) n (zs.map (Value.int .u8))) (j:E<=base) (xs:B<=base) (m:a.heap.size<=q) (o:E<=q):aZ B q a (fC W g e d w n c zs):=by have t:aZ B E a [aw W g e d]:=⟨λr ys=>h.own r (by rw [List.mem_singleton.1 ys];exact List.mem_cons_self ..),λr ys=>h.hi r (by rw [List.mem_singleton.1 ys];exact List.mem_cons_self ..),List.pairwise_singleton _ _⟩;exact t.snoc (aw w n c zs) base q p j xs m o
theorem bF {P:Program} {fn:Func} {s p u:Tmp} {ty:TypeId} (h:fn.results=#[.tmp s,.cell p ty,.tmp u]) (tmps:Array Value) (w:World) (g:Nat) (t:TypeId) (cs:Array Value) (e:Nat × Nat) (d:TypeDesc) (k:tmps.getD p undef=.p g 0) (i:w.heap[g]?=some (.cells cs t e)) (l:P.underlying ty=some d) (hd:(match d with | .struct _ | .array _ _=>true | _=>false)=true) (j:(P.info? ty).map (·.size)=some cs.size):(results fn tmps).run P w=.ok (.tuple #[tmps.getD s undef,.agg cs,tmps.getD u undef]) w:=by
 have f:(results fn tmps).run P w=((asAddr (tmps.getD p undef)).run P w).andThen λa b=>((loadVar ty a).run P b).andThen λv c=>.ok (.tuple #[tmps.getD s undef,v,tmps.getD u undef]) c:=by simp only [results,h];simp [Sem.run_bind,Result.andThen]
 rw [f,k];simp [asAddr,run_loadVar_row w g t ty cs e d i l hd j]
theorem dq {P:Program} {fn:Func} {p u:Tmp} {ty:TypeId} (h:fn.results=#[.cell p ty,.tmp u]) (tmps:Array Value) (w:World) (g:Nat) (t:TypeId) (cs:Array Value) (e:Nat × Nat) (d:TypeDesc) (k:tmps.getD p undef=.p g 0) (i:w.heap[g]?=some (.cells cs t e)) (l:P.underlying ty=some d) (hd:(match d with | .struct _ | .array _ _=>true | _=>false)=true) (j:(P.info? ty).map (·.size)=some cs.size):(results fn tmps).run P w=.ok (.tuple #[.agg cs,tmps.getD u undef]) w:=by
 have f:(results fn tmps).run P w=((asAddr (tmps.getD p undef)).run P w).andThen λa b=>((loadVar ty a).run P b).andThen λv c=>.ok (.tuple #[v,tmps.getD u undef]) c:=by simp only [results,h];simp [Sem.run_bind,Result.andThen]
 rw [f,k];simp [asAddr,run_loadVar_row w g t ty cs e d i l hd j]
theorem EQ:(prog.info? 22).map (λi=>(i.zero,i.size,i.bytes))=some (some (.u 0),1,8):=by kernel_rfl
theorem kf:(I.map (Value.int .u64)).set K (.u T)=(I.set K T).map (Value.int .u64):=by rw [List.map_set]
def bE (k:Int) (n:Nat):List Int:=(List.range n).map λ(i:Nat)=>k+(i:Int)
theorem kZ:(bE J K).length=K:=by simp [bE]
theorem CS (h:L<K):(bE J K).getD L 0=J+(L:Int):=by simp [bE,List.getD,h]
def Ji (xs:List Int) (k:Int) (n j:Nat):List Int:=(bE k n).take j++xs.drop j
theorem Jj:Ji I J K 0=I:=by simp [Ji]
theorem MQ (h:I.length=K):Ji I J K K=bE J K:=by have a:I.drop K=[]:=List.drop_of_length_le ab;have b:(bE J K).take K=bE J K:=List.take_of_length_le (by rw [kZ];omega);rw [Ji,a,b,List.append_nil]
theorem MR (h:I.length=K) (a:L<=K):(Ji I J K L).length=K:=by simp [Ji,kZ];omega
theorem MS (h:I.length=K) (d:L<K):(Ji I J K L).set L (J+(L:Int))=Ji I J K (L+1):=by
 unfold Ji;have a:(bE J K).take (L+1)=(bE J K).take L++[J+(L:Int)]:=by rw [List.take_succ_eq_append_getElem (by rw [kZ];exact d)];simp [bE]
 have b:I.drop L=I[L]::I.drop (L+1):=List.drop_eq_getElem_cons ab;have c:((bE J K).take L).length=L:=by rw [List.length_take,kZ];omega
 rw [a,b,List.set_append_right _ _ ab,c,Nat.sub_self,List.set_cons_zero,List.append_assoc];rfl
theorem vV (w:World) (hz:S.length=K) (hn:K<=1048576) (hs:Sl .u64 w M S): Calls prog 45 #[.slice M K L] w λe B=>e=.returned (.slice (some ⟨w.heap.size,0,none⟩) K K) /\ B.ownsRow w.heap.size 22 1 (.slice (some ⟨w.heap.size,0,none⟩) K K) K (S.map (Value.int .u64))/\Bw w B:=by
 obtain ⟨A,G,t,u,p⟩:=info_parts EQ;have r:A.bytes*K<=281474976710656:=by rw [p];omega
 have s:K<=maxLen:=by unfold maxLen;omega
 have q:Hid (S.length=K):=hz;clear hz p;go_enter func45,ntmps45;go_wp2_with (at_make;refine wpList_make_full _ rfl (.tmp 6) (.tmp 6) 23 rfl w.heap.size 22 A (.u 0) 1 underlying23 G t u .i64 .i64 _ _ K rfl rfl rfl rfl r s (Nat.le_refl _) ?_;intro C c f);have g:C.ownsRow w.heap.size 22 1 (.slice (some ⟨w.heap.size,0,none⟩) K K) K (Lk .u64 S K 0):=by rw [EO,<- toList_madeCells_one];simpa [Value.cells] using c
 have j:Bw w C:=(Below.refl _ _).grown f (Nat.le_refl _) v8;clear c f;go_loopw [4] (λi wr=>∃ k:Nat,k<=K/\i=.i k/\wr.ownsRow w.heap.size 22 1 (.slice (some ⟨w.heap.size,0,none⟩) K K) K (Lk .u64 S K k)/\Bw w wr)
  (λi _=>K-(intOf i).toNat)
 case atStart=>exact ⟨0,Nat.zero_le _,rfl,g,j⟩
 case round =>
  obtain ⟨k,H,rfl,c,d⟩:=hrel;clear g j;by_cases l:k<K
  ·obtain ⟨b,y,rfl,D,z⟩:=hs k (by have:=q.out;omega);have E:wr.cell? ⟨b,y+k,none⟩=some (.u (S.getD k 0)):=(d.cell (by exact D)).trans z;have F:wr.frozen? ⟨w.heap.size,k,none⟩=false:=c.frozenAt k;have m:=(c.stored k (.u (S.getD k 0))).1;have o:Bw w (wr.setCell ⟨w.heap.size,k,none⟩ (.u (S.getD k 0))):=d.setCell (Nat.le_refl _) _;obtain ⟨J,I⟩:∃ v,wr.cell? ⟨w.heap.size,k,none⟩=some v:=(by rw [c.cellAt k ab];exact ⟨_,List.getElem?_eq_getElem (by rw [Jd _ _ _ _ q.out H];exact l)⟩);rw [Jf _ _ _ _ q.out l] at m;clear z c;go_wp2;go_roundw;case rel=>exact ⟨k+1,ab,by go_num,m,o⟩
   case measure=>simp [intOf];omega
  ·have:k=K:=by omega
   subst this;rw [Je _ _ _ q.out] at c;go_wp2;go_ret;exact ⟨rfl,c,d⟩
theorem pg (w:World) (hx:S.length=K) (hy:Y.length=L) (hn:K<=1048576) (hm:L<=1048576) (hs:Sl .u64 w M S) (J:Sl .u64 w N Y): CB 52 #[.slice M K O,.slice N L R] w (.bool (decide (S=Y))):=by
 by_cases q:K=L
 ·subst q;have r:Hid (S.length=K):=hx;have s:Hid (Y.length=K):=hy;have I:((K:Int) != (K:Int))=false:=bc;clear hx hy;go_enter func52,ntmps52;go_wp2;go_loopw [5] (λi wr=>∃ k:Nat,k<=K/\i=.i k/\Hid (S.take k=Y.take k)/\Bw w wr)
   (λi _=>K-(intOf i).toNat)
  case atStart=>exact ⟨0,Nat.zero_le _,rfl,(rfl:S.take 0=Y.take 0),Below.refl _ _⟩
  case round =>
   obtain ⟨k,P,rfl,o,c⟩:=hrel;by_cases A:k<K
   ·obtain ⟨E,n,rfl,t,j⟩:=hs k (by have:=r.out;omega);obtain ⟨G,m,rfl,u,l⟩:=J k (by have:=s.out;omega);obtain ⟨x,f⟩:∃ x,x=S.getD k 0:=⟨_,rfl⟩;obtain ⟨y,g⟩:∃ y,y=Y.getD k 0:=⟨_,rfl⟩;have b:wr.cell? ⟨E,n+k,none⟩=some (.u x):=(by rw [f];exact (c.cell (by exact t)).trans j);have ca:wr.cell? ⟨G,m+k,none⟩=some (.u y):=(by rw [g];exact (c.cell x7).trans l);have B:Hid (x=S.getD k 0):=f;have C:Hid (y=Y.getD k 0):=g;clear j l f g;by_cases d:x=y
    ·subst d;have H:=xe S Y k K r.out s.out A o.out (B.out.symm.trans C.out);have D:Hid (S.take (k+1)=Y.take (k+1)):=H;clear H;have p:(x != x)=false:=bc;go_wp2;go_region;all_goals go_wp2
     all_goals go_roundw
     case rel=>exact ⟨k+1,ab,by go_num,D,c.drew⟩
     case measure=>simp [intOf];omega
    ·have F:Hid (decide (S=Y)=false):=ki;have p:(x != y)=true:=ps;clear d;go_wp2;go_region;all_goals go_wp2
     all_goals go_ret
     all_goals exact ⟨a7,c.drew⟩
   ·have z:k=K:=ab;subst z;have F:Hid (decide (S=Y)=true):=d7;go_wp2;go_ret;exact ⟨a7,c⟩
 ·have F:Hid (decide (S=Y)=false):=ko;have p:((K:Int) != (L:Int))=true:=a8;clear hx hy;go_enter func52,ntmps52;go_wp2;go_ret;exact ⟨a7,Below.refl _ _⟩
theorem nD (w:World) (hn:K<=1048576) (F:0<=T) (G:T<=1099511627776) (d:w.ownsRow O 22 1 (.slice M K L) K (Y.map (Value.int .u64))): Calls prog 55 #[.slice M K L,.i T] w λe B=>e=.returned (.i (T+K)) /\ B.ownsRow O 22 1 (.slice M K L) K ((bE T K).map (Value.int .u64))/\w.grownBy B (Value.slice M K L).ownBlock:=by
 have s:Hid (Y.length=K):=by show Y.length=K;have:=d.1;simpa using this
 rcases d.2 with ⟨y,I⟩ | ⟨g,u,C,A,J,_⟩;·simp only [Value.slice.injEq] at y;obtain ⟨rfl,rfl,rfl⟩:=y;have t:Y=[]:=List.eq_nil_of_length_eq_zero s.out;subst t;go_enter func55,ntmps55;go_wp2;refine wp_loop_rounds 1 ?_;rw [rounds_succ];go_wp2;go_ret;exact ⟨bc,d,⟨rfl,rfl,rfl,Nat.le_refl _,λ_ _ _=>rfl⟩⟩
 ·simp only [Value.slice.injEq,true_and] at A;obtain ⟨rfl,rfl⟩:=A;have m:w.ownsRow O 22 1 (.slice (some ⟨g,0,none⟩) K L) K ((Ji Y T K 0).map (Value.int .u64)):=(by rw [Jj];exact d);clear d;go_enter func55,ntmps55;go_wp2;go_loopw [1,5] (λc i wr=>∃ j:Nat,j<=K/\i=.i j/\c=.i (T+j)/\wr.ownsRow O 22 1 (.slice (some ⟨g,0,none⟩) K L) K ((Ji Y T K j).map (Value.int .u64))/\w.grownBy wr (some g))
   (λ_ i _=>K-(intOf i).toNat)
  case atStart=>exact ⟨0,Nat.zero_le _,rfl,bc,m,⟨rfl,rfl,rfl,Nat.le_refl _,λ_ _ _=>rfl⟩⟩
  case round =>
   obtain ⟨j,E,rfl,rfl,d,l⟩:=hrel;clear m;by_cases p:j<K
   ·have D:wr.frozen? ⟨g,j,none⟩=false:=d.frozenAt j;have f:=d.stored j (.u (T+(j:Int)));obtain ⟨n,H⟩:∃ v,wr.cell? ⟨g,j,none⟩=some v:=(by rw [d.cellAt j ab];exact ⟨_,List.getElem?_eq_getElem (by rw [List.length_map,MR _ _ _ _ s.out E];exact p)⟩);rw [kf,MS _ _ _ _ s.out p] at f;have o:w.grownBy (wr.setCell ⟨g,j,none⟩ (.u (T+(j:Int)))) (some g):=
     ⟨f.2.os.trans l.os,f.2.tape.trans l.tape,f.2.output.trans l.output,Nat.le_trans l.size f.2.size,λb z q=>(f.2.block b (Nat.lt_of_lt_of_le z l.size) q).trans (l.block b z q)⟩
    have r:=f.1;clear f d;go_wp2;go_roundw;case rel=>exact ⟨j+1,ab,by go_num,by go_num,r,o⟩
    case measure=>simp [intOf];omega
   ·have:j=K:=by omega
    subst this;rw [MQ _ _ _ s.out] at d;go_wp2;go_ret;exact ⟨rfl,d,l⟩
theorem nE (w:World) (hn:K<=1048576) (g:0<=T) (l:T<=1099511627776) (hs:Sl .u64 w M (bE T K)): CE 58 #[.slice M K L,.i T] w (.i (T+K)):=by
 go_enter func58,ntmps58;go_wp2;go_loop [1,5] (λc i=>∃ j:Nat,j<=K/\i=.i j/\c=.i (T+j)) (λ_ i=>K-(intOf i).toNat);case atStart=>exact ⟨0,Nat.zero_le _,rfl,bc⟩
 case round =>
  obtain ⟨j,s,rfl,rfl⟩:=hrel;by_cases d:j<K
  ·obtain ⟨b,p,rfl,r,f⟩:=hs j (by rw [kZ];exact d);rw [CS T K j d] at f;have m:(T+(j:Int) != T+(j:Int))=false:=bc;have o:Uz.wrap (T+(j:Int))=T+(j:Int):=bh;go_wp2;go_round;case rel=>exact ⟨j+1,ab,by go_num,by go_num⟩
   case measure=>simp [intOf];omega
  ·have:j=K:=by omega
   subst this;exact z0
structure MV where
 pc:Int
 x:List Int
 pr:Int
 cs:List Int
 ram:List Int
 d:DV
 hd:Int
 hl:Bool
 wt:Bool
structure MA where
 ax:Option Addr
 cx:Nat
 ac:Option Addr
 cc:Nat
 ar:Option Addr
 cr:Nat
 ai:Option Addr
 ci:Nat
 ao:Option Addr
 co:Nat
def au:MV:=⟨0,[],0,[],[],zeroD,0,false,false⟩
def zeroA:MA:=⟨none,0,none,0,none,0,none,0,none,0⟩
def ap (M:MV) (A:MA):Array Value:=#[.u M.pc,.slice A.ax M.x.length A.cx,.i M.pr,.slice A.ac M.cs.length A.cc,.slice A.ar M.ram.length A.cr,.u M.d.t,.u M.d.cm,.bool M.d.so,.slice A.ai M.d.xs.length A.ci,.slice A.ao M.d.ys.length A.co,.i M.d.ir,.u M.hd,.bool M.hl,.bool M.wt]
def aG (a:Option Addr) (n c:Nat) (xs:List Int):FRow:=⟨22,.slice a n c,n,xs.map (Value.int .u64)⟩
def aJ (M:MV) (A:MA):List FRow:=[aG A.ax M.x.length A.cx M.x,aG A.ac M.cs.length A.cc M.cs,aw A.ar M.ram.length A.cr M.ram,aw A.ai M.d.xs.length A.ci M.d.xs,aw A.ao M.d.ys.length A.co M.d.ys]
structure tA (w:World) (M:MV) (A:MA):Prop where
 x:Sl .u64 w A.ax M.x
 cs:Sl .u64 w A.ac M.cs
 ram:Sl .u8 w A.ar M.ram
 xs:Sl .u8 w A.ai M.d.xs
 ys:Sl .u8 w A.ao M.d.ys
theorem tA.below {M:MV} {A:MA} (h:tA a M A) (hb:Bw a n):tA n M A:=⟨h.x.below hb,h.cs.below hb,h.ram.below hb,h.xs.below hb,h.ys.below hb⟩
theorem aZ.msl {M:MV} {A:MA} (h:aZ B E a (aJ M A)):tA a M A :=
 ⟨gj (h.own (aG A.ax M.x.length A.cx M.x) ck),gj (h.own (aG A.ac M.cs.length A.cc M.cs) ck),gj (h.own (aw A.ar M.ram.length A.cr M.ram) ck),gj (h.own (aw A.ai M.d.xs.length A.ci M.d.xs) ck),gj (h.own (aw A.ao M.d.ys.length A.co M.d.ys) ck)⟩
theorem aS {f i k l W b e v13:Value} (h:a.heap[g]?=some (.cells #[t,o,q,x,f,i,j,k,l,m,W,b,e,v13] c (0,0))):a.cell? ⟨g,0,none⟩=some t/\a.cell? ⟨g,1,none⟩=some o/\a.cell? ⟨g,2,none⟩=some q/\a.cell? ⟨g,3,none⟩=some x/\a.cell? ⟨g,4,none⟩=some f/\a.cell? ⟨g,5,none⟩=some i/\a.cell? ⟨g,6,none⟩=some j/\a.cell? ⟨g,7,none⟩=some k/\a.cell? ⟨g,8,none⟩=some l/\a.cell? ⟨g,9,none⟩=some m/\a.cell? ⟨g,10,none⟩=some W/\a.cell? ⟨g,11,none⟩=some b/\a.cell? ⟨g,12,none⟩=some e/\a.cell? ⟨g,13,none⟩=some v13:=by simp [World.cell?,h]
theorem dM (h:a.heap[g]?=some (.cells y c (0,0))):a.frozen? ⟨g,0,none⟩=false/\a.frozen? ⟨g,1,none⟩=false/\a.frozen? ⟨g,2,none⟩=false/\a.frozen? ⟨g,3,none⟩=false/\a.frozen? ⟨g,4,none⟩=false/\a.frozen? ⟨g,5,none⟩=false/\a.frozen? ⟨g,6,none⟩=false/\a.frozen? ⟨g,7,none⟩=false/\a.frozen? ⟨g,8,none⟩=false/\a.frozen? ⟨g,9,none⟩=false/\a.frozen? ⟨g,10,none⟩=false/\a.frozen? ⟨g,11,none⟩=false/\a.frozen? ⟨g,12,none⟩=false/\a.frozen? ⟨g,13,none⟩=false :=
 ⟨dh h 0,dh h 1,dh h 2,dh h 3,dh h 4,dh h 5,dh h 6,dh h 7,dh h 8,dh h 9,dh h 10,dh h 11,dh h 12,dh h 13⟩
def Jk (w:World) (g:Nat) (e f h x3 i j k l m n a b c d:Value):World:=(((((((((((((w.setCell ⟨g,0,none⟩ e).setCell ⟨g,1,none⟩ f).setCell ⟨g,2,none⟩ h).setCell ⟨g,3,none⟩ x3).setCell ⟨g,4,none⟩ i).setCell ⟨g,5,none⟩ j).setCell ⟨g,6,none⟩ k).setCell ⟨g,7,none⟩ l).setCell ⟨g,8,none⟩ m).setCell ⟨g,9,none⟩ n).setCell ⟨g,10,none⟩ a).setCell ⟨g,11,none⟩ b).setCell ⟨g,12,none⟩ c).setCell ⟨g,13,none⟩ d
theorem qX {z y v u f e B v13:Value} (h:a.heap[g]?=some (.cells #[t,j,m,o,q,z,y,x,v,u,f,e,B,v13] c p)) (w b d x3 Q k v1 n v2 r i l A s:Value):(Jk a g w b d x3 Q k v1 n v2 r i l A s).heap[g]?=some (.cells #[w,b,d,x3,Q,k,v1,n,v2,r,i,l,A,s] c p):=by have G:(a.setCell ⟨g,0,none⟩ w).heap[g]?=some (.cells #[w,j,m,o,q,z,y,x,v,u,f,e,B,v13] c p):=bC h 0 w;have H:((a.setCell ⟨g,0,none⟩ w).setCell ⟨g,1,none⟩ b).heap[g]?=some (.cells #[w,b,m,o,q,z,y,x,v,u,f,e,B,v13] c p):=bC G 1 b;have I:(((a.setCell ⟨g,0,none⟩ w).setCell ⟨g,1,none⟩ b).setCell ⟨g,2,none⟩ d).heap[g]?=some (.cells #[w,b,d,o,q,z,y,x,v,u,f,e,B,v13] c p):=bC H 2 d;have J:((((a.setCell ⟨g,0,none⟩ w).setCell ⟨g,1,none⟩ b).setCell ⟨g,2,none⟩ d).setCell ⟨g,3,none⟩ x3).heap[g]?=some (.cells #[w,b,d,x3,q,z,y,x,v,u,f,e,B,v13] c p):=bC I 3 x3;have K:(((((a.setCell ⟨g,0,none⟩ w).setCell ⟨g,1,none⟩ b).setCell ⟨g,2,none⟩ d).setCell ⟨g,3,none⟩ x3).setCell ⟨g,4,none⟩ Q).heap[g]?=some (.cells #[w,b,d,x3,Q,z,y,x,v,u,f,e,B,v13] c p):=bC J 4 Q;have L:((((((a.setCell ⟨g,0,none⟩ w).setCell ⟨g,1,none⟩ b).setCell ⟨g,2,none⟩ d).setCell ⟨g,3,none⟩ x3).setCell ⟨g,4,none⟩ Q).setCell ⟨g,5,none⟩ k).heap[g]?=some (.cells #[w,b,d,x3,Q,k,y,x,v,u,f,e,B,v13] c p):=bC K 5 k;have M:(((((((a.setCell ⟨g,0,none⟩ w).setCell ⟨g,1,none⟩ b).setCell ⟨g,2,none⟩ d).setCell ⟨g,3,none⟩ x3).setCell ⟨g,4,none⟩ Q).setCell ⟨g,5,none⟩ k).setCell ⟨g,6,none⟩ v1).heap[g]?=some (.cells #[w,b,d,x3,Q,k,v1,x,v,u,f,e,B,v13] c p):=bC L 6 v1;have N:((((((((a.setCell ⟨g,0,none⟩ w).setCell ⟨g,1,none⟩ b).setCell ⟨g,2,none⟩ d).setCell ⟨g,3,none⟩ x3).setCell ⟨g,4,none⟩ Q).setCell ⟨g,5,none⟩ k).setCell ⟨g,6,none⟩ v1).setCell ⟨g,7,none⟩ n).heap[g]?=some (.cells #[w,b,d,x3,Q,k,v1,n,v,u,f,e,B,v13] c p):=bC M 7 n;have O:(((((((((a.setCell ⟨g,0,none⟩ w).setCell ⟨g,1,none⟩ b).setCell ⟨g,2,none⟩ d).setCell ⟨g,3,none⟩ x3).setCell ⟨g,4,none⟩ Q).setCell ⟨g,5,none⟩ k).setCell ⟨g,6,none⟩ v1).setCell ⟨g,7,none⟩ n).setCell ⟨g,8,none⟩ v2).heap[g]?=some (.cells #[w,b,d,x3,Q,k,v1,n,v2,u,f,e,B,v13] c p):=bC N 8 v2;have P:((((((((((a.setCell ⟨g,0,none⟩ w).setCell ⟨g,1,none⟩ b).setCell ⟨g,2,none⟩ d).setCell ⟨g,3,none⟩ x3).setCell ⟨g,4,none⟩ Q).setCell ⟨g,5,none⟩ k).setCell ⟨g,6,none⟩ v1).setCell ⟨g,7,none⟩ n).setCell ⟨g,8,none⟩ v2).setCell ⟨g,9,none⟩ r).heap[g]?=some (.cells #[w,b,d,x3,Q,k,v1,n,v2,r,f,e,B,v13] c p):=bC O 9 r;have C:(((((((((((a.setCell ⟨g,0,none⟩ w).setCell ⟨g,1,none⟩ b).setCell ⟨g,2,none⟩ d).setCell ⟨g,3,none⟩ x3).setCell ⟨g,4,none⟩ Q).setCell ⟨g,5,none⟩ k).setCell ⟨g,6,none⟩ v1).setCell ⟨g,7,none⟩ n).setCell ⟨g,8,none⟩ v2).setCell ⟨g,9,none⟩ r).setCell ⟨g,10,none⟩ i).heap[g]?=some (.cells #[w,b,d,x3,Q,k,v1,n,v2,r,i,e,B,v13] c p):=bC P 10 i;have D:((((((((((((a.setCell ⟨g,0,none⟩ w).setCell ⟨g,1,none⟩ b).setCell ⟨g,2,none⟩ d).setCell ⟨g,3,none⟩ x3).setCell ⟨g,4,none⟩ Q).setCell ⟨g,5,none⟩ k).setCell ⟨g,6,none⟩ v1).setCell ⟨g,7,none⟩ n).setCell ⟨g,8,none⟩ v2).setCell ⟨g,9,none⟩ r).setCell ⟨g,10,none⟩ i).setCell ⟨g,11,none⟩ l).heap[g]?=some (.cells #[w,b,d,x3,Q,k,v1,n,v2,r,i,l,B,v13] c p):=bC C 11 l;have E:(((((((((((((a.setCell ⟨g,0,none⟩ w).setCell ⟨g,1,none⟩ b).setCell ⟨g,2,none⟩ d).setCell ⟨g,3,none⟩ x3).setCell ⟨g,4,none⟩ Q).setCell ⟨g,5,none⟩ k).setCell ⟨g,6,none⟩ v1).setCell ⟨g,7,none⟩ n).setCell ⟨g,8,none⟩ v2).setCell ⟨g,9,none⟩ r).setCell ⟨g,10,none⟩ i).setCell ⟨g,11,none⟩ l).setCell ⟨g,12,none⟩ A).heap[g]?=some (.cells #[w,b,d,x3,Q,k,v1,n,v2,r,i,l,A,v13] c p):=bC D 12 A;have F:((((((((((((((a.setCell ⟨g,0,none⟩ w).setCell ⟨g,1,none⟩ b).setCell ⟨g,2,none⟩ d).setCell ⟨g,3,none⟩ x3).setCell ⟨g,4,none⟩ Q).setCell ⟨g,5,none⟩ k).setCell ⟨g,6,none⟩ v1).setCell ⟨g,7,none⟩ n).setCell ⟨g,8,none⟩ v2).setCell ⟨g,9,none⟩ r).setCell ⟨g,10,none⟩ i).setCell ⟨g,11,none⟩ l).setCell ⟨g,12,none⟩ A).setCell ⟨g,13,none⟩ s).heap[g]?=some (.cells #[w,b,d,x3,Q,k,v1,n,v2,r,i,l,A,s] c p):=bC E 13 s;exact F
theorem nS (h:Below B a n) {g:Nat} (v:B<=g) (f i j x3 k l m w o q b c d e:Value):Below B a (Jk n g f i j x3 k l m w o q b c d e):=
 ((((((((((((((h.setCell (p:=⟨g,0,none⟩) v f).setCell (p:=⟨g,1,none⟩) v i).setCell (p:=⟨g,2,none⟩) v j).setCell (p:=⟨g,3,none⟩) v x3).setCell (p:=⟨g,4,none⟩) v k).setCell (p:=⟨g,5,none⟩) v l).setCell (p:=⟨g,6,none⟩) v m).setCell (p:=⟨g,7,none⟩) v w).setCell (p:=⟨g,8,none⟩) v o).setCell (p:=⟨g,9,none⟩) v q).setCell (p:=⟨g,10,none⟩) v b).setCell (p:=⟨g,11,none⟩) v c).setCell (p:=⟨g,12,none⟩) v d).setCell (p:=⟨g,13,none⟩) v e)
theorem aZ.put14 {L:List FRow} (h:aZ B E a L) (g:Nat) (w:g<B\/E<=g) (f i j x3 k l m n o p b c d e:Value):aZ B E (Jk a g f i j x3 k l m n o p b c d e) L :=
 ((((((((((((((h.set ⟨g,0,none⟩ f w).set ⟨g,1,none⟩ i w).set ⟨g,2,none⟩ j w).set ⟨g,3,none⟩ x3 w).set ⟨g,4,none⟩ k w).set ⟨g,5,none⟩ l w).set ⟨g,6,none⟩ m w).set ⟨g,7,none⟩ n w).set ⟨g,8,none⟩ o w).set ⟨g,9,none⟩ p w).set ⟨g,10,none⟩ b w).set ⟨g,11,none⟩ c w).set ⟨g,12,none⟩ d w).set ⟨g,13,none⟩ e w)
theorem uf:(prog.info? 32).map (·.size)=some 14:=by kernel_rfl
end Go.Proofs.YtfagphfjfhpmjaaGreatDoor
