/- Own lemmas. -/
import Derived.Test.YtjifdmoehfbihaaGreatDoorAut
import Derived.Test.YtjifdmoehfbihaaGreatDoorK01
import Derived.WalkLawsBesides
import Derived.Laws.CopyOwn
set_option maxHeartbeats 400000
namespace Go.Proofs.YtjifdmoehfbihaaGreatDoor
open Go.RowKit Tryz
set_option linter.unusedVariables false
def Sl (k:IntKind) (w:World) (a:Option Addr) (zs:List Int):Prop :=
 ∀ i,i<zs.length->∃ b c,a=some ⟨b,c,none⟩/\b<w.heap.size/\w.cell? ⟨b,c+i,none⟩=some (.int k (zs.getD i 0))
theorem Sl.below {k:IntKind} {w w':World} {a:Option Addr} {zs:List Int} (h:Sl k w a zs) (hb:Bw w w'):Sl k w' a zs:=by intro i g;obtain ⟨b,d,e,c,f⟩:=h i g;exact ⟨b,d,e,Nat.lt_of_lt_of_le c hb.size,(hb.cell (by exact c)).trans f⟩
theorem eB {w w':World} {base:Nat} {e:TypeId} {size:Nat} {v:Value} {n:Nat} {xs:List Value} (h:w.ownsRow base e size v n xs) (hb:Bw w w'):w'.ownsRow base e size v n xs:=by
 obtain ⟨f,b⟩:=h;refine ⟨f,?_⟩;rcases b with b|⟨g,cap,a,j,i,c,r⟩;·exact Or.inl b
 ·have d:g<w.heap.size:=by
   rcases Nat.lt_or_ge g w.heap.size with h|h;·exact h
   ·rw [Array.getElem?_eq_none h] at c;cases c
  exact Or.inr ⟨g,cap,a,j,i,by rw [hb.block g d];exact c,r⟩
theorem QF {w:World} {base:Nat} {e:TypeId} {size g n cap:Nat} {xs:List Value} (h:w.ownsRow base e size (.slice (some ⟨g,0,none⟩) n cap) n xs):g<w.heap.size:=by
 obtain ⟨j,a⟩:=h;rcases a with ⟨a,_⟩|⟨i,b,f,d,k,c,r⟩;·cases a
 ·simp only [Value.slice.injEq,Option.some.injEq,Addr.mk.injEq,and_true,true_and] at d;obtain ⟨rfl,rfl⟩:=d;rcases Nat.lt_or_ge g w.heap.size with h|h;·exact h
  ·rw [Array.getElem?_eq_none h] at c;cases c
theorem kl {k:IntKind} {w:World} {base:Nat} {e:TypeId} {g n cap:Nat} {zs:List Int} (h:w.ownsRow base e 1 (.slice (some ⟨g,0,none⟩) n cap) n (zs.map (Value.int k))):Sl k w (some ⟨g,0,none⟩) zs:=by
 intro i a;have b:n=zs.length:=by have:=h.1;simp at this;omega
 refine ⟨g,0,rfl,QF h,?_⟩;rw [Nat.zero_add,h.cellAt i ab];simp [List.getElem?_map,List.getElem?_eq_getElem a,List.getD]
theorem gv {k:IntKind} {w:World} {base:Nat} {e:TypeId} {a:Option Addr} {n cap:Nat} {zs:List Int} (h:w.ownsRow base e 1 (.slice a n cap) n (zs.map (Value.int k))):Sl k w a zs:=by
 rcases h.2 with ⟨g,j⟩|⟨f,b,d,c,l,m,r⟩;·intro i o;have:=h.1;simp at this;omega
 ·simp only [Value.slice.injEq,true_and] at c;obtain ⟨rfl,rfl⟩:=c;exact kl h
theorem Hc (xs ys:List Int) (k n:Nat) (hx:xs.length=n) (hy:ys.length=n) (hk:k<n) (h:xs.take k=ys.take k) (he:xs.getD k 0=ys.getD k 0):xs.take (k+1)=ys.take (k+1):=by
 rw [List.take_succ_eq_append_getElem ab,List.take_succ_eq_append_getElem ab,h];have a:xs.getD k 0=xs[k]:=by simp [List.getD,List.getElem?_eq_getElem (show k<xs.length by omega)]
 have e2:ys.getD k 0=ys[k]:=by simp [List.getD,List.getElem?_eq_getElem (show k<ys.length by omega)]
 rw [<- a,<- e2,he]
def Ak (k:IntKind) (w:World) (a:Option Addr) (len cap:Nat) (zs:List Int):Prop :=
 (a=none/\len=0/\cap=0/\zs=[]) \/
 ∃ x,a=some x/\len<=cap/\cap<=maxLen/\zs.length=cap/\(∀ i,i<zs.length->w.cell? (x.add i)=some (.int k (zs.getD i 0)))/\∀ n ∈ zs,(Lit.int k n).wf=true
theorem Ak.sl {k:IntKind} {w:World} {a:Option Addr} {len cap:Nat} {zs:List Int} (h:Ak k w a len cap zs):∃ n:List Int,n.length=len/\Sl k w a n/\(∀ y ∈ n,(Lit.int k y).wf=true)/\len<=maxLen:=by
 rcases h with ⟨rfl,rfl,rfl,rfl⟩ | ⟨x,rfl,r,s,t,c,m⟩;·exact ⟨[],rfl,λi l=>absurd l cp,cp,et⟩
 ·refine ⟨zs.take len,bh,?_,λy q=>m y (List.mem_of_mem_take q),ab⟩;intro i l;simp only [List.length_take] at l;obtain ⟨b,f,g⟩:=x;have d:g=none:=(by simpa [Addr.add] using World.cell?_spot (c 0 ab));subst d;have p:(⟨b,f,none⟩:Addr).add i=⟨b,f+i,none⟩:=by
   by_cases o:i=0;·subst o;simp [Addr.add]
   ·simp [Addr.add,o]
  have j:=c i ab;rw [p] at j;refine ⟨b,f,rfl,World.block_lt_of_cell? _ _ j,?_⟩;have e:(zs.take len).getD i 0=zs.getD i 0:=(by simp [List.getD,show i<len by omega]);rw [e];exact j
theorem aa {w w1 w2:World} (h:Bw w w1) (k:Bw w1 w2):Bw w w2 :=
 h.trans (k.mono h.size)
theorem iM {zs:List Int} (h:∀ y ∈ zs,(Lit.int .u8 y).wf=true) (k:Nat):0<=zs.getD k 0/\zs.getD k 0<=255:=by
 by_cases a:k<zs.length;·have:=h (zs.getD k 0) (by simp [List.getD,List.getElem?_eq_getElem a]);simpa [Lit.wf,IntKind.min,IntKind.max,IntKind.signed,IntKind.bits] using this
 ·simp [List.getD,List.getElem?_eq_none (Nat.le_of_not_lt a)]
theorem mR (zs:List Int) (i:Nat) (y:Int):(zs.map (Value.int .u8)).set i (.int .u8 y)=(zs.set i y).map (Value.int .u8):=by rw [List.map_set]
theorem CS (s:Int):(s=1\/s=2\/s=4\/s=8)\/((s==1)=false/\(s==2)=false/\(s==4)=false/\(s==8)=false):=by
 by_cases a:s=1;·exact .inl (.inl a)
 ·by_cases b:s=2;·exact .inl (.inr (.inl b))
  ·by_cases c:s=4;·exact .inl (.inr (.inr (.inl c)))
   ·by_cases d:s=8;·exact .inl (.inr (.inr (.inr d)))
    ·exact .inr (by simp [a,b,c,d])
theorem JN {s:Int} (h:(s==1)=false/\(s==2)=false/\(s==4)=false/\(s==8)=false):iW s=false:=by simp at h;simp [iW,h]
theorem QG {x:Int} (h:(Lit.int .u64 x).wf=true):0<=x/\x<=18446744073709551615:=by simpa [Lit.wf,IntKind.min,IntKind.max,IntKind.signed,IntKind.bits] using h
theorem aQ {w a b:World} {row:Option Nat} (h:w.grownBy a row) (k:a.grownBy b row):w.grownBy b row :=
 ⟨k.os.trans h.os,k.tape.trans h.tape,k.output.trans h.output,Nat.le_trans h.size k.size,λi d c=>(k.block i (Nat.lt_of_lt_of_le d h.size) c).trans (h.block i d c)⟩
theorem mS (w:World) (row:Option Nat):w.grownBy w row:=⟨rfl,rfl,rfl,Nat.le_refl _,λ_ _ _=>rfl⟩
theorem NL {w:World} {b a:Nat} {zs:List Int} (hs:Sl .u8 w (some ⟨b,a,none⟩) zs) (o:Obj) (j:Nat) (u:Value) (c:(zs.map (Value.int .u8))[j]?=some u):(w.alloc o).cell? ((⟨b,a,none⟩:Addr).add j)=some u:=by
 have d:j<zs.length:=by
  rcases Nat.lt_or_ge j zs.length with h|h;·exact h
  ·rw [List.getElem?_eq_none ej] at c;cases c
 obtain ⟨n,k,e,f,m⟩:=hs j d;simp only [Option.some.injEq,Addr.mk.injEq,and_true] at e;obtain ⟨rfl,rfl⟩:=e;have l:(⟨b,a,none⟩:Addr).add j=⟨b,a+j,none⟩:=by
  by_cases i:j=0;·subst i;simp [Addr.add]
  ·simp [Addr.add,i]
 have g:u=.int .u8 (zs.getD j 0):=by simp [List.getElem?_eq_getElem d] at c;simp [List.getD,List.getElem?_eq_getElem d,c]
 rw [l,g,<- m];exact ((Below.refl w.heap.size w).alloc (Nat.le_refl _) o).cell (by exact f)
theorem jC {w:World} {base n:Nat} {e:TypeId} {v:Value} {xs:List Value} (h:w.ownsRow base e 1 v n xs) (hn:0<n):∃ g c,v=.slice (some ⟨g,0,none⟩) n c/\base<=g:=by
 rcases h.2 with ⟨_,f⟩|⟨g,cap,a,d,b,_⟩;·omega
 ·exact ⟨g,cap,d,b⟩
theorem yz (b a j:Nat):(⟨b,a,none⟩:Addr).add j=⟨b,a+j,none⟩:=by
 by_cases c:j=0;·subst c;simp [Addr.add]
 ·simp [Addr.add,c]
theorem mr {P:Program} {w:World} {r:Array Oper} {rest:List Oper} {o:Oper} {a:Act} {Q:Exit->Act->World->Prop} (y:o.guard=none) (d s:Operand) (p:TypeId) (S:o.op=.call {callee:=.builtin .copy,args:=#[d,s],argTypes:=#[p,p]}) (e:TypeId) (T:P.underlying p=some (.slice e)) (D:(P.info? e).map (·.size)=some 1) (k:IntKind) (base g n c b l cap:Nat) (zs:List Int) (ys:List Value) (hd:a.eval d=.slice (some ⟨g,0,none⟩) n c) (hs:a.eval s=.slice (some ⟨b,l,none⟩) n cap) (q:w.ownsRow base e 1 (.slice (some ⟨g,0,none⟩) n c) n ys) (C:Sl k w (some ⟨b,l,none⟩) zs) (hz:zs.length=n) (h:∀ G,G.ownsRow base e 1 (.slice (some ⟨g,0,none⟩) n c) n (zs.map (Value.int k))->w.grownBy G (some g)->wpList P r Q rest (a.put o.dst (goInt n)) G):wpList P r Q (o::rest) a w:=by
 rcases q.2 with ⟨M,_⟩|⟨W,V,m,K,v,J,A,x,O,E⟩;·cases M
 ·simp only [Value.slice.injEq,Option.some.injEq,Addr.mk.injEq,and_true,true_and] at K;obtain ⟨rfl,rfl⟩:=K;have t:(zs.map (Value.int k)).length=n:=(by rw [List.length_map,hz]);have I:m.toList.length=c:=(by rw [Array.length_toList];omega);refine wpList_copy_own y d s p p S e T D g 0 n c ⟨b,l,none⟩ n cap hd hs m e J (zs.map (Value.int k)) (by rw [t];exact (Nat.min_self n).symm) ?_ (by rw [t];omega) (ints_oneCell _ _) ?_
  ·intro j u f;have z:j<zs.length:=by
    rcases Nat.lt_or_ge j zs.length with h|h;·exact h
    ·rw [List.getElem?_eq_none ej] at f;cases f
   obtain ⟨U,L,H,R,N⟩:=C j z;simp only [Option.some.injEq,Addr.mk.injEq,and_true] at H;obtain ⟨rfl,rfl⟩:=H;have F:u=.int k (zs.getD j 0):=(by simp [List.getElem?_eq_getElem z] at f;simp [List.getD,List.getElem?_eq_getElem z,f]);rw [yz,F];exact N
  ·rw [t];refine h _ ⟨by rw [t];omega,.inr ⟨g,c,_,rfl,v,setRow_heap w g _ _ e _ J,A,x,?_,?_⟩⟩ ⟨rfl,rfl,rfl,by simp [World.setRow],λi X B=>setRow_other w g i _ (by intro h;apply B;rw [h])⟩;·simp [hz];omega
   ·simp [hz]
theorem yA {w w':World} {base:Nat} {e:TypeId} {size:Nat} {v:Value} {n:Nat} {xs:List Value} {row:Option Nat} (h:w.ownsRow base e size v n xs) (b:w.grownBy w' row) (a:∀ k,v.ownBlock=some k->row≠some k):w'.ownsRow base e size v n xs:=by
 refine h.kept b ?_;cases c:v.ownBlock with
 | none=>exact .inl rfl
 | some k=>exact .inr (λh=>a k c h.symm)
theorem cN {w:World} {base a:Nat} {e:TypeId} {size:Nat} {v:Value} {n:Nat} {xs:List Value} (h:w.ownsRow base e size v n xs) (hb:a<=base):w.ownsRow a e size v n xs:=by
 obtain ⟨d,c⟩:=h;refine ⟨d,?_⟩;rcases c with c|⟨g,cap,b,i,f,r⟩;·exact Or.inl c
 ·exact Or.inr ⟨g,cap,b,i,Nat.le_trans hb f,r⟩
theorem info5:(prog.info? 5).map (λi=>(i.zero,i.size,i.bytes))=some (some (.int .u8 0),1,1):=by kernel_rfl
theorem o6 (a:Option Addr) (n cap:Nat) (w:World) (hn:n<=1048576):CE 59 #[.slice a n cap] w (.bool (aU n)):=by
 by_cases b:4096<=n
 ·by_cases c:n<=65536
  ·have f:decide ((n:Int)<=65536)=true:=bh;by_cases d:n%4096=0;·have F:Hid (aU n=true):=(by show aU n=true;simp [aU,b,c,d]);have g:((n:Int)%4096==0)=true:=bh;go_enter func59,ntmps59;go_wp2;go_ret;exact ⟨bc,rfl⟩
   ·have F:Hid (aU n=false):=(by show aU n=false;simp [aU,d]);have g:((n:Int)%4096==0)=false:=bh;go_enter func59,ntmps59;exact uu
  ·have F:Hid (aU n=false):=(by show aU n=false;simp [aU,c]);have f:decide ((n:Int)<=65536)=false:=bh;go_enter func59,ntmps59;exact uu
 ·have F:Hid (aU n=false):=(by show aU n=false;simp [aU,b]);have l:decide ((4096:Int)<=n)=false:=bh;go_enter func59,ntmps59;exact uu
theorem eZ (a:Option Addr) (n cap:Nat) (w:World) (hn:n<=1048576):CE 69 #[.slice a n cap] w (.bool (aU n)):=by
 by_cases b:4096<=n
 ·by_cases c:n<=65536
  ·have f:decide ((n:Int)<=65536)=true:=bh;by_cases d:n%4096=0;·have F:Hid (aU n=true):=(by show aU n=true;simp [aU,b,c,d]);have g:((n:Int)%4096==0)=true:=bh;go_enter func69,ntmps69;go_wp2;go_ret;exact ⟨bc,rfl⟩
   ·have F:Hid (aU n=false):=(by show aU n=false;simp [aU,d]);have g:((n:Int)%4096==0)=false:=bh;go_enter func69,ntmps69;exact uu
  ·have F:Hid (aU n=false):=(by show aU n=false;simp [aU,c]);have f:decide ((n:Int)<=65536)=false:=bh;go_enter func69,ntmps69;exact uu
 ·have F:Hid (aU n=false):=(by show aU n=false;simp [aU,b]);have l:decide ((4096:Int)<=n)=false:=bh;go_enter func69,ntmps69;exact uu
theorem NA (a:Option Addr) (n cap base:Nat) (k:Int) (xs:List Int) (w:World) (hn:n<=1048576) (F:0<=k) (G:k<=1099511627776) (d:w.ownsRow base 5 1 (.slice a n cap) n (xs.map (Value.int .u8))):Calls prog 46 #[.slice a n cap,.i k] w λe B=>e=.returned (.i (k+n)) /\ B.ownsRow base 5 1 (.slice a n cap) n ((nF k n).map (Value.int .u8))/\w.grownBy B (Value.slice a n cap).ownBlock:=by
 have s:Hid (xs.length=n):=by show xs.length=n;have:=d.1;simpa using this
 rcases d.2 with ⟨y,I⟩ | ⟨g,u,C,A,J,_⟩;·simp only [Value.slice.injEq] at y;obtain ⟨rfl,rfl,rfl⟩:=y;have t:xs=[]:=List.eq_nil_of_length_eq_zero s.out;subst t;go_enter func46,ntmps46;go_wp2;refine wp_loop_rounds 1 ?_;rw [rounds_succ];go_wp2;go_ret;exact ⟨cp,d,⟨rfl,rfl,rfl,Nat.le_refl _,λ_ _ _=>rfl⟩⟩
 ·simp only [Value.slice.injEq,true_and] at A;obtain ⟨rfl,rfl⟩:=A;have m:w.ownsRow base 5 1 (.slice (some ⟨g,0,none⟩) n cap) n ((Mk xs k n 0).map (Value.int .u8)):=(by rw [NI];exact d);clear d;go_enter func46,ntmps46;go_wp2;go_loopw [1,5] (λc i wr=>∃ j:Nat,j<=n/\i=.i j/\c=.i (k+j)/\wr.ownsRow base 5 1 (.slice (some ⟨g,0,none⟩) n cap) n ((Mk xs k n j).map (Value.int .u8))/\w.grownBy wr (some g))
   (λ_ i _=>n-(intOf i).toNat)
  case atStart=>exact ⟨0,Nat.zero_le _,rfl,cp,m,⟨rfl,rfl,rfl,Nat.le_refl _,λ_ _ _=>rfl⟩⟩
  case round =>
   obtain ⟨j,E,rfl,rfl,d,l⟩:=hrel;clear m;by_cases p:j<n
   ·have D:wr.frozen? ⟨g,j,none⟩=false:=d.frozenAt j;have f:=d.stored j (.int .u8 ((k+(j:Int))%256));obtain ⟨K,H⟩:∃ v,wr.cell? ⟨g,j,none⟩=some v:=(by rw [d.cellAt j ab];exact ⟨_,List.getElem?_eq_getElem (by rw [List.length_map,QA _ _ _ _ s.out E];exact p)⟩);rw [mR,QB _ _ _ _ s.out p] at f;have o:w.grownBy (wr.setCell ⟨g,j,none⟩ (.int .u8 ((k+(j:Int))%256))) (some g):=
     ⟨f.2.os.trans l.os,f.2.tape.trans l.tape,f.2.output.trans l.output,Nat.le_trans l.size f.2.size,λb z q=>(f.2.block b (Nat.lt_of_lt_of_le z l.size) q).trans (l.block b z q)⟩
    have r:=f.1;clear f d;go_wp2;go_roundw;case rel=>exact ⟨j+1,ab,by go_num,by go_num,r,o⟩
    case measure=>simp [intOf];omega
   ·have:j=n:=by omega
    subst this;rw [Qz _ _ _ s.out] at d;go_wp2;go_ret;exact ⟨rfl,d,l⟩
theorem gx (s:Int) (w:World):CE 229 #[.i s] w (.bool (iW s)):=by
 rcases CS s with (rfl|rfl|rfl|rfl)|h;·go_enter func229,ntmps229;exact vo
 ·go_enter func229,ntmps229;exact vo
 ·go_enter func229,ntmps229;exact vo
 ·go_enter func229,ntmps229;exact vo
 ·have F:Hid (iW s=false):=JN h;obtain ⟨c,d,f,g⟩:=h;go_enter func229,ntmps229;exact uu
def eM (n:Nat) (addr size:Int):Int:=if gn n addr size then addr-2147483648 else 0
theorem kM (a:Option Addr) (n cap:Nat) (addr size:Int) (w:World) (hn:n<=1048576) (t:0<=addr) (p:addr<=18446744073709551615):CE 226 #[.slice a n cap,.u addr,.i size] w (.tuple #[.i (eM n addr size),.bool (gn n addr size)]):=by
 cases j:aU n;·have b:Hid (gn n addr size=false):=(by show gn n addr size=false;simp [gn,j]);have d:Hid (eM n addr size=0):=m5;go_enter func226,ntmps226;go_wp2_with (go_at_call 69;refine (eZ _ _ _ _ hn).mono ?_;rintro e c ⟨rfl,rfl⟩);go_ret2;exact ⟨ti,rfl⟩
 ·have u:=gc j;cases g:iW size;·have b:Hid (gn n addr size=false):=(by show gn n addr size=false;simp [gn,g]);have d:Hid (eM n addr size=0):=m5;go_enter func226,ntmps226;go_wp2_with (first | (go_at_call 69;refine (eZ _ _ _ _ hn).mono ?_;rintro e c ⟨rfl,rfl⟩) | (go_at_call 229;refine (gx _ _).mono ?_;rintro e c ⟨rfl,rfl⟩));go_ret2;exact ⟨ti,rfl⟩
  ·have l:size=1\/size=2\/size=4\/size=8:=of_decide_eq_true g;have r:1<=size:=ab;have s:size<=8:=ab;clear l;by_cases f:addr<2147483648;·have b:Hid (gn n addr size=false):=ka;have d:Hid (eM n addr size=0):=m5;have m:decide (addr<2147483648)=true:=i6;go_enter func226,ntmps226;go_wp2_with (first | (go_at_call 69;refine (eZ _ _ _ _ hn).mono ?_;rintro e c ⟨rfl,rfl⟩) | (go_at_call 229;refine (gx _ _).mono ?_;rintro e c ⟨rfl,rfl⟩));go_ret2;exact ⟨ti,rfl⟩
   ·have m:decide (addr<2147483648)=false:=i6;by_cases q:addr-2147483648+size<=n;·have b:Hid (gn n addr size=true):=(by show gn n addr size=true;simp [gn,j,g];omega);have d:Hid (eM n addr size=addr-2147483648):=(by show eM n addr size=_;simp [eM,b.out]);have o:decide ((n:Int)-size<addr-2147483648)=false:=bh;go_enter func226,ntmps226;go_wp2_with (first | (go_at_call 69;refine (eZ _ _ _ _ hn).mono ?_;rintro e c ⟨rfl,rfl⟩) | (go_at_call 229;refine (gx _ _).mono ?_;rintro e c ⟨rfl,rfl⟩));go_ret2;exact ⟨ti,rfl⟩
    ·have b:Hid (gn n addr size=false):=ka;have d:Hid (eM n addr size=0):=m5;have o:decide ((n:Int)-size<addr-2147483648)=true:=bh;go_enter func226,ntmps226;go_wp2_with (first | (go_at_call 69;refine (eZ _ _ _ _ hn).mono ?_;rintro e c ⟨rfl,rfl⟩) | (go_at_call 229;refine (gx _ _).mono ?_;rintro e c ⟨rfl,rfl⟩));go_ret2;exact ⟨ti,rfl⟩
theorem uh (a:Option Addr) (n cap:Nat) (addr size:Int) (w:World) (hr:aU n=true) (g:iW size=true) (t:0<=addr) (p:addr<=18446744073709551615):CE 117 #[.slice a n cap,.u addr,.i size] w (.bool (gn n addr size)):=by
 have u:=gc hr;have l:size=1\/size=2\/size=4\/size=8:=of_decide_eq_true g;have q:1<=size:=ab
 have r:size<=8:=ab
 clear l;by_cases b:2147483648<=addr
 ·by_cases d:addr-2147483648<n
  ·by_cases f:size<=n-(addr-2147483648);·have c:Hid (gn n addr size=true):=(by show gn n addr size=true;simp [gn,hr,g];omega);have j:decide (2147483648<=addr)=true:=kd;have m:decide (addr-2147483648<(n:Int))=true:=ki;have o:decide (size<=(n:Int)-(addr-2147483648))=true:=i6;go_enter func117,ntmps117;go_wp2;go_ret;exact ⟨by rw [c.out];rfl,rfl⟩
   ·have c:Hid (gn n addr size=false):=ka;have j:decide (2147483648<=addr)=true:=kd;have m:decide (addr-2147483648<(n:Int))=true:=ki;have o:decide (size<=(n:Int)-(addr-2147483648))=false:=i6;exact vw
  ·have c:Hid (gn n addr size=false):=ka;have j:decide (2147483648<=addr)=true:=kd;have m:decide (addr-2147483648<(n:Int))=false:=ki;exact vw
 ·have c:Hid (gn n addr size=false):=ka;have j:decide (2147483648<=addr)=false:=kd;exact vw
theorem ui (a:Option Addr) (n cap f m:Nat) (zs:List Int) (w:World) (hz:zs.length=n) (hn:n<=1048576) (hs:Sl .u8 w a zs) (p:∀ y ∈ zs,(Lit.int .u8 y).wf=true) (u:1<=m) (hm:m<=8) (C:f+m<=n):CE 118 #[.slice a n cap,.u (2147483648+(f:Int)),.i (m:Int)] w (.u (le zs f m)):=by
 have q:Hid (zs.length=n):=hz;have o:Hid (∀ y ∈ zs,(Lit.int .u8 y).wf=true):=p;clear hz p;go_enter func118,ntmps118;go_wp2;go_loop [8,9] (λx i=>∃ j:Nat,j<=m/\i=.i ((j:Int)-1)/\x=.u (le zs (f+j) (m-j))) (λ_ i=>(intOf i+1).toNat);case atStart=>exact ⟨m,Nat.le_refl _,rfl,by simp [le]⟩
 case round =>
  obtain ⟨j,D,rfl,rfl⟩:=hrel;by_cases t:1<=j
  ·obtain ⟨k,rfl⟩:∃ k,j=k+1:=⟨j-1,ab⟩;obtain ⟨b,z,rfl,B,s⟩:=hs (f+k) (by have:=q.out;omega);have g:=iM o.out (f+k);obtain ⟨x,d⟩:∃ x,x=zs.getD (f+k) 0:=⟨_,rfl⟩;obtain ⟨y,c⟩:∃ y,y=le zs (f+(k+1)) (m-(k+1)):=⟨_,rfl⟩;rw [<- d] at s g;rw [<- c];have l:=Qw zs (iM o.out) (m-(k+1)) (f+(k+1)) ab;rw [<- c] at l;have S:Hid (bits .or .u64 (y*256) x=le zs (f+k) (m-k)):=(by show bits .or .u64 (y*256) x=le zs (f+k) (m-k);rw [Qy y x l.1 l.2 g.1 g.2,show m-k=(m-(k+1))+1 from ab,le,d,c];rfl);clear d c;go_wp2;go_round;case rel=>exact ⟨k,ab,by go_num,by rw [<- S.out]⟩
   case measure=>simp [intOf]
  ·have r:j=0:=ab;subst r;exact vo
theorem QH (a b b2 c d e b6 f:Int) (w:World):(Instr.index 253 (.agg #[.int .u8 a,.int .u8 b,.int .u8 b2,.int .u8 c,.int .u8 d,.int .u8 e,.int .u8 b6,.int .u8 f]) (.i 0)).run prog w=.ok (.int .u8 a) w:=by kernel_rfl
theorem QI (b a b2 c d e b6 f:Int) (w:World):(Instr.index 253 (.agg #[.int .u8 b,.int .u8 a,.int .u8 b2,.int .u8 c,.int .u8 d,.int .u8 e,.int .u8 b6,.int .u8 f]) (.i 1)).run prog w=.ok (.int .u8 a) w:=by kernel_rfl
theorem QJ (a b b2 c d e b6 f:Int) (w:World):(Instr.index 253 (.agg #[.int .u8 a,.int .u8 b,.int .u8 b2,.int .u8 c,.int .u8 d,.int .u8 e,.int .u8 b6,.int .u8 f]) (.i 2)).run prog w=.ok (.int .u8 b2) w:=by kernel_rfl
theorem QK (b c b2 a d e b6 f:Int) (w:World):(Instr.index 253 (.agg #[.int .u8 b,.int .u8 c,.int .u8 b2,.int .u8 a,.int .u8 d,.int .u8 e,.int .u8 b6,.int .u8 f]) (.i 3)).run prog w=.ok (.int .u8 a) w:=by kernel_rfl
theorem QL (b c b2 d a e b6 f:Int) (w:World):(Instr.index 253 (.agg #[.int .u8 b,.int .u8 c,.int .u8 b2,.int .u8 d,.int .u8 a,.int .u8 e,.int .u8 b6,.int .u8 f]) (.i 4)).run prog w=.ok (.int .u8 a) w:=by kernel_rfl
theorem QM (b c b2 d e a b6 f:Int) (w:World):(Instr.index 253 (.agg #[.int .u8 b,.int .u8 c,.int .u8 b2,.int .u8 d,.int .u8 e,.int .u8 a,.int .u8 b6,.int .u8 f]) (.i 5)).run prog w=.ok (.int .u8 a) w:=by kernel_rfl
theorem QN (a b b2 c d e b6 f:Int) (w:World):(Instr.index 253 (.agg #[.int .u8 a,.int .u8 b,.int .u8 b2,.int .u8 c,.int .u8 d,.int .u8 e,.int .u8 b6,.int .u8 f]) (.i 6)).run prog w=.ok (.int .u8 b6) w:=by kernel_rfl
theorem QO (b c b2 d e f b6 a:Int) (w:World):(Instr.index 253 (.agg #[.int .u8 b,.int .u8 c,.int .u8 b2,.int .u8 d,.int .u8 e,.int .u8 f,.int .u8 b6,.int .u8 a]) (.i 7)).run prog w=.ok (.int .u8 a) w:=by kernel_rfl
theorem T2 (a b b2 c d e b6 f:Int) (w:World) (k:Nat) (hk:k<8):(Instr.index 253 (.agg #[.int .u8 a,.int .u8 b,.int .u8 b2,.int .u8 c,.int .u8 d,.int .u8 e,.int .u8 b6,.int .u8 f]) (.i (k:Int))).run prog w=.ok (.int .u8 ([a,b,b2,c,d,e,b6,f].getD k 0)) w:=by
 match k,hk with
 | 0,_=>exact QH a b b2 c d e b6 f w
 | 1,_=>exact QI a b b2 c d e b6 f w
 | 2,_=>exact QJ a b b2 c d e b6 f w
 | 3,_=>exact QK a b b2 c d e b6 f w
 | 4,_=>exact QL a b b2 c d e b6 f w
 | 5,_=>exact QM a b b2 c d e b6 f w
 | 6,_=>exact QN a b b2 c d e b6 f w
 | 7,_=>exact QO a b b2 c d e b6 f w
theorem uj (bs:List Int) (d f b2 g j l b6 m:Int) (w:World) (hb:bs=[d,f,b2,g,j,l,b6,m]) (q:∀ i,0<=bs.getD i 0/\bs.getD i 0<=255):CB 227 #[.agg #[.int .u8 d,.int .u8 f,.int .u8 b2,.int .u8 g,.int .u8 j,.int .u8 l,.int .u8 b6,.int .u8 m]] w (.u (le bs 0 8)):=by
 have r:Hid (bs=[d,f,b2,g,j,l,b6,m]):=hb;have p:Hid (∀ i,0<=bs.getD i 0/\bs.getD i 0<=255):=q;clear hb q;go_enter func227,ntmps227;go_wp2;go_loop [3,7] (λx i=>∃ k:Nat,k<=8/\i=.i (k:Int)/\x=.u (le bs 0 k)) (λ_ i=>8-(intOf i).toNat);case atStart=>exact ⟨0,ab,rfl,rfl⟩
 case round =>
  obtain ⟨k,B,rfl,rfl⟩:=hrel;by_cases o:k<8
  ·obtain ⟨x,b⟩:∃ x,x=bs.getD k 0:=⟨_,rfl⟩;obtain ⟨y,c⟩:∃ y,y=le bs 0 k:=⟨_,rfl⟩;have u:=p.out k;have z:=xp bs p.out k 0;rw [<- b] at u;rw [<- c] at z ⊢;have t:∀ w,(Instr.index 253 (.agg #[.int .u8 d,.int .u8 f,.int .u8 b2,.int .u8 g,.int .u8 j,.int .u8 l,.int .u8 b6,.int .u8 m]) (.i (k:Int))).run prog w=.ok (.int .u8 x) w:=(by intro w;rw [b,r.out];exact T2 d f b2 g j l b6 m w k o);have S:Hid (bits .or .u64 y (IntKind.u64.wrap (x*2^(8*k)))=le bs 0 (k+1)):=(by show bits .or .u64 y (IntKind.u64.wrap (x*2^(8*k)))=le bs 0 (k+1);have:=G4 bs p.out 0 k o;rw [Nat.zero_add] at this;rw [b,c];exact this);clear b c;go_wp2;go_round;case rel=>exact ⟨k+1,ab,by go_num,by rw [S.out]⟩
   case measure=>simp [intOf];omega
  ·have s:k=8:=ab;subst s;go_wp2;go_ret;exact ⟨rfl,bal _ _⟩
theorem pJ (x:Int) (m:Nat) (w:World) (c:1<=m) (hm:m<=8) (b:0<=x) (hx:x<18446744073709551616):CE 228 #[.u x,.i (m:Int)] w (.u (x%256^m)):=by have F:Hid (IntKind.u64.wrap (x*2^(64-8*m))/2^(64-8*m)=x%256^m):=xq x m c hm b;go_enter func228,ntmps228;go_wp2;go_ret;exact ⟨by rw [<- F.out];rfl,rfl⟩
def mt (zs:List Int) (n:Nat) (addr size:Int):Int:=if gn n addr size then le zs (addr-2147483648).toNat size.toNat else 0
theorem P6 (g p n:Nat) (zs:List Int) (w:World) (hz:zs.length=n) (u:p+8<=n) (hs:Sl .u8 w (some ⟨g,0,none⟩) zs) (r:∀ y ∈ zs,(Lit.int .u8 y).wf=true):∃ d f h j k l m o:Int,∃ B:{bs:List Int // bs=[d,f,h,j,k,l,m,o]}, w.cell? ⟨g,p,none⟩=some (.int .u8 d)/\w.cell? ⟨g,p+1,none⟩=some (.int .u8 f)/\w.cell? ⟨g,p+2,none⟩=some (.int .u8 h)/\w.cell? ⟨g,p+3,none⟩=some (.int .u8 j) /\ w.cell? ⟨g,p+4,none⟩=some (.int .u8 k)/\w.cell? ⟨g,p+5,none⟩=some (.int .u8 l)/\w.cell? ⟨g,p+6,none⟩=some (.int .u8 m)/\w.cell? ⟨g,p+7,none⟩=some (.int .u8 o) /\ Hid (∀ i,0<=B.1.getD i 0/\B.1.getD i 0<=255)/\Hid (le B.1 0 8=le zs p 8):=by
 have c:∀ i,i<8->w.cell? ⟨g,p+i,none⟩=some (.int .u8 (zs.getD (p+i) 0)):=by intro i t;obtain ⟨b,s,e,_,q⟩:=hs (p+i) ab;simp only [Option.some.injEq,Addr.mk.injEq,and_true] at e;obtain ⟨rfl,rfl⟩:=e;rw [Nat.zero_add] at q;exact q
 have a:=iM r;refine ⟨_,_,_,_,_,_,_,_,⟨[zs.getD p 0,zs.getD (p+1) 0,zs.getD (p+2) 0,zs.getD (p+3) 0,zs.getD (p+4) 0,zs.getD (p+5) 0,zs.getD (p+6) 0,zs.getD (p+7) 0],rfl⟩,c 0 ab,c 1 ab,c 2 ab,c 3 ab,c 4 ab,c 5 ab,c 6 ab,c 7 ab,?_,?_⟩
 ·intro i;match i with
  | 0=>exact a p
  | 1=>exact a (p+1)
  | 2=>exact a (p+2)
  | 3=>exact a (p+3)
  | 4=>exact a (p+4)
  | 5=>exact a (p+5)
  | 6=>exact a (p+6)
  | 7=>exact a (p+7)
  | i+8=>simp
 ·show le [zs.getD p 0,zs.getD (p+1) 0,zs.getD (p+2) 0,zs.getD (p+3) 0,zs.getD (p+4) 0,zs.getD (p+5) 0,zs.getD (p+6) 0,zs.getD (p+7) 0] 0 8=le zs p 8;rfl
theorem pK (g n cap:Nat) (zs:List Int) (addr size:Int) (w:World) (hz:zs.length=n) (hn:n<=1048576) (hs:Sl .u8 w (some ⟨g,0,none⟩) zs) (Q:∀ y ∈ zs,(Lit.int .u8 y).wf=true) (O:n<=cap) (I:cap<=9223372036854775807) (G:0<=addr) (j:addr<=18446744073709551615):CB 188 #[.slice (some ⟨g,0,none⟩) n cap,.u addr,.i size] w (.tuple #[.u (mt zs n addr size),.bool (gn n addr size)]):=by
 have K:Hid (zs.length=n):=hz;have c:Hid (∀ y ∈ zs,(Lit.int .u8 y).wf=true):=Q;clear hz Q;cases b:gn n addr size;·have q:Hid (mt zs n addr size=0):=(by show mt zs n addr size=0;simp [mt,b]);go_enter func188,ntmps188;go_wp2_with (go_at_call 226;refine (kM _ _ _ _ _ _ hn G j).mono ?_;rintro e r ⟨rfl,rfl⟩);go_ret2;exact ⟨by rw [q.out];rfl,Below.refl _ _⟩
 ·obtain ⟨_,_,hb1,hb2,hs1,hs2,hn1,hn2⟩:=jY b;obtain ⟨f,hf⟩:∃ f:Nat,addr=2147483648+(f:Int):=⟨(addr-2147483648).toNat,ab⟩;obtain ⟨m,hm⟩:∃ m:Nat,size=(m:Int):=⟨size.toNat,ab⟩;subst hf hm;have q:Hid (mt zs n (2147483648+(f:Int)) (m:Int)=le zs f m):=(by show mt zs n (2147483648+(f:Int)) (m:Int)=le zs f m;simp only [mt,b,if_true];rw [show (2147483648+(f:Int)-2147483648).toNat=f from ab,Int.toNat_natCast]);have M:Hid (eM n (2147483648+(f:Int)) (m:Int)=f):=(by show eM n (2147483648+(f:Int)) (m:Int)=f;simp only [eM,b,if_true];omega);by_cases hle:f<=n-8;·have H:∀ w,(Instr.arrayAt 253 (.slice (some ⟨g,f,none⟩) 8 (cap-f))).run prog w=.ok (.p g f) w:=λw=>run_arrayAt w 253 _ 8 _ 8 (cap-f) underlying253 ab;obtain ⟨s,t,u,z,A,C,E,F,B,S,T,U,V,W,X,Y,Z,l,L⟩:=P6 g f n zs w K.out ab hs c.out;go_enter func188,ntmps188;go_wp2_with (first | (go_at_call 226;refine (kM _ _ _ _ _ _ hn G j).mono ?_;rw [M.out];rintro e r ⟨rfl,rfl⟩) | (go_at_call 227;refine (uj B.1 s t u z A C E F _ B.2 l.out).mono ?_;rw [L.out];rintro e w1 ⟨rfl,o⟩));have R:Hid (le zs f 8%256^m=le zs f m):=(by have:=JJ zs (iM c.out) f m (8-m);rw [show m+(8-m)=8 from ab] at this;exact this);have N:=tV zs (iM c.out) 8 f ab;refine (pJ (le zs f 8) m _ ab ab N.1 N.2).mono ?_;rw [R.out];rintro e w2 ⟨rfl,rfl⟩;go_wp2_with fail;go_ret2;exact ⟨by rw [q.out];rfl,o⟩
  ·obtain ⟨p,hp⟩:∃ p,n=p+8:=⟨n-8,ab⟩;obtain ⟨d,hd⟩:∃ d,f=p+d:=⟨f-p,ab⟩;subst hp hd;have H:∀ w,(Instr.arrayAt 253 (.slice (some ⟨g,p,none⟩) 8 (cap-p))).run prog w=.ok (.p g p) w:=λw=>run_arrayAt w 253 _ 8 _ 8 (cap-p) underlying253 ab;obtain ⟨s,t,u,z,A,C,E,F,B,S,T,U,V,W,X,Y,Z,l,L⟩:=P6 g p (p+8) zs w K.out ab hs c.out;have P:gn (p+8) (2147483648+((p:Int)+(d:Int))) (m:Int)=true:=(by rw [<- Int.natCast_add];exact b);have D:Hid (le zs p 8/2^(8*d)=le zs (p+d) (8-d)):=(by show le zs p 8/2^(8*d)=le zs (p+d) (8-d);have:=Qx zs (iM c.out) p d (8-d);rw [show d+(8-d)=8 from ab] at this;rw [tW];exact this);have R:Hid (le zs (p+d) (8-d)%256^m=le zs (p+d) m):=(by have:=JJ zs (iM c.out) (p+d) m (8-d-m);rw [show m+(8-d-m)=8-d from ab] at this;exact this);have J:Hid (0<=le zs (p+d) (8-d)/\le zs (p+d) (8-d)<18446744073709551616):=tV zs (iM c.out) (8-d) (p+d) ab;go_enter func188,ntmps188;go_wp2_with (first | (go_at_call 226;refine (kM _ _ _ _ _ _ hn G j).mono ?_;rw [M.out];rintro e r ⟨rfl,rfl⟩) | (go_at_call 227;refine (uj B.1 s t u z A C E F _ B.2 l.out).mono ?_;rw [L.out];rintro e w1 ⟨rfl,o⟩));rw [D.out];refine (pJ (le zs (p+d) (8-d)) m _ ab ab J.out.1 J.out.2).mono ?_;rw [R.out];rintro e w2 ⟨rfl,rfl⟩;go_wp2_with fail;go_ret2;exact ⟨by rw [q.out];rfl,o⟩
theorem xt (g n cap f m base:Nat) (zs:List Int) (x:Int) (w:World) (hn:n<=1048576) (hm:m<=8) (E:f+m<=n) (q:0<=x) (s:x<=18446744073709551615) (c:w.ownsRow base 5 1 (.slice (some ⟨g,0,none⟩) n cap) n (zs.map (Value.int .u8))):Calls prog 119 #[.slice (some ⟨g,0,none⟩) n cap,.u (2147483648+(f:Int)),.i (m:Int),.u x] w λe z=>e=.returned (.tuple #[]) /\ z.ownsRow base 5 1 (.slice (some ⟨g,0,none⟩) n cap) n ((jZ zs f x m).map (Value.int .u8))/\w.grownBy z (some g):=by
 have A:Hid (zs.length=n):=by show zs.length=n;have:=c.1;simpa using this
 go_enter func119,ntmps119;go_wp2;go_loopw [3,9] (λy i wr=>∃ j:Nat,j<=m/\i=.i (j:Int)/\y=.u (x/256^j)/\wr.ownsRow base 5 1 (.slice (some ⟨g,0,none⟩) n cap) n ((jZ zs f x j).map (Value.int .u8))/\w.grownBy wr (some g))
  (λ_ i _=>m-(intOf i).toNat)
 case atStart=>exact ⟨0,Nat.zero_le _,rfl,cp,c,mS _ _⟩
 case round =>
  obtain ⟨j,F,rfl,rfl,b,p⟩:=hrel;clear c;by_cases C:j<m
  ·have B:wr.frozen? ⟨g,f+j,none⟩=false:=b.frozenAt (f+j);have d:=b.stored (f+j) (.int .u8 (x/256^j%256));obtain ⟨G,D⟩:∃ v,wr.cell? ⟨g,f+j,none⟩=some v:=(by rw [b.cellAt (f+j) ab];exact ⟨_,List.getElem?_eq_getElem (by rw [List.length_map,jd,A.out];omega)⟩);rw [mR] at d;have o:(wr.setCell ⟨g,f+j,none⟩ (.int .u8 (x/256^j%256))).ownsRow base 5 1 (.slice (some ⟨g,0,none⟩) n cap) n ((jZ zs f x (j+1)).map (Value.int .u8)):=d.1;have l:=aQ p d.2;have N:Hid (x/256^(j+1)=x/256^j/256):=(by show x/256^(j+1)=x/256^j/256;rw [Int.pow_succ,Int.ediv_ediv_of_nonneg (Int.le_of_lt (Int.pow_pos ab))]);have t:0<=x/256^j:=Int.ediv_nonneg q (Int.le_of_lt (Int.pow_pos ab));have u:x/256^j<=18446744073709551615:=Int.le_trans (Int.ediv_le_self _ q) s;obtain ⟨y,r⟩:∃ y,y=x/256^j:=⟨_,rfl⟩;rw [<- r] at o l t u N ⊢;clear d b r;go_wp2;go_roundw;case rel=>exact ⟨j+1,ab,by go_num,by rw [N.out],o,l⟩
   case measure=>simp [intOf];omega
  ·have:j=m:=by omega
   subst this;go_wp2;go_end0;exact ⟨rfl,b,p⟩
def iC (zs:List Int) (n:Nat) (addr size x:Int):Nat:=(kj zs n addr size x).length
theorem NM (w:World) (base:Nat):w.ownsRow base 5 1 (.slice none 0 0) 0 (([]:List Int).map (Value.int .u8)):=World.ownsRow_nil w base 5 1
theorem wq (a:Option Addr) (n cap:Nat) (zs:List Int) (addr size x:Int) (w:World) (hz:zs.length=n) (hn:n<=1048576) (hs:Sl .u8 w a zs) (R:0<=addr) (A:addr<=18446744073709551615) (L:0<=x) (hx1:x<=18446744073709551615):Calls prog 194 #[.slice a n cap,.u addr,.i size,.u x] w λe F=>∃ (Q:Option Addr) (c:Nat),e=.returned (.tuple #[.slice Q (iC zs n addr size x) c,.bool (gn n addr size)]) /\ F.ownsRow w.heap.size 5 1 (.slice Q (iC zs n addr size x) c) (iC zs n addr size x) ((kj zs n addr size x).map (Value.int .u8))/\Bw w F:=by
 have E:Hid (zs.length=n):=hz;clear hz;cases q:gn n addr size;·have z:Hid (kj zs n addr size x=[]):=(by show kj zs n addr size x=[];simp [kj,q]);have G:Hid (iC zs n addr size x=0):=(by show iC zs n addr size x=0;simp [iC,z.out]);go_enter func194,ntmps194;go_wp2_with (go_at_call 226;refine (kM _ _ _ _ _ _ hn R A).mono ?_;rintro e F ⟨rfl,rfl⟩);go_ret2;rw [z.out,G.out];exact ⟨_,_,rfl,NM _ _,Below.refl _ _⟩
 ·obtain ⟨hr,hsz,W,X,hs1,hs2,hn1,hn2⟩:=jY q;obtain ⟨f,Y⟩:∃ f:Nat,addr=2147483648+(f:Int):=⟨(addr-2147483648).toNat,ab⟩;obtain ⟨m,hm⟩:∃ m:Nat,size=(m:Int):=⟨size.toNat,ab⟩;subst Y hm;have z:Hid (kj zs n (2147483648+(f:Int)) (m:Int) x=jZ zs f x m):=(by show kj zs n (2147483648+(f:Int)) (m:Int) x=jZ zs f x m;simp only [kj,q,if_true];rw [show (2147483648+(f:Int)-2147483648).toNat=f from ab,Int.toNat_natCast]);have G:Hid (iC zs n (2147483648+(f:Int)) (m:Int) x=n):=(by show iC zs n (2147483648+(f:Int)) (m:Int) x=n;rw [iC,z.out,jd,E.out]);have V:Hid (eM n (2147483648+(f:Int)) (m:Int)=f):=(by show eM n (2147483648+(f:Int)) (m:Int)=f;simp only [eM,q,if_true];omega);obtain ⟨b,P,rfl,S,I⟩:=hs 0 (by have:=E.out;omega);clear I;obtain ⟨U,T,N,D,O⟩:=info_parts info5;have C:(prog.info? 5).map (·.size)=some 1:=(by rw [T];simp [D]);have B:U.bytes*n<=281474976710656:=(by rw [O];omega);have H:n<=maxLen:=et;go_enter func194,ntmps194;go_wp2_with (first | (go_at_call 226;refine (kM _ _ _ _ _ _ hn R A).mono ?_;rw [V.out];rintro e F ⟨rfl,J⟩;have K:=J.symm;subst K) | (at_make;refine wpList_make_full _ rfl (.tmp 24) (.tmp 24) 24 rfl w.heap.size 5 U (.int .u8 0) 1 underlying24 T N D .i64 .i64 _ _ n rfl rfl rfl rfl B H (Nat.le_refl _) ?_;intro w1 s g) | (refine mr rfl (.tmp 26) (.tmp 27) 24 rfl 5 underlying24 C .u8 w.heap.size w.heap.size n n b P cap zs _ rfl rfl s (hs.below ((Below.refl _ _).grown g (Nat.le_refl _) ta)) E.out ?_;intro w2 p l));have o:Bw w w2:=Below.grown ((Below.refl _ _).grown g (Nat.le_refl _) ta) l g.size (by intro k h;cases h;exact Nat.le_refl _);clear s g l hs;go_loopw [30] (λi wr=>∃ j:Nat,j<=m/\i=.i (j:Int)/\wr.ownsRow w.heap.size 5 1 (.slice (some ⟨w.heap.size,0,none⟩) n n) n ((jZ zs f x j).map (Value.int .u8))/\Bw w wr)
   (λi _=>m-(intOf i).toNat)
  case atStart=>exact ⟨0,Nat.zero_le _,rfl,p,o⟩
  case round =>
   obtain ⟨j,hj,rfl,d,r⟩:=hrel;clear p o;by_cases hlt:j<m
   ·have Z:wr.frozen? ⟨w.heap.size,f+j,none⟩=false:=d.frozenAt (f+j);have y:=(d.stored (f+j) (.int .u8 (x/256^j%256))).1;obtain ⟨v3,hv3⟩:∃ v,wr.cell? ⟨w.heap.size,f+j,none⟩=some v:=(by rw [d.cellAt (f+j) ab];exact ⟨_,List.getElem?_eq_getElem (by rw [List.length_map,jd,E.out];omega)⟩);rw [mR] at y;have t:(wr.setCell ⟨w.heap.size,f+j,none⟩ (.int .u8 (x/256^j%256))).ownsRow w.heap.size 5 1 (.slice (some ⟨w.heap.size,0,none⟩) n n) n ((jZ zs f x (j+1)).map (Value.int .u8)):=y;have u:Bw w (wr.setCell ⟨w.heap.size,f+j,none⟩ (.int .u8 (x/256^j%256))):=r.setCell (Nat.le_refl _) _;have M:0<=x/256^j:=Int.ediv_nonneg L (Int.le_of_lt (Int.pow_pos ab));clear y d;rw [<- tW] at t u M;go_wp2;go_roundw;case rel=>exact ⟨j+1,ab,by go_num,t,u⟩
    case measure=>simp [intOf];omega
   ·have:j=m:=by omega
    subst this;go_wp2;go_ret2;rw [G.out,z.out];exact ⟨_,_,rfl,d,r⟩
structure FRow where
 t:TypeId
 v:Value
 n:Nat
 xs:List Value
structure bx (B E:Nat) (w:World) (L:List FRow):Prop where
 own:∀ r ∈ L,w.ownsRow B r.t 1 r.v r.n r.xs
 hi:∀ r ∈ L,∀ k,r.v.ownBlock=some k->k<E
 ne:L.Pairwise (λr s=>∀ k,r.v.ownBlock=some k->s.v.ownBlock≠some k)
structure kS (B E:Nat) (w w':World):Prop where
 os:w'.os=w.os
 tape:w'.tape=w.tape
 output:w'.output=w.output
 size:w.heap.size<=w'.heap.size
 block:∀ k,k<w.heap.size->(k<B\/E<=k)->w'.heap[k]?=w.heap[k]?
theorem kS.refl (B E:Nat) (w:World):kS B E w w:=⟨rfl,rfl,rfl,Nat.le_refl _,λ_ _ _=>rfl⟩
theorem kS.of_below {B E:Nat} {w w':World} (h:Bw w w'):kS B E w w':=⟨h.os,h.tape,h.output,h.size,λk a _=>h.block k a⟩
theorem kS.below {a B E:Nat} {w w':World} (h:kS B E w w') (b:a<=B) (d:a<=w.heap.size):Below a w w':=⟨h.os,h.tape,h.output,h.size,λk c=>h.block k ab (.inl ab)⟩
theorem kS.of_grown {B E:Nat} {w w':World} {row:Option Nat} (h:w.grownBy w' row) (hr:∀ k,row=some k->B<=k/\k<E):kS B E w w' :=
 ⟨h.os,h.tape,h.output,h.size,λk a b=>h.block k a (λe=>by have:=hr k e.symm;omega)⟩
theorem fH {w w':World} {B n:Nat} {t:TypeId} {v:Value} {xs:List Value} (h:w.ownsRow B t 1 v n xs) (hk:∀ k,v.ownBlock=some k->w'.heap[k]?=w.heap[k]?):w'.ownsRow B t 1 v n xs:=by
 refine ⟨h.1,?_⟩;rcases h.2 with b|⟨g,cap,a,c,b,d,e⟩;·exact .inl b
 ·exact .inr ⟨g,cap,a,c,b,(hk g (by rw [c];rfl)).trans d,e⟩
theorem bx.mono {B E:Nat} {w w':World} {L:List FRow} (h:bx B E w L) (hk:∀ k,B<=k->k<E->k<w.heap.size->w'.heap[k]?=w.heap[k]?):bx B E w' L :=
 ⟨λr a=>fH (h.own r a) (λk e=>hk k ((h.own r a).lt k e).1 (h.hi r a k e) ((h.own r a).lt k e).2),h.hi,h.ne⟩
theorem bx.below {B E:Nat} {w w':World} {L:List FRow} (h:bx B E w L) (hb:Bw w w'):bx B E w' L:=h.mono λk _ _ a=>hb.block k a
theorem bx.low {B B' E E':Nat} {w:World} {L:List FRow} (h:bx B E w L) (hb:B'<=B) (he:E<=E'):bx B' E' w L :=
 ⟨λr a=>cN (h.own r a) hb,λr a k e=>Nat.lt_of_lt_of_le (h.hi r a k e) he,h.ne⟩
theorem bx.set {B E:Nat} {w:World} {L:List FRow} (h:bx B E w L) (p:Addr) (v:Value) (d:p.block<B\/E<=p.block):bx B E (w.setCell p v) L:=h.mono λk a b c=>Below.heap_setCell w p v k ab
theorem bx.nil (B E:Nat) (w:World):bx B E w []:=⟨λr a=>(nomatch a),λr a=>(nomatch a),List.Pairwise.nil⟩
theorem bx.cons {B E:Nat} {w:World} {L:List FRow} (h:bx B E w L) (r:FRow) (base E':Nat) (b:w.ownsRow base r.t 1 r.v r.n r.xs) (d:E<=base) (c:B<=base) (f:w.heap.size<=E') (h4:E<=E'):bx B E' w (r::L):=by
 refine ⟨λs a=>?_,λs a k e=>?_,List.pairwise_cons.2 ⟨λs a k e e2=>?_,h.ne⟩⟩
 ·rcases List.mem_cons.1 a with rfl|a;·exact cN b c
  ·exact h.own s a
 ·rcases List.mem_cons.1 a with rfl|a;·have:=(b.lt k e).2;omega
  ·have:=h.hi s a k e;omega
 ·have:=(b.lt k e).1;have:=h.hi s a k e2;omega
theorem bx.snoc {B E:Nat} {w:World} {L:List FRow} (h:bx B E w L) (r:FRow) (base E':Nat) (i:w.ownsRow base r.t 1 r.v r.n r.xs) (d:E<=base) (f:B<=base) (g:w.heap.size<=E') (h4:E<=E'):bx B E' w (L++[r]):=by
 have c:=h.cons r base E' i d f g h4;refine ⟨λs a=>c.own s ?_,λs a=>c.hi s ?_,List.pairwise_append.2 ⟨h.ne,List.pairwise_singleton _ _,λs a q b k e e2=>?_⟩⟩
 ·rcases List.mem_append.1 a with a|a;·exact List.mem_cons_of_mem _ a
  ·rw [List.mem_singleton.1 a];exact List.mem_cons_self ..
 ·rcases List.mem_append.1 a with a|a;·exact List.mem_cons_of_mem _ a
  ·rw [List.mem_singleton.1 a];exact List.mem_cons_self ..
 ·simp only [List.mem_singleton] at b;subst b;exact (List.pairwise_cons.1 c.ne).1 s a k e2 e
theorem bx.mark {B E:Nat} {w w':World} {L1 L2:List FRow} {r:FRow} (h:bx B E w (L1++r::L2)) (g:w.grownBy w' r.v.ownBlock) (xs:List Value) (j:w'.ownsRow B r.t 1 r.v r.n xs):bx B E w' (L1++⟨r.t,r.v,r.n,xs⟩::L2)/\kS B E w w':=by
 have b:=List.pairwise_append.1 h.ne;have c:=List.pairwise_cons.1 b.2.1;have kept:∀ s ∈ L1++r::L2,(∀ k,s.v.ownBlock=some k->r.v.ownBlock≠some k)->w'.ownsRow B s.t 1 s.v s.n s.xs:=λs a i=>fH (h.own s a) (λk e=>g.block k ((h.own s a).lt k e).2 (λe2=>i k e e2.symm));have f:r ∈ L1++r::L2:=cp
 refine ⟨⟨λs a=>?_,λs a k e=>?_,?_⟩,kS.of_grown g λk e=>⟨((h.own r f).lt k e).1,h.hi r f k e⟩⟩
 ·rcases List.mem_append.1 a with a | a;·exact kept s (List.mem_append_left _ a) (λk e=>b.2.2 s a r (List.mem_cons_self ..) k e)
  ·rcases List.mem_cons.1 a with rfl|a;·exact j
   ·exact kept s (List.mem_append_right _ (List.mem_cons_of_mem _ a)) (λk e e2=>c.1 s a k e2 e)
 ·rcases List.mem_append.1 a with a|a;·exact h.hi s (List.mem_append_left _ a) k e
  ·rcases List.mem_cons.1 a with rfl|a;·exact h.hi r f k e
   ·exact h.hi s (List.mem_append_right _ (List.mem_cons_of_mem _ a)) k e
 ·refine List.pairwise_append.2 ⟨b.1,List.pairwise_cons.2 ⟨λs a k e=>c.1 s a k e,c.2⟩,λs a q d k e=>?_⟩;rcases List.mem_cons.1 d with rfl | d;·exact b.2.2 s a r (List.mem_cons_self ..) k e
  ·exact b.2.2 s a q (List.mem_cons_of_mem _ d) k e
end Go.Proofs.YtjifdmoehfbihaaGreatDoor
