/- Own lemmas. -/
import Derived.Test.YtjifdmoehfbihaaGreatDoorAuj
import Derived.Test.YtjifdmoehfbihaaGreatDoorJ02
import Derived.Great.BuildSlice
import Derived.Deep.Cut
import Derived.Lib.TrailingZeros
import Derived.Lib.Mul64
set_option maxRecDepth 100000
set_option maxHeartbeats 4000000
namespace Go.Proofs.YtjifdmoehfbihaaGreatDoor
open Go.RowKit Tryz
set_option linter.unusedVariables false
variable (w:Option Addr) (x p:Int) (a:World)
theorem pQ:Calls prog 185 #[] a λe b=>e=.returned (.slice (some ⟨a.heap.size,0,none⟩) 22 22)/\b=a.alloc (.cells (eg.map (Value.int .i64)).toArray 2):=by go_enter func185,ntmps185;exact x7
def UB (w:World) (g:Nat):Prop:=g<w.heap.size/\∀ k,k<22->w.cell? ⟨g,k,none⟩=some (.i (eg.getD k 0))
theorem BA:Calls prog 185 #[] a λe w=>e=.returned (.slice (some ⟨a.heap.size,0,none⟩) 22 22)/\Hid (UB w a.heap.size)/\Bw a w :=
 (pQ a).mono λe w h=>by
  obtain ⟨b,rfl⟩:=h
  refine ⟨b,?_,bal _ _⟩
  show UB _ _
  refine ⟨cp,λk c=>?_⟩
  rw [cell_of_row _ _ _ _ _ _ (heap_alloc_new _ _)]
  have d:k<eg.length:=c
  simp [List.getD,List.getElem?_eq_getElem d]
theorem dI:CB 134 #[.i x] a (.i (cZ x)):=by
 by_cases c:x=256;·subst c;exact a00
 by_cases d:x=260;·subst d;exact a00
 by_cases f:x=324;·subst f;exact a00
 have o:cZ x=eH x 22 0:=by unfold cZ;rw [if_neg c,if_neg d,if_neg f]
 rw [o];have t:(x==256)=false:=i6
 have u:(x==260)=false:=kc
 have z:(x==324)=false:=i3
 clear c d f o;go_enter func134,ntmps134;go_wp2_with fail;refine (BA _).mono ?_;rintro e r ⟨rfl,p,l⟩;go_wp2_with fail;go_loopw [4] (λi wr=>∃ k:Nat,k<=22/\i=.i k/\Hid (eH x (22-k) k=eH x 22 0)/\wr=r)
  (λi _=>22-(intOf i).toNat)
 case atStart=>exact ⟨0,ab,rfl,(rfl:eH x (22-0) 0=eH x 22 0),rfl⟩
 case round =>
  obtain ⟨k,A,rfl,g,rfl⟩:=hrel;by_cases b:k<22
  ·have s:=p.out.2 k b;cases m:(eg.getD k 0==x) with
   | true =>have F:Hid (eH x 22 0=(k:Int)):=g.out.symm.trans (Bk x k b m);generalize eg.getD k 0=y at *;go_wp2_with fail;go_ret;exact ⟨bh,l⟩
   | false =>
     have F:Hid (eH x (22-(k+1)) (k+1)=eH x 22 0):=(zw x k b m).symm.trans g.out;generalize eg.getD k 0=y at *;go_wp2_with fail;go_roundw;case rel=>exact ⟨k+1,ab,by go_num,F,trivial⟩
     case measure=>simp [intOf];omega
  ·have j:k=22:=ab;subst j;have F:Hid (eH x 22 0=-1):=g.out.symm;go_wp2_with fail;go_ret;exact ⟨bh,l⟩
theorem Jg:CE 172 #[.i 1,.u x] a (.u (bn 1 x)):=by go_enter func172,ntmps172;exact x7
theorem Jh:CE 172 #[.i 2,.u x] a (.u (bn 2 x)):=by go_enter func172,ntmps172;exact x7
theorem Ji:CE 172 #[.i 3,.u x] a (.u (bn 3 x)):=by go_enter func172,ntmps172;exact x7
theorem Jj:CE 172 #[.i 4,.u x] a (.u (bn 4 x)):=by go_enter func172,ntmps172;exact x7
theorem Er:CE 172 #[.i 10,.u x] a (.u (bn 10 x)):=by go_enter func172,ntmps172;exact x7
theorem Jk:CE 172 #[.i 6,.u x] a (.u (bn 6 x)):=by go_enter func172,ntmps172;exact x7
theorem Es:CE 172 #[.i 12,.u x] a (.u (bn 12 x)):=by go_enter func172,ntmps172;exact x7
theorem Jl:CE 172 #[.i 7,.u x] a (.u (bn 7 x)):=by go_enter func172,ntmps172;exact x7
theorem Et:CE 172 #[.i 13,.u x] a (.u (bn 13 x)):=by go_enter func172,ntmps172;exact x7
theorem Eu:CE 172 #[.i 17,.u x] a (.u (bn 17 x)):=by go_enter func172,ntmps172;exact x7
theorem Ev:CE 172 #[.i 18,.u x] a (.u (bn 18 x)):=by go_enter func172,ntmps172;exact x7
theorem Ew:CE 172 #[.i 19,.u x] a (.u (bn 19 x)):=by go_enter func172,ntmps172;exact x7
theorem Ex:CE 172 #[.i 20,.u x] a (.u (bn 20 x)):=by go_enter func172,ntmps172;exact x7
theorem Jm:CE 172 #[.i 0,.u x] a (.u (bn 0 x)):=by
 have b:bn 0 x=mst x:=rfl;unfold mst at b;obtain ⟨y,d⟩:∃ y,bits .and .u64 x 924074=y:=⟨_,rfl⟩;rw [d] at b;cases c:(bits .and .u64 (y/2048) 3==2) with
 | true =>have F:Hid (bn 0 x=bits .andNot .u64 y 6144):=(by show _=_;rw [b,if_pos c]);clear b;exact a01
 | false =>have F:Hid (bn 0 x=y):=(by show _=_;rw [b,if_neg (by rw [c];decide)]);clear b;exact a01
theorem Ey:CE 172 #[.i 16,.u x] a (.u (bn 16 x)):=by
 go_enter func172,ntmps172;go_wp2_with fail;go_loopw [5,6] (λy i wr=>∃ k:Nat,k<=4/\i=.u k/\y=.u (dq x k)/\wr=a)
  (λ_ i _=>4-(intOf i).toNat)
 case atStart=>exact ⟨0,ab,rfl,rfl,rfl⟩
 case round =>
  obtain ⟨k,r,rfl,rfl,rfl⟩:=hrel;by_cases p:k<4
  ·have c:dq x (k+1)=bits .or .u64 (dq x k) (IntKind.u64.wrap (jx x k*2^(8*k))):=rfl;unfold jx at c;have o:IntKind.u64.wrap (8*(k:Int))=((8*k:Nat):Int):=dm;have l:8*k<64:=ab;have d:decide ((k:Int)<4)=true:=bv;obtain ⟨b,m⟩:∃ b,bits .and .u64 (x/2^(8*k)) 159=b:=⟨_,rfl⟩;obtain ⟨y,f⟩:∃ y,y=dq x k:=⟨_,rfl⟩;rw [m,<- f] at c;rw [<- f];cases j:(bits .and .u64 b 1==0) with
   | true =>
     rw [if_pos j] at c;have F:Hid (dq x (k+1)=bits .or .u64 y (IntKind.u64.wrap (bits .andNot .u64 b 2*2^(8*k)))):=c;clear c f;go_wp2_with fail;go_roundw;case rel=>exact ⟨k+1,ab,by go_num,by rw [F.out],trivial⟩
     case measure=>simp [intOf];omega
   | false =>
     rw [if_neg (by rw [j];decide)] at c;have F:Hid (dq x (k+1)=bits .or .u64 y (IntKind.u64.wrap (b*2^(8*k)))):=c;clear c f;go_wp2_with fail;go_roundw;case rel=>exact ⟨k+1,ab,by go_num,by rw [F.out],trivial⟩
     case measure=>simp [intOf];omega
  ·have g:k=4:=ab;subst g;have F:Hid (bn 16 x=dq x 4):=(rfl:bn 16 x=dq x 4);generalize dq x 4=y at *;exact a02
theorem BC {p:Int} (h:¬ (p=0\/p=1\/p=2\/p=3\/p=4\/p=10\/p=6\/p=12\/p=7\/p=13\/p=16\/p=17\/p=18\/p=19\/p=20)) (x:Int):bn p x=x:=by unfold bn;rw [if_neg ab,if_neg ab,if_neg ab,if_neg ab,if_neg ab,if_neg ab,if_neg ab,if_neg ab,if_neg ab]
theorem fy:CE 172 #[.i x,.u p] a (.u (bn x p)):=by
 by_cases h:x=0\/x=1\/x=2\/x=3\/x=4\/x=10\/x=6\/x=12\/x=7\/x=13\/x=16\/x=17\/x=18\/x=19\/x=20
 ·rcases h with rfl|rfl|rfl|rfl|rfl|rfl|rfl|rfl|rfl|rfl|rfl|rfl|rfl|rfl|rfl;·exact Jm p a
  ·exact Jg p a
  ·exact Jh p a
  ·exact Ji p a
  ·exact Jj p a
  ·exact Er p a
  ·exact Jk p a
  ·exact Es p a
  ·exact Jl p a
  ·exact Et p a
  ·exact Ey p a
  ·exact Eu p a
  ·exact Ev p a
  ·exact Ew p a
  ·exact Ex p a
 ·have F:Hid (bn x p=p):=BC h p;have g:(x==0)=false:=bv;have j:(x==1)=false:=bv;have l:(x==2)=false:=bv;have m:(x==3)=false:=bv;have d4:(x==4)=false:=bv;have VL:(x==10)=false:=bv;have d6:(x==6)=false:=bv;have WA:(x==12)=false:=bv;have d7:(x==7)=false:=bv;have VK:(x==13)=false:=bv;have Vx:(x==16)=false:=bv;have VJ:(x==17)=false:=bv;have b:(x==18)=false:=bv;have c:(x==19)=false:=bv;have d:(x==20)=false:=bv;clear h;exact a01
theorem ox (n cap:Nat) (l:List Int) (a:World) (hz:l.length=n) (hs:Sl .u64 a w l): CE 102 #[.slice w n cap] a (.bool (bo n l)):=by
 by_cases A:n=22
 ·have r:bo n l=fH l 22 0:=(by simp [bo,A]);rw [r];have C:Hid (l.length=n):=hz;subst A;clear hz r;go_enter func102,ntmps102;go_wp2_with fail;go_loopw [3] (λi wr=>∃ k:Nat,k<=22/\i=.i k/\Hid (fH l (22-k) k=fH l 22 0)/\wr=a)
   (λi _=>22-(intOf i).toNat)
  case atStart=>exact ⟨0,ab,rfl,(rfl:fH l (22-0) 0=fH l 22 0),rfl⟩
  case round =>
   obtain ⟨k,M,rfl,u,rfl⟩:=hrel;by_cases m:k<22
   ·obtain ⟨b,G,rfl,K,L⟩:=hs k (by rw [C.out];exact m);have c:fq k (l.getD k 0)=true->Hid (fH l (22-(k+1)) (k+1)=fH l 22 0):=λh=>(D7 l k m h).symm.trans u.out;have f:fq k (l.getD k 0)=false->Hid (fH l 22 0=false):=λh=>u.out.symm.trans (IR l k m h);generalize l.getD k 0=x at *;have J:decide ((k:Int)<22)=true:=bv;by_cases B:k=9
    ·subst B;cases g:(bits .and .u64 x 2730==x) with
     | true =>
       have F:=c (by simpa [fq] using g);have d:(bits .and .u64 x 2730 != x)=false:=(by simp [bne,g]);clear c f;go_wp2_with fail;go_roundw;case rel=>exact ⟨9+1,ab,by go_num,F,trivial⟩
       case measure=>simp [intOf]
     | false =>have F:=f (by simpa [fq] using g);have d:(bits .and .u64 x 2730 != x)=true:=(by simp [bne,g]);clear c f;exact a02
    ·have d9:((k:Int)==9)=false:=bv;by_cases q:k=15
     ·subst q;have j:fq 15 x=((x/1152921504606846976==0)||(x/1152921504606846976==8)):=(by simp [fq]);obtain ⟨y,E⟩:∃ y,x/1152921504606846976=y:=⟨_,rfl⟩;rw [E] at j;cases p:(y==0) with
      | true =>
        have F:=c (by rw [j,p];rfl);have d:(y != 0)=false:=(by simp [bne,p]);clear c f j;go_wp2_with fail;go_roundw;case rel=>exact ⟨15+1,ab,by go_num,F,trivial⟩
        case measure=>simp [intOf]
      | false =>
        have d:(y != 0)=true:=(by simp [bne,p]);cases t:(y==8) with
        | true =>
          have F:=c (by rw [j,p,t];rfl);have D:(y != 8)=false:=(by simp [bne,t]);clear c f j;go_wp2_with fail;go_roundw;case rel=>exact ⟨15+1,ab,by go_num,F,trivial⟩
          case measure=>simp [intOf]
        | false =>have F:=f (by rw [j,p,t];rfl);have D:(y != 8)=true:=(by simp [bne,t]);clear c f j;exact a02
     ·have Vy:((k:Int)==15)=false:=bv;have s:fq k x=(bn k x==x):=(by simp [fq,B,q]);cases g:(bn k x==x) with
      | true =>
        have F:=c (s.trans g);have d:(bn k x != x)=false:=(by simp [bne,g]);clear c f s;go_wp2_with fail;refine (fy _ _ _).mono ?_;rintro e I ⟨rfl,o⟩;subst o;generalize bn k x=y at *;go_wp2_with fail;go_roundw;case rel=>exact ⟨k+1,ab,by go_num,F,trivial⟩
        case measure=>simp [intOf];omega
      | false =>have F:=f (s.trans g);have d:(bn k x != x)=true:=(by simp [bne,g]);clear c f s;go_wp2_with fail;refine (fy _ _ _).mono ?_;rintro e I ⟨rfl,o⟩;subst o;generalize bn k x=y at *;exact a02
   ·have z:k=22:=ab;subst z;have F:Hid (fH l 22 0=true):=u.out.symm;exact a02
 ·have F:Hid (bo n l=false):=(by show _=_;simp [bo,A]);have d:((n:Int) != 22)=true:=bv;go_enter func102,ntmps102;exact a02
theorem vD:CE 103 #[.i x] a (.bool (cg x)):=by
 cases b:(x==0) with
 | true =>have F:Hid (cg x=true):=(by show _=_;simp [cg,b]);exact a03
 | false =>
   cases d:(x==1) with
   | true =>have F:Hid (cg x=true):=(by show _=_;simp [cg,d]);exact a03
   | false =>have F:Hid (cg x=(x==3)):=(by show _=_;simp [cg,b,d]);obtain ⟨c,f⟩:∃ c,(x==3)=c:=⟨_,rfl⟩;rw [f] at F;exact a03
theorem BF:CB 183 #[.i x] a (.bool (dt x)):=by
 cases d:(x==3860) with
 | true =>have F:Hid (dt x=true):=(by show _=_;simp [dt,d]);go_enter func183,ntmps183;exact a04
 | false =>
   cases f:(x==769) with
   | true =>have F:Hid (dt x=true):=(by show _=_;simp [dt,f]);go_enter func183,ntmps183;exact a04
   | false =>have F:Hid (dt x=decide (0<=cZ x)):=(by show _=_;simp [dt,d,f]);have g:Hid (∀ a,CB 134 #[.i x] a (.i (cZ x))):=dI x;generalize cZ x=y at *;obtain ⟨c,l⟩:∃ c,decide (0<=y)=c:=⟨_,rfl⟩;rw [l] at F;go_enter func183,ntmps183;go_wp2_with fail;refine (g.out _).mono ?_;rintro e m ⟨rfl,j⟩;go_wp2_with fail;go_ret;exact ⟨bh,j⟩
theorem Jn (n cap:Nat) (l:List Int) (x p:Int) (a:World) (hz:l.length=n) (hs:Sl .u64 a w l): CB 131 #[.slice w n cap,.i x,.i p] a (.bool (iS n l x p)):=by
 have s:Hid (CE 102 #[.slice w n cap] a (.bool (bo n l))):=ox w n cap l a hz hs;have F:Hid (iS n l x p=(bo n l&&dt x&&cg p&&decide ((wrap64 (x.tdiv 256)).tmod 4<=p))):=(rfl:iS n l x p=_);have r:=BF x;have t:=vD p;generalize bo n l=o at *;generalize dt x=k at *;generalize cg p=q at *;have f:Hid (∀ a,CB 183 #[.i x] a (.bool k)):=r;have g:Hid (∀ a,CE 103 #[.i p] a (.bool q)):=t;obtain ⟨d,u⟩:∃ d,decide ((wrap64 (x.tdiv 256)).tmod 4<=p)=d:=⟨_,rfl⟩;rw [u] at F;clear r t hs hz;cases o with
 | false =>go_enter func131,ntmps131;go_wp2_with fail;refine s.out.mono ?_;rintro e y ⟨rfl,b⟩;subst b;exact a04
 | true =>
   go_enter func131,ntmps131;go_wp2_with fail;refine s.out.mono ?_;rintro e y ⟨rfl,b⟩;subst b;go_wp2_with fail;refine (f.out _).mono ?_;rintro e z ⟨rfl,j⟩;cases k with
   | false =>go_wp2_with fail;go_ret;exact ⟨bh,j⟩
   | true =>
     go_wp2_with fail;refine (g.out _).mono ?_;rintro e A ⟨rfl,m⟩;subst m;cases q with
     | false =>go_wp2_with fail;go_ret;exact ⟨bh,j⟩
     | true =>go_wp2_with fail;go_ret;exact ⟨bh,j⟩
theorem xI (n cap:Nat) (l:List Int) (p:Int) (a:World) (hz:l.length=n) (hs:Sl .u64 a w l): CE 58 #[.slice w n cap,.i p] a (.bool (bj n l p)):=by
 have f:Hid (CE 102 #[.slice w n cap] a (.bool (bo n l))):=ox w n cap l a hz hs;have g:Hid (∀ a,CE 103 #[.i p] a (.bool (cg p))):=vD p;have F:Hid (bj n l p=(bo n l&&cg p)):=(rfl:bj n l p=_);generalize bo n l=o at *;generalize cg p=q at *;clear hz hs;cases o with
 | false =>go_enter func58,ntmps58;go_wp2_with fail;refine f.out.mono ?_;rintro e j ⟨rfl,b⟩;exact a05
 | true =>go_enter func58,ntmps58;go_wp2_with fail;refine f.out.mono ?_;rintro e j ⟨rfl,b⟩;subst b;go_wp2_with fail;refine (g.out _).mono ?_;rintro e m ⟨rfl,d⟩;subst d;exact a02
end Go.Proofs.YtjifdmoehfbihaaGreatDoor
namespace Go.Proofs.YtjifdmoehfbihaaGreatDoor
set_option linter.unusedVariables false
variable {b:Program} {w:Array Oper} {P:Exit->Act->World->Prop} {Q:World} (a:Nat)
inductive Fm where | r | i | h | w | s | b | u | j | a | c | x
deriving DecidableEq
def Fm.str:Fm->ByteArray
 | .r=>⟨#[82]⟩ | .i=>⟨#[73]⟩ | .h=>⟨#[72]⟩ | .w=>⟨#[87]⟩ | .s=>⟨#[83]⟩ | .b=>⟨#[66]⟩ | .u=>⟨#[85]⟩ | .j=>⟨#[74]⟩ | .a=>⟨#[65]⟩ | .c=>⟨#[67]⟩ | .x=>⟨#[88]⟩
structure Row where
 name:ByteArray
 fm:Fm
 op:Int
 f3:Int
 more:Int
def rows:List Row:=[
 ⟨⟨#[108,117,105]⟩,.u,55,(-1),0⟩,
 ⟨⟨#[97,117,105,112,99]⟩,.u,23,(-1),0⟩,
 ⟨⟨#[106,97,108]⟩,.j,111,(-1),0⟩,
 ⟨⟨#[106,97,108,114]⟩,.i,103,0,0⟩,
 ⟨⟨#[98,101,113]⟩,.b,99,0,0⟩,
 ⟨⟨#[98,110,101]⟩,.b,99,1,0⟩,
 ⟨⟨#[98,108,116]⟩,.b,99,4,0⟩,
 ⟨⟨#[98,103,101]⟩,.b,99,5,0⟩,
 ⟨⟨#[98,108,116,117]⟩,.b,99,6,0⟩,
 ⟨⟨#[98,103,101,117]⟩,.b,99,7,0⟩,
 ⟨⟨#[108,98]⟩,.i,3,0,0⟩,
 ⟨⟨#[108,104]⟩,.i,3,1,0⟩,
 ⟨⟨#[108,119]⟩,.i,3,2,0⟩,
 ⟨⟨#[108,100]⟩,.i,3,3,0⟩,
 ⟨⟨#[108,98,117]⟩,.i,3,4,0⟩,
 ⟨⟨#[108,104,117]⟩,.i,3,5,0⟩,
 ⟨⟨#[108,119,117]⟩,.i,3,6,0⟩,
 ⟨⟨#[115,98]⟩,.s,35,0,0⟩,
 ⟨⟨#[115,104]⟩,.s,35,1,0⟩,
 ⟨⟨#[115,119]⟩,.s,35,2,0⟩,
 ⟨⟨#[115,100]⟩,.s,35,3,0⟩,
 ⟨⟨#[97,100,100,105]⟩,.i,19,0,0⟩,
 ⟨⟨#[115,108,116,105]⟩,.i,19,2,0⟩,
 ⟨⟨#[115,108,116,105,117]⟩,.i,19,3,0⟩,
 ⟨⟨#[120,111,114,105]⟩,.i,19,4,0⟩,
 ⟨⟨#[111,114,105]⟩,.i,19,6,0⟩,
 ⟨⟨#[97,110,100,105]⟩,.i,19,7,0⟩,
 ⟨⟨#[115,108,108,105]⟩,.h,19,1,0⟩,
 ⟨⟨#[115,114,108,105]⟩,.h,19,5,0⟩,
 ⟨⟨#[115,114,97,105]⟩,.h,19,5,16⟩,
 ⟨⟨#[97,100,100,105,119]⟩,.i,27,0,0⟩,
 ⟨⟨#[115,108,108,105,119]⟩,.w,27,1,0⟩,
 ⟨⟨#[115,114,108,105,119]⟩,.w,27,5,0⟩,
 ⟨⟨#[115,114,97,105,119]⟩,.w,27,5,32⟩,
 ⟨⟨#[97,100,100]⟩,.r,51,0,0⟩,
 ⟨⟨#[115,117,98]⟩,.r,51,0,32⟩,
 ⟨⟨#[115,108,108]⟩,.r,51,1,0⟩,
 ⟨⟨#[115,108,116]⟩,.r,51,2,0⟩,
 ⟨⟨#[115,108,116,117]⟩,.r,51,3,0⟩,
 ⟨⟨#[120,111,114]⟩,.r,51,4,0⟩,
 ⟨⟨#[115,114,108]⟩,.r,51,5,0⟩,
 ⟨⟨#[115,114,97]⟩,.r,51,5,32⟩,
 ⟨⟨#[111,114]⟩,.r,51,6,0⟩,
 ⟨⟨#[97,110,100]⟩,.r,51,7,0⟩,
 ⟨⟨#[97,100,100,119]⟩,.r,59,0,0⟩,
 ⟨⟨#[115,117,98,119]⟩,.r,59,0,32⟩,
 ⟨⟨#[115,108,108,119]⟩,.r,59,1,0⟩,
 ⟨⟨#[115,114,108,119]⟩,.r,59,5,0⟩,
 ⟨⟨#[115,114,97,119]⟩,.r,59,5,32⟩,
 ⟨⟨#[109,117,108]⟩,.r,51,0,1⟩,
 ⟨⟨#[109,117,108,104]⟩,.r,51,1,1⟩,
 ⟨⟨#[109,117,108,104,115,117]⟩,.r,51,2,1⟩,
 ⟨⟨#[109,117,108,104,117]⟩,.r,51,3,1⟩,
 ⟨⟨#[100,105,118]⟩,.r,51,4,1⟩,
 ⟨⟨#[100,105,118,117]⟩,.r,51,5,1⟩,
 ⟨⟨#[114,101,109]⟩,.r,51,6,1⟩,
 ⟨⟨#[114,101,109,117]⟩,.r,51,7,1⟩,
 ⟨⟨#[109,117,108,119]⟩,.r,59,0,1⟩,
 ⟨⟨#[100,105,118,119]⟩,.r,59,4,1⟩,
 ⟨⟨#[100,105,118,117,119]⟩,.r,59,5,1⟩,
 ⟨⟨#[114,101,109,119]⟩,.r,59,6,1⟩,
 ⟨⟨#[114,101,109,117,119]⟩,.r,59,7,1⟩,
 ⟨⟨#[108,114,46,119]⟩,.a,47,2,2⟩,
 ⟨⟨#[115,99,46,119]⟩,.a,47,2,3⟩,
 ⟨⟨#[97,109,111,115,119,97,112,46,119]⟩,.a,47,2,1⟩,
 ⟨⟨#[97,109,111,97,100,100,46,119]⟩,.a,47,2,0⟩,
 ⟨⟨#[97,109,111,120,111,114,46,119]⟩,.a,47,2,4⟩,
 ⟨⟨#[97,109,111,97,110,100,46,119]⟩,.a,47,2,12⟩,
 ⟨⟨#[97,109,111,111,114,46,119]⟩,.a,47,2,8⟩,
 ⟨⟨#[97,109,111,109,105,110,46,119]⟩,.a,47,2,16⟩,
 ⟨⟨#[97,109,111,109,97,120,46,119]⟩,.a,47,2,20⟩,
 ⟨⟨#[97,109,111,109,105,110,117,46,119]⟩,.a,47,2,24⟩,
 ⟨⟨#[97,109,111,109,97,120,117,46,119]⟩,.a,47,2,28⟩,
 ⟨⟨#[108,114,46,100]⟩,.a,47,3,2⟩,
 ⟨⟨#[115,99,46,100]⟩,.a,47,3,3⟩,
 ⟨⟨#[97,109,111,115,119,97,112,46,100]⟩,.a,47,3,1⟩,
 ⟨⟨#[97,109,111,97,100,100,46,100]⟩,.a,47,3,0⟩,
 ⟨⟨#[97,109,111,120,111,114,46,100]⟩,.a,47,3,4⟩,
 ⟨⟨#[97,109,111,97,110,100,46,100]⟩,.a,47,3,12⟩,
 ⟨⟨#[97,109,111,111,114,46,100]⟩,.a,47,3,8⟩,
 ⟨⟨#[97,109,111,109,105,110,46,100]⟩,.a,47,3,16⟩,
 ⟨⟨#[97,109,111,109,97,120,46,100]⟩,.a,47,3,20⟩,
 ⟨⟨#[97,109,111,109,105,110,117,46,100]⟩,.a,47,3,24⟩,
 ⟨⟨#[97,109,111,109,97,120,117,46,100]⟩,.a,47,3,28⟩,
 ⟨⟨#[102,101,110,99,101]⟩,.i,15,0,0⟩,
 ⟨⟨#[102,101,110,99,101,46,105]⟩,.i,15,1,0⟩,
 ⟨⟨#[99,115,114,114,119]⟩,.c,115,1,0⟩,
 ⟨⟨#[99,115,114,114,115]⟩,.c,115,2,0⟩,
 ⟨⟨#[99,115,114,114,99]⟩,.c,115,3,0⟩,
 ⟨⟨#[99,115,114,114,119,105]⟩,.c,115,5,0⟩,
 ⟨⟨#[99,115,114,114,115,105]⟩,.c,115,6,0⟩,
 ⟨⟨#[99,115,114,114,99,105]⟩,.c,115,7,0⟩,
 ⟨⟨#[101,99,97,108,108]⟩,.x,115,0,0⟩,
 ⟨⟨#[101,98,114,101,97,107]⟩,.x,115,0,1⟩,
 ⟨⟨#[115,114,101,116]⟩,.x,115,0,258⟩,
 ⟨⟨#[109,114,101,116]⟩,.x,115,0,770⟩,
 ⟨⟨#[119,102,105]⟩,.x,115,0,261⟩,
 ⟨⟨#[115,102,101,110,99,101,46,118,109,97]⟩,.r,115,0,9⟩]
def Row.f3z (r:Row):Int:=if r.f3<0 then 0 else r.f3
def Row.cellsI (r:Row):List Value:=[.string r.name,.string r.fm.str,.u r.op,.u r.f3z,.u r.more]
def Row.cellsS (r:Row):List Value:=[.string r.name,.string r.fm.str,.u r.op,.i r.f3,.u r.more]
def jC:Array Value:=(rows.flatMap Row.cellsI).toArray
def cellsS:Array Value:=(rows.flatMap Row.cellsS).toArray
theorem qB:rows.length=98:=by rfl
theorem rV {α g:Type} (f:α->List g) (m:Nat):∀ (l:List α),(∀ x ∈ l,(f x).length=m)->∀ k (h:k<l.length),((l.flatMap f).drop (k*m)).take m=f l[k]:=by
 intro l;induction l with
 | nil=>intro _ k h;simp at h
 | cons x l d =>
   intro a k h;have b:(f x).length=m:=a x cp;cases k with
   | zero=>simp [<- b]
   | succ k =>have e:(k+1)*m=(f x).length+k*m:=(by rw [b,Nat.succ_mul];omega);rw [e,List.flatMap_cons,List.drop_append,List.drop_of_length_le ab,Nat.add_sub_cancel_left];exact d (λy c=>a y (by simp [c])) k eo
theorem vE {α b:Type} (f:α->List b) (m:Nat) (l:List α) (hl:∀ x ∈ l,(f x).length=m) (k:Nat) (h:k<l.length) (j:Nat) (a:j<m):(l.flatMap f)[k*m+j]?=(f l[k])[j]?:=by rw [<- rV f m l hl k h];simp [a]
def cj (k:Nat):Row:=rows.getD k ⟨⟨#[]⟩,.x,0,0,0⟩
theorem yE (h:a<98):rows[a]'(by rw [qB];exact h)=cj a:=by simp [cj,List.getD,List.getElem?_eq_getElem (show a<rows.length by rw [qB];exact h)]
theorem BG (h:a<98):jC.extract (a*5) (a*5+5)=(cj a).cellsI.toArray:=by have:=rV Row.cellsI 5 rows (by intro x _;rfl) a (by rw [qB];exact h);rw [yE a h] at this;rw [<- this];simp [jC]
theorem oy:jC.size=490:=by kernel_rfl
theorem Jo (h:a<98) (j:Nat) (k:j<5):cellsS[a*5+j]?=(cj a).cellsS[j]?:=by have:=vE Row.cellsS 5 rows (by intro x _;rfl) a (by rw [qB];exact h) j k;rw [yE a h] at this;rw [<- this];simp [cellsS]
def oz (P:Program):List Oper->Act->Option Act
 | [],a=>some a
 | o::l,a =>
   match o.guard,o.op with
   | none,.build t parts =>
     match P.built t (parts.map λ(i,x)=>(i,a.eval x)).toList with
     | some cells=>oz P l (a.put o.dst (.agg cells))
     | none=>none
   | _,_=>none
theorem pR:∀ (l rest:List Oper) (a c:Act),oz b l a=some c->wpList b w P rest c Q->wpList b w P (l++rest) a Q:=by
 intro l;induction l with
 | nil=>intro rest a c h d;simp [oz] at h;subst h;exact d
 | cons o l i =>
   intro rest a c h d;unfold oz at h;split at h
   ·rename_i t parts f g;split at h;·rename_i cells e;exact wpList_buildTo f t parts g o.dst rfl cells e (i _ _ _ h d)
    ·cases h
   ·cases h
theorem kK {l:List Oper} {n:Act} (s t:Nat) (v x:Value) (h:(oz b (l.take a) n).map (λc=>(c.tmps.getD s undef,c.tmps.getD t undef,c.defers))=some (v,x,[])) (hr:∀ c:Act,c.tmps.getD s undef=v->c.tmps.getD t undef=x->c.defers=[]->wpList b w P (l.drop a) c Q):wpList b w P l n Q:=by
 rw [<- List.take_append_drop a l];cases d:oz b (l.take a) n with
 | none=>rw [d] at h;cases h
 | some c =>rw [d] at h;simp only [Option.map_some,Option.some.injEq,Prod.mk.injEq] at h;exact pR _ _ _ _ d (hr c h.1 h.2.1 h.2.2)
end Go.Proofs.YtjifdmoehfbihaaGreatDoor
namespace Go.Proofs.YtjifdmoehfbihaaGreatDoor
open Go.RowKit Tryz
set_option linter.unusedVariables false
variable {x w:World} {k:Array Oper} {a:List Oper} {n:Act} {m:Exit->Act->World->Prop} {y:Program} {f:Value} {o:Oper} {Q:Nat} (P:World) (c j:List Int) (t b:Int) (g l z:Nat) (B:Int) (T:Nat)
def BH:Array Value:=(List.replicate 98 [Value.string ⟨#[]⟩,.string ⟨#[]⟩,.u 0,.u 0,.u 0]).flatten.toArray
theorem EA:BH.size=490:=by kernel_rfl
theorem EB:(prog.info? 233).bind (·.zero)=some (.agg BH):=by kernel_rfl
theorem Lk {t:TypeId} (h:(y.info? t).bind (·.zero)=some f) (w:World):(zeroValue t).run y w=.ok f w:=by
 cases a:y.info? t with
 | none=>rw [a] at h;cases h
 | some i=>rw [a] at h;simp at h;simp [zeroValue,typeInfo,a,h]
theorem cT (f:o.guard=none) (t:TypeId) (g:o.op=.alloc t) (d:Option Tmp) (hd:o.dst=d) (z:Value) (hz:(y.info? t).bind (·.zero)=some z) (h:wpList y k m a (n.put d (.p w.heap.size 0)) (w.alloc (.cells z.cells t))):wpList y k m (o::a) n w:=by
 subst hd;refine wpList_plain f λK e=>?_;have b:(execOp n.eval o).run y w=.ok (.value (.p w.heap.size 0)) (w.alloc (.cells z.cells t)):=by simp [execOp,g,Instr.alloc,Sem.run_bind,Lk hz,newVar,newRow]
 unfold Oper.wp;rw [b,Oper.upon_value];exact e _ _ h
theorem nz (f:o.guard=none) (d:Option Tmp) (hd:o.dst=d) (v:Value) (b:(execOp n.eval o).run y w=.ok (.value v) w) (h:wpList y k m a (n.put d v) w):wpList y k m (o::a) n w:=by subst hd;refine wpList_plain f λK e=>?_;unfold Oper.wp;rw [b,Oper.upon_value];exact e _ _ h
theorem aI (h:Below Q x w) {g:Nat} (c:Q<=g) (cs:Array Value):Below Q x (w.setRow g cs):=
 ⟨h.os,h.tape,h.output,by rw [setRow_size];exact h.size,λk b=>(setRow_other w g k cs ab).trans (h.block k b)⟩
theorem EC:jC.all (·.oneCell')=true:=by kernel_rfl
theorem vF:(prog.info? 233).map (·.size)=some 490:=by kernel_rfl
theorem ED:CB 202 #[] P (.agg jC):=by go_enter func202,ntmps202;apply wp_seq_k;intro c b;apply wp_region_list;refine cT rfl 233 rfl (some 0) rfl _ EB ?_;apply wpList_nil;refine b _ _ ?_;clear b c;apply wp_seq_k;intro c b;apply wp_region_lit;refine kK 99 0 99 (.p P.heap.size 0) (.agg jC) ba ?_;intro m f d j;have g:(P.alloc (.cells (Value.agg BH).cells 233)).heap[P.heap.size]?=some (.cells BH 233 (0,0)):=heap_alloc_new _ _;refine wpList_store_rowTo rfl 233 (.tmp 0) (.tmp 99) rfl rfl P.heap.size jC f d 233 BH g (by rw [vF,oy]) (by rw [EA,oy]) EC ?_;apply wpList_nil;refine b _ _ ?_;clear b c;apply wp_ret;refine bodyPost_ret (results_cell_row results202 _ _ _ _ _ _ _ f (setRow_heap _ _ _ _ _ _ g) underlying233 rfl (by rw [vF,oy])) j ⟨rfl,?_⟩;exact aI (bal _ _) (Nat.le_refl _) _
theorem EE:(prog.info? 152).map (λi=>(i.zero,i.size,i.bytes))=some (some (.agg #[.string ⟨#[]⟩,.string ⟨#[]⟩,.u 0,.i 0,.u 0]),5,56):=by kernel_rfl
def GK (rs:List (List Value)):List (Nat × Value):=(rs.map λc=>Value.agg c.toArray).zipIdx.map λ(v,i)=>(i,v)
theorem UC:Instr.fill (λi=>some (i*5,5)) ((Array.range (98*5)).map ((Value.agg #[.string ⟨#[]⟩,.string ⟨#[]⟩,.u 0,.i 0,.u 0]).cells[· % 5]!)) (GK (rows.map Row.cellsS))=some cellsS:=by kernel_rfl
theorem qe {Q:Exit->Act->World->Prop} (d:Option Tmp) (r:Array (Nat × Operand)) (vs:List (Nat × Value)) (cells:Array Value) (f:TypeInfo) (e:Value) (h:(oz y (a.take g) n).map (λb=>((r.map λ(i,x)=>(i,b.eval x)).toList,b.tmps.size,b.defers))=some (vs,n.tmps.size,[])) (v:y.underlying l=some (.slice z)) (q:y.info? z=some f) (hz:f.zero=some e) (c:¬ T*f.size>2^24) (j:¬ T*f.size=0) (u:Instr.fill (λi=>some (i*f.size,f.size)) ((Array.range (T*f.size)).map (e.cells[· % e.cells.size]!)) vs=some cells) (t:((a.drop g)[0]?.map λo=>(o.guard,o.op,o.dst))=some (none,.buildSlice l T r,d)) (hr:∀ b:Act,b.tmps.size=n.tmps.size->b.defers=[]->wpList y k Q (a.drop (g+1)) (b.put d (.slice (some ⟨w.heap.size,0,none⟩) T T)) (w.alloc (.cells cells z))):wpList y k Q a n w:=by
 rw [<- List.take_append_drop g a];cases m:oz y (a.take g) n with
 | none=>rw [m] at h;cases h
 | some b =>
   rw [m] at h;simp only [Option.map_some,Option.some.injEq,Prod.mk.injEq] at h;refine pR _ _ _ _ m ?_;cases p:a.drop g with
   | nil=>rw [p] at t;cases t
   | cons o rest =>rw [p] at t;simp only [List.getElem?_cons_zero,Option.map_some,Option.some.injEq,Prod.mk.injEq] at t;have s:a.drop (g+1)=rest:=(by rw [<- List.drop_drop,p];rfl);refine wpList_buildSlice t.1 l z T r t.2.1 cells f e v q hz c j (by rw [h.1];exact u) ?_;rw [t.2.2,<- s];exact hr b h.2.1 h.2.2
theorem EF:Calls prog 123 #[] P λe r=>e=.returned (.slice (some ⟨P.heap.size,0,none⟩) 98 98)/\r=P.alloc (.cells cellsS 152):=by
 obtain ⟨q,o,g,c,p⟩:=info_parts EE;go_enter func123,ntmps123;apply wp_seq_k;intro f b;apply wp_region_list;refine nz rfl (some 0) rfl (.slice none 0 0) ba ?_;apply wpList_nil;refine b _ _ ?_;clear b f;apply wp_seq_k;intro f b;apply wp_region_lit;refine qe 98 149 152 98 (some 99) ((List.range 98).map λi=>(i,Operand.tmp (i+1))).toArray (GK (rows.map Row.cellsS)) cellsS q _ ba underlying149 o g (by rw [c];decide) (by rw [c];decide) (by rw [c];exact UC) ba ?_;intro j l m;have d:j.tmps.size=100:=l;clear l;refine nz rfl (some 0) rfl (.slice (some ⟨P.heap.size,0,none⟩) 98 98) ?_ ?_;·have e:(j.put (some 99) (.slice (some ⟨P.heap.size,0,none⟩) 98 98)).eval (.tmp 99)=.slice (some ⟨P.heap.size,0,none⟩) 98 98:=(by simp [Act.put,Act.eval,d]);simp [execOp,e]
 apply wpList_nil;refine b _ _ ?_;clear b f;apply wp_ret;refine bodyPost_ret (results_tmp results123 _ _ _) m ⟨?_,rfl⟩;simp [Act.put,d]
def rW (op:Int):Bool:=decide (1<=op/\op<=98)
def jY (op:Int):ByteArray:=if rW op then (cj (op-1).toNat).name else ⟨#[]⟩
def fs (op:Int):ByteArray:=if rW op then (cj (op-1).toNat).fm.str else ⟨#[]⟩
def Row.val (r:Row):Value:=.agg #[.string r.name,.string r.fm.str,.u r.op,.u r.f3z,.u r.more]
def noRow:Value:=.agg #[.string ⟨#[]⟩,.string ⟨#[]⟩,.u 0,.u 0,.u 0]
def xJ (op:Int):Value:=if rW op then (cj (op-1).toNat).val else noRow
theorem vG {op:Int} (h:rW op=false):xJ op=noRow:=by simp [xJ,h]
theorem Jp (h:rW ((Q:Int)+1)=true):xJ ((Q:Int)+1)=(cj Q).val:=by simp [xJ,h]
theorem gM {P:Program} {fn:Func} {p u:Tmp} {ty:TypeId} (h:fn.results=#[.cell p ty,.tmp u]) (tmps:Array Value) (w:World) (g:Nat) (t:TypeId) (cs:Array Value) (a:Nat × Nat) (d:TypeDesc) (e:tmps.getD p undef=.p g 0) (b:w.heap[g]?=some (.cells cs t a)) (f:P.underlying ty=some d) (hd:(match d with | .struct _ | .array _ _=>true | _=>false)=true) (c:(P.info? ty).map (·.size)=some cs.size):(results fn tmps).run P w=.ok (.tuple #[.agg cs,tmps.getD u undef]) w:=by rw [results_cell_tmp h,e];simp [asAddr,run_loadVar_row w g t ty cs a d b f hd c]
theorem EG:∃ a b c d e,xJ t=.agg #[.string a,.string b,.u c,.u d,.u e]/\Hid (a=jY t)/\Hid (b=fs t):=by
 cases h:rW t with
 | true=>exact ⟨_,_,_,_,_,by simp [xJ,h];rfl,(by simp [jY,h]:(cj (t-1).toNat).name=jY t),(by simp [fs,h]:(cj (t-1).toNat).fm.str=fs t)⟩
 | false=>exact ⟨_,_,_,_,_,by simp [xJ,h];rfl,(by simp [jY,h]:(⟨#[]⟩:ByteArray)=jY t),(by simp [fs,h]:(⟨#[]⟩:ByteArray)=fs t)⟩
theorem BI:(prog.info? 232).map (·.size)=some 5:=by kernel_rfl
theorem Pu (r:Row):(#[Value.string r.name,.string r.fm.str,.u r.op,.u r.f3z,.u r.more]:Array Value).all (·.oneCell')=true:=by simp [Value.oneCell']
theorem Jq (kk:IntKind) (k:Nat) (hk:k<98):(Instr.index 233 (.agg jC) (.int kk (k:Int))).run prog P=.ok (cj k).val P:=by
 have f:(sizeOf 232).run prog P=.ok 5 P:=by
  obtain ⟨g,e,a⟩:∃ i,prog.info? 232=some i/\i.size=5:=by
   have h:(prog.info? 232).map (·.size)=some 5:=ba;cases b:prog.info? 232 with
   | none=>rw [b] at h;cases h
   | some i=>rw [b] at h;exact ⟨i,rfl,eo⟩
  simp [sizeOf,typeInfo,e,a]
 have c:(isAgg 232).run prog P=.ok true P:=by simp [isAgg,run_underlying underlying232]
 have d:(0:Int)<=(k:Int)/\(k:Int)<((98:Nat):Int):=ab
 unfold Instr.index;simp only [asIntOf,Sem.run_bind,Sem.run_pure,Result.andThen_ok,run_underlying underlying233];rw [if_pos d];simp only [Sem.run_bind,f,Result.andThen_ok,part,c,Int.toNat_natCast,if_true,Sem.run_pure];rw [BG k hk];rfl
theorem tA (a:Hid (f=.agg jC)) (kk:IntKind) (k:Nat) (hk:k<98) (r:Row) (hr:Hid (r=cj k)) (w:World): (Instr.index 233 f (.int kk (k:Int))).run prog w=.ok (.agg #[.string r.name,.string r.fm.str,.u r.op,.u r.f3z,.u r.more]) w:=by rw [a.out,hr.out];exact Jq w kk k hk
theorem xK (e:Hid (f=.agg jC)) (kk:IntKind) (c:Nat) (hk:c<98) (r:Row) (hr:Hid (r=cj c)) (T:o.guard=none) (x i:Operand) (j:o.op=.index 233 x i) (hx:n.eval x=f) (g:n.eval i=.int kk (c:Int)) (h:wpList prog k m a (n.put o.dst (.agg #[.string r.name,.string r.fm.str,.u r.op,.u r.f3z,.u r.more])) w):wpList prog k m (o::a) n w:=by
 refine wpList_plain T λK d=>?_;have b:(execOp n.eval o).run prog w=.ok (.value (.agg #[.string r.name,.string r.fm.str,.u r.op,.u r.f3z,.u r.more])) w:=by simp [execOp,j,hx,g,tA e kk c hk r hr]
 unfold Oper.wp;rw [b,Oper.upon_value];exact d _ _ h
theorem BJ:Calls prog 202 #[] P λe a=>∃ T,e=.returned T/\Hid (T=.agg jC)/\Bw P a :=
 (ED P).mono λe a h=>⟨.agg jC,h.1,(rfl:Value.agg jC=.agg jC),h.2⟩
theorem ew (w:World):CE 51 #[.i t,.i b,.i B] w (.bool (decide (b<=t/\t<=B))):=by
 by_cases c:b<=t
 ·by_cases d:t<=B;·have F:Hid (decide (b<=t/\t<=B)=true):=(by show decide (b<=t/\t<=B)=true;simp [c,d]);have f:decide (b<=t)=true:=i6;have g:decide (t<=B)=true:=kc;clear c d;go_enter func51,ntmps51;go_wp2;go_ret;exact ⟨bh,rfl⟩
  ·have F:Hid (decide (b<=t/\t<=B)=false):=(by show decide (b<=t/\t<=B)=false;simp [d]);have f:decide (b<=t)=true:=i6;have g:decide (t<=B)=false:=kc;clear c d;exact x8
 ·have F:Hid (decide (b<=t/\t<=B)=false):=(by show decide (b<=t/\t<=B)=false;simp [c]);have f:decide (b<=t)=false:=i6;clear c;exact x8
theorem yF (y:(Lit.int .i64 t).wf=true) (w:World):CB 238 #[.i t] w (.tuple #[xJ t,.bool (rW t)]):=by
 by_cases b:t<1;·have F:Hid (rW t=false):=(by show rW t=false;simp [rW];omega);have j:decide (t<1)=true:=la;clear b;go_enter func238,ntmps238;go_wp2;refine bodyPost_ret (v:=.tuple #[noRow,.bool false]) (by simp [results,results238,go_sem];rfl) rfl ⟨by rw [vG F.out,F.out],?_⟩;exact bal _ _
 ·by_cases d:98<t;·have F:Hid (rW t=false):=(by show rW t=false;simp [rW];omega);have j:decide (t<1)=false:=la;have q:decide (98<t)=true:=kc;clear b d;go_enter func238,ntmps238;go_wp2;refine bodyPost_ret (v:=.tuple #[noRow,.bool false]) (by simp [results,results238,go_sem];rfl) rfl ⟨by rw [vG F.out,F.out],?_⟩;exact bal _ _
  ·have g:rW t=true:=(by show rW t=true;simp [rW];omega);have j:decide (t<1)=false:=la;have q:decide (98<t)=false:=kc;obtain ⟨k,s⟩:∃ k:Nat,t=(k:Int)+1:=⟨(t-1).toNat,ab⟩;have f:k<98:=ab;subst s;have F:Hid (rW ((k:Int)+1)=true):=g;clear b d g;go_enter func238,ntmps238;go_wp2_with fail;refine (BJ _).mono ?_;rintro e u ⟨T,rfl,p,l⟩;obtain ⟨r,c⟩:∃ r,r=cj k:=⟨_,rfl⟩;have o:Hid (r=cj k):=c;clear c;have m:u.heap[w.heap.size]?=some (.cells #[.string ⟨#[]⟩,.string ⟨#[]⟩,.u 0,.u 0,.u 0] 232 (0,0)):=(by rw [l.block _ cp];exact heap_alloc_new _ _);go_wp2_with (first | refine xK p .i64 k f r o rfl _ _ rfl rfl rfl ?_ | refine wpList_store_rowTo rfl 232 _ _ rfl rfl w.heap.size #[.string r.name,.string r.fm.str,.u r.op,.u r.f3z,.u r.more] rfl rfl 232 _ m BI rfl (Pu r) ?_);refine bodyPost_ret (gM results238 _ _ _ _ _ _ _ rfl (setRow_heap _ _ _ _ _ _ m) underlying232 rfl BI) rfl ⟨?_,?_⟩;·rw [Jp F.out,F.out,<- o.out];rfl
   ·exact aI ((bal _ _).trans (l.mono cp)) (Nat.le_refl _) _
theorem zP (f:(Lit.int .i64 t).wf=true) (w:World):CB 207 #[.i t] w (.string (fs t)):=by go_enter func207,ntmps207;go_wp2_with fail;refine (yF t f _).mono ?_;rintro e r ⟨rfl,b⟩;obtain ⟨l,m,o,p,q,d,j,c⟩:=EG t;rw [d];go_wp2_with fail;go_ret;exact ⟨by rw [<- c.out];rfl,b.alloc b.size _⟩
def BK (w:World) (g:Nat):Prop:=g<w.heap.size/\∀ k,k<98->∀ r,r=cj k->w.cell? ⟨g,k*5,none⟩=some (.string r.name)/\w.cell? ⟨g,k*5+1,none⟩=some (.string r.fm.str) /\
 w.cell? ⟨g,k*5+2,none⟩=some (.u r.op)/\w.cell? ⟨g,k*5+3,none⟩=some (.i r.f3)/\w.cell? ⟨g,k*5+4,none⟩=some (.u r.more)
theorem BK.below {g:Nat} (h:BK w g) (a:g<Q) (hb:Below Q w x):BK x g:=by refine ⟨Nat.lt_of_lt_of_le h.1 hb.size,λk b r c=>?_⟩;have H:=h.2 k b r c;have e:∀ o,x.cell? ⟨g,o,none⟩=w.cell? ⟨g,o,none⟩:=λo=>hb.cell (p:=⟨g,o,none⟩) a;rw [e,e,e,e,e];exact H
theorem oA:Calls prog 123 #[] P λe a=>e=.returned (.slice (some ⟨P.heap.size,0,none⟩) 98 98)/\Hid (BK a P.heap.size)/\Bw P a :=
 (EF P).mono λe a h=>by
  obtain ⟨b,rfl⟩:=h
  refine ⟨b,?_,bal _ _⟩
  show BK _ _
  refine ⟨cp,λk f r g=>?_⟩
  subst g
  have c:(P.alloc (.cells cellsS 152)).heap[P.heap.size]?=some (.cells cellsS 152 (0,0)):=heap_alloc_new _ _
  have e:∀ j,j<5->(P.alloc (.cells cellsS 152)).cell? ⟨P.heap.size,k*5+j,none⟩=(cj k).cellsS[j]?:=by
   intro j d
   rw [cell_of_row _ _ _ _ _ _ c]
   exact Jo k f j d
  exact ⟨e 0 bc,e 1 bc,e 2 bc,e 3 bc,e 4 bc⟩
theorem zQ (B:(Lit.int .i64 t).wf=true) (w:World):CB 129 #[.i t] w (.string (jY t)):=by
 cases h:rW t with
 | false =>have F:Hid (rW t=false):=h;have b:decide (1<=t/\t<=98)=false:=h;clear h;go_enter func129,ntmps129;go_wp2_with fail;refine (ew t 1 98 _).mono ?_;rintro e s ⟨rfl,rfl⟩;rw [b];clear b;go_wp2_with fail;go_ret;exact ⟨by simp [jY,F.out],Below.refl _ _⟩
 | true =>have b:decide (1<=t/\t<=98)=true:=h;have l:1<=t/\t<=98:=of_decide_eq_true b;obtain ⟨k,p⟩:∃ k:Nat,t=(k:Int)+1:=⟨(t-1).toNat,ab⟩;have f:k<98:=ab;subst p;have F:Hid (rW ((k:Int)+1)=true):=h;clear h l;go_enter func129,ntmps129;go_wp2_with fail;refine (ew _ 1 98 _).mono ?_;rintro e s ⟨rfl,d⟩;have g:=d.symm;subst g;rw [b];clear b d;go_wp2_with fail;refine (oA _).mono ?_;rintro e C ⟨rfl,m,o⟩;obtain ⟨r,c⟩:∃ r,r=cj k:=⟨_,rfl⟩;have j:Hid (r=cj k):=c;clear c;obtain ⟨op,u,y,z,A⟩:=m.out.2 k f r j.out;go_wp2_with fail;go_ret;exact ⟨by simp [jY,F.out,j.out],o⟩
theorem qC (B:(Lit.int .i64 t).wf=true) (w:World):CB 83 #[.i t] w (.string (fs t)):=by
 cases h:rW t with
 | false =>have F:Hid (rW t=false):=h;have b:decide (1<=t/\t<=98)=false:=h;clear h;go_enter func83,ntmps83;go_wp2_with fail;refine (ew t 1 98 _).mono ?_;rintro e s ⟨rfl,rfl⟩;rw [b];clear b;go_wp2_with fail;go_ret;exact ⟨by simp [fs,F.out],Below.refl _ _⟩
 | true =>have b:decide (1<=t/\t<=98)=true:=h;have l:1<=t/\t<=98:=of_decide_eq_true b;obtain ⟨k,p⟩:∃ k:Nat,t=(k:Int)+1:=⟨(t-1).toNat,ab⟩;have f:k<98:=ab;subst p;have F:Hid (rW ((k:Int)+1)=true):=h;clear h l;go_enter func83,ntmps83;go_wp2_with fail;refine (ew _ 1 98 _).mono ?_;rintro e s ⟨rfl,d⟩;have g:=d.symm;subst g;rw [b];clear b d;go_wp2_with fail;refine (oA _).mono ?_;rintro e C ⟨rfl,m,o⟩;obtain ⟨r,c⟩:∃ r,r=cj k:=⟨_,rfl⟩;have j:Hid (r=cj k):=c;clear c;obtain ⟨op,u,y,z,A⟩:=m.out.2 k f r j.out;go_wp2_with fail;go_ret;exact ⟨by simp [fs,F.out,j.out],o⟩
def Fm.mask:Fm->Int
 | .r=>4261441663 | .w=>4261441663 | .h=>4227887231 | .a=>4160778367 | .x=>4294967295 | .u=>127 | .j=>127 | .i=>28799 | .s=>28799 | .b=>28799 | .c=>28799
def Fm.at:Fm->Nat
 | .r=>25 | .w=>25 | .h=>26 | .a=>27 | .x=>20 | .u=>0 | .j=>0 | .i=>0 | .s=>0 | .b=>0 | .c=>0
def Fm.hasRd:Fm->Bool
 | .r=>true | .i=>true | .h=>true | .w=>true | .s=>false | .b=>false | .u=>true | .j=>true | .a=>true | .c=>true | .x=>false
def Fm.hasA:Fm->Bool
 | .r=>true | .i=>true | .h=>true | .w=>true | .s=>true | .b=>true | .u=>false | .j=>false | .a=>true | .c=>true | .x=>false
def Fm.hasB:Fm->Bool
 | .r=>true | .i=>false | .h=>false | .w=>false | .s=>true | .b=>true | .u=>false | .j=>false | .a=>true | .c=>false | .x=>false
def Fm.pcs:Fm->List (Nat × Nat × Nat)
 | .r=>[] | .i=>[(20,12,0)] | .h=>[(20,6,0)] | .w=>[(20,5,0)] | .s=>[(25,7,5),(7,5,0)] | .b=>[(31,1,12),(7,1,11),(25,6,5),(8,4,1)]
 | .u=>[(12,20,12)] | .j=>[(31,1,20),(12,8,12),(20,1,11),(21,10,1)] | .a=>[(25,2,0)] | .c=>[(20,12,0)] | .x=>[]
def Fm.width:Fm->Nat
 | .r=>64 | .i=>12 | .h=>64 | .w=>64 | .s=>12 | .b=>13 | .u=>32 | .j=>21 | .a=>64 | .c=>64 | .x=>64
structure Ins where
 op:Int
 rd:Int
 a:Int
 b:Int
 imm:Int
deriving DecidableEq
def Ins.val (i:Ins):Value:=.agg #[.i i.op,.i i.rd,.i i.a,.i i.b,.i i.imm]
def dg (x:Int) (k n:Nat):Int:=x/2^k%2^n
theorem kL:0<=dg t g l/\dg t g l<2^l:=by have a:(0:Int)<2^l:=Int.pow_pos ab;exact ⟨Int.emod_nonneg _ ab,Int.emod_lt_of_pos _ a⟩
theorem EH (h:g<=l):(2:Int)^g<=2^l:=by obtain ⟨d,rfl⟩:=Nat.exists_eq_add_of_le h;rw [Int.pow_add];have a:(0:Int)<2^g:=Int.pow_pos ab;have b:(0:Int)<2^d:=Int.pow_pos ab;have c:(2:Int)^g*1<=2^g*2^d:=Int.mul_le_mul_of_nonneg_left ab ab;omega
theorem iE (b:0<=t) (f:t<18446744073709551616) (hn:l<64): bits .and .u64 (t/2^g) (IntKind.u64.wrap (IntKind.u64.wrap (2^l)-1))=dg t g l:=by
 have i:(0:Int)<2^l:=Int.pow_pos ab;have h:(0:Int)<2^g:=Int.pow_pos ab;have k:(2:Int)^l<=2^63:=EH l 63 ab;have d:(2:Int)^63=9223372036854775808:=bc
 have c:IntKind.u64.wrap (2^l)=2^l:=by rw [IntKind.wrap_u64];omega
 have e2:IntKind.u64.wrap (2^l-1)=2^l-1:=by rw [IntKind.wrap_u64];omega
 have a:0<=t/2^g:=Int.ediv_nonneg b ab;have e:t/2^g<=t:=Int.ediv_le_self _ b;rw [c,e2,u64_and _ _ a ab ab ab];have e3:(2^l-1:Int).toNat=2^l-1:=by
  have:(2:Int)^l=((2^l:Nat):Int):=cp
  rw [this];omega
 rw [e3,Nat.and_two_pow_sub_one_eq_mod];unfold dg;have e4:((t/2^g).toNat:Int)=t/2^g:=Int.toNat_of_nonneg a;rw [Int.natCast_emod,e4];simp
theorem Jr:g &&& l=2^z*(g/2^z &&& l/2^z)+(g%2^z &&& l%2^z):=by rw [<- Nat.and_div_two_pow,<- Nat.and_mod_two_pow];exact (Nat.div_add_mod _ _).symm
theorem Ll:g &&& (2^l-1)=g%2^l:=Nat.and_two_pow_sub_one_eq_mod g l
theorem Lm (h:g/2^z%2^T=0) (hx:l<2^T):g ||| l*2^z=g+l*2^z:=by
 have a:0<2^z:=Nat.two_pow_pos z;have n:0<2^T:=Nat.two_pow_pos T;have e:g=g/2^z/2^T*2^(z+T)+g%2^z:=by have f:=Nat.div_add_mod g (2^z);have d:=Nat.div_add_mod (g/2^z) (2^T);rw [h,Nat.add_zero] at d;rw [<- d] at f;rw [Nat.pow_add,<- Nat.mul_assoc,Nat.mul_right_comm,Nat.mul_comm _ (2^z),Nat.mul_comm _ (2^T)] ;omega
 have b:g%2^z<2^z:=Nat.mod_lt _ a;have i:g/2^z/2^T*2^(z+T) ||| g%2^z=g/2^z/2^T*2^(z+T)+g%2^z:=by refine nat_join z _ _ ?_ b;rw [Nat.pow_add,Nat.mul_comm (2^z),<- Nat.mul_assoc];exact Nat.mul_mod_left _ _
 have j:l*2^z ||| g%2^z=l*2^z+g%2^z:=nat_join z _ _ (Nat.mul_mod_left _ _) b
 have c:l*2^z+g%2^z<2^(z+T):=by rw [Nat.pow_add,Nat.mul_comm (2^z)];have:(l+1)*2^z<=2^T*2^z:=Nat.mul_le_mul_right _ hx;rw [Nat.add_mul] at this;omega
 have x:g/2^z/2^T*2^(z+T) ||| (l*2^z+g%2^z)=g/2^z/2^T*2^(z+T)+(l*2^z+g%2^z):=nat_join (z+T) _ _ (Nat.mul_mod_left _ _) c
 have e2:g ||| l*2^z=g/2^z/2^T*2^(z+T) ||| (l*2^z ||| g%2^z):=by
  conv=>lhs;rw [e,<- i]
  rw [Nat.or_assoc,Nat.or_comm (g%2^z)]
 rw [e2,j,x];omega
def fQ (i:Nat) (f:Fm) (o z m x:Int):Prop:=x%128=o/\(0<=z->x/4096%8=z) /\
 (match f with
 | .r=>x/33554432=m/\(i=97->x/128%32=0)
 | .h=>x/67108864=m
 | .w=>x/33554432=m
 | .a=>x/134217728=m/\(i=62\/i=73->x/1048576%32=0)
 | .x=>x=m*1048576+o
 | _=>True)
instance (i:Nat) (f:Fm) (o z m x:Int):Decidable (fQ i f o z m x):=by
 unfold fQ;cases f<;>infer_instance
theorem cK (c:0<=t) (d:t<18446744073709551616) (hk:g<64):bits .and .u64 t (2^g-1)=t%2^g:=by
 have h:=iE t 0 g c d hk;have f:(0:Int)<2^g:=Int.pow_pos ab;have e:(2:Int)^g<=2^63:=EH g 63 ab;have b:(2:Int)^63=9223372036854775808:=bc
 have a:IntKind.u64.wrap (2^g)=2^g:=by rw [IntKind.wrap_u64];omega
 have e2:IntKind.u64.wrap (2^g-1)=2^g-1:=by rw [IntKind.wrap_u64];omega
 rw [a,e2] at h;simpa [dg] using h
def au (n:Nat) (x:Int):Int:=IntKind.u64.wrap (RowKit.wrap64 (IntKind.u64.wrap (x*2^(64-n)))/2^(64-n))
def zR (f:Fm) (x:Int):Int :=
 match f with
 | .i=>x/1048576
 | .h=>x/1048576%64
 | .w=>x/1048576%32
 | .s=>x/33554432*32+x/128%32
 | .b=>x/2147483648*4096+x/128%2*2048+x/33554432%64*32+x/256%16*2
 | .u=>x/4096*4096
 | .j=>x/2147483648*1048576+x/4096%256*4096+x/1048576%2*2048+x/2097152%1024*2
 | .a=>x/33554432%4
 | .c=>x/1048576
 | .r=>0
 | .x=>0
def nX (f:Fm) (x:Int):Int:=RowKit.wrap64 (au f.width (zR f x))
theorem pu (a:0<=t) (b:t<9223372036854775808):RowKit.wrap64 (au 64 t)=t:=by
 have e:(2:Int)^(64-64)=1:=bc
 unfold au;exact a06
theorem mS (f:0<=t) (n:t<18446744073709551616) (hx:0<=b) (x:b<2^l) (m:g+l<=64) (h:t/2^g%2^l=0):bits .or .u64 t (b*2^g)=t+b*2^g:=by
 obtain ⟨A,rfl⟩:=Int.eq_ofNat_of_zero_le f;obtain ⟨X,rfl⟩:=Int.eq_ofNat_of_zero_le hx;have c:X<2^l:=by
  have:((X:Nat):Int)<((2^l:Nat):Int):=by simpa using x
  omega
 have i:A/2^g%2^l=0:=by
  have:(((A/2^g%2^l:Nat)):Int)=0:=eo
  omega
 have e:((X:Int)*2^g)=((X*2^g:Nat):Int):=cp
 have j:X*2^g<18446744073709551616:=by have k:X*2^g<2^l*2^g:=Nat.mul_lt_mul_of_pos_right c (Nat.two_pow_pos g);rw [<- Nat.pow_add] at k;have o:2^(l+g)<=2^64:=Nat.pow_le_pow_right ab ab;have d:2^64=18446744073709551616:=bc;omega
 rw [e,u64_or_nat A (X*2^g) ab j,Lm A X g l i c];simp
def U (x:Int):Prop:=0<=x/\x<18446744073709551616
def bt (x:Int) (i:Nat):Bool:=(BitVec.ofInt 64 x).getLsbD i
theorem aT:U (IntKind.u64.wrap t):=by rw [IntKind.wrap_u64];exact ⟨Int.emod_nonneg _ ab,Int.emod_lt_of_pos _ ab⟩
theorem ah (o:BinOp) (x y:Int):U (bits o .u64 x y):=aT _
theorem EI:BitVec.ofInt 64 (IntKind.u64.wrap t)=BitVec.ofInt 64 t:=by rw [IntKind.wrap_u64];apply BitVec.eq_of_toInt_eq;rw [BitVec.toInt_ofInt,BitVec.toInt_ofInt];exact Int.emod_bmod t (2^64)
theorem qD (v:BitVec 64):BitVec.ofInt 64 (IntKind.u64.wrap (v.toNat:Int))=v:=by rw [EI];simp
theorem az:bt (bits .and .u64 t b) g=(bt t g&&bt b g):=by show (BitVec.ofInt 64 (IntKind.u64.wrap ((BitVec.ofInt 64 t &&& BitVec.ofInt 64 b).toNat:Int))).getLsbD g=_;rw [qD];simp [bt]
theorem cC:bt (bits .or .u64 t b) g=(bt t g||bt b g):=by show (BitVec.ofInt 64 (IntKind.u64.wrap ((BitVec.ofInt 64 t ||| BitVec.ofInt 64 b).toNat:Int))).getLsbD g=_;rw [qD];simp [bt]
theorem aA (a:g<64):bt (bits .andNot .u64 t b) g=(bt t g&&!bt b g):=by show (BitVec.ofInt 64 (IntKind.u64.wrap ((BitVec.ofInt 64 t &&& ~~~BitVec.ofInt 64 b).toNat:Int))).getLsbD g=_;rw [qD];simp [bt,a]
theorem oB (h:U t) (i:Nat):bt t i=t.toNat.testBit i:=by
 obtain ⟨a,b⟩:=h;obtain ⟨n,rfl⟩:=Int.eq_ofNat_of_zero_le a;have c:n<2^64:=ab
 unfold bt;rw [<- BitVec.testBit_toNat,ofInt_u64 n ab,Int.toNat_natCast]
theorem bA (hx:U t) (hy:U b) (h:∀ i,i<64->bt t i=bt b i):t=b:=by have e:BitVec.ofInt 64 t=BitVec.ofInt 64 b:=BitVec.eq_of_getLsbD_eq (λi c=>h i c);have e2:=congrArg BitVec.toNat e;obtain ⟨a,d⟩:=hx;obtain ⟨y,f⟩:=hy;obtain ⟨n,rfl⟩:=Int.eq_ofNat_of_zero_le a;obtain ⟨m,rfl⟩:=Int.eq_ofNat_of_zero_le y;rw [ofInt_u64 n ab,ofInt_u64 m ab] at e2;rw [e2]
theorem mj (h:U t) (k:Nat):U (t/2^k):=by have a:(0:Int)<2^k:=Int.pow_pos ab;exact ⟨Int.ediv_nonneg h.1 ab,Int.lt_of_le_of_lt (Int.ediv_le_self _ h.1) h.2⟩
theorem Js (h:0<=t) (k:Nat):(t/2^k).toNat=t.toNat/2^k:=by
 obtain ⟨n,rfl⟩:=Int.eq_ofNat_of_zero_le h;have:((n:Int)/2^k)=((n/2^k:Nat):Int):=cp
 rw [this,Int.toNat_natCast,Int.toNat_natCast]
theorem jD (h:U t) (k i:Nat):bt (t/2^k) i=bt t (i+k):=by rw [oB _ (mj t h k),oB _ h,Js _ h.1,Nat.testBit_div_two_pow]
theorem uG (a:64<=g):bt t g=false:=by unfold bt;exact BitVec.getLsbD_of_ge _ _ a
theorem qE (hn:l<64):U (dg t g l):=by
 have:=kL t g l;have b:=EH l 63 ab;have a:(2:Int)^63=9223372036854775808:=bc
 exact ⟨this.1,ab⟩
theorem kM (h:U t) (k n i:Nat) (hn:n<64):bt (dg t k n) i=(decide (i<n)&&bt t (i+k)):=by
 rw [oB _ (qE t k n hn),<- jD t h,oB _ (mj t h k)];unfold dg;have a:=(mj t h k).1;obtain ⟨m,b⟩:=Int.eq_ofNat_of_zero_le a;rw [b];have:((m:Int)%2^n)=((m%2^n:Nat):Int):=cp
 rw [this,Int.toNat_natCast,Int.toNat_natCast,Nat.testBit_mod_two_pow]
theorem nB (h:U t) (k i:Nat):bt (IntKind.u64.wrap (t*2^k)) i=(decide (k<=i)&&decide (i<64)&&bt t (i-k)):=by
 rw [oB _ (aT _),oB _ h];obtain ⟨n,rfl⟩:=Int.eq_ofNat_of_zero_le h.1;rw [IntKind.wrap_u64];have e:((n:Int)*2^k)%18446744073709551616=((n*2^k%2^64:Nat):Int):=cp
 rw [e,Int.toNat_natCast,Int.toNat_natCast,Nat.testBit_mod_two_pow,Nat.testBit_mul_two_pow];cases decide (i<64)<;>cases decide (k<=i)<;>simp
theorem Pv:∀ k,T<k->g+k<=c.length->(jT c g B k).getD (g+T) 0=B/256^T%256:=by
 intro k;induction k with
 | zero=>intro h;omega
 | succ k b =>
   intro zs d;rw [jT];by_cases e:T=k
   ·subst e;have:g+T<(jT c g B T).length:=by rw [jc];omega
    simp [List.getD,this]
   ·have a:((jT c g B k).set (g+k) (B/256^k%256)).getD (g+T) 0=(jT c g B k).getD (g+T) 0:=by
     have:g+k≠g+T:=ab
     simp only [List.getD,List.getElem?_set_ne this]
    rw [a];exact b ab ab
theorem Pw:∀ (m f d:Nat),(∀ j,j<m->c.getD (f+j) 0=t/256^(d+j)%256)->le c f m=t/256^d%256^m:=by
 intro m;induction m with
 | zero=>intro f d _;simp [le,Int.emod_one]
 | succ m i =>
   intro f d h;rw [le,i (f+1) (d+1) (λj o=>by have:=h (j+1) ab;rw [show f+(j+1)=f+1+j from ab,show d+(j+1)=d+1+j from ab] at this;exact this)];have a:=h 0 ab;rw [Nat.add_zero,Nat.add_zero] at a;rw [a];have b:t/256^(d+1)=t/256^d/256:=(by rw [Int.pow_succ,Int.ediv_ediv_of_nonneg (Int.le_of_lt (Int.pow_pos ab))]);have e2:(256:Int)^(m+1)=256*256^m:=(by rw [Int.pow_succ,Int.mul_comm]);rw [b,e2];generalize t/256^d=y;have e:(0:Int)<256^m:=Int.pow_pos ab;generalize (256:Int)^m=N at *;have g:=Int.emod_add_mul_ediv (y/256) N;have r:=Int.emod_add_mul_ediv y 256;have n:=Int.emod_nonneg (y/256) (show N≠0 by omega);have xs:=Int.emod_lt_of_pos (y/256) e;have e3:y=(y%256+256*(y/256%N))+(256*N)*(y/256/N):=(by have k:256*(y/256)=256*(y/256%N)+256*(N*(y/256/N)):=(by rw [<- Int.mul_add,g]);rw [Int.mul_assoc];omega);have l:256*(y/256%N)+256<=256*N:=ab;have e5:∀ (A K M:Int),0<=A->A<M->(A+M*K)%M=A:=λA K M p q=>by rw [Int.add_mul_emod_self_left,Int.emod_eq_of_lt p q]
   have e6:=e5 (y%256+256*(y/256%N)) (y/256/N) (256*N) ab ab;rw [<- e3] at e6;exact e6.symm
theorem S7 (h:g+l<=c.length):le (jT c g B l) g l=B%256^l:=by have:=Pw (jT c g B l) B l g 0 (λj a=>by rw [Nat.zero_add];exact Pv c g B j l a h);simpa using this
theorem GL:∀ k,(T<g\/g+k<=T)->(jT c g B k).getD T 0=c.getD T 0:=by
 intro k;induction k with
 | zero=>intro h;rfl
 | succ k b =>intro h;have e:(jT c g B (k+1)).getD T 0=(jT c g B k).getD T 0:=(by show ((jT c g B k).set (g+k) (B/256^k%256)).getD T 0=_;have a:g+k≠T:=ab;simp [List.getD,List.getElem?_set_ne a]);rw [e];exact b ab
theorem Px:∀ m g,(∀ ys,ys<m->j.getD (g+ys) 0=c.getD (g+ys) 0)->le j g m=le c g m:=by
 intro m;induction m with
 | zero=>intro g h;rfl
 | succ m b =>intro g h;show j.getD g 0+256*le j (g+1) m=c.getD g 0+256*le c (g+1) m;have a:=h 0 ab;rw [Nat.add_zero] at a;rw [a,b (g+1) (λys zs=>by have:=h (ys+1) ab;rw [show g+1+ys=g+(ys+1) from ab];exact this)]
theorem EJ (h:l+z<=g\/g+z<=l):le (jT c g B z) l z=le c l z :=
 Px _ _ z l λj a=>GL c g B (l+j) z ab
theorem qF {n:Nat} {xs:List Value} (ty:TypeId) (v:w.ownsRow Q 5 1 f n xs) (a:Addr) (c:Nat) (b:Int) (d:∀ j u,[Value.int .u8 b][j]?=some u->w.cell? (a.add j)=some u) (hn:n<=1048576) {t:Value} (hr:(Builtin.append_ #[24,24] ty #[f,.slice (some a) 1 c]).run prog w=.ok t x):t.ownBlock=f.ownBlock\/t.ownBlock=some w.heap.size:=by
 obtain ⟨p,r,m,k,o⟩:=info_parts info5;have w':∀ u ∈ [Value.int .u8 b],u.oneCell'=true:=ti
 have s:[Value.int .u8 b].length=1*p.size:=by rw [k];rfl
 rcases v.2 with ⟨e,C⟩|⟨g,cap,q,e,D,l,y,z,A,B⟩
 ·subst e;right;have h:=run_append_grow_src (P:=prog) w 24 24 ty 5 p (.int .u8 0) underlying24 r m none 0 0 [] (run_firstCells_none w.drew p.size 0 0 0) (.slice (some a) 1 c) 1 [.int .u8 b] (Src.ofSlice w underlying24 a 1 c [.int .u8 b] s d w') ab ab (growslice_fits ab (by rw [o];omega));rw [h] at hr;injection hr with e1 _
  rw [<- e1];rfl
 ·subst e;by_cases i:n+1<=cap
  ·left;have h:=run_append_room (P:=prog) w 24 ty 5 p underlying24 r g n cap q l a 1 c [.int .u8 b] s d w' i (by rw [k] at *;simp;omega);rw [h] at hr;injection hr with e1 _
   rw [<- e1];rfl
  ·right;have holds:∀ j u,xs[j]?=some u->w.cell? ((⟨g,0,none⟩:Addr).add j)=some u:=v.cells (g:=g) rfl;have h:=run_append_grow (P:=prog) w 24 ty 5 p (.int .u8 0) underlying24 r m ⟨g,0,none⟩ n cap xs (by rw [k];exact v.1) holds a 1 c [.int .u8 b] s d ab ab (growslice_fits ab (by rw [o];omega));rw [h] at hr;injection hr with e1 _
   rw [<- e1];rfl
theorem zS (p:o.guard=none) (s x:Operand) (E:o.op=.call {callee:=.builtin .append,args:=#[s,x],argTypes:=#[24,24]}) (base rest:Nat) (v:Value) (zs:List Int) (hs:n.eval s=v) (i:w.ownsRow base 5 1 v rest (zs.map (Value.int .u8))) (hn:rest<=1048576) (ad:Addr) (c:Nat) (b:Int) (hx:n.eval x=.slice (some ad) 1 c) (d:∀ j u,[Value.int .u8 b][j]?=some u->w.cell? (ad.add j)=some u) (l:base<=w.heap.size) (h:∀ f g Q,Q.ownsRow base 5 1 (.slice f (rest+1) g) (rest+1) ((zs++[b]).map (Value.int .u8))->w.grownBy Q v.ownBlock->((Value.slice f (rest+1) g).ownBlock=v.ownBlock\/(Value.slice f (rest+1) g).ownBlock=some w.heap.size)->wpList prog k m a (n.put o.dst (.slice f (rest+1) g)) Q):wpList prog k m (o::a) n w:=by
 obtain ⟨H,D,q,r,t⟩:=info_parts info5;obtain ⟨I,Q,z,y,B,M⟩:=run_append_own (P:=prog) w base 24 o.type 5 H (.int .u8 0) 1 1 underlying24 D q r t rfl bc v rest (zs.map (Value.int .u8)) i ad 1 c [.int .u8 b] rfl d ti et ab l;have G:=qF o.type i ad c b d hn z;have F:∃ f g,I=.slice f (rest+1) g:=by
  rcases y.2 with ⟨_,J⟩|⟨L,cap,A,e,_⟩;·omega
  ·exact ⟨_,_,e⟩
 obtain ⟨f,g,rfl⟩:=F;refine wpList_plain p λK C=>?_;unfold Oper.wp execOp;simp only [E,resolve,invoke,builtin,Sem.run_bind,Sem.run_pure,Result.andThen_ok,List.map_toArray,List.map_cons,List.map_nil,hs,hx,z];exact C _ _ (h f g Q (by rw [List.map_append];exact y) B G)
theorem vH (u:Value) (h:[Value.int .u8 t][g]?=some u):(P.alloc (.cells #[.int .u8 t] 5)).cell? ((⟨P.heap.size,0,none⟩:Addr).add g)=some u:=by
 have c:g=0:=by
  rcases Nat.eq_zero_or_pos g with a|a;·exact a
  ·rw [List.getElem?_eq_none bv] at h;cases h
 subst c;rw [zB];simp only [List.getElem?_cons_zero,Option.some.injEq] at h;subst h;have e:=heap_alloc_new P (.cells #[.int .u8 t] 5);show (P.alloc (.cells #[.int .u8 t] 5)).cell? ⟨P.heap.size,0,none⟩=_;simp only [World.cell?,e];rfl
end Go.Proofs.YtjifdmoehfbihaaGreatDoor
namespace Go.Proofs.YtjifdmoehfbihaaGreatDoor
open Go.RowKit Tryz Go.Conc
set_option linter.unusedVariables false
variable {w:Nat} {c a n:World} {o:Obj} {k:Option Nat} {J:List Value} (b:List Int) (d:Option Addr) (f Q e:Nat) (g:List Int) (j:World)
theorem mc.refl:mc f j j:=⟨rfl,λ_ _=>rfl,λ_ _ _ h=>h⟩
theorem mc.trans (h:mc w c a) (k:mc w a n):mc w c n:=⟨k.size.trans h.size,λj d=>(k.else_ j d).trans (h.else_ j d),λB w1 b e=>k.below B w1 b (h.below B w1 b e)⟩
theorem lB.push {wr:World} (h:lB w (w+1) c wr) (m:w<c.heap.size) (f:mc w wr a) (w1:(a.alloc o).grownBy n k) (hr:∀ row,k=some row->c.heap.size<=row):lB w (w+1) c n:=by have b:=f.below w wr (Nat.le_refl _) (Below.refl _ _);have i:=w1.size;have j:=f.size;have l:=h.size;rw [World.size_alloc] at i;refine ⟨w1.os.trans (b.os.trans h.os),w1.tape.trans (b.tape.trans h.tape),w1.output.trans (b.output.trans h.output),ab,λrow g d=>?_⟩;rw [w1.block row i4 (λe=>by have:=hr row e.symm;omega),Below.heap_alloc a o row ab,f.else_ row ab,h.block row g d]
theorem Jt {cap:Nat} {cl:Bool} (h:dE c w cap J cl) (b:(c.alloc o).grownBy a k) (hr:∀ row,k=some row->w<row):dE a w cap J cl :=
 qs h ((b.block w (by rw [World.size_alloc];have:=h.lt;omega) (λe=>by have:=hr w e.symm;omega)).trans (Below.heap_alloc c o w h.lt))
theorem yG (h:f<b.length):(b.take f).map (Value.int .u8)++[.int .u8 (b.getD f 0)]=(b.take (f+1)).map (Value.int .u8):=by
 have a:b.take (f+1)=b.take f++[b.getD f 0]:=by rw [List.take_succ_eq_append_getElem h];simp [List.getD,List.getElem?_eq_getElem h]
 rw [a,List.map_append];rfl
theorem Ju (h:f<b.length):(b.drop f).map (Value.int .u8)=.int .u8 (b.getD f 0)::(b.drop (f+1)).map (Value.int .u8):=by rw [List.drop_eq_getElem_cons h,List.map_cons];simp [List.getD,List.getElem?_eq_getElem h]
theorem tB (a:Option Addr) (n J:Nat) (zs:List Int) (c w:World) (hz:zs.length=n) (hn:n<=1048576) (d:n<=Q) (q:Sl .u8 c a zs) (m:Bw c w) (o:c.heap.size<=f) (C:dE w f Q [] false): Calls prog 293 #[.chan (some f),.slice a n J] w λe D=>e=.returned (.tuple #[])/\dE D f Q (zs.map (Value.int .u8)) false/\mc f w D:=by
 have B:Hid (Bw c w/\c.heap.size<=f):=⟨m,o⟩;have H:Hid (Sl .u8 c a zs):=q;have E:Hid (dE w f Q [] false):=C;have r:Hid (zs.length=n):=hz;have HR:Hid (n<=Q):=d;clear m o q C hz d;go_enter func293,ntmps293;go_wp2_with fail;go_loopw [8] (λi wr=>∃ k:Nat,k<=n/\i=.i k/\Hid (dE wr f Q ((zs.take k).map (Value.int .u8)) false)/\Hid (mc f w wr))
  (λi _=>n-(intOf i).toNat)
 case atStart=>exact ⟨0,Nat.zero_le _,rfl,E.out,mc.refl _ _⟩
 case round =>
  obtain ⟨k,M,rfl,g,j⟩:=hrel;by_cases u:k<n
  ·obtain ⟨b,A,rfl,I,p⟩:=H.out k (by rw [r.out];exact u);have K:wr.cell? ⟨b,A+k,none⟩=some (.int .u8 (zs.getD k 0)):=((j.out.below _ _ B.out.2 B.out.1).cell (by exact I)).trans p;clear p;have F:Hid ((zs.take k).map (Value.int .u8)++[.int .u8 (zs.getD k 0)]=(zs.take (k+1)).map (Value.int .u8)):=(by exact yG zs k (by have:=r.out;omega));have G:((zs.take k).map (Value.int .u8)).length<Q:=(by have:=r.out;have:=HR.out;simp;omega);go_upto_region 3 with fail
   refine gV ?_;intro L l;unfold nu;refine kg rfl rfl ?_;simp [go_sem,Act.put];refine kg rfl rfl ?_;simp [go_sem,Act.put];refine vb (c:=f) (v:=.int .u8 (zs.getD k 0)) (z:=.tuple #[]) rfl rfl (by simp [go_sem,scase]) g.out G ?_;intro N s y;simp only [Act.put];refine mM (l.out _ _ _ ?_);clear l;go_wp2_with fail;go_roundw;case rel=>exact ⟨k+1,ab,by go_num,by rw [<- F.out];exact s,j.out.trans y⟩
   case measure=>simp [intOf];omega
  ·have t:k=n:=ab;subst t;rw [<- r.out,List.take_length] at g;go_wp2_with fail;refine bodyPost_end (results_none rfl _ _ _) rfl ?_;exact ⟨rfl,g.out,j.out⟩
theorem kW (hn:g.length<=1048576) (M:dE j f Q (g.map (Value.int .u8)) true): Calls prog 294 #[.chan (some f)] j λe N=>∃ (zs:Option Addr) (w:Nat),e=.returned (.slice zs g.length w)/\N.ownsRow j.heap.size 5 1 (.slice zs g.length w) g.length (g.map (Value.int .u8))/\lB f (f+1) j N:=by
 have L:Hid (dE j f Q (g.map (Value.int .u8)) true):=M
 have O:Hid (g.length<=1048576):=hn
 clear M hn
 go_enter func294,ntmps294
 go_wp2_with fail
 go_loopw [3] (λy wr=>∃ (k:Nat) (zs:Option Addr) (w:Nat),k<=g.length/\y=.slice zs k w/\Hid (wr.ownsRow j.heap.size 5 1 (.slice zs k w) k ((g.take k).map (Value.int .u8)))/\Hid (dE wr f Q ((g.drop k).map (Value.int .u8)) true)/\Hid (lB f (f+1) j wr))
  (λ_ wr=>zy wr f)
 case atStart=>exact ⟨0,none,0,Nat.zero_le _,rfl,⟨rfl,.inl ⟨rfl,rfl⟩⟩,L.out,lB.refl _ _ _⟩
 case round =>
  obtain ⟨k,zs,w,W,rfl,p,m,u⟩:=hrel
  by_cases E:k<g.length
  ·have cap:=aG (yG g k E)
   have d:dE wr f Q (.int .u8 (g.getD k 0)::(g.drop (k+1)).map (Value.int .u8)) true:=by rw [<- Ju g k E];exact m.out
   have l:=aG d
   clear d m
   have s:=aG (L.out.lt)
   generalize g.getD k 0=b at *
   refine wp_seq (gV ?_)
   intro S c
   unfold nu
   refine vd (c:=f) (z:=.int .u8 0) true rfl rfl (by simp [go_sem,rcase]) l.out ?_
   intro G C o
   simp only [got,if_true]
   refine kg rfl rfl ?_
   simp [go_sem,Act.put]
   refine mM (c.out _ _ _ ?_)
   clear c
   simp only [Exit.then]
   have P:Hid ((G.alloc (.cells #[.int .u8 b] 5)).ownsRow j.heap.size 5 1 (.slice zs k w) k ((g.take k).map (Value.int .u8))):=dH (eu p.out (λq e=>o.else_ q (by have:=(p.out.lt q e).1;have:=s.out;omega))) (bal _ _)
   have A:=aG (vH G b)
   have T:=aG (show j.heap.size<=G.heap.size by rw [o.size];exact u.out.size)
   have H:=aG C
   have I:=aG o
   clear C o
   go_wp2_with (first
    | (at_builtin;refine zS rfl (.tmp 9) (.tmp 11) rfl j.heap.size k (.slice zs k w) (g.take k) rfl P.out (by have:=O.out;omega) ⟨G.heap.size,0,none⟩ 1 b rfl A.out (by have:=T.out;simp only [World.size_alloc];omega) ?_;intro U V X F B J;have R:=aG F;have K:=aG B;clear F B J))
   have r:∀ q,(Value.slice zs k w).ownBlock=some q->j.heap.size<=q:=λq e=>(p.out.lt q e).1
   have D:=Jt H.out K.out (λq e=>Nat.lt_of_lt_of_le s.out (r q e))
   go_roundw
   case rel=>exact ⟨k+1,U,V,ab,rfl,(by rw [<- cap.out];have h:=R.out;rw [List.map_append] at h;exact h),D,u.out.push s.out I.out K.out r⟩
   case measure=>rw [D.len,l.out.len];simp
  ·have t:g.length=k:=by omega
   have d:dE wr f Q [] true:=by
    have h:=m.out
    rw [<- t,List.drop_length] at h
    exact h
   have l:=aG d
   clear d m
   refine wp_seq (gV ?_)
   intro S c
   unfold nu
   refine ve (c:=f) (z:=.int .u8 0) true rfl rfl (by simp [go_sem,rcase]) l.out ?_
   simp only [got,if_true]
   refine kg rfl rfl ?_
   simp [go_sem,Act.put]
   refine mM (c.out _ _ _ ?_)
   clear c
   simp only [Exit.then]
   go_wp2_with fail
   go_ret
   refine ⟨zs,w,(by rw [t];rfl),?_,u.out⟩
   have h:=p.out
   rw [<- t,List.take_length] at h
   exact h
theorem Ln (hm:f<=1048576) (w:World):(Instr.makeChan 303 (.i f)).run prog w=.ok (.chan (some w.heap.size)) (w.alloc (.chan f #[] false 0 0 false)):=by obtain ⟨a,c,d,e,b⟩:=info_parts info5;exact run_makeChan underlying303 c .i64 f ab (by rw [b];omega)
def iu (zs:List Int) (b:Int) (a:Nat):List Int:=if zs.length<a then zs++[b] else zs
theorem qG {w3:World} {v:Value} {w1:Nat} (f:w1=c.heap.size) (w2:mc w1 (c.alloc o) a) (b:mc w1 a n) (d:lB w1 (w1+1) n w3) (g:w3.ownsRow n.heap.size 5 1 v w J):w3.ownsRow c.heap.size 5 1 v w J/\Bw c w3:=by subst f;have h:=w2.size;have i:=b.size;have j:=d.size;rw [World.size_alloc] at h;have e:=b.below _ _ (Nat.le_refl _) (w2.below _ _ (Nat.le_refl _) ((Below.refl c.heap.size c).alloc (Nat.le_refl _) o));exact ⟨cF g ab,e.trans (d.below (Nat.le_refl _) ab)⟩
theorem vI (b:Int) (w:World) (hz:g.length=f) (hm:e<=4096) (hn:f<=e) (r:Sl .u8 w d g): Calls prog 292 #[.slice d f Q,.int .u8 b,.i e] w λn F=>∃ (t:Option Addr) (u:Nat),n=.returned (.slice t (iu g b e).length u)/\F.ownsRow w.heap.size 5 1 (.slice t (iu g b e).length u) (iu g b e).length ((iu g b e).map (Value.int .u8))/\Bw w F:=by
 have O:Hid (∀ p,Bw w p->dE p w.heap.size e [] false->Calls prog 293 #[.chan (some w.heap.size),.slice d f Q] p λn F=>n=.returned (.tuple #[])/\dE F w.heap.size e (g.map (Value.int .u8)) false/\mc w.heap.size p F):=λp U W=>tB _ _ _ _ _ g w p hz ab hn r U (Nat.le_refl _) W;have X:=Ln e ab;have M:Hid (∀ o,Bw w (w.alloc o)):=λo=>(Below.refl _ _).alloc (Nat.le_refl _) o;have N:Hid (∀ m,dE (w.alloc (.chan m #[] false 0 0 false)) w.heap.size m [] false):=λm=>⟨0,0,heap_alloc_new _ _⟩;by_cases G:f<e
 ·have s:Hid (iu g b e=g++[b]):=(by show _=_;unfold iu;rw [hz,if_pos G]);have I:Hid ((iu g b e).length<=1048576):=(by show _<=_;rw [s.out];simp;omega);have R:Hid ((g.map (Value.int .u8)).length<e):=(by show _<_;simp;omega);have S:Hid (g.map (Value.int .u8)++[.int .u8 b]=(iu g b e).map (Value.int .u8)):=(by show _=_;rw [s.out,List.map_append];rfl);clear s;generalize iu g b e=V at *;have T:decide (f<e)=true:=bv;clear G r hz hn hm;go_enter func292,ntmps292;go_wp2_with fail;refine (O.out _ (M.out _) (N.out _)).mono ?_;rintro n p ⟨rfl,zs,j⟩;have H:=aG zs;have J:=aG j;clear zs j;go_upto_region 4 with fail
  refine gV ?_;intro QC A;unfold nu;refine kg rfl rfl ?_;simp [go_sem,Act.put];refine kg rfl rfl ?_;simp [go_sem,Act.put];refine vb (c:=w.heap.size) (v:=.int .u8 b) (z:=.tuple #[]) rfl rfl (by simp [go_sem,scase]) H.out R.out ?_;intro w2 B D;simp only [Act.put];refine mM (A.out _ _ _ ?_);clear A;obtain ⟨L,K,a,l⟩:=zA (P:=prog) B;rw [S.out] at a;have q:=aG (J.out.trans (D.trans l));have HR:=aG (kW w.heap.size e V L I.out a);clear B D a l;try simp only [Exit.then]
  go_wp2_with fail;refine (HR.out).mono ?_;rintro n Y ⟨t,u,rfl,E,C⟩;have y:=aG (qG rfl q.out (mc.refl _ _) C E);clear E C;go_wp2_with fail;go_ret;exact ⟨t,u,rfl,y.out.1,y.out.2⟩
 ·have s:Hid (iu g b e=g):=(by show _=_;unfold iu;rw [hz,if_neg G]);have I:Hid (g.length<=1048576):=(by show _<=_;omega);generalize iu g b e=V at *;have T:decide (f<e)=false:=bv;have Z:Hid (g.length=f):=hz;clear G r hz hn hm;go_enter func292,ntmps292;go_wp2_with fail;refine (O.out _ (M.out _) (N.out _)).mono ?_;rintro n p ⟨rfl,zs,j⟩;obtain ⟨L,K,a,l⟩:=zA (P:=prog) zs;have q:=aG (j.trans l);have HR:=aG (kW w.heap.size e g L I.out a);clear zs j a l;go_wp2_with fail;refine (HR.out).mono ?_;rintro n Y ⟨t,u,rfl,E,C⟩;have y:=aG (qG rfl q.out (mc.refl _ _) C E);clear E C;go_wp2_with fail;go_ret;exact ⟨t,u,(by rw [s.out];rfl),(by rw [s.out];exact y.out.1),y.out.2⟩
theorem rX (hz:g.length=f) (hn:f<=4096) (B:Sl .u8 j d g): Calls prog 290 #[.slice d f Q] j λe D=>∃ (r:Option Addr) (s:Nat),e=.returned (.tuple #[.int .u8 (g.getD 0 0),.slice r (g.drop 1).length s])/\D.ownsRow j.heap.size 5 1 (.slice r (g.drop 1).length s) (g.drop 1).length ((g.drop 1).map (Value.int .u8))/\Bw j D:=by
 have I:Hid (∀ p,Bw j p->dE p j.heap.size f [] false->Calls prog 293 #[.chan (some j.heap.size),.slice d f Q] p λe D=>e=.returned (.tuple #[])/\dE D j.heap.size f (g.map (Value.int .u8)) false/\mc j.heap.size p D):=λp N O=>tB _ _ _ _ _ g j p hz ab (Nat.le_refl _) B N (Nat.le_refl _) O;have J:=Ln f ab;have G:Hid (∀ o,Bw j (j.alloc o)):=λo=>(Below.refl _ _).alloc (Nat.le_refl _) o;have H:Hid (∀ m,dE (j.alloc (.chan m #[] false 0 0 false)) j.heap.size m [] false):=λm=>⟨0,0,heap_alloc_new _ _⟩;have L:Hid ((g.drop 1).length<=1048576):=by show _<=_;simp;omega
 clear B;cases g with
 | nil =>
   clear hz hn;go_enter func290,ntmps290;go_wp2_with fail;refine (I.out _ (G.out _) (H.out _)).mono ?_;rintro e p ⟨rfl,a,zs⟩;obtain ⟨K,F,n,w⟩:=zA (P:=prog) a;have q:=aG (zs.trans w);have l:=aG n;clear a zs n w;go_upto_region 4 with fail
   refine gV ?_;intro M b;unfold nu;refine kg rfl rfl ?_;simp [go_sem,Act.put];refine ve (c:=j.heap.size) (z:=.int .u8 0) false rfl rfl (by simp [go_sem,rcase]) l.out ?_;simp [got];refine kg rfl rfl ?_;simp [go_sem,Act.put];refine mM (b.out _ _ _ ?_);clear b;have HR:=aG (kW j.heap.size f [] K cp l.out);try simp only [Exit.then]
   go_wp2_with fail;refine (HR.out).mono ?_;rintro e S ⟨r,s,rfl,C,y⟩;have t:=aG (qG rfl q.out (mc.refl _ _) y C);clear C y;go_wp2_with fail;refine bodyPost_ret (results_tmp2 rfl _ _ _) rfl ?_;exact ⟨r,s,rfl,t.out.1,t.out.2⟩
 | cons z g =>
   clear hz hn;go_enter func290,ntmps290;go_wp2_with fail;refine (I.out _ (G.out _) (H.out _)).mono ?_;rintro e p ⟨rfl,a,zs⟩;obtain ⟨K,F,n,w⟩:=zA (P:=prog) a;have q:=aG (zs.trans w);have l:=aG n;clear a zs n w;go_upto_region 4 with fail
   refine gV ?_;intro M b;unfold nu;refine kg rfl rfl ?_;simp [go_sem,Act.put];refine vd (c:=j.heap.size) (z:=.int .u8 0) false rfl rfl (by simp [go_sem,rcase]) l.out ?_;intro R u A;have E:=aG (q.out.trans A);have HR:=aG (kW j.heap.size f g R L.out u);clear u A;simp [got];refine kg rfl rfl ?_;simp [go_sem,Act.put];refine mM (b.out _ _ _ ?_);clear b;try simp only [Exit.then]
   go_wp2_with fail;refine (HR.out).mono ?_;rintro e S ⟨r,s,rfl,C,y⟩;have t:=aG (qG rfl E.out (mc.refl _ _) y C);clear C y;go_wp2_with fail;refine bodyPost_ret (results_tmp2 rfl _ _ _) rfl ?_;exact ⟨r,s,rfl,t.out.1,t.out.2⟩
end Go.Proofs.YtjifdmoehfbihaaGreatDoor
namespace Go.Proofs.YtjifdmoehfbihaaGreatDoor
open Go.RowKit Tryz
set_option linter.unusedVariables false
variable {b:Int} {w:World} {a:Nat} (x:DV) (t c:Int) (d:Bool) (f:Option Addr) (g n:Nat) (z:Option Addr) (j k:Nat) (y:Int) (D:List Int) (m:World)
theorem Lo:CE 289 #[.u 33554432,.i 4] m (.bool true):=by go_enter func289,ntmps289;exact x7
theorem Lr:CE 289 #[.u 33570816,.i 8] m (.bool true):=by go_enter func289,ntmps289;exact x7
theorem Lt:CE 289 #[.u 33603576,.i 8] m (.bool true):=by go_enter func289,ntmps289;exact x7
theorem Lu:CE 289 #[.u 268435456,.i 1] m (.bool true):=by go_enter func289,ntmps289;exact x7
theorem Lw:CE 289 #[.u 268435457,.i 1] m (.bool true):=by go_enter func289,ntmps289;exact x7
theorem Lx:CE 289 #[.u 268435461,.i 1] m (.bool true):=by go_enter func289,ntmps289;exact x7
theorem yH:Calls prog 66 #[.u t,.i 0,.i 1] m λe b=>e=.returned (.u (bits .and .u64 t 1))/\b=m.drew:=by
 go_enter func66,ntmps66;go_wp2_with fail;go_region;all_goals go_wp2_with fail
 all_goals go_ret
 all_goals exact ⟨rfl,rfl⟩
theorem BL:CE 286 #[.bool d] m (.u (gy d)):=by
 cases d with
 | false =>go_enter func286,ntmps286;exact x7
 | true =>go_enter func286,ntmps286;exact x7
theorem BM:(binOp .eql 24 (.slice f g n) (.slice none 0 0)).run prog m=.ok (.bool f.isNone) m:=by simp only [binOp];simp [run_equal_slice_nil m 24 5 f g n underlying24]
theorem mT (hz:D.length=g) (hn:g<=1048576) (a:Sl .u8 m f D): Calls prog 39 #[.slice f g n] m λe q=>∃ (w:Option Addr) (o:Nat),e=.returned (.slice w g o)/\q.ownsRow m.heap.size 5 1 (.slice w g o) g (D.map (Value.int .u8))/\Bw m q:=by
 cases f with
 | none =>
   have A:D=[]:=by
    cases D with
    | nil=>rfl
    | cons z D=>obtain ⟨b,C,e,_⟩:=a 0 cp;cases e
   subst A
   simp only [List.length_nil] at hz
   subst hz
   clear a hn
   have d:=BM none 0 n
   simp only [Option.isNone] at d
   go_enter func39,ntmps39
   go_wp2_with fail
   go_ret
   exact ⟨none,0,rfl,⟨rfl,.inl ⟨rfl,rfl⟩⟩,Below.refl _ _⟩
 | some p =>
   have B:=jh m m.heap.size (Nat.le_refl _) (.cells #[] 5 (0,0)) rfl
   have s:Hid (Sl .u8 (m.alloc (.cells #[] 5 (0,0))) (some p) D):=a.below (bal _ _)
   have l:Hid (D.length=g/\g<=1048576):=⟨hz,hn⟩
   clear a hz hn
   have d:=BM (some p) g n
   simp only [Option.isNone] at d
   go_enter func39,ntmps39
   go_wp2_with (first
    | (at_builtin;refine ik rfl (.tmp 5) (.tmp 6) rfl m.heap.size _ rfl B (some p) g n D rfl l.out.1 l.out.2 s.out cp ?_;intro u y zs j c;have r:=aG (SX c rfl);have t:=aG j;clear j c))
   go_ret
   exact ⟨u,y,rfl,t.out,r.out⟩
theorem qf (b c1:Nat) (a2:Option Addr) (z c2:Nat) (y:Int) (xs ys:List Int) (w:World) (hx:xs.length=b) (hy:ys.length=z) (E:b<=1048576) (F:z<=1048576) (G:Sl .u8 w f xs) (H:Sl .u8 w a2 ys): Calls prog 89 #[.agg #[.u t,.u c,.bool d,.slice f b c1,.slice a2 z c2,.i y]] w λe cm=>∃ (a1:Option Addr) (j:Nat) (o:Option Addr) (q:Nat),e=.returned (.agg #[.u t,.u c,.bool d,.slice a1 b j,.slice o z q,.i y]) /\ bz w.heap.size cm.heap.size cm (gj a1 b j xs o z q ys)/\Bw w cm:=by have J:Hid (∀ cm,Bw w cm->Calls prog 39 #[.slice f b c1] cm λe m=>∃ (B:Option Addr) (C:Nat),e=.returned (.slice B b C)/\m.ownsRow cm.heap.size 5 1 (.slice B b C) b (xs.map (Value.int .u8))/\Bw cm m):=λcm M=>mT _ _ _ xs cm hx E (G.below M);have K:Hid (∀ cm,Bw w cm->Calls prog 39 #[.slice a2 z c2] cm λe m=>∃ (B:Option Addr) (C:Nat),e=.returned (.slice B z C)/\m.ownsRow cm.heap.size 5 1 (.slice B z C) z (ys.map (Value.int .u8))/\Bw cm m):=λcm M=>mT _ _ _ ys cm hy F (H.below M);have D:∀ N O,Bw w ((w.alloc N).alloc O):=λN O=>((Below.refl _ _).alloc (Nat.le_refl _) N).alloc cp O;clear G H hx hy E F;go_enter func89,ntmps89;go_wp2_with fail;refine (J.out _ (D _ _)).mono ?_;rintro e Q ⟨a1,j,rfl,s,r⟩;obtain ⟨I,r1⟩:=vk r;have U:=aG I;have R1:=aG r1;have B1:=aG (aa (D _ _) r);have R:=r.size;simp only [World.size_alloc] at R s;have Z1:=aG R;have A1:=aG ((bz.nil (w.heap.size+1+1) (w.heap.size+1+1) Q).snoc (aF a1 b j xs) _ Q.heap.size s (Nat.le_refl _) (Nat.le_refl _) (Nat.le_refl _) ab);obtain ⟨W,X,Y,Z,p4,p5⟩:=hC I;have f3:=ic I 3;have A:(Q.setCell ⟨w.heap.size,3,none⟩ (.slice a1 b j)).heap[w.heap.size]?=some (.cells #[.u t,.u c,.bool d,.slice a1 b j,.slice a2 z c2,.i y] 30 (0,0)):=bH U.out 3 (.slice a1 b j);have P:=(hC A).2.2.2.2.1;have T:=aG (B1.out.setCell (p:=⟨w.heap.size,3,none⟩) (Nat.le_refl _) (.slice a1 b j));clear I r1 r R s A;go_wp2_with fail;refine (K.out _ T.out).mono ?_;rintro e w2 ⟨o,q,rfl,u,l⟩;have S:=l.size;rw [aX] at S u;have V:Hid (w2.heap[w.heap.size]?=some (.cells #[.u t,.u c,.bool d,.slice a1 b j,.slice a2 z c2,.i y] 30 (0,0))):=br l (bH U.out 3 (.slice a1 b j));have L:=aG (br l (gL R1.out ⟨w.heap.size,3,none⟩ (.slice a1 b j) di));have B2:=aG (aa T.out l);have A2:=aG (((A1.out.set ⟨w.heap.size,3,none⟩ (.slice a1 b j) (.inl di)).below l).snoc (aF o z q ys) _ w2.heap.size u (Nat.le_refl _) (by have:=Z1.out;omega) (Nat.le_refl _) S);clear W X Y Z p4 p5 f3 P;obtain ⟨W,X,Y,Z,p4,p5⟩:=hC V.out;have f4:=ic V.out 4;obtain ⟨s0,s1,s2,s3,s4,s5⟩:=hC L.out;obtain ⟨y0,y1,y2,y3,y4,y5⟩:=Bo L.out;clear u l S;go_wp2_with fail;have T1:=gL L.out ⟨w.heap.size,4,none⟩ (.slice o z q) di;have A3:=(A2.out.set ⟨w.heap.size,4,none⟩ (.slice o z q) (.inl di)).put6 (w.heap.size+1) (.inl ab) (.u t) (.u c) (.bool d) (.slice a1 b j) (.slice o z q) (.i y);have B3:=lC (B2.out.setCell (p:=⟨w.heap.size,4,none⟩) (Nat.le_refl _) (.slice o z q)) (g:=w.heap.size+1) ab (.u t) (.u c) (.bool d) (.slice a1 b j) (.slice o z q) (.i y);exact bodyPost_ret (results_cell_row results89 _ _ _ _ _ _ _ rfl (n9 T1 _ _ _ _ _ _) underlying30 rfl bO) rfl ⟨a1,j,o,q,rfl,A3.low ab py,B3⟩
theorem S8: CB 291 #[.agg #[.u t,.u c,.bool d,.slice f g n,.slice z j k,.i y],.u 33554432] m (.u (gy d)):=by have l:∀ o,Bw m (m.alloc o):=λo=>(Below.refl _ _).alloc (Nat.le_refl _) o;have a1:Hid (∀ m,CE 286 #[.bool d] m (.u (gy d))):=BL d;generalize gy d=v at *;go_enter func291,ntmps291;go_wp2_with fail;refine (a1.out _).mono ?_;rintro e p ⟨rfl,cm⟩;subst cm;go_wp2_with fail;go_ret;exact ⟨rfl,l _⟩
theorem S9: CB 291 #[.agg #[.u t,.u c,.bool d,.slice f g n,.slice z j k,.i y],.u 33570816] m (.u c):=by have b:∀ o,Bw m (m.alloc o):=λo=>(Below.refl _ _).alloc (Nat.le_refl _) o;go_enter func291,ntmps291;go_wp2_with fail;go_ret;exact ⟨rfl,b _⟩
theorem Ta: CB 291 #[.agg #[.u t,.u c,.bool d,.slice f g n,.slice z j k,.i y],.u 33603576] m (.u t):=by have b:∀ o,Bw m (m.alloc o):=λo=>(Below.refl _ _).alloc (Nat.le_refl _) o;go_enter func291,ntmps291;go_wp2_with fail;go_ret;exact ⟨rfl,b _⟩
theorem Tb: CB 291 #[.agg #[.u t,.u c,.bool d,.slice f g n,.slice z j k,.i y],.u 268435457] m (.u (IntKind.u64.wrap y)):=by have cm:∀ o,Bw m (m.alloc o):=λo=>(Below.refl _ _).alloc (Nat.le_refl _) o;go_enter func291,ntmps291;go_wp2_with fail;go_ret;exact ⟨rfl,cm _⟩
theorem Tc: CB 291 #[.agg #[.u t,.u c,.bool d,.slice f g n,.slice z j k,.i y],.u 268435461] m (.u (IntKind.u64.wrap (32+gy (decide (0<g))))):=by
 have a1:∀ o,Bw m (m.alloc o):=λo=>(Below.refl _ _).alloc (Nat.le_refl _) o;rcases Nat.eq_zero_or_pos g with cm | cm;·subst cm;go_enter func291,ntmps291;go_wp2_with fail;go_ret;exact ⟨rfl,a1 _⟩
 ·have F:Hid (IntKind.u64.wrap (32+gy (decide (0<g)))=33):=(by show _=_;rw [decide_eq_true cm];rfl);generalize IntKind.u64.wrap (32+gy (decide (0<g)))=v at *;have w:decide (0<g)=true:=bv;clear cm;go_enter func291,ntmps291;go_wp2_with fail;go_ret;exact ⟨bh,a1 _⟩
theorem GM {c:Nat} (h:nZ a c b=true):a<=16/\c<=4096/\0<=b/\b<=1:=by unfold nZ at h;simp only [Bool.and_eq_true,decide_eq_true_eq] at h;exact ⟨h.1.1,h.1.2,h.2.1,h.2.2⟩
theorem Ly (a:0<=t) (b:t<=255):IntKind.u64.wrap t=t:=by simp [IntKind.wrap,IntKind.signed,IntKind.bits];omega
def pS (w:World):Prop:=∀ j,j<64->w.cell? ⟨0,j,none⟩=some (.int .u8 (Lib.deBruijn64tab.getD j 0))
theorem pS.lt (h:pS w):0<w.heap.size:=World.block_lt_of_cell? _ _ (h 0 ab)
theorem pS.from {w':World} (h:pS w) (hb:Below a w w') (hn:0<a):pS w':=λj n=>(hb.cell (p:=⟨0,j,none⟩) hn).trans (h j n)
theorem pS.below {w':World} (h:pS w) (hb:Bw w w'):pS w':=h.from hb h.lt
theorem Td (hx:g<18446744073709551616) (d:g≠0) (b:g &&& (18446744073709551616-g)=n): IntKind.u64.wrap (bits BinOp.and IntKind.u64 (g:Int) (IntKind.u64.wrap (-(g:Int)))*285870213051353865)/288230376151711744=((n*285870213051353865%18446744073709551616/288230376151711744:Nat):Int):=by
 have c:IntKind.u64.wrap (-(g:Int))=((18446744073709551616-g:Nat):Int):=by rw [IntKind.wrap_u64];omega
 rw [c,bits_and_u64_nat g _ hx ab,b,IntKind.wrap_u64];omega
theorem Py (d:((g:Int)==0)=false) (key:IntKind.u64.wrap (bits BinOp.and IntKind.u64 (g:Int) (IntKind.u64.wrap (-(g:Int)))*285870213051353865)/288230376151711744=(j:Int)) (x:j<64) (hk:n<64) (c:m.cell? ⟨0,j,none⟩=some (.int .u8 n)): CE 223 #[.u g] m (.i n):=by go_enter func223,ntmps223;go_wp2_with (simp only [key]);go_ret;exact a07
theorem Pz:CE 223 #[.u 0] m (.i 64):=by go_enter func223,ntmps223;exact wl
theorem Te (hx:g<18446744073709551616) (w:World) (h:pS w): CE 223 #[.u g] w (.i (Lib.ctz 64 g)):=by
 by_cases b:g=0;·subst b;exact Pz w
 ·obtain ⟨c,x⟩:=Lib.lowest_bit 64 g b hx;obtain ⟨f,d⟩:=Lib.deBruijn64_at _ x;have a:=h _ f;rw [d] at a;exact Py g _ _ w bv (Td g _ hx b c) f x a
theorem PA:(jw x g).2.1.xs.length<=x.xs.length/\(jw x g).2.1.ys.length<=x.ys.length:=by
 unfold jw;split;all_goals first
  | exact ⟨Nat.le_refl _,Nat.le_refl _⟩
  | (refine ⟨?_,Nat.le_refl _⟩;dsimp only;rw [List.length_drop];omega)
  | exact ⟨Nat.zero_le _,Nat.zero_le _⟩
theorem GN (a:x.xs.length<=1048576) (d:x.ys.length<=4096):∀ k:Nat,(fX x t k).1.xs.length<=1048576/\(fX x t k).1.ys.length<=1048576:=by
 intro k;have b:x.ys.length<=1048576:=ab
 match k with
 | 0=>simp only [fX];exact ⟨a,b⟩
 | 1=>simp only [fX];exact ⟨a,b⟩
 | 2=>simp only [fX];exact ⟨a,b⟩
 | 3 =>
   simp only [fX];refine ⟨a,?_⟩;by_cases c:x.ys.length<4096;·rw [if_pos c,List.length_append,List.length_singleton];omega
   ·rw [if_neg c];exact b
 | 4=>simp only [fX];exact ⟨a,b⟩
 | 5=>simp only [fX];exact ⟨a,b⟩
 | k+6=>simp only [fX,zeroD];exact ⟨Nat.zero_le _,Nat.zero_le _⟩
def sh (b:Int):Nat:=(b%64).toNat
def Lz (b:Int):Nat:=(b%32).toNat
theorem RZ:t%64=(sh t:Int):=by unfold sh;omega
theorem Tf:t%32=(Lz t:Int):=by unfold Lz;omega
theorem EK:sh (t%32)=Lz t:=by unfold sh Lz;omega
theorem GO:sh t<64:=by unfold sh;omega
theorem Tg:Lz t<32:=by unfold Lz;omega
inductive AF where | sum | slt | sltu | xor | or | and | sl | sr | sra | sub | mul | mulh | mulhsu | high | div | divu | rem | remu
deriving DecidableEq
def EL (b:Bool):Int:=if b then 1 else 0
def kT (a b:Int):Int:=a*b/18446744073709551616
def gv (a b:Int):Int:=if wrap64 a<0 then IntKind.u64.wrap (kT a b-b) else kT a b
def mA (a b:Int):Int:=if wrap64 b<0 then IntKind.u64.wrap (gv a b-a) else gv a b
def AF.v:AF->Int->Int->Int
 | .sum,a,b=>IntKind.u64.wrap (a+b)
 | .sub,a,b=>IntKind.u64.wrap (a-b)
 | .xor,a,b=>bits .xor .u64 a b
 | .or,a,b=>bits .or .u64 a b
 | .and,a,b=>bits .and .u64 a b
 | .sl,a,b=>IntKind.u64.wrap (a*2^sh b)
 | .sr,a,b=>a/2^sh b
 | .sra,a,b=>IntKind.u64.wrap (wrap64 a/2^sh b)
 | .slt,a,b=>EL (decide (wrap64 a<wrap64 b))
 | .sltu,a,b=>EL (decide (a<b))
 | .mul,a,b=>IntKind.u64.wrap (a*b)
 | .high,a,b=>kT a b
 | .mulhsu,a,b=>gv a b
 | .mulh,a,b=>mA a b
 | .div,a,b=>if b=0 then 18446744073709551615 else IntKind.u64.wrap (wrap64 ((wrap64 a).tdiv (wrap64 b)))
 | .rem,a,b=>if b=0 then a else IntKind.u64.wrap ((wrap64 a).tmod (wrap64 b))
 | .divu,a,b=>if b=0 then 18446744073709551615 else IntKind.u64.wrap (a.tdiv b)
 | .remu,a,b=>if b=0 then a else a.tmod b
theorem fz (a:0<=b) (c:b<18446744073709551616):wrap64 b=0↔b=0:=by unfold wrap64;omega
theorem js (a:0<=b) (c:b<18446744073709551616):wrap64 b=-1↔b=18446744073709551615:=by unfold wrap64;omega
theorem LA (b:0<=t) (c:t<18446744073709551616):IntKind.u64.wrap (wrap64 ((wrap64 t).tdiv (-1)))=IntKind.u64.wrap (-t):=by rw [Int.tdiv_neg,Int.tdiv_one,IntKind.wrap_u64,IntKind.wrap_u64];unfold wrap64;omega
theorem LC:IntKind.u64.wrap ((wrap64 t).tmod (-1))=0:=by rw [Int.tmod_neg,Int.tmod_one];rfl
theorem ml:au 32 t=if t%4294967296<2147483648 then t%4294967296 else t%4294967296+18446744069414584320:=by
 have e:(2:Int)^(64-32)=4294967296:=bc
 unfold au;rw [e,IntKind.wrap_u64,IntKind.wrap_u64];unfold wrap64;split<;>omega
theorem kA {y:Int} (h:b%4294967296=y%4294967296):au 32 b=au 32 y:=by rw [ml,ml,h]
theorem bu:0<=au 32 t/\au 32 t<18446744073709551616:=by rw [ml];split<;>omega
theorem BN: -2147483648<=wrap64 (au 32 t)/\wrap64 (au 32 t)<2147483648:=by rw [ml];unfold wrap64;split<;>omega
theorem xL (a: -2147483648<=t) (b:t<2147483648):au 32 (IntKind.u64.wrap t)=IntKind.u64.wrap t:=by rw [ml,IntKind.wrap_u64];split<;>omega
theorem rY:(t%4294967296*c)%4294967296=t*c%4294967296:=by rw [Int.mul_emod,Int.emod_emod_of_dvd _ (Int.dvd_refl _),<- Int.mul_emod]
theorem jZ:IntKind.u64.wrap t%4294967296=t%4294967296:=by rw [IntKind.wrap_u64];omega
theorem EM (c: -2147483648<=t) (d:t<2147483648) (n:Nat): -2147483648<=t/2^n/\t/2^n<2147483648:=by
 have a:(0:Int)<2^n:=Int.pow_pos ab;constructor
 ·refine (Int.le_ediv_iff_mul_le a).mpr ?_;have:(1:Int)<=2^n:=by omega
  have b:(2147483648:Int)*1<=2147483648*2^n:=Int.mul_le_mul_of_nonneg_left this ab;omega
 ·refine Int.ediv_lt_of_lt_mul a ?_;have:(1:Int)<=2^n:=by omega
  have b:(2147483648:Int)*1<=2147483648*2^n:=Int.mul_le_mul_of_nonneg_left this ab;omega
inductive SD where | low | sgn | five
deriving DecidableEq
def SD.v:SD->Int->Int
 | .low,x=>x%4294967296
 | .sgn,x=>au 32 x
 | .five,x=>x%32
theorem SD.bd (s:SD) (x:Int) (a:0<=x):0<=s.v x/\s.v x<18446744073709551616:=by
 cases s;·simp only [SD.v];omega
 ·exact bu x
 ·simp only [SD.v];omega
inductive AO where | d (f:AF) | w (f:AF) (l r:SD)
deriving DecidableEq
def Us:List AO:=[
 .d .sum,.d .slt,.d .sltu,.d .xor,.d .or,.d .and,.d .sl,.d .sr,.d .sra,
 .w .sum .low .low,.w .sl .low .five,.w .sr .low .five,.w .sra .sgn .five,
 .d .sum,.d .sub,.d .sl,.d .slt,.d .sltu,.d .xor,.d .sr,.d .sra,.d .or,.d .and,
 .w .sum .low .low,.w .sub .low .low,.w .sl .low .five,.w .sr .low .five,.w .sra .sgn .five,
 .d .mul,.d .mulh,.d .mulhsu,.d .high,.d .div,.d .divu,.d .rem,.d .remu,
 .w .mul .low .low,.w .div .sgn .sgn,.w .divu .low .low,.w .rem .sgn .sgn,.w .remu .low .low]
def oD (k:Nat):AO:=Us.getD k (.d .sum)
def AO.v:AO->Int->Int->Int
 | .d f,a,b=>f.v a b
 | .w f l r,a,b=>au 32 (f.v (l.v a) (r.v b))
def zT (op:Int):Bool:=decide (22<=op/\op<=62)
def nC (op a b:Int):Int:=if zT op then (oD (op-22).toNat).v a b else 0
/- The Ops of 32 bits,as the model reckons them. -/
theorem UD:au 32 (IntKind.u64.wrap (t+c))=(AO.w .sum .low .low).v t c:=by refine kA ?_;simp only [AF.v,SD.v,jZ];omega
theorem UF:au 32 (IntKind.u64.wrap (t-c))=(AO.w .sub .low .low).v t c:=by refine kA ?_;simp only [AF.v,SD.v,jZ];omega
theorem UG:au 32 (IntKind.u64.wrap (t*c))=(AO.w .mul .low .low).v t c:=by refine kA ?_;simp only [AF.v,SD.v,jZ];rw [rY,Int.mul_comm t (c%_),rY,Int.mul_comm]
theorem VQ:au 32 (IntKind.u64.wrap (t*2^Lz c))=(AO.w .sl .low .five).v t c:=by refine kA ?_;simp only [AF.v,SD.v,jZ,EK];rw [rY]
theorem VR:au 32 (t%4294967296/2^Lz c)=(AO.w .sr .low .five).v t c:=by simp only [AO.v,AF.v,SD.v,EK]
theorem UH:IntKind.u64.wrap (wrap64 (au 32 t)/2^Lz c)=(AO.w .sra .sgn .five).v t c:=by simp only [AO.v,AF.v,SD.v,EK];have h:=BN t;have b:=EM _ h.1 h.2 (Lz c);exact (xL _ b.1 b.2).symm
theorem lG (b:0<=t) (c:t<18446744073709551616):bits .and .u64 t 4294967295=t%4294967296:=cK t 32 b c ab
theorem tC (a:0<=b) (x:b<18446744073709551616):IntKind.u64.wrap b=b:=by rw [IntKind.wrap_u64];omega
theorem vJ (h:0<=t) (a1:t<18446744073709551616) (i:0<=c) (m:c<18446744073709551616): ∃ d f b e a u v:Int, IntKind.u64.wrap (t%4294967296*(c%4294967296))=d/\IntKind.u64.wrap (t%4294967296*(c/4294967296))=f /\ IntKind.u64.wrap (t/4294967296*(c%4294967296))=b/\IntKind.u64.wrap (t/4294967296*(c/4294967296))=e /\ IntKind.u64.wrap (b+d/4294967296)=a/\bits .and .u64 a 4294967295=a%4294967296/\IntKind.u64.wrap (a%4294967296+f)=u /\ IntKind.u64.wrap (e+a/4294967296)=v/\IntKind.u64.wrap (v+u/4294967296)=kT t c:=by
 obtain ⟨A,rfl⟩:=Int.eq_ofNat_of_zero_le h
 obtain ⟨B,rfl⟩:=Int.eq_ofNat_of_zero_le i
 have k:A<18446744073709551616:=ab
 have l:B<18446744073709551616:=ab
 obtain ⟨q,bt,r,g⟩:=Lib.mul64_hi A B k l
 have n:=Lib.half_mul_le (a:=A/4294967296) (b:=B/4294967296) ab ab
 have o:=Lib.half_mul_le (a:=A/4294967296) (b:=B%4294967296) ab ab
 have p:=Lib.half_mul_le (a:=A%4294967296) (b:=B/4294967296) ab ab
 have j:((A:Int)%4294967296*((B:Int)%4294967296))=((A%4294967296*(B%4294967296):Nat):Int):=cp
 have e2:((A:Int)%4294967296*((B:Int)/4294967296))=((A%4294967296*(B/4294967296):Nat):Int):=cp
 have e3:((A:Int)/4294967296*((B:Int)%4294967296))=((A/4294967296*(B%4294967296):Nat):Int):=cp
 have e4:((A:Int)/4294967296*((B:Int)/4294967296))=((A/4294967296*(B/4294967296):Nat):Int):=cp
 have e5:kT A B=((A*B/18446744073709551616:Nat):Int):=by simp [kT]
 rw [j,e2,e3,e4,e5,<- g]
 generalize A%4294967296*(B%4294967296)=d at *
 generalize A%4294967296*(B/4294967296)=f at *
 generalize A/4294967296*(B%4294967296)=b at *
 generalize A/4294967296*(B/4294967296)=e at *
 refine ⟨(d:Int),(f:Int),(b:Int),(e:Int),(b:Int)+(d:Int)/4294967296,((b:Int)+(d:Int)/4294967296)%4294967296+(f:Int),(e:Int)+((b:Int)+(d:Int)/4294967296)/4294967296,
  tC ab ab,tC ab ab,tC ab ab,tC ab ab,tC ab ab,lG _ ab ab,tC ab ab,tC ab ab,?_⟩
 rw [tC ab ab]
 simp
end Go.Proofs.YtjifdmoehfbihaaGreatDoor
