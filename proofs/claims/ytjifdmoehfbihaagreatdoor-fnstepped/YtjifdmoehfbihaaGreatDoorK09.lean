/- Own lemmas. -/
import Derived.Test.YtjifdmoehfbihaaGreatDoorAut
import Derived.Test.YtjifdmoehfbihaaGreatDoorK03
import Derived.Great.BuildSlice
set_option maxRecDepth 100000
set_option maxHeartbeats 4000000
namespace Go.Proofs.YtjifdmoehfbihaaGreatDoor
open Go.RowKit Tryz
set_option linter.unusedVariables false
theorem pe (w:World):Calls prog 185 #[] w λe b=>e=.returned (.slice (some ⟨w.heap.size,0,none⟩) 22 22)/\b=w.alloc (.cells (dM.map (Value.int .i64)).toArray 2):=by go_enter func185,ntmps185;exact v8
def SQ (w:World) (g:Nat):Prop:=g<w.heap.size/\∀ k,k<22->w.cell? ⟨g,k,none⟩=some (.i (dM.getD k 0))
theorem As (w:World):Calls prog 185 #[] w λe a=>e=.returned (.slice (some ⟨w.heap.size,0,none⟩) 22 22)/\Hid (SQ a w.heap.size)/\Bw w a :=
 (pe w).mono λe a h=>by
  obtain ⟨b,rfl⟩:=h
  refine ⟨b,?_,bal _ _⟩
  show SQ _ _
  refine ⟨cp,λk c=>?_⟩
  rw [cell_of_row _ _ _ _ _ _ (heap_alloc_new _ _)]
  have d:k<dM.length:=c
  simp [List.getD,List.getElem?_eq_getElem d]
theorem dx (x:Int) (w:World):CB 134 #[.i x] w (.i (cK x)):=by
 by_cases c:x=256;·subst c;exact x8
 by_cases d:x=260;·subst d;exact x8
 by_cases f:x=324;·subst f;exact x8
 have o:cK x=dX x 22 0:=by unfold cK;rw [if_neg c,if_neg d,if_neg f]
 rw [o];have t:(x==256)=false:=i5
 have u:(x==260)=false:=ki
 have z:(x==324)=false:=i6
 clear c d f o;go_enter func134,ntmps134;go_wp2_with fail;refine (As _).mono ?_;rintro e r ⟨rfl,p,l⟩;go_wp2_with fail;go_loopw [4] (λi wr=>∃ k:Nat,k<=22/\i=.i k/\Hid (dX x (22-k) k=dX x 22 0)/\wr=r)
  (λi _=>22-(intOf i).toNat)
 case atStart=>exact ⟨0,ab,rfl,(rfl:dX x (22-0) 0=dX x 22 0),rfl⟩
 case round =>
  obtain ⟨k,A,rfl,g,rfl⟩:=hrel;by_cases b:k<22
  ·have s:=p.out.2 k b;cases m:(dM.getD k 0==x) with
   | true =>have F:Hid (dX x 22 0=(k:Int)):=g.out.symm.trans (Ah x k b m);generalize dM.getD k 0=y at *;go_wp2_with fail;go_ret;exact ⟨bc,l⟩
   | false =>
     have F:Hid (dX x (22-(k+1)) (k+1)=dX x 22 0):=(yu x k b m).symm.trans g.out;generalize dM.getD k 0=y at *;go_wp2_with fail;go_roundw;case rel=>exact ⟨k+1,ab,by go_num,F,trivial⟩
     case measure=>simp [intOf];omega
  ·have j:k=22:=ab;subst j;have F:Hid (dX x 22 0=-1):=g.out.symm;go_wp2_with fail;go_ret;exact ⟨bc,l⟩
theorem Hr (x:Int) (w:World):CE 172 #[.i 1,.u x] w (.u (bo 1 x)):=by go_enter func172,ntmps172;exact v8
theorem Hu (x:Int) (w:World):CE 172 #[.i 2,.u x] w (.u (bo 2 x)):=by go_enter func172,ntmps172;exact v8
theorem Hv (x:Int) (w:World):CE 172 #[.i 3,.u x] w (.u (bo 3 x)):=by go_enter func172,ntmps172;exact v8
theorem Hy (x:Int) (w:World):CE 172 #[.i 4,.u x] w (.u (bo 4 x)):=by go_enter func172,ntmps172;exact v8
theorem Db (x:Int) (w:World):CE 172 #[.i 10,.u x] w (.u (bo 10 x)):=by go_enter func172,ntmps172;exact v8
theorem Hz (x:Int) (w:World):CE 172 #[.i 6,.u x] w (.u (bo 6 x)):=by go_enter func172,ntmps172;exact v8
theorem Dd (x:Int) (w:World):CE 172 #[.i 12,.u x] w (.u (bo 12 x)):=by go_enter func172,ntmps172;exact v8
theorem H5 (x:Int) (w:World):CE 172 #[.i 7,.u x] w (.u (bo 7 x)):=by go_enter func172,ntmps172;exact v8
theorem De (x:Int) (w:World):CE 172 #[.i 13,.u x] w (.u (bo 13 x)):=by go_enter func172,ntmps172;exact v8
theorem Df (x:Int) (w:World):CE 172 #[.i 17,.u x] w (.u (bo 17 x)):=by go_enter func172,ntmps172;exact v8
theorem Dg (x:Int) (w:World):CE 172 #[.i 18,.u x] w (.u (bo 18 x)):=by go_enter func172,ntmps172;exact v8
theorem Dh (x:Int) (w:World):CE 172 #[.i 19,.u x] w (.u (bo 19 x)):=by go_enter func172,ntmps172;exact v8
theorem Di (x:Int) (w:World):CE 172 #[.i 20,.u x] w (.u (bo 20 x)):=by go_enter func172,ntmps172;exact v8
theorem H6 (x:Int) (w:World):CE 172 #[.i 0,.u x] w (.u (bo 0 x)):=by
 have b:bo 0 x=mst x:=rfl;unfold mst at b;obtain ⟨y,d⟩:∃ y,bits .and .u64 x 924074=y:=⟨_,rfl⟩;rw [d] at b;cases c:(bits .and .u64 (y/2048) 3==2) with
 | true =>have F:Hid (bo 0 x=bits .andNot .u64 y 6144):=(by show _=_;rw [b,if_pos c]);clear b;exact x9
 | false =>have F:Hid (bo 0 x=y):=(by show _=_;rw [b,if_neg (by rw [c];decide)]);clear b;exact x9
theorem Dk (x:Int) (w:World):CE 172 #[.i 16,.u x] w (.u (bo 16 x)):=by
 go_enter func172,ntmps172;go_wp2_with fail;go_loopw [5,6] (λy i wr=>∃ k:Nat,k<=4/\i=.u k/\y=.u (cT x k)/\wr=w)
  (λ_ i _=>4-(intOf i).toNat)
 case atStart=>exact ⟨0,ab,rfl,rfl,rfl⟩
 case round =>
  obtain ⟨k,r,rfl,rfl,rfl⟩:=hrel;by_cases p:k<4
  ·have c:cT x (k+1)=bits .or .u64 (cT x k) (IntKind.u64.wrap (je x k*2^(8*k))):=rfl;unfold je at c;have o:IntKind.u64.wrap (8*(k:Int))=((8*k:Nat):Int):=di;have l:8*k<64:=ab;have d:decide ((k:Int)<4)=true:=bh;obtain ⟨b,m⟩:∃ b,bits .and .u64 (x/2^(8*k)) 159=b:=⟨_,rfl⟩;obtain ⟨y,f⟩:∃ y,y=cT x k:=⟨_,rfl⟩;rw [m,<- f] at c;rw [<- f];cases j:(bits .and .u64 b 1==0) with
   | true =>
     rw [if_pos j] at c;have F:Hid (cT x (k+1)=bits .or .u64 y (IntKind.u64.wrap (bits .andNot .u64 b 2*2^(8*k)))):=c;clear c f;go_wp2_with fail;go_roundw;case rel=>exact ⟨k+1,ab,by go_num,by rw [F.out],trivial⟩
     case measure=>simp [intOf];omega
   | false =>
     rw [if_neg (by rw [j];decide)] at c;have F:Hid (cT x (k+1)=bits .or .u64 y (IntKind.u64.wrap (b*2^(8*k)))):=c;clear c f;go_wp2_with fail;go_roundw;case rel=>exact ⟨k+1,ab,by go_num,by rw [F.out],trivial⟩
     case measure=>simp [intOf];omega
  ·have g:k=4:=ab;subst g;have F:Hid (bo 16 x=cT x 4):=(rfl:bo 16 x=cT x 4);generalize cT x 4=y at *;exact yn
theorem At {p:Int} (h:¬ (p=0\/p=1\/p=2\/p=3\/p=4\/p=10\/p=6\/p=12\/p=7\/p=13\/p=16\/p=17\/p=18\/p=19\/p=20)) (x:Int):bo p x=x:=by unfold bo;rw [if_neg ab,if_neg ab,if_neg ab,if_neg ab,if_neg ab,if_neg ab,if_neg ab,if_neg ab,if_neg ab]
theorem fd (p x:Int) (w:World):CE 172 #[.i p,.u x] w (.u (bo p x)):=by
 by_cases h:p=0\/p=1\/p=2\/p=3\/p=4\/p=10\/p=6\/p=12\/p=7\/p=13\/p=16\/p=17\/p=18\/p=19\/p=20
 ·rcases h with rfl|rfl|rfl|rfl|rfl|rfl|rfl|rfl|rfl|rfl|rfl|rfl|rfl|rfl|rfl;·exact H6 x w
  ·exact Hr x w
  ·exact Hu x w
  ·exact Hv x w
  ·exact Hy x w
  ·exact Db x w
  ·exact Hz x w
  ·exact Dd x w
  ·exact H5 x w
  ·exact De x w
  ·exact Dk x w
  ·exact Df x w
  ·exact Dg x w
  ·exact Dh x w
  ·exact Di x w
 ·have F:Hid (bo p x=x):=At h x;have g:(p==0)=false:=bh;have j:(p==1)=false:=bh;have l:(p==2)=false:=bh;have m:(p==3)=false:=bh;have d4:(p==4)=false:=bh;have T0:(p==10)=false:=bh;have d6:(p==6)=false:=bh;have UH:(p==12)=false:=bh;have d7:(p==7)=false:=bh;have TZ:(p==13)=false:=bh;have TK:(p==16)=false:=bh;have TY:(p==17)=false:=bh;have b:(p==18)=false:=bh;have c:(p==19)=false:=bh;have d:(p==20)=false:=bh;clear h;exact x9
theorem nS (a:Option Addr) (n cap:Nat) (l:List Int) (w:World) (hz:l.length=n) (hs:Sl .u64 w a l):CE 102 #[.slice a n cap] w (.bool (bq n l)):=by
 by_cases A:n=22
 ·have r:bq n l=fl l 22 0:=(by simp [bq,A]);rw [r];have C:Hid (l.length=n):=hz;subst A;clear hz r;go_enter func102,ntmps102;go_wp2_with fail;go_loopw [3] (λi wr=>∃ k:Nat,k<=22/\i=.i k/\Hid (fl l (22-k) k=fl l 22 0)/\wr=w)
   (λi _=>22-(intOf i).toNat)
  case atStart=>exact ⟨0,ab,rfl,(rfl:fl l (22-0) 0=fl l 22 0),rfl⟩
  case round =>
   obtain ⟨k,M,rfl,u,rfl⟩:=hrel;by_cases m:k<22
   ·obtain ⟨b,G,rfl,K,L⟩:=hs k (by rw [C.out];exact m);have c:fy k (l.getD k 0)=true->Hid (fl l (22-(k+1)) (k+1)=fl l 22 0):=λh=>(CL l k m h).symm.trans u.out;have f:fy k (l.getD k 0)=false->Hid (fl l 22 0=false):=λh=>u.out.symm.trans (G5 l k m h);generalize l.getD k 0=x at *;have J:decide ((k:Int)<22)=true:=bh;by_cases B:k=9
    ·subst B;cases g:(bits .and .u64 x 2730==x) with
     | true =>
       have F:=c (by simpa [fy] using g);have d:(bits .and .u64 x 2730 != x)=false:=(by simp [bne,g]);clear c f;go_wp2_with fail;go_roundw;case rel=>exact ⟨9+1,ab,by go_num,F,trivial⟩
       case measure=>simp [intOf]
     | false =>have F:=f (by simpa [fy] using g);have d:(bits .and .u64 x 2730 != x)=true:=(by simp [bne,g]);clear c f;exact yn
    ·have d9:((k:Int)==9)=false:=bh;by_cases q:k=15
     ·subst q;have j:fy 15 x=((x/1152921504606846976==0)||(x/1152921504606846976==8)):=(by simp [fy]);obtain ⟨y,E⟩:∃ y,x/1152921504606846976=y:=⟨_,rfl⟩;rw [E] at j;cases p:(y==0) with
      | true =>
        have F:=c (by rw [j,p];rfl);have d:(y != 0)=false:=(by simp [bne,p]);clear c f j;go_wp2_with fail;go_roundw;case rel=>exact ⟨15+1,ab,by go_num,F,trivial⟩
        case measure=>simp [intOf]
      | false =>
        have d:(y != 0)=true:=(by simp [bne,p]);cases t:(y==8) with
        | true =>
          have F:=c (by rw [j,p,t];rfl);have D:(y != 8)=false:=(by simp [bne,t]);clear c f j;go_wp2_with fail;go_roundw;case rel=>exact ⟨15+1,ab,by go_num,F,trivial⟩
          case measure=>simp [intOf]
        | false =>have F:=f (by rw [j,p,t];rfl);have D:(y != 8)=true:=(by simp [bne,t]);clear c f j;exact yn
     ·have TM:((k:Int)==15)=false:=bh;have s:fy k x=(bo k x==x):=(by simp [fy,B,q]);cases g:(bo k x==x) with
      | true =>
        have F:=c (s.trans g);have d:(bo k x != x)=false:=(by simp [bne,g]);clear c f s;go_wp2_with fail;refine (fd _ _ _).mono ?_;rintro e I ⟨rfl,o⟩;subst o;generalize bo k x=y at *;go_wp2_with fail;go_roundw;case rel=>exact ⟨k+1,ab,by go_num,F,trivial⟩
        case measure=>simp [intOf];omega
      | false =>have F:=f (s.trans g);have d:(bo k x != x)=true:=(by simp [bne,g]);clear c f s;go_wp2_with fail;refine (fd _ _ _).mono ?_;rintro e I ⟨rfl,o⟩;subst o;generalize bo k x=y at *;exact yn
   ·have z:k=22:=ab;subst z;have F:Hid (fl l 22 0=true):=u.out.symm;exact yn
 ·have F:Hid (bq n l=false):=(by show _=_;simp [bq,A]);have d:((n:Int) != 22)=true:=bh;go_enter func102,ntmps102;exact yn
theorem uC (p:Int) (w:World):CE 103 #[.i p] w (.bool (bC p)):=by
 cases b:(p==0) with
 | true =>have F:Hid (bC p=true):=(by show _=_;simp [bC,b]);exact a00
 | false =>
   cases d:(p==1) with
   | true =>have F:Hid (bC p=true):=(by show _=_;simp [bC,d]);exact a00
   | false =>have F:Hid (bC p=(p==3)):=(by show _=_;simp [bC,b,d]);obtain ⟨c,f⟩:∃ c,(p==3)=c:=⟨_,rfl⟩;rw [f] at F;exact a00
theorem Au (x:Int) (w:World):CB 183 #[.i x] w (.bool (dj x)):=by
 cases d:(x==3860) with
 | true =>have F:Hid (dj x=true):=(by show _=_;simp [dj,d]);go_enter func183,ntmps183;exact a01
 | false =>
   cases f:(x==769) with
   | true =>have F:Hid (dj x=true):=(by show _=_;simp [dj,f]);go_enter func183,ntmps183;exact a01
   | false =>have F:Hid (dj x=decide (0<=cK x)):=(by show _=_;simp [dj,d,f]);have g:Hid (∀ w,CB 134 #[.i x] w (.i (cK x))):=dx x;generalize cK x=y at *;obtain ⟨c,l⟩:∃ c,decide (0<=y)=c:=⟨_,rfl⟩;rw [l] at F;go_enter func183,ntmps183;go_wp2_with fail;refine (g.out _).mono ?_;rintro e m ⟨rfl,j⟩;go_wp2_with fail;go_ret;exact ⟨bc,j⟩
theorem H7 (a:Option Addr) (n cap:Nat) (l:List Int) (x p:Int) (w:World) (hz:l.length=n) (hs:Sl .u64 w a l):CB 131 #[.slice a n cap,.i x,.i p] w (.bool (jf n l x p)):=by
 have s:Hid (CE 102 #[.slice a n cap] w (.bool (bq n l))):=nS a n cap l w hz hs;have F:Hid (jf n l x p=(bq n l&&dj x&&bC p&&decide ((wrap64 (x.tdiv 256)).tmod 4<=p))):=(rfl:jf n l x p=_);have r:=Au x;have t:=uC p;generalize bq n l=o at *;generalize dj x=k at *;generalize bC p=q at *;have f:Hid (∀ w,CB 183 #[.i x] w (.bool k)):=r;have g:Hid (∀ w,CE 103 #[.i p] w (.bool q)):=t;obtain ⟨d,u⟩:∃ d,decide ((wrap64 (x.tdiv 256)).tmod 4<=p)=d:=⟨_,rfl⟩;rw [u] at F;clear r t hs hz;cases o with
 | false =>go_enter func131,ntmps131;go_wp2_with fail;refine s.out.mono ?_;rintro e y ⟨rfl,b⟩;subst b;exact a01
 | true =>
   go_enter func131,ntmps131;go_wp2_with fail;refine s.out.mono ?_;rintro e y ⟨rfl,b⟩;subst b;go_wp2_with fail;refine (f.out _).mono ?_;rintro e z ⟨rfl,j⟩;cases k with
   | false =>go_wp2_with fail;go_ret;exact ⟨bc,j⟩
   | true =>
     go_wp2_with fail;refine (g.out _).mono ?_;rintro e A ⟨rfl,m⟩;subst m;cases q with
     | false =>go_wp2_with fail;go_ret;exact ⟨bc,j⟩
     | true =>go_wp2_with fail;go_ret;exact ⟨bc,j⟩
theorem wE (a:Option Addr) (n cap:Nat) (l:List Int) (p:Int) (w:World) (hz:l.length=n) (hs:Sl .u64 w a l):CE 58 #[.slice a n cap,.i p] w (.bool (aX n l p)):=by
 have f:Hid (CE 102 #[.slice a n cap] w (.bool (bq n l))):=nS a n cap l w hz hs;have g:Hid (∀ w,CE 103 #[.i p] w (.bool (bC p))):=uC p;have F:Hid (aX n l p=(bq n l&&bC p)):=(rfl:aX n l p=_);generalize bq n l=o at *;generalize bC p=q at *;clear hz hs;cases o with
 | false =>go_enter func58,ntmps58;go_wp2_with fail;refine f.out.mono ?_;rintro e j ⟨rfl,b⟩;exact a02
 | true =>go_enter func58,ntmps58;go_wp2_with fail;refine f.out.mono ?_;rintro e j ⟨rfl,b⟩;subst b;go_wp2_with fail;refine (g.out _).mono ?_;rintro e m ⟨rfl,d⟩;subst d;exact yn
end Go.Proofs.YtjifdmoehfbihaaGreatDoor
namespace Go.Proofs.YtjifdmoehfbihaaGreatDoor
set_option linter.unusedVariables false
inductive Fm where | r | i | h | w | s | b | u | j | a | c | x
deriving DecidableEq
def Fm.str:Fm->ByteArray
 | .r=>⟨#[82]⟩ | .i=>⟨#[73]⟩ | .h=>⟨#[72]⟩ | .w=>⟨#[87]⟩ | .s=>⟨#[83]⟩ | .b=>⟨#[66]⟩ | .u=>⟨#[85]⟩ | .j=>⟨#[74]⟩ | .a=>⟨#[65]⟩ | .c=>⟨#[67]⟩ | .x=>⟨#[88]⟩
structure Row where
 name:ByteArray
 fm:Fm
 op:Int
 f3:Int
 more:Int
def rows:List Row:=[
 ⟨⟨#[108,117,105]⟩,.u,55,(-1),0⟩,
 ⟨⟨#[97,117,105,112,99]⟩,.u,23,(-1),0⟩,
 ⟨⟨#[106,97,108]⟩,.j,111,(-1),0⟩,
 ⟨⟨#[106,97,108,114]⟩,.i,103,0,0⟩,
 ⟨⟨#[98,101,113]⟩,.b,99,0,0⟩,
 ⟨⟨#[98,110,101]⟩,.b,99,1,0⟩,
 ⟨⟨#[98,108,116]⟩,.b,99,4,0⟩,
 ⟨⟨#[98,103,101]⟩,.b,99,5,0⟩,
 ⟨⟨#[98,108,116,117]⟩,.b,99,6,0⟩,
 ⟨⟨#[98,103,101,117]⟩,.b,99,7,0⟩,
 ⟨⟨#[108,98]⟩,.i,3,0,0⟩,
 ⟨⟨#[108,104]⟩,.i,3,1,0⟩,
 ⟨⟨#[108,119]⟩,.i,3,2,0⟩,
 ⟨⟨#[108,100]⟩,.i,3,3,0⟩,
 ⟨⟨#[108,98,117]⟩,.i,3,4,0⟩,
 ⟨⟨#[108,104,117]⟩,.i,3,5,0⟩,
 ⟨⟨#[108,119,117]⟩,.i,3,6,0⟩,
 ⟨⟨#[115,98]⟩,.s,35,0,0⟩,
 ⟨⟨#[115,104]⟩,.s,35,1,0⟩,
 ⟨⟨#[115,119]⟩,.s,35,2,0⟩,
 ⟨⟨#[115,100]⟩,.s,35,3,0⟩,
 ⟨⟨#[97,100,100,105]⟩,.i,19,0,0⟩,
 ⟨⟨#[115,108,116,105]⟩,.i,19,2,0⟩,
 ⟨⟨#[115,108,116,105,117]⟩,.i,19,3,0⟩,
 ⟨⟨#[120,111,114,105]⟩,.i,19,4,0⟩,
 ⟨⟨#[111,114,105]⟩,.i,19,6,0⟩,
 ⟨⟨#[97,110,100,105]⟩,.i,19,7,0⟩,
 ⟨⟨#[115,108,108,105]⟩,.h,19,1,0⟩,
 ⟨⟨#[115,114,108,105]⟩,.h,19,5,0⟩,
 ⟨⟨#[115,114,97,105]⟩,.h,19,5,16⟩,
 ⟨⟨#[97,100,100,105,119]⟩,.i,27,0,0⟩,
 ⟨⟨#[115,108,108,105,119]⟩,.w,27,1,0⟩,
 ⟨⟨#[115,114,108,105,119]⟩,.w,27,5,0⟩,
 ⟨⟨#[115,114,97,105,119]⟩,.w,27,5,32⟩,
 ⟨⟨#[97,100,100]⟩,.r,51,0,0⟩,
 ⟨⟨#[115,117,98]⟩,.r,51,0,32⟩,
 ⟨⟨#[115,108,108]⟩,.r,51,1,0⟩,
 ⟨⟨#[115,108,116]⟩,.r,51,2,0⟩,
 ⟨⟨#[115,108,116,117]⟩,.r,51,3,0⟩,
 ⟨⟨#[120,111,114]⟩,.r,51,4,0⟩,
 ⟨⟨#[115,114,108]⟩,.r,51,5,0⟩,
 ⟨⟨#[115,114,97]⟩,.r,51,5,32⟩,
 ⟨⟨#[111,114]⟩,.r,51,6,0⟩,
 ⟨⟨#[97,110,100]⟩,.r,51,7,0⟩,
 ⟨⟨#[97,100,100,119]⟩,.r,59,0,0⟩,
 ⟨⟨#[115,117,98,119]⟩,.r,59,0,32⟩,
 ⟨⟨#[115,108,108,119]⟩,.r,59,1,0⟩,
 ⟨⟨#[115,114,108,119]⟩,.r,59,5,0⟩,
 ⟨⟨#[115,114,97,119]⟩,.r,59,5,32⟩,
 ⟨⟨#[109,117,108]⟩,.r,51,0,1⟩,
 ⟨⟨#[109,117,108,104]⟩,.r,51,1,1⟩,
 ⟨⟨#[109,117,108,104,115,117]⟩,.r,51,2,1⟩,
 ⟨⟨#[109,117,108,104,117]⟩,.r,51,3,1⟩,
 ⟨⟨#[100,105,118]⟩,.r,51,4,1⟩,
 ⟨⟨#[100,105,118,117]⟩,.r,51,5,1⟩,
 ⟨⟨#[114,101,109]⟩,.r,51,6,1⟩,
 ⟨⟨#[114,101,109,117]⟩,.r,51,7,1⟩,
 ⟨⟨#[109,117,108,119]⟩,.r,59,0,1⟩,
 ⟨⟨#[100,105,118,119]⟩,.r,59,4,1⟩,
 ⟨⟨#[100,105,118,117,119]⟩,.r,59,5,1⟩,
 ⟨⟨#[114,101,109,119]⟩,.r,59,6,1⟩,
 ⟨⟨#[114,101,109,117,119]⟩,.r,59,7,1⟩,
 ⟨⟨#[108,114,46,119]⟩,.a,47,2,2⟩,
 ⟨⟨#[115,99,46,119]⟩,.a,47,2,3⟩,
 ⟨⟨#[97,109,111,115,119,97,112,46,119]⟩,.a,47,2,1⟩,
 ⟨⟨#[97,109,111,97,100,100,46,119]⟩,.a,47,2,0⟩,
 ⟨⟨#[97,109,111,120,111,114,46,119]⟩,.a,47,2,4⟩,
 ⟨⟨#[97,109,111,97,110,100,46,119]⟩,.a,47,2,12⟩,
 ⟨⟨#[97,109,111,111,114,46,119]⟩,.a,47,2,8⟩,
 ⟨⟨#[97,109,111,109,105,110,46,119]⟩,.a,47,2,16⟩,
 ⟨⟨#[97,109,111,109,97,120,46,119]⟩,.a,47,2,20⟩,
 ⟨⟨#[97,109,111,109,105,110,117,46,119]⟩,.a,47,2,24⟩,
 ⟨⟨#[97,109,111,109,97,120,117,46,119]⟩,.a,47,2,28⟩,
 ⟨⟨#[108,114,46,100]⟩,.a,47,3,2⟩,
 ⟨⟨#[115,99,46,100]⟩,.a,47,3,3⟩,
 ⟨⟨#[97,109,111,115,119,97,112,46,100]⟩,.a,47,3,1⟩,
 ⟨⟨#[97,109,111,97,100,100,46,100]⟩,.a,47,3,0⟩,
 ⟨⟨#[97,109,111,120,111,114,46,100]⟩,.a,47,3,4⟩,
 ⟨⟨#[97,109,111,97,110,100,46,100]⟩,.a,47,3,12⟩,
 ⟨⟨#[97,109,111,111,114,46,100]⟩,.a,47,3,8⟩,
 ⟨⟨#[97,109,111,109,105,110,46,100]⟩,.a,47,3,16⟩,
 ⟨⟨#[97,109,111,109,97,120,46,100]⟩,.a,47,3,20⟩,
 ⟨⟨#[97,109,111,109,105,110,117,46,100]⟩,.a,47,3,24⟩,
 ⟨⟨#[97,109,111,109,97,120,117,46,100]⟩,.a,47,3,28⟩,
 ⟨⟨#[102,101,110,99,101]⟩,.i,15,0,0⟩,
 ⟨⟨#[102,101,110,99,101,46,105]⟩,.i,15,1,0⟩,
 ⟨⟨#[99,115,114,114,119]⟩,.c,115,1,0⟩,
 ⟨⟨#[99,115,114,114,115]⟩,.c,115,2,0⟩,
 ⟨⟨#[99,115,114,114,99]⟩,.c,115,3,0⟩,
 ⟨⟨#[99,115,114,114,119,105]⟩,.c,115,5,0⟩,
 ⟨⟨#[99,115,114,114,115,105]⟩,.c,115,6,0⟩,
 ⟨⟨#[99,115,114,114,99,105]⟩,.c,115,7,0⟩,
 ⟨⟨#[101,99,97,108,108]⟩,.x,115,0,0⟩,
 ⟨⟨#[101,98,114,101,97,107]⟩,.x,115,0,1⟩,
 ⟨⟨#[115,114,101,116]⟩,.x,115,0,258⟩,
 ⟨⟨#[109,114,101,116]⟩,.x,115,0,770⟩,
 ⟨⟨#[119,102,105]⟩,.x,115,0,261⟩,
 ⟨⟨#[115,102,101,110,99,101,46,118,109,97]⟩,.r,115,0,9⟩]
def Row.f3z (r:Row):Int:=if r.f3<0 then 0 else r.f3
def Row.cellsI (r:Row):List Value:=[.string r.name,.string r.fm.str,.u r.op,.u r.f3z,.u r.more]
def Row.cellsS (r:Row):List Value:=[.string r.name,.string r.fm.str,.u r.op,.i r.f3,.u r.more]
def jk:Array Value:=(rows.flatMap Row.cellsI).toArray
def cellsS:Array Value:=(rows.flatMap Row.cellsS).toArray
theorem pR:rows.length=98:=by rfl
theorem rk {α g:Type} (f:α->List g) (m:Nat):∀ (l:List α),(∀ x ∈ l,(f x).length=m)->∀ k (h:k<l.length),((l.flatMap f).drop (k*m)).take m=f l[k]:=by
 intro l;induction l with
 | nil=>intro _ k h;simp at h
 | cons x l d =>
   intro a k h;have b:(f x).length=m:=a x cp;cases k with
   | zero=>simp [<- b]
   | succ k =>have e:(k+1)*m=(f x).length+k*m:=(by rw [b,Nat.succ_mul];omega);rw [e,List.flatMap_cons,List.drop_append,List.drop_of_length_le ab,Nat.add_sub_cancel_left];exact d (λy c=>a y (by simp [c])) k ej
theorem uD {α b:Type} (f:α->List b) (m:Nat) (l:List α) (hl:∀ x ∈ l,(f x).length=m) (k:Nat) (h:k<l.length) (j:Nat) (a:j<m):(l.flatMap f)[k*m+j]?=(f l[k])[j]?:=by rw [<- rk f m l hl k h];simp [a]
def bT (k:Nat):Row:=rows.getD k ⟨⟨#[]⟩,.x,0,0,0⟩
theorem xB (k:Nat) (h:k<98):rows[k]'(by rw [pR];exact h)=bT k:=by simp [bT,List.getD,List.getElem?_eq_getElem (show k<rows.length by rw [pR];exact h)]
theorem Av (k:Nat) (h:k<98):jk.extract (k*5) (k*5+5)=(bT k).cellsI.toArray:=by have:=rk Row.cellsI 5 rows (by intro x _;rfl) k (by rw [pR];exact h);rw [xB k h] at this;rw [<- this];simp [jk]
theorem nT:jk.size=490:=by kernel_rfl
theorem H9 (k:Nat) (h:k<98) (j:Nat) (a:j<5):cellsS[k*5+j]?=(bT k).cellsS[j]?:=by have:=uD Row.cellsS 5 rows (by intro x _;rfl) k (by rw [pR];exact h) j a;rw [xB k h] at this;rw [<- this];simp [cellsS]
section
variable {P : Program}
def nU (P:Program):List Oper->Act->Option Act
 | [],a=>some a
 | o::l,a =>
   match o.guard,o.op with
   | none,.build t parts =>
     match P.built t (parts.map λ(i,x)=>(i,a.eval x)).toList with
     | some cells=>nU P l (a.put o.dst (.agg cells))
     | none=>none
   | _,_=>none
theorem pf {b:Array Oper} {Q:Exit->Act->World->Prop} {w:World}:∀ (l rest:List Oper) (a c:Act),nU P l a=some c->wpList P b Q rest c w->wpList P b Q (l++rest) a w:=by
 intro l;induction l with
 | nil=>intro rest a c h d;simp [nU] at h;subst h;exact d
 | cons o l i =>
   intro rest a c h d;unfold nU at h;split at h
   ·rename_i t parts f g;split at h;·rename_i cells e;exact wpList_buildTo f t parts g o.dst rfl cells e (i _ _ _ h d)
    ·cases h
   ·cases h
theorem km {c:Array Oper} {Q:Exit->Act->World->Prop} {w:World} {l:List Oper} {a:Act} (n s t:Nat) (v x:Value) (h:(nU P (l.take n) a).map (λb=>(b.tmps.getD s undef,b.tmps.getD t undef,b.defers))=some (v,x,[])) (hr:∀ b:Act,b.tmps.getD s undef=v->b.tmps.getD t undef=x->b.defers=[]->wpList P c Q (l.drop n) b w):wpList P c Q l a w:=by
 rw [<- List.take_append_drop n l];cases d:nU P (l.take n) a with
 | none=>rw [d] at h;cases h
 | some b =>rw [d] at h;simp only [Option.map_some,Option.some.injEq,Prod.mk.injEq] at h;exact pf _ _ _ _ d (hr b h.1 h.2.1 h.2.2)
end
end Go.Proofs.YtjifdmoehfbihaaGreatDoor
namespace Go.Proofs.YtjifdmoehfbihaaGreatDoor
open Go.RowKit Tryz
set_option linter.unusedVariables false
def Aw:Array Value:=(List.replicate 98 [Value.string ⟨#[]⟩,.string ⟨#[]⟩,.u 0,.u 0,.u 0]).flatten.toArray
theorem Dl:Aw.size=490:=by kernel_rfl
theorem Dn:(prog.info? 233).bind (·.zero)=some (.agg Aw):=by kernel_rfl
theorem J6 {P:Program} {t:TypeId} {z:Value} (h:(P.info? t).bind (·.zero)=some z) (w:World):(zeroValue t).run P w=.ok z w:=by
 cases a:P.info? t with
 | none=>rw [a] at h;cases h
 | some i=>rw [a] at h;simp at h;simp [zeroValue,typeInfo,a,h]
theorem cG {P:Program} {c:Array Oper} {rest:List Oper} {o:Oper} {a:Act} {w:World} {Q:Exit->Act->World->Prop} (f:o.guard=none) (t:TypeId) (g:o.op=.alloc t) (d:Option Tmp) (hd:o.dst=d) (z:Value) (hz:(P.info? t).bind (·.zero)=some z) (h:wpList P c Q rest (a.put d (.p w.heap.size 0)) (w.alloc (.cells z.cells t))):wpList P c Q (o::rest) a w:=by
 subst hd;refine wpList_plain f λK e=>?_;have b:(execOp a.eval o).run P w=.ok (.value (.p w.heap.size 0)) (w.alloc (.cells z.cells t)):=by simp [execOp,g,Instr.alloc,Sem.run_bind,J6 hz,newVar,newRow]
 unfold Oper.wp;rw [b,Oper.upon_value];exact e _ _ h
theorem mT {P:Program} {c:Array Oper} {rest:List Oper} {o:Oper} {a:Act} {w:World} {Q:Exit->Act->World->Prop} (f:o.guard=none) (d:Option Tmp) (hd:o.dst=d) (v:Value) (b:(execOp a.eval o).run P w=.ok (.value v) w) (h:wpList P c Q rest (a.put d v) w):wpList P c Q (o::rest) a w:=by subst hd;refine wpList_plain f λK e=>?_;unfold Oper.wp;rw [b,Oper.upon_value];exact e _ _ h
theorem aE {B:Nat} {a w:World} (h:Below B a w) {g:Nat} (c:B<=g) (cs:Array Value):Below B a (w.setRow g cs):=
 ⟨h.os,h.tape,h.output,by rw [setRow_size];exact h.size,λk b=>(setRow_other w g k cs ab).trans (h.block k b)⟩
theorem Do:jk.all (·.oneCell')=true:=by kernel_rfl
theorem uE:(prog.info? 233).map (·.size)=some 490:=by kernel_rfl
theorem Dp (w:World):CB 202 #[] w (.agg jk):=by go_enter func202,ntmps202;apply wp_seq_k;intro c b;apply wp_region_list;refine cG rfl 233 rfl (some 0) rfl _ Dn ?_;apply wpList_nil;refine b _ _ ?_;clear b c;apply wp_seq_k;intro c b;apply wp_region_lit;refine km 99 0 99 (.p w.heap.size 0) (.agg jk) al ?_;intro m f d j;have g:(w.alloc (.cells (Value.agg Aw).cells 233)).heap[w.heap.size]?=some (.cells Aw 233 (0,0)):=heap_alloc_new _ _;refine wpList_store_rowTo rfl 233 (.tmp 0) (.tmp 99) rfl rfl w.heap.size jk f d 233 Aw g (by rw [uE,nT]) (by rw [Dl,nT]) Do ?_;apply wpList_nil;refine b _ _ ?_;clear b c;apply wp_ret;refine bodyPost_ret (results_cell_row results202 _ _ _ _ _ _ _ f (setRow_heap _ _ _ _ _ _ g) underlying233 rfl (by rw [uE,nT])) j ⟨rfl,?_⟩;exact aE (bal _ _) (Nat.le_refl _) _
theorem Dq:(prog.info? 152).map (λi=>(i.zero,i.size,i.bytes))=some (some (.agg #[.string ⟨#[]⟩,.string ⟨#[]⟩,.u 0,.i 0,.u 0]),5,56):=by kernel_rfl
def Fv (rs:List (List Value)):List (Nat × Value):=(rs.map λc=>Value.agg c.toArray).zipIdx.map λ(v,i)=>(i,v)
theorem SS:Instr.fill (λi=>some (i*5,5)) ((Array.range (98*5)).map ((Value.agg #[.string ⟨#[]⟩,.string ⟨#[]⟩,.u 0,.i 0,.u 0]).cells[· % 5]!)) (Fv (rows.map Row.cellsS))=some cellsS:=by kernel_rfl
theorem pq {P:Program} {k:Array Oper} {Q:Exit->Act->World->Prop} {w:World} {l:List Oper} {a:Act} (n t e len:Nat) (d:Option Tmp) (r:Array (Nat × Operand)) (vs:List (Nat × Value)) (cells:Array Value) (f:TypeInfo) (z:Value) (h:(nU P (l.take n) a).map (λb=>((r.map λ(i,x)=>(i,b.eval x)).toList,b.tmps.size,b.defers))=some (vs,a.tmps.size,[])) (v:P.underlying t=some (.slice e)) (q:P.info? e=some f) (hz:f.zero=some z) (c:¬ len*f.size>2^24) (j:¬ len*f.size=0) (u:Instr.fill (λi=>some (i*f.size,f.size)) ((Array.range (len*f.size)).map (z.cells[· % z.cells.size]!)) vs=some cells) (g:((l.drop n)[0]?.map λo=>(o.guard,o.op,o.dst))=some (none,.buildSlice t len r,d)) (hr:∀ b:Act,b.tmps.size=a.tmps.size->b.defers=[]->wpList P k Q (l.drop (n+1)) (b.put d (.slice (some ⟨w.heap.size,0,none⟩) len len)) (w.alloc (.cells cells e))):wpList P k Q l a w:=by
 rw [<- List.take_append_drop n l];cases m:nU P (l.take n) a with
 | none=>rw [m] at h;cases h
 | some b =>
   rw [m] at h;simp only [Option.map_some,Option.some.injEq,Prod.mk.injEq] at h;refine pf _ _ _ _ m ?_;cases p:l.drop n with
   | nil=>rw [p] at g;cases g
   | cons o rest =>rw [p] at g;simp only [List.getElem?_cons_zero,Option.map_some,Option.some.injEq,Prod.mk.injEq] at g;have s:l.drop (n+1)=rest:=(by rw [<- List.drop_drop,p];rfl);refine wpList_buildSlice g.1 t e len r g.2.1 cells f z v q hz c j (by rw [h.1];exact u) ?_;rw [g.2.2,<- s];exact hr b h.2.1 h.2.2
theorem Dr (w:World):Calls prog 123 #[] w λe r=>e=.returned (.slice (some ⟨w.heap.size,0,none⟩) 98 98)/\r=w.alloc (.cells cellsS 152):=by
 obtain ⟨q,o,g,c,p⟩:=info_parts Dq;go_enter func123,ntmps123;apply wp_seq_k;intro f b;apply wp_region_list;refine mT rfl (some 0) rfl (.slice none 0 0) al ?_;apply wpList_nil;refine b _ _ ?_;clear b f;apply wp_seq_k;intro f b;apply wp_region_lit;refine pq 98 149 152 98 (some 99) ((List.range 98).map λi=>(i,Operand.tmp (i+1))).toArray (Fv (rows.map Row.cellsS)) cellsS q _ al underlying149 o g (by rw [c];decide) (by rw [c];decide) (by rw [c];exact SS) al ?_;intro j l m;have d:j.tmps.size=100:=l;clear l;refine mT rfl (some 0) rfl (.slice (some ⟨w.heap.size,0,none⟩) 98 98) ?_ ?_;·have e:(j.put (some 99) (.slice (some ⟨w.heap.size,0,none⟩) 98 98)).eval (.tmp 99)=.slice (some ⟨w.heap.size,0,none⟩) 98 98:=(by simp [Act.put,Act.eval,d]);simp [execOp,e]
 apply wpList_nil;refine b _ _ ?_;clear b f;apply wp_ret;refine bodyPost_ret (results_tmp results123 _ _ _) m ⟨?_,rfl⟩;simp [Act.put,d]
def rl (op:Int):Bool:=decide (1<=op/\op<=98)
def jG (op:Int):ByteArray:=if rl op then (bT (op-1).toNat).name else ⟨#[]⟩
def eU (op:Int):ByteArray:=if rl op then (bT (op-1).toNat).fm.str else ⟨#[]⟩
def Row.val (r:Row):Value:=.agg #[.string r.name,.string r.fm.str,.u r.op,.u r.f3z,.u r.more]
def noRow:Value:=.agg #[.string ⟨#[]⟩,.string ⟨#[]⟩,.u 0,.u 0,.u 0]
def wG (op:Int):Value:=if rl op then (bT (op-1).toNat).val else noRow
theorem uF {op:Int} (h:rl op=false):wG op=noRow:=by simp [wG,h]
theorem Ia {k:Nat} (h:rl ((k:Int)+1)=true):wG ((k:Int)+1)=(bT k).val:=by simp [wG,h]
theorem gz {P:Program} {fn:Func} {p u:Tmp} {ty:TypeId} (h:fn.results=#[.cell p ty,.tmp u]) (tmps:Array Value) (w:World) (g:Nat) (t:TypeId) (cs:Array Value) (a:Nat × Nat) (d:TypeDesc) (e:tmps.getD p undef=.p g 0) (b:w.heap[g]?=some (.cells cs t a)) (f:P.underlying ty=some d) (hd:(match d with | .struct _ | .array _ _=>true | _=>false)=true) (c:(P.info? ty).map (·.size)=some cs.size):(results fn tmps).run P w=.ok (.tuple #[.agg cs,tmps.getD u undef]) w:=by rw [results_cell_tmp h,e];simp [asAddr,run_loadVar_row w g t ty cs a d b f hd c]
theorem Ds (op:Int):∃ a b c d e,wG op=.agg #[.string a,.string b,.u c,.u d,.u e]/\Hid (a=jG op)/\Hid (b=eU op):=by
 cases h:rl op with
 | true=>exact ⟨_,_,_,_,_,by simp [wG,h];rfl,(by simp [jG,h]:(bT (op-1).toNat).name=jG op),(by simp [eU,h]:(bT (op-1).toNat).fm.str=eU op)⟩
 | false=>exact ⟨_,_,_,_,_,by simp [wG,h];rfl,(by simp [jG,h]:(⟨#[]⟩:ByteArray)=jG op),(by simp [eU,h]:(⟨#[]⟩:ByteArray)=eU op)⟩
theorem Ax:(prog.info? 232).map (·.size)=some 5:=by kernel_rfl
theorem NR (r:Row):(#[Value.string r.name,.string r.fm.str,.u r.op,.u r.f3z,.u r.more]:Array Value).all (·.oneCell')=true:=by simp [Value.oneCell']
theorem Ib (w:World) (kk:IntKind) (k:Nat) (hk:k<98):(Instr.index 233 (.agg jk) (.int kk (k:Int))).run prog w=.ok (bT k).val w:=by
 have f:(sizeOf 232).run prog w=.ok 5 w:=by
  obtain ⟨g,e,a⟩:∃ i,prog.info? 232=some i/\i.size=5:=by
   have h:(prog.info? 232).map (·.size)=some 5:=al;cases b:prog.info? 232 with
   | none=>rw [b] at h;cases h
   | some i=>rw [b] at h;exact ⟨i,rfl,ej⟩
  simp [sizeOf,typeInfo,e,a]
 have c:(isAgg 232).run prog w=.ok true w:=by simp [isAgg,run_underlying underlying232]
 have d:(0:Int)<=(k:Int)/\(k:Int)<((98:Nat):Int):=ab
 unfold Instr.index;simp only [asIntOf,Sem.run_bind,Sem.run_pure,Result.andThen_ok,run_underlying underlying233];rw [if_pos d];simp only [Sem.run_bind,f,Result.andThen_ok,part,c,Int.toNat_natCast,if_true,Sem.run_pure];rw [Av k hk];rfl
theorem si {T:Value} (a:Hid (T=.agg jk)) (kk:IntKind) (k:Nat) (hk:k<98) (r:Row) (hr:Hid (r=bT k)) (w:World):(Instr.index 233 T (.int kk (k:Int))).run prog w=.ok (.agg #[.string r.name,.string r.fm.str,.u r.op,.u r.f3z,.u r.more]) w:=by rw [a.out,hr.out];exact Ib w kk k hk
theorem wH {c:Array Oper} {rest:List Oper} {o:Oper} {a:Act} {w:World} {Q:Exit->Act->World->Prop} {T:Value} (e:Hid (T=.agg jk)) (kk:IntKind) (k:Nat) (hk:k<98) (r:Row) (hr:Hid (r=bT k)) (f:o.guard=none) (x i:Operand) (j:o.op=.index 233 x i) (hx:a.eval x=T) (g:a.eval i=.int kk (k:Int)) (h:wpList prog c Q rest (a.put o.dst (.agg #[.string r.name,.string r.fm.str,.u r.op,.u r.f3z,.u r.more])) w):wpList prog c Q (o::rest) a w:=by
 refine wpList_plain f λK d=>?_;have b:(execOp a.eval o).run prog w=.ok (.value (.agg #[.string r.name,.string r.fm.str,.u r.op,.u r.f3z,.u r.more])) w:=by simp [execOp,j,hx,g,si e kk k hk r hr]
 unfold Oper.wp;rw [b,Oper.upon_value];exact d _ _ h
theorem Ay (w:World):Calls prog 202 #[] w λe a=>∃ T,e=.returned T/\Hid (T=.agg jk)/\Bw w a :=
 (Dp w).mono λe a h=>⟨.agg jk,h.1,(rfl:Value.agg jk=.agg jk),h.2⟩
theorem eu (x a b:Int) (w:World):CE 51 #[.i x,.i a,.i b] w (.bool (decide (a<=x/\x<=b))):=by
 by_cases c:a<=x
 ·by_cases d:x<=b;·have F:Hid (decide (a<=x/\x<=b)=true):=(by show decide (a<=x/\x<=b)=true;simp [c,d]);have f:decide (a<=x)=true:=i5;have g:decide (x<=b)=true:=ki;clear c d;go_enter func51,ntmps51;go_wp2;go_ret;exact ⟨bc,rfl⟩
  ·have F:Hid (decide (a<=x/\x<=b)=false):=(by show decide (a<=x/\x<=b)=false;simp [d]);have f:decide (a<=x)=true:=i5;have g:decide (x<=b)=false:=ki;clear c d;exact v9
 ·have F:Hid (decide (a<=x/\x<=b)=false):=(by show decide (a<=x/\x<=b)=false;simp [c]);have f:decide (a<=x)=false:=i5;clear c;exact v9
theorem xC (op:Int) (y:(Lit.int .i64 op).wf=true) (w:World):CB 238 #[.i op] w (.tuple #[wG op,.bool (rl op)]):=by
 by_cases b:op<1;·have F:Hid (rl op=false):=(by show rl op=false;simp [rl];omega);have j:decide (op<1)=true:=kd;clear b;go_enter func238,ntmps238;go_wp2;refine bodyPost_ret (v:=.tuple #[noRow,.bool false]) (by simp [results,results238,go_sem];rfl) rfl ⟨by rw [uF F.out,F.out],?_⟩;exact bal _ _
 ·by_cases d:98<op;·have F:Hid (rl op=false):=(by show rl op=false;simp [rl];omega);have j:decide (op<1)=false:=kd;have q:decide (98<op)=true:=ki;clear b d;go_enter func238,ntmps238;go_wp2;refine bodyPost_ret (v:=.tuple #[noRow,.bool false]) (by simp [results,results238,go_sem];rfl) rfl ⟨by rw [uF F.out,F.out],?_⟩;exact bal _ _
  ·have g:rl op=true:=(by show rl op=true;simp [rl];omega);have j:decide (op<1)=false:=kd;have q:decide (98<op)=false:=ki;obtain ⟨k,s⟩:∃ k:Nat,op=(k:Int)+1:=⟨(op-1).toNat,ab⟩;have f:k<98:=ab;subst s;have F:Hid (rl ((k:Int)+1)=true):=g;clear b d g;go_enter func238,ntmps238;go_wp2_with fail;refine (Ay _).mono ?_;rintro e u ⟨T,rfl,p,l⟩;obtain ⟨r,c⟩:∃ r,r=bT k:=⟨_,rfl⟩;have o:Hid (r=bT k):=c;clear c;have m:u.heap[w.heap.size]?=some (.cells #[.string ⟨#[]⟩,.string ⟨#[]⟩,.u 0,.u 0,.u 0] 232 (0,0)):=(by rw [l.block _ cp];exact heap_alloc_new _ _);go_wp2_with (first | refine wH p .i64 k f r o rfl _ _ rfl rfl rfl ?_ | refine wpList_store_rowTo rfl 232 _ _ rfl rfl w.heap.size #[.string r.name,.string r.fm.str,.u r.op,.u r.f3z,.u r.more] rfl rfl 232 _ m Ax rfl (NR r) ?_);refine bodyPost_ret (gz results238 _ _ _ _ _ _ _ rfl (setRow_heap _ _ _ _ _ _ m) underlying232 rfl Ax) rfl ⟨?_,?_⟩;·rw [Ia F.out,F.out,<- o.out];rfl
   ·exact aE ((bal _ _).trans (l.mono cp)) (Nat.le_refl _) _
theorem yN (op:Int) (f:(Lit.int .i64 op).wf=true) (w:World):CB 207 #[.i op] w (.string (eU op)):=by go_enter func207,ntmps207;go_wp2_with fail;refine (xC op f _).mono ?_;rintro e r ⟨rfl,b⟩;obtain ⟨l,m,o,p,q,d,j,c⟩:=Ds op;rw [d];go_wp2_with fail;go_ret;exact ⟨by rw [<- c.out];rfl,b.alloc b.size _⟩
def Az (w:World) (g:Nat):Prop:=g<w.heap.size/\∀ k,k<98->∀ r,r=bT k->w.cell? ⟨g,k*5,none⟩=some (.string r.name)/\w.cell? ⟨g,k*5+1,none⟩=some (.string r.fm.str) /\
 w.cell? ⟨g,k*5+2,none⟩=some (.u r.op)/\w.cell? ⟨g,k*5+3,none⟩=some (.i r.f3)/\w.cell? ⟨g,k*5+4,none⟩=some (.u r.more)
theorem Az.below {w w':World} {g:Nat} (h:Az w g) {B:Nat} (a:g<B) (hb:Below B w w'):Az w' g:=by refine ⟨Nat.lt_of_lt_of_le h.1 hb.size,λk b r c=>?_⟩;have H:=h.2 k b r c;have e:∀ o,w'.cell? ⟨g,o,none⟩=w.cell? ⟨g,o,none⟩:=λo=>hb.cell (p:=⟨g,o,none⟩) a;rw [e,e,e,e,e];exact H
theorem nV (w:World):Calls prog 123 #[] w λe a=>e=.returned (.slice (some ⟨w.heap.size,0,none⟩) 98 98)/\Hid (Az a w.heap.size)/\Bw w a :=
 (Dr w).mono λe a h=>by
  obtain ⟨b,rfl⟩:=h
  refine ⟨b,?_,bal _ _⟩
  show Az _ _
  refine ⟨cp,λk f r g=>?_⟩
  subst g
  have c:(w.alloc (.cells cellsS 152)).heap[w.heap.size]?=some (.cells cellsS 152 (0,0)):=heap_alloc_new _ _
  have e:∀ j,j<5->(w.alloc (.cells cellsS 152)).cell? ⟨w.heap.size,k*5+j,none⟩=(bT k).cellsS[j]?:=by
   intro j d
   rw [cell_of_row _ _ _ _ _ _ c]
   exact H9 k f j d
  exact ⟨e 0 bb,e 1 bb,e 2 bb,e 3 bb,e 4 bb⟩
theorem yO (op:Int) (B:(Lit.int .i64 op).wf=true) (w:World):CB 129 #[.i op] w (.string (jG op)):=by
 cases h:rl op with
 | false =>have F:Hid (rl op=false):=h;have b:decide (1<=op/\op<=98)=false:=h;clear h;go_enter func129,ntmps129;go_wp2_with fail;refine (eu op 1 98 _).mono ?_;rintro e s ⟨rfl,rfl⟩;rw [b];clear b;go_wp2_with fail;go_ret;exact ⟨by simp [jG,F.out],Below.refl _ _⟩
 | true =>have b:decide (1<=op/\op<=98)=true:=h;have l:1<=op/\op<=98:=of_decide_eq_true b;obtain ⟨k,p⟩:∃ k:Nat,op=(k:Int)+1:=⟨(op-1).toNat,ab⟩;have f:k<98:=ab;subst p;have F:Hid (rl ((k:Int)+1)=true):=h;clear h l;go_enter func129,ntmps129;go_wp2_with fail;refine (eu _ 1 98 _).mono ?_;rintro e s ⟨rfl,d⟩;have g:=d.symm;subst g;rw [b];clear b d;go_wp2_with fail;refine (nV _).mono ?_;rintro e C ⟨rfl,m,o⟩;obtain ⟨r,c⟩:∃ r,r=bT k:=⟨_,rfl⟩;have j:Hid (r=bT k):=c;clear c;obtain ⟨t,u,y,z,A⟩:=m.out.2 k f r j.out;go_wp2_with fail;go_ret;exact ⟨by simp [jG,F.out,j.out],o⟩
theorem pS (op:Int) (B:(Lit.int .i64 op).wf=true) (w:World):CB 83 #[.i op] w (.string (eU op)):=by
 cases h:rl op with
 | false =>have F:Hid (rl op=false):=h;have b:decide (1<=op/\op<=98)=false:=h;clear h;go_enter func83,ntmps83;go_wp2_with fail;refine (eu op 1 98 _).mono ?_;rintro e s ⟨rfl,rfl⟩;rw [b];clear b;go_wp2_with fail;go_ret;exact ⟨by simp [eU,F.out],Below.refl _ _⟩
 | true =>have b:decide (1<=op/\op<=98)=true:=h;have l:1<=op/\op<=98:=of_decide_eq_true b;obtain ⟨k,p⟩:∃ k:Nat,op=(k:Int)+1:=⟨(op-1).toNat,ab⟩;have f:k<98:=ab;subst p;have F:Hid (rl ((k:Int)+1)=true):=h;clear h l;go_enter func83,ntmps83;go_wp2_with fail;refine (eu _ 1 98 _).mono ?_;rintro e s ⟨rfl,d⟩;have g:=d.symm;subst g;rw [b];clear b d;go_wp2_with fail;refine (nV _).mono ?_;rintro e C ⟨rfl,m,o⟩;obtain ⟨r,c⟩:∃ r,r=bT k:=⟨_,rfl⟩;have j:Hid (r=bT k):=c;clear c;obtain ⟨t,u,y,z,A⟩:=m.out.2 k f r j.out;go_wp2_with fail;go_ret;exact ⟨by simp [eU,F.out,j.out],o⟩
end Go.Proofs.YtjifdmoehfbihaaGreatDoor
