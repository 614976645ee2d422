/- Own lemmas. -/
import Derived.Test.YtfekjlcnnjhofaaGreatDoorAut
import Derived.Test.YtfekjlcnnjhofaaGreatDoorK04
import Derived.Test.YtfekjlcnnjhofaaGreatDoorK06
set_option maxRecDepth 100000
set_option maxHeartbeats 3200000
namespace Go.Proofs.YtfekjlcnnjhofaaGreatDoor
open Go.RowKit Tryz
open IntKind renaming u64->Uz
open Bool renaming and_eq_true->H8,not_eq_true'->I1,true_and->I2,false_or->I3
open Go renaming results_none->A5,bits->A6,bodyPost_end->A8,bodyPost_ret->A9,World->C5,Calls->C6,Addr->D1,results_cell_row->D2,heap_alloc_new->D3,cell_of_row->D4,heap_alloc2_old->D8,heap_alloc2_new->F0,Operand->F3
open Go.RowKit renaming wrap64->I5
open IntKind renaming wrap_u64->I4
open IntWalk renaming wrap64_in->L0
open List renaming mem_singleton->L6,length_drop->N1,length_eq_zero_iff->O1,getD->P2,foldl_cons->R4,foldl_nil->R5
open Nat renaming le_refl->G1
open Value renaming int->K1
open World renaming size_alloc->K0
set_option linter.unusedVariables false
variable {x l:C5} {w n k g:Nat} {a:List Int} {f:Option D1} (p:DV) (b:Option D1) (B:Int) (D:Fm) (E m:Nat) (o:Option D1) (t:List Int) (c:Nat) (d:List Int) (e q r:Int) (s:C5) (y:Int) (z:Nat)
theorem lL (o:c<4) (w:C5) (hz:t.length=22) (hs:Sl .u64 w b t): CE 117 #[.slice b 22 E,.i c] w (.u (dW t c)):=by
 obtain ⟨a,f,rfl,j,m⟩:=hs 16 ab;have p:I5 (8*(c:Int))=((8*c:Nat):Int):=by unfold I5;omega
 have i:Uz.wrap ((8*c:Nat):Int)=((8*c:Nat):Int):=by rw [I4];omega
 have d:8*c<64:=ab
 have F:Hid (dW t c=A6 .and .u64 (t.getD 16 0/2^(8*c)) 255):=(rfl:dW t c=_);generalize t.getD 16 0=x at *;go_enter func117,ntmps117;exact a09
theorem lj (l:List Int) (i:Nat) (u:i<4) (w:C5) (hz:l.length=22) (hs:Sl .u64 w b l): CE 121 #[.slice b 22 E,.i i] w (.bool (fI l i)):=by
 have p:Hid (CE 117 #[.slice b 22 E,.i i] w (.u (dW l i))):=lL b E l i u w hz hs;have d:fI l i=((dW l i/128==1)||(decide (i<3)&&(dW l (i+1)/128==1)&&(A6 .and .u64 (dW l (i+1)/8) 3==1))):=rfl;cases r:(dW l i/128==1) with
 | true =>have F:Hid (fI l i):=(by show _=_;rw [d,r];rfl);clear d;generalize dW l i=y at *;go_enter func121,ntmps121;go_wp2_with fail;refine p.out.mono ?_;rintro e o ⟨rfl,a⟩;subst a;exact a09
 | false =>
   rw [r,I3] at d;by_cases g:i<3
   ·have q:decide (i<3):=x9;have s:decide ((i:Int)<3):=bv;rw [q,I2] at d;have A:I5 ((i:Int)+1)=((i+1:Nat):Int):=ob;have f:Hid (CE 117 #[.slice b 22 E,.i ((i+1:Nat):Int)] w (.u (dW l (i+1)))):=lL b E l (i+1) ab w hz hs;clear hs;generalize dW l i=y at *;generalize dW l (i+1)=z at *;cases j:(z/128==1) with
    | true =>obtain ⟨c,t⟩:∃ c,(A6 .and .u64 (z/8) 3==1)=c:=⟨_,rfl⟩;have F:Hid (fI l i=c):=(by show _=_;rw [d,j,t,I2]);clear d;go_enter func121,ntmps121;go_wp2_with fail;refine p.out.mono ?_;rintro e o ⟨rfl,a⟩;subst a;go_wp2_with (go_at_call 117;refine f.out.mono ?_;rintro e o ⟨rfl,a⟩;subst a);go_ret;exact ⟨bh,rfl⟩
    | false =>have F:Hid (fI l i=false):=(by show _=_;rw [d,j,Bool.false_and]);clear d;go_enter func121,ntmps121;go_wp2_with fail;refine p.out.mono ?_;rintro e o ⟨rfl,a⟩;subst a;go_wp2_with (go_at_call 117;refine f.out.mono ?_;rintro e o ⟨rfl,a⟩;subst a);go_ret;exact ⟨bh,rfl⟩
   ·have q:decide (i<3)=false:=x9;have s:decide ((i:Int)<3)=false:=bv;have F:Hid (fI l i=false):=(by show _=_;rw [d,q];rfl);clear d q;generalize dW l i=y at *;go_enter func121,ntmps121;go_wp2_with fail;refine p.out.mono ?_;rintro e o ⟨rfl,a⟩;subst a;exact a09
def jn (l:List Int) (i:Nat):Int:=A6 .and .u64 (dW l i/8) 3
def fh (a:Int):Nat->Nat->Nat
 | 0,k=>k
 | n+1,k=>if (A6 .and .u64 (a/2^k) 1==1)=true then fh a n (k+1) else k
theorem LH (hk:E<53) (h:(A6 .and .u64 (B/2^E) 1==1)):fh B (53-E) E=fh B (53-(E+1)) (E+1):=by rw [show 53-E=(53-(E+1))+1 from ab,fh,JZ8 h]
theorem EL (hk:E<53) (h:(A6 .and .u64 (B/2^E) 1==1)=false):fh B (53-E) E=E:=by rw [show 53-E=(53-(E+1))+1 from ab,fh,JZ9 (by rw [h];decide)]
def tz (a:Int) (k:Nat):Int:=Uz.wrap (A6 .andNot .u64 a (Uz.wrap (Uz.wrap (2^(k+1))-1))*4)
def yB (a:Int) (k:Nat):Int:=Uz.wrap (Uz.wrap (tz a k+Uz.wrap (2^(k+3)))-1)
def lm (l:List Int) (i:Nat):Int:=if 0<i then Uz.wrap (l.getD (16+i) 0*4) else 0
def dj (l:List Int) (i:Nat):Int × Int × Bool :=
 if (jn l i==1)=true then (if Uz.wrap (l.getD (17+i) 0*4)<=lm l i then (0,0,false) else (lm l i,Uz.wrap (Uz.wrap (l.getD (17+i) 0*4)-1),true))
 else if (jn l i==2)=true then (Uz.wrap (l.getD (17+i) 0*4),Uz.wrap (Uz.wrap (l.getD (17+i) 0*4)+3),true)
 else if (jn l i==3)=true then (tz (l.getD (17+i) 0) (fh (l.getD (17+i) 0) 53 0),yB (l.getD (17+i) 0) (fh (l.getD (17+i) 0) 53 0),true)
 else (0,0,false)
theorem zM (l:List Int) (i:Nat) (Y:i<4) (w:C5) (hz:l.length=22) (hs:Sl .u64 w b l): CE 116 #[.slice b 22 E,.i i] w (.tuple #[.u (dj l i).1,.u (dj l i).2.1,.bool (dj l i).2.2]):=by
 obtain ⟨a,I,rfl,hb,Q⟩:=hs (17+i) ab;obtain ⟨b',R,K,_,P⟩:=hs (16+i) ab;simp only [Option.some.injEq,Addr.mk.injEq,and_true] at K;obtain ⟨rfl,rfl⟩:=K;have u:Hid (CE 117 #[.slice (some ⟨a,I,none⟩) 22 E,.i i] w (.u (dW l i))):=lL _ E l i Y w hz hs;have Z:A6 .and .u64 (dW l i/8) 3=jn l i:=rfl;have c:dj l i=if (jn l i==1)=true then (if Uz.wrap (l.getD (17+i) 0*4)<=lm l i then (0,0,false) else (lm l i,Uz.wrap (Uz.wrap (l.getD (17+i) 0*4)-1),true))
  else if (jn l i==2)=true then (Uz.wrap (l.getD (17+i) 0*4),Uz.wrap (Uz.wrap (l.getD (17+i) 0*4)+3),true)
  else if (jn l i==3)=true then (tz (l.getD (17+i) 0) (fh (l.getD (17+i) 0) 53 0),yB (l.getD (17+i) 0) (fh (l.getD (17+i) 0) 53 0),true)
  else (0,0,false):=rfl
 have m:lm l i=if 0<i then Uz.wrap (l.getD (16+i) 0*4) else 0:=rfl
 have X:I5 (17+(i:Int))=((17+i:Nat):Int):=by unfold I5;omega
 have W:I5 (16+(i:Int))=((16+i:Nat):Int):=by unfold I5;omega
 have T:0<=((17+i:Nat):Int)/\((17+i:Nat):Int)<((22:Nat):Int):=ab
 have S:0<=((16+i:Nat):Int)/\((16+i:Nat):Int)<((22:Nat):Int):=ab
 generalize dj l i=r at *;generalize jn l i=H at *;generalize dW l i=cf at *;generalize lm l i=L at *;generalize l.getD (17+i) 0=x at *;generalize l.getD (16+i) 0=y at *;clear hs;cases M:(H==1) with
 | true =>
   rw [JZ8 M] at c;have D:(decide (0<i)/\L=Uz.wrap (y*4))\/(decide (0<i)=false/\L=0):=by
    by_cases p:0<i;·rw [JZ8 p] at m;exact Or.inl ⟨by simpa using p,m⟩
    ·rw [JZ9 p] at m;exact Or.inr ⟨by simpa using p,m⟩
   obtain ⟨t,ht⟩:∃ t,Uz.wrap (x*4)=t:=⟨_,rfl⟩;rw [ht] at c;clear m;rcases D with ⟨D,o⟩|⟨D,o⟩
   ·rw [o] at c;obtain ⟨C,G⟩:∃ t,Uz.wrap (y*4)=t:=⟨_,rfl⟩;rw [G] at c;clear o;by_cases f:t<=C;·have d:decide (t<=C):=kd;rw [JZ8 f] at c;have F:Hid (r=(0,0,false)):=c;clear c f;go_enter func116,ntmps116;go_wp2_with fail;refine u.out.mono ?_;rintro e z ⟨rfl,g⟩;have j:=g.symm;subst j;go_wp2_with fail;go_ret3;exact ⟨bh,rfl⟩
    ·have d:decide (t<=C)=false:=kd;rw [JZ9 f] at c;have F:Hid (r=(C,Uz.wrap (t-1),true)):=c;clear c f;go_enter func116,ntmps116;go_wp2_with fail;refine u.out.mono ?_;rintro e z ⟨rfl,g⟩;have j:=g.symm;subst j;go_wp2_with fail;go_ret3;exact ⟨bh,rfl⟩
   ·subst o;by_cases f:t<=0;·have d:decide (t<=0):=kd;rw [JZ8 f] at c;have F:Hid (r=(0,0,false)):=c;clear c f;go_enter func116,ntmps116;go_wp2_with fail;refine u.out.mono ?_;rintro e z ⟨rfl,g⟩;have j:=g.symm;subst j;go_wp2_with fail;go_ret3;exact ⟨bh,rfl⟩
    ·have d:decide (t<=0)=false:=kd;rw [JZ9 f] at c;have F:Hid (r=(0,Uz.wrap (t-1),true)):=c;clear c f;go_enter func116,ntmps116;go_wp2_with fail;refine u.out.mono ?_;rintro e z ⟨rfl,g⟩;have j:=g.symm;subst j;go_wp2_with fail;go_ret3;exact ⟨bh,rfl⟩
 | false =>
   rw [JZ9 (by rw [M];decide)] at c;cases N:(H==2) with
   | true =>rw [JZ8 N] at c;have F:Hid (r=(Uz.wrap (x*4),Uz.wrap (Uz.wrap (x*4)+3),true)):=c;clear c m;go_enter func116,ntmps116;go_wp2_with fail;refine u.out.mono ?_;rintro e z ⟨rfl,g⟩;have j:=g.symm;subst j;go_wp2_with fail;go_ret3;exact ⟨bh,rfl⟩
   | false =>
     rw [JZ9 (by rw [N];decide)] at c;cases O:(H==3) with
     | true =>
       rw [JZ8 O] at c;have F:Hid (r=(tz x (fh x 53 0),yB x (fh x 53 0),true)):=c;clear c m;go_enter func116,ntmps116;go_wp2_with fail;refine u.out.mono ?_;rintro e z ⟨rfl,g⟩;have j:=g.symm;subst j;go_wp2_with fail;go_loopw [9] (λv wr=>∃ k:Nat,k<=53/\v=.u k/\Hid (fh x (53-k) k=fh x 53 0)/\wr=w)
        (λv _=>53-(intOf v).toNat)
       case atStart=>exact ⟨0,ab,rfl,(rfl:fh x (53-0) 0=fh x 53 0),rfl⟩
       case round =>
        obtain ⟨k,hk,rfl,cap,rfl⟩:=hrel;have fin:Hid (fh x 53 0=k)->Hid (r=(tz x k,yB x k,true)):=λh=>by show r=_;rw [F.out,h.out]
        have U:((k:Int)+1)=((k+1:Nat):Int):=ab;have u1:Uz.wrap ((k:Int)+1)=((k+1:Nat):Int):=dv;have u3:Uz.wrap ((k:Int)+3)=((k+3:Nat):Int):=dv;clear U;by_cases B:k<53
        ·have V:decide ((k:Int)<53):=bv;cases q:(A6 .and .u64 (x/2^k) 1==1) with
         | true =>
           have A:Hid (fh x (53-(k+1)) (k+1)=fh x 53 0):=(LH x k B q).symm.trans cap.out;clear fin u1 u3;go_wp2_with fail;go_roundw;case rel=>exact ⟨k+1,ab,by go_num,A,trivial⟩
           case measure=>simp [intOf];omega
         | false =>have A:=fin (cap.out.symm.trans (EL x k B q));clear fin;go_wp2_with fail;go_ret3;exact ⟨by rw [A.out];rfl,rfl⟩
        ·have s:k=53:=ab;have A:=fin (cap.out.symm.trans (by rw [s];rfl));have V:decide ((k:Int)<53)=false:=bv;clear fin s;go_wp2_with fail;go_ret3;exact ⟨by rw [A.out];rfl,rfl⟩
     | false =>rw [JZ9 (by rw [O];decide)] at c;have F:Hid (r=(0,0,false)):=c;clear c m;go_enter func116,ntmps116;go_wp2_with fail;refine u.out.mono ?_;rintro e z ⟨rfl,g⟩;have j:=g.symm;subst j;go_wp2_with fail;go_ret3;exact ⟨bh,rfl⟩
theorem SM:CE 47 #[.i B,.i e,.i q] s (.bool (decide (e<=B/\B<=q))):=by
 by_cases c:e<=B
 ·by_cases d:B<=q;·have F:Hid (decide (e<=B/\B<=q)):=(by show decide (e<=B/\B<=q)=true;simp [c,d]);have f:decide (e<=B):=kc;have g:decide (B<=q):=lg;clear c d;go_enter func47,ntmps47;go_wp2;go_ret;exact ⟨bh,rfl⟩
  ·have F:Hid (decide (e<=B/\B<=q)=false):=(by show decide (e<=B/\B<=q)=false;simp [d]);have f:decide (e<=B):=kc;have g:decide (B<=q)=false:=lg;clear c d;exact a03
 ·have F:Hid (decide (e<=B/\B<=q)=false):=(by show decide (e<=B/\B<=q)=false;simp [c]);have f:decide (e<=B)=false:=kc;clear c;exact a03
def bu (x s:Int):Int:=Uz.wrap (Uz.wrap (x+Uz.wrap s)-1)
def qM (r:Int × Int × Bool) (x y:Int):Bool:=!r.2.2||decide (y<r.1)||decide (r.2.1<x)
def Po (r:Int × Int × Bool) (x y:Int):Bool:=decide (x<r.1)||decide (r.2.1<y)
def xE (b p kind:Int):Bool :=
 if ((p==3)&&(b/128==0))=true then true else if (kind==1)=true then (A6 .and .u64 (b/4) 1==1) else if (kind==2)=true then (A6 .and .u64 b 1==1) else (A6 .and .u64 (b/2) 1==1)
def aJ (l:List Int) (p x y kind:Int):Nat->Nat->Bool
 | 0,_=>(p==3)
 | n+1,k=>if qM (dj l k) x y=true then aJ l p x y kind n (k+1) else !Po (dj l k) x y&&xE (dW l k) p kind
theorem Jw (hk:z<4) (h:qM (dj t z) q r):aJ t e q r y (4-z) z=aJ t e q r y (4-(z+1)) (z+1):=by rw [show 4-z=(4-(z+1))+1 from ab,aJ,JZ8 h]
theorem LK (hk:z<4) (h:qM (dj t z) q r=false):aJ t e q r y (4-z) z=(!Po (dj t z) q r&&xE (dW t z) e y):=by rw [show 4-z=(4-(z+1))+1 from ab,aJ,JZ9 (by rw [h];decide)]
theorem mF (cap:Nat) (l:List Int) (p x s kind:Int) (w:C5) (hz:l.length=22) (hs:Sl .u64 w b l): CE 92 #[.slice b 22 cap,.i p,.u x,.i s,.i kind] w (.bool (aJ l p x (bu x s) kind 4 0)):=by
 have M:Uz.wrap (Uz.wrap (x+Uz.wrap s)-1)=bu x s:=rfl;generalize bu x s=y at *;have O:Hid (Sl .u64 w b l):=hs;have P:Hid (l.length=22):=hz;have V:Hid (True/\aJ l p x y kind 4 0=aJ l p x y kind 4 0):=⟨trivial,rfl⟩;clear hs hz V;go_enter func92,ntmps92;go_wp2_with fail;go_loopw [12] (λv wr=>∃ k:Nat,k<=4/\v=.i k/\Hid (aJ l p x y kind (4-k) k=aJ l p x y kind 4 0)/\wr=w)
  (λv _=>4-(intOf v).toNat)
 case atStart=>exact ⟨0,ab,rfl,(rfl:aJ l p x y kind (4-0) 0=aJ l p x y kind 4 0),rfl⟩
 case round =>
  obtain ⟨k,hk,rfl,K,rfl⟩:=hrel;clear M;by_cases m:k<4
  ·have dk:decide ((k:Int)<4):=bv;have HR:Hid (CE 116 #[.slice b 22 cap,.i k] wr (.tuple #[.u (dj l k).1,.u (dj l k).2.1,.bool (dj l k).2.2])):=zM b cap l k m wr P.out O.out;have W:Hid (CE 117 #[.slice b 22 cap,.i k] wr (.u (dW l k))):=lL b cap l k m wr P.out O.out;have d:qM (dj l k) x y=false->Hid (aJ l p x y kind 4 0=(!Po (dj l k) x y&&xE (dW l k) p kind)):=λh=>K.out.symm.trans (LK l p x y kind k m h);have a:qM (dj l k) x y->Hid (aJ l p x y kind (4-(k+1)) (k+1)=aJ l p x y kind 4 0):=λh=>(Jw l p x y kind k m h).symm.trans K.out;generalize dj l k=r at *;generalize dW l k=c at *;obtain ⟨B,C,H⟩:=r;simp only at HR;have S:qM (B,C,H) x y=(!H||decide (y<B)||decide (C<x)):=rfl;have T:Po (B,C,H) x y=(decide (x<B)||decide (C<y)):=rfl;rw [S] at d a;rw [T] at d;clear S T;go_wp2_with fail;refine HR.out.mono ?_;rintro e w1 ⟨rfl,u⟩;have z:=u.symm;subst z;cases H with
   | false =>
     have g:=a (rfl);clear d a;go_wp2_with fail;go_roundw;case rel=>exact ⟨k+1,ab,by go_num,g,trivial⟩
     case measure=>simp [intOf];omega
   | true =>
     cases I:decide (y<B) with
     | true =>
       have g:=a (by rw [I];rfl);clear d a;go_wp2_with fail;go_roundw;case rel=>exact ⟨k+1,ab,by go_num,g,trivial⟩
       case measure=>simp [intOf];omega
     | false =>
       cases Q:decide (C<x) with
       | true =>
         have g:=a (by rw [I,Q];rfl);clear d a;go_wp2_with fail;go_roundw;case rel=>exact ⟨k+1,ab,by go_num,g,trivial⟩
         case measure=>simp [intOf];omega
       | false =>
         have g:=d (by rw [I,Q];rfl);clear d a;cases J:decide (x<B) with
         | true =>go_wp2_with fail;go_ret;exact ⟨by rw [g.out,J];rfl,rfl⟩
         | false =>
           cases R:decide (C<y) with
           | true =>go_wp2_with fail;go_ret;exact ⟨by rw [g.out,J,R];rfl,rfl⟩
           | false =>
             have G:Hid (aJ l p x y kind 4 0=xE c p kind):=(by show _=_;rw [g.out,J,R];rfl);clear g;have D:xE c p kind=if ((p==3)&&(c/128==0))=true then true else if (kind==1)=true then (A6 .and .u64 (c/4) 1==1) else if (kind==2)=true then (A6 .and .u64 c 1==1) else (A6 .and .u64 (c/2) 1==1):=rfl
             go_wp2_with fail;refine W.out.mono ?_;rintro e w1 ⟨rfl,u⟩;have z:=u.symm;subst z;have f:((p==3)/\(c/128==0))\/((p==3)/\(c/128==0)=false)\/(p==3)=false:=(by cases (p==3)<;>cases (c/128==0)<;>simp);generalize xE c p kind=E at *;rcases f with ⟨j,A⟩|f;·have o:Hid (E):=(by show _=_;rw [D,j,A];rfl);clear D;go_wp2_with fail;go_ret;exact ⟨by rw [G.out,o.out];rfl,rfl⟩
             ·have t:E=if (kind==1)=true then (A6 .and .u64 (c/4) 1==1) else if (kind==2)=true then (A6 .and .u64 c 1==1) else (A6 .and .u64 (c/2) 1==1):=by
               rcases f with ⟨j,A⟩|j;·rw [D,j,A];rfl
               ·rw [D,j];rfl
              clear D;obtain ⟨X,e1⟩:∃ q,(A6 .and .u64 (c/4) 1==1)=q:=⟨_,rfl⟩;obtain ⟨Y,e2⟩:∃ q,(A6 .and .u64 c 1==1)=q:=⟨_,rfl⟩;obtain ⟨Z,e3⟩:∃ q,(A6 .and .u64 (c/2) 1==1)=q:=⟨_,rfl⟩;rw [e1,e2,e3] at t;cases N:(kind==1) with
              | true =>
                have o:Hid (E=X):=(by show _=_;rw [t,N];rfl);clear t;rcases f with ⟨j,A⟩|j;all_goals
                 go_wp2_with fail
                 go_ret
                 exact ⟨by rw [G.out,o.out];rfl,rfl⟩
              | false =>
                cases U:(kind==2) with
                | true =>
                  have o:Hid (E=Y):=(by show _=_;rw [t,N,U];rfl);clear t;rcases f with ⟨j,A⟩|j;all_goals
                   go_wp2_with fail
                   go_ret
                   exact ⟨by rw [G.out,o.out];rfl,rfl⟩
                | false =>
                  have o:Hid (E=Z):=(by show _=_;rw [t,N,U];rfl);clear t;rcases f with ⟨j,A⟩|j;all_goals
                   go_wp2_with fail
                   go_ret
                   exact ⟨by rw [G.out,o.out];rfl,rfl⟩
  ·have L:k=4:=ab;subst L;obtain ⟨q,hq⟩:∃ q,(p==3)=q:=⟨_,rfl⟩;have g:Hid (aJ l p x y kind 4 0=q):=K.out.symm.trans hq;go_wp2_with fail;go_ret;exact ⟨by rw [g.out];rfl,rfl⟩
def vC (n:Nat) (l:List Int) (p x s kind:Int):Bool:=bm n l p&&jt s&&decide (1<=kind/\kind<=3)&&!decide (bu x s<x)&&aJ l p x (bu x s) kind 4 0
structure Fd where
 addr:Int
 code:Int
 marked:Bool
 at_:Int
 entry:Int
def Fd.cells (f:Fd):Array Value:=#[.u f.addr,.i f.code,.bool f.marked,.u f.at_,.u f.entry]
def eY (k:Int):Int:=if k=1 then 12 else if k=2 then 13 else 15
def dI (k:Int):Int:=if k=1 then 1 else if k=2 then 5 else 7
def ch (k:Int):Fd:=⟨0,eY k,false,0,0⟩
def gc (k:Int):Fd:=⟨0,dI k,false,0,0⟩
def bL (T va:Int) (lv:Nat):Int:=Uz.wrap (T+Uz.wrap (8*A6 .and .u64 (va/2^(12+9*lv)) 511))
def fP (zs:List Int) (x:Int):Int:=le zs (x-2147483648).toNat 8
def pQ (e:Int):Bool:=(A6 .and .u64 e 1==0)||((aw e 1==0)&&(aw e 2==1))||(e/18014398509481984 != 0)
def fu (e:Int):Int:=A6 .and .u64 (e/1024) 17592186044415
def mG (e:Int):Bool:=(aw e 1==0)&&(aw e 3==0)
def kY (e:Int) (lv:Nat):Bool:=((lv:Int)==0)||(A6 .and .u64 (e/16) 1==1)||(A6 .and .u64 (e/64) 3 != 0)
def Jy (m:Nat):Int:=Uz.wrap (Uz.wrap (2^m)-1)
def nE (e:Int) (lv:Nat):Bool:=A6 .and .u64 (fu e) (Jy (9*lv)) != 0
def hZ (l:List Int) (kind e:Int):Bool :=
 ((kind==1)&&(aw e 3==0))||((kind==2)&&(aw e 1==0)&&((aw e 3==0)||(aw (l.getD 0 0) 19==0)))||((kind==3)&&(aw e 2==0))
def ic (l:List Int) (p kind e:Int):Bool :=
 ((p==0)&&(aw e 4==0))||((p==1)&&(aw e 4==1)&&((kind==1)||(aw (l.getD 0 0) 18==0)))
def gS (e va:Int) (lv:Nat):Int:=A6 .or .u64 (A6 .andNot .u64 (Uz.wrap (fu e*4096)) (Jy (12+9*lv))) (A6 .and .u64 va (Jy (12+9*lv)))
def cW (e kind:Int):Int:=if (kind==3)=true then A6 .or .u64 (A6 .or .u64 e 64) 128 else A6 .or .u64 e 64
def du (l:List Int) (p va kind e x:Int) (lv:Nat):Fd :=
 if nE e lv=true then ch kind else if hZ l kind e=true then ch kind else if ic l p kind e=true then ch kind
 else if (cW e kind != e)=true then (if aJ l 1 x (bu x 8) 3 4 0=true then ⟨gS e va lv,0,true,x,cW e kind⟩ else gc kind) else ⟨gS e va lv,0,false,0,0⟩
def bT (zs:List Int) (n:Nat) (l:List Int) (p va kind:Int):Nat->Int->Fd
 | 0,T=>if gQ n (bL T va 0) 8=true then (if aJ l 1 (bL T va 0) (bu (bL T va 0) 8) 2 4 0=true then
  (if pQ (fP zs (bL T va 0))=true then ch kind else if mG (fP zs (bL T va 0))=true then ch kind else du l p va kind (fP zs (bL T va 0)) (bL T va 0) 0) else gc kind) else gc kind
 | lv+1,T=>if gQ n (bL T va (lv+1)) 8=true then (if aJ l 1 (bL T va (lv+1)) (bu (bL T va (lv+1)) 8) 2 4 0=true then
  (if pQ (fP zs (bL T va (lv+1)))=true then ch kind else if mG (fP zs (bL T va (lv+1)))=true then (if kY (fP zs (bL T va (lv+1))) (lv+1)=true then ch kind else bT zs n l p va kind lv (Uz.wrap (fu (fP zs (bL T va (lv+1)))*4096))) else du l p va kind (fP zs (bL T va (lv+1))) (bL T va (lv+1)) (lv+1)) else gc kind) else gc kind
def n9 (l:List Int):Int:=Uz.wrap (A6 .and .u64 (l.getD 15 0) 17592186044415*4096)
def cj (zs:List Int) (n:Nat) (l:List Int) (p va kind:Int):Fd :=
 if ((p==3)||(l.getD 15 0/1152921504606846976==0))=true then ⟨va,0,false,0,0⟩ else if (ay 39 va != va)=true then ch kind else bT zs n l p va kind 2 (n9 l)
theorem gM (lv:Nat) (T:Int):bT t c d e q r lv T = (if gQ c (bL T q lv) 8=true then (if aJ d 1 (bL T q lv) (bu (bL T q lv) 8) 2 4 0=true then (if pQ (fP t (bL T q lv))=true then ch r else if mG (fP t (bL T q lv))=true then (if kY (fP t (bL T q lv)) lv=true then ch r else bT t c d e q r (lv-1) (Uz.wrap (fu (fP t (bL T q lv))*4096))) else du d e q r (fP t (bL T q lv)) (bL T q lv) lv) else gc r) else gc r):=by
 cases lv with
 | zero =>rw [bT];have:kY (fP t (bL T q 0)) 0:=rfl;rw [this,JZ8 rfl]
 | succ lv=>rw [bT];rfl
def ey (w:C5) (base g cap:Nat) (l:List Int):Prop:=w.ownsRow base 24 1 (.slice (some ⟨g,0,none⟩) 22 cap) 22 (l.map (K1 .u64))
theorem ey.len (h:ey x w n k a):a.length=22:=by have:=h.1;simpa using this
theorem ey.cell (h:ey x w g n a) (j:Nat) (l:j<22):x.cell? ⟨g,j,none⟩=some (.u (a.getD j 0)):=by have b:=h.len;have e:=World.ownsRow.cellAt h j l;rw [e];simp [P2,List.getElem?_eq_getElem (show j<a.length by omega)]
theorem ey.froz (h:ey x w n k a) (j:Nat):x.frozen? ⟨n,j,none⟩=false:=World.ownsRow.frozenAt h j
theorem ey.put (h:ey x w n k a) (j:Nat) (v:Int):ey (x.setCell ⟨n,j,none⟩ (.u v)) w n k (a.set j v)/\x.grownBy (x.setCell ⟨n,j,none⟩ (.u v)) (some n):=by have e:=World.ownsRow.stored h j (.u v);rw [ky] at e;exact e
theorem ey.below (h:ey x w g n a) (hb:Bw x l):ey l w g n a:=dc h hb
theorem dG (hb:Bw x l) (row:Option Nat):x.grownBy l row:=⟨hb.os,hb.tape,hb.output,hb.size,λk a _=>hb.block k a⟩
theorem BT (h:ey s E m c d): C6 prog 107 #[.slice (some ⟨m,0,none⟩) 22 c,.i 769,.u e] s λx b=>x=.returned (.tuple #[])/\ey b E m c (cg d 769 e)/\s.grownBy b (some m):=by go_enter func107,ntmps107;go_wp2_with fail;refine A9 (A5 results107 _ _ _) rfl ?_;exact ⟨rfl,h,nz _ _⟩
theorem zN (h:ey s E m c d): C6 prog 107 #[.slice (some ⟨m,0,none⟩) 22 c,.i 3860,.u e] s λx b=>x=.returned (.tuple #[])/\ey b E m c (cg d 3860 e)/\s.grownBy b (some m):=by go_enter func107,ntmps107;go_wp2_with fail;refine A9 (A5 results107 _ _ _) rfl ?_;exact ⟨rfl,h,nz _ _⟩
theorem BU (h:ey s E m c d): C6 prog 107 #[.slice (some ⟨m,0,none⟩) 22 c,.i 256,.u e] s λx b=>x=.returned (.tuple #[])/\ey b E m c (cg d 256 e)/\s.grownBy b (some m):=by have F:Hid (cg d 256 e=d.set 0 (A6 .or .u64 (A6 .andNot .u64 (d.getD 0 0) 786722) (A6 .and .u64 e 786722))):=(rfl:cg d 256 e=_);have H:Hid (ey s E m c d):=h;have cap:=h.cell 0 ab;have f:=h.froz 0;clear h;go_enter func107,ntmps107;go_wp2_with fail;refine A9 (A5 results107 _ _ _) rfl ?_;exact ⟨rfl,by rw [F.out];exact (H.out.put 0 _).1,(H.out.put 0 _).2⟩
theorem BV (h:ey s E m c d): C6 prog 107 #[.slice (some ⟨m,0,none⟩) 22 c,.i 324,.u e] s λx b=>x=.returned (.tuple #[])/\ey b E m c (cg d 324 e)/\s.grownBy b (some m):=by have F:Hid (cg d 324 e=d.set 9 (A6 .or .u64 (A6 .andNot .u64 (d.getD 9 0) (A6 .and .u64 (d.getD 2 0) 2)) (A6 .and .u64 e (A6 .and .u64 (d.getD 2 0) 2)))):=(rfl:cg d 324 e=_);have H:Hid (ey s E m c d):=h;have cap:=h.cell 9 ab;have l:=h.cell 2 ab;have f:=h.froz 9;clear h;go_enter func107,ntmps107;go_wp2_with fail;refine A9 (A5 results107 _ _ _) rfl ?_;exact ⟨rfl,by rw [F.out];exact (H.out.put 9 _).1,(H.out.put 9 _).2⟩
theorem BW (h:ey s E m c d): C6 prog 107 #[.slice (some ⟨m,0,none⟩) 22 c,.i 260,.u e] s λx l=>x=.returned (.tuple #[])/\ey l E m c (cg d 260 e)/\s.grownBy l (some m):=by
 have F:Hid (cg d 260 e=d.set 3 (bq 3 (A6 .or .u64 (A6 .andNot .u64 (d.getD 3 0) (d.getD 2 0)) (A6 .and .u64 e (d.getD 2 0))))):=(rfl:cg d 260 e=_);have H:Hid (ey s E m c d):=h;have cap:=h.cell 3 ab;have j:=h.cell 2 ab;have f:=h.froz 3;clear h;generalize d.getD 3 0=p at *;generalize d.getD 2 0=o at *;go_enter func107,ntmps107;go_wp2_with fail;go_region_with (go_at_call 78;refine (fz _ _ _).mono ?_;rintro x g ⟨rfl,b⟩;subst b);all_goals go_wp2_with fail
 all_goals refine A9 (A5 results107 _ _ _) rfl ?_
 all_goals exact ⟨rfl,by rw [F.out];exact ((H.out.put 3 _).1).below ((Below.refl _ _).drew),aY (H.out.put 3 _).2 ⟨rfl,rfl,rfl,G1 _,λ_ _ _=>rfl⟩⟩
def ge (n:Int):Bool:=!(n==769)&&!(n==3860)&&!(n==256)&&!(n==260)&&!(n==324)
theorem zO {n:Int} (h:ge n) (l:List Int) (x:Int):cg l n x=fZ l (cN n) x:=by simp [ge] at h;unfold cg;rw [JZ9 ab,JZ9 ab,JZ9 ab,JZ9 ab]
theorem EM (g:cN e=9) (hn:ge e) (w:C5) (h:ey w E m c d): C6 prog 107 #[.slice (some ⟨m,0,none⟩) 22 c,.i e,.u q] w λn l=>n=.returned (.tuple #[])/\ey l E m c (fZ d 9 q)/\w.grownBy l (some m):=by
 simp only [ge,H8,I1] at hn;obtain ⟨⟨⟨⟨r,s⟩,t⟩,u⟩,z⟩:=hn;have H:Hid (ey w E m c d):=h;clear h;have F:Hid (fZ d 9 q=d.set 9 (A6 .or .u64 (A6 .andNot .u64 (d.getD 9 0) 546) (A6 .and .u64 q 546))):=(rfl:fZ d 9 q=_);have x:Hid (∀ w,CB 108 #[.i e] w (.i 9)):=by rw [<- g];exact dH e
 clear g;go_enter func107,ntmps107;go_wp2_with fail;refine (x.out _).mono ?_;rintro n o ⟨rfl,j⟩;have p:Hid (Bw w o):=j;have b:Hid (ey o E m c d):=H.out.below j;clear j;have cap:=b.out.cell 9 ab;have f:=b.out.froz 9;generalize d.getD 9 0=y at *;go_wp2_with fail;refine A8 (A5 results107 _ _ _) rfl ?_;exact ⟨rfl,by rw [F.out];exact (b.out.put 9 _).1,aY (dG p.out _) (b.out.put 9 _).2⟩
theorem BX (t:cN e=15) (hn:ge e) (w:C5) (h:ey w E m c d): C6 prog 107 #[.slice (some ⟨m,0,none⟩) 22 c,.i e,.u q] w λn p=>n=.returned (.tuple #[])/\ey p E m c (fZ d 15 q)/\w.grownBy p (some m):=by
 simp only [ge,H8,I1] at hn;obtain ⟨⟨⟨⟨z,A⟩,B⟩,C⟩,D⟩:=hn;have H:Hid (ey w E m c d):=h;clear h;have g:fZ d 15 q=if ((q/1152921504606846976==0)||(q/1152921504606846976==8))=true then d.set 15 q else d:=rfl
 obtain ⟨y,u⟩:∃ y,q/1152921504606846976=y:=⟨_,rfl⟩;rw [u] at g;have x:Hid (∀ w,CB 108 #[.i e] w (.i 15)):=by rw [<- t];exact dH e
 clear t;cases r:(y==0) with
 | true =>have F:Hid (fZ d 15 q=d.set 15 q):=(by show _=_;rw [g,r];rfl);clear g;go_enter func107,ntmps107;go_wp2_with fail;refine (x.out _).mono ?_;rintro n j ⟨rfl,l⟩;have o:Hid (Bw w j):=l;have b:Hid (ey j E m c d):=H.out.below l;clear l;have cap:=b.out.cell 15 ab;have f:=b.out.froz 15;go_wp2_with fail;refine A8 (A5 results107 _ _ _) rfl ?_;exact ⟨rfl,by rw [F.out];exact (b.out.put 15 _).1,aY (dG o.out _) (b.out.put 15 _).2⟩
 | false =>
   cases s:(y==8) with
   | true =>have F:Hid (fZ d 15 q=d.set 15 q):=(by show _=_;rw [g,r,s];rfl);clear g;go_enter func107,ntmps107;go_wp2_with fail;refine (x.out _).mono ?_;rintro n j ⟨rfl,l⟩;have o:Hid (Bw w j):=l;have b:Hid (ey j E m c d):=H.out.below l;clear l;have cap:=b.out.cell 15 ab;have f:=b.out.froz 15;go_wp2_with fail;refine A8 (A5 results107 _ _ _) rfl ?_;exact ⟨rfl,by rw [F.out];exact (b.out.put 15 _).1,aY (dG o.out _) (b.out.put 15 _).2⟩
   | false =>have F:Hid (fZ d 15 q=d):=(by show _=_;rw [g,r,s];rfl);clear g;go_enter func107,ntmps107;go_wp2_with fail;refine (x.out _).mono ?_;rintro n j ⟨rfl,l⟩;have o:Hid (Bw w j):=l;have b:Hid (ey j E m c d):=H.out.below l;clear l;go_wp2_with fail;refine A8 (A5 results107 _ _ _) rfl ?_;exact ⟨rfl,vw,dG o.out _⟩
theorem BY (base g cap:Nat) (l:List Int) (n x:Int) (L:cN n=16) (hn:ge n) (w:C5) (h:ey w base g cap l):C6 prog 107 #[.slice (some ⟨g,0,none⟩) 22 cap,.i n,.u x] w λe m=>e=.returned (.tuple #[])/\ey m base g cap (fZ l 16 x)/\w.grownBy m (some g):=by
 simp only [ge,H8,I1] at hn;obtain ⟨⟨⟨⟨X,Y⟩,Z⟩,n4⟩,n5⟩:=hn;have H:Hid (ey w base g cap l):=h;clear h;have F:Hid (fZ l 16 x=l.set 16 (eC l (bq 16 x) 4)):=(rfl:fZ l 16 x=_);have N:Hid (∀ w,CB 108 #[.i n] w (.i 16)):=by rw [<- L];exact dH n
 clear L;go_enter func107,ntmps107;go_wp2_with fail;refine (N.out _).mono ?_;rintro e G ⟨rfl,r⟩;have M:Hid (Bw w G):=r;have j:Hid (ey G base g cap l):=H.out.below r;clear r;have c:=j.out.cell 16 ab;have f:=j.out.froz 16;have J:Hid (Sl .u64 G (some ⟨g,0,none⟩) l):=kI j.out;have O:Hid (l.length=22):=j.out.len;go_wp2_with fail;refine (fz 16 x _).mono ?_;rintro e S ⟨rfl,B⟩;subst B;obtain ⟨z,D⟩:∃ z,z=bq 16 x:=⟨_,rfl⟩;rw [<- D];rw [<- D] at F;clear D;go_wp2_with fail;go_loopw [9,10] (λy i wr=>∃ k:Nat,k<=4/\i=.i k/\y=.u (eC l z k)/\wr=S)
  (λ_ i _=>4-(intOf i).toNat)
 case atStart=>exact ⟨0,ab,rfl,rfl,rfl⟩
 case round =>
  obtain ⟨k,V,rfl,rfl,rfl⟩:=hrel;by_cases t:k<4
  ·have b:eC l z (k+1)=if (dW l k/128==1)=true then A6 .or .u64 (A6 .andNot .u64 (eC l z k) (Uz.wrap (255*2^(8*k)))) (A6 .and .u64 (l.getD 16 0) (Uz.wrap (255*2^(8*k)))) else eC l z k:=rfl
   have o:Hid (∀ w,Sl .u64 w (some ⟨g,0,none⟩) l->CE 117 #[.slice (some ⟨g,0,none⟩) 22 cap,.i k] w (.u (dW l k))):=λw R=>lL _ cap l k t w O.out R;have U:decide ((k:Int)<4):=bv;have W:I5 (8*(k:Int))=((8*k:Nat):Int):=ob;have P:Uz.wrap ((8*k:Nat):Int)=((8*k:Nat):Int):=dv;have Q:8*k<64:=ab;obtain ⟨y,C⟩:∃ y,y=eC l z k:=⟨_,rfl⟩;obtain ⟨u,A⟩:∃ u,u=eC l z (k+1):=⟨_,rfl⟩;rw [<- A,<- C] at b;rw [<- C];have I:Hid (u=eC l z (k+1)):=A;clear A C;generalize dW l k=q at *;generalize l.getD 16 0=E at *;cases K:(q/128==1) with
   | true =>
     rw [JZ8 K] at b;have p:Hid (u=A6 .or .u64 (A6 .andNot .u64 y (Uz.wrap (255*2^(8*k)))) (A6 .and .u64 E (Uz.wrap (255*2^(8*k))))):=b;clear b;go_wp2_with fail;refine (o.out _ J.out).mono ?_;rintro e T ⟨rfl,d⟩;subst d;go_wp2_with fail;go_roundw;case rel=>exact ⟨k+1,ab,by go_num,by rw [<- I.out,p.out],trivial⟩
     case measure=>simp [intOf];omega
   | false =>
     rw [JZ9 (by rw [K];decide)] at b;have p:Hid (u=y):=b;clear b;go_wp2_with fail;refine (o.out _ J.out).mono ?_;rintro e T ⟨rfl,d⟩;subst d;go_wp2_with fail;go_roundw;case rel=>exact ⟨k+1,ab,by go_num,by rw [<- I.out,p.out],trivial⟩
     case measure=>simp [intOf];omega
  ·have s:k=4:=ab;subst s;generalize eC l z 4=y at *;go_wp2_with fail;refine A8 (A5 results107 _ _ _) rfl ?_;exact ⟨rfl,by rw [F.out];exact (j.out.put 16 _).1,aY (dG M.out _) (j.out.put 16 _).2⟩
theorem BZ (u:cN e=17) (hn:ge e) (w:C5) (h:ey w E m c d): C6 prog 107 #[.slice (some ⟨m,0,none⟩) 22 c,.i e,.u q] w λn g=>n=.returned (.tuple #[])/\ey g E m c (fZ d 17 q)/\w.grownBy g (some m):=by
 simp only [ge,H8,I1] at hn;obtain ⟨⟨⟨⟨B,C⟩,D⟩,base⟩,G⟩:=hn;have H:Hid (ey w E m c d):=h;clear h;have p:fZ d 17 q=if fI d 0=true then d else d.set 17 (bq 17 q):=rfl
 have t:Hid (∀ w,CB 108 #[.i e] w (.i 17)):=by rw [<- u];exact dH e
 clear u;have s:Hid (∀ w,Sl .u64 w (some ⟨m,0,none⟩) d->d.length=22->CE 121 #[.slice (some ⟨m,0,none⟩) 22 c,.i 0] w (.bool (fI d 0))):=λw y z=>lj _ c d 0 ab w z y;generalize fI d 0=lk at *;cases lk with
 | true =>have F:Hid (fZ d 17 q=d):=p;clear p;go_enter func107,ntmps107;go_wp2_with fail;refine (t.out _).mono ?_;rintro n o ⟨rfl,l⟩;have x:Hid (Bw w o):=l;have b:Hid (ey o E m c d):=H.out.below l;clear l;go_wp2_with fail;refine (s.out _ (kI b.out) b.out.len).mono ?_;rintro n A ⟨rfl,j⟩;subst j;go_wp2_with fail;refine A8 (A5 results107 _ _ _) rfl ?_;exact ⟨rfl,vw,dG x.out _⟩
 | false =>have F:Hid (fZ d 17 q=d.set 17 (bq 17 q)):=p;clear p;go_enter func107,ntmps107;go_wp2_with fail;refine (t.out _).mono ?_;rintro n o ⟨rfl,l⟩;have x:Hid (Bw w o):=l;have b:Hid (ey o E m c d):=H.out.below l;clear l;have cap:=b.out.cell 17 ab;have f:=b.out.froz 17;go_wp2_with fail;refine (s.out _ (kI b.out) b.out.len).mono ?_;rintro n A ⟨rfl,j⟩;subst j;go_wp2_with fail;refine (fz _ q _).mono ?_;rintro n I ⟨rfl,r⟩;subst r;go_wp2_with fail;refine A8 (A5 results107 _ _ _) rfl ?_;exact ⟨rfl,by rw [F.out];exact (b.out.put 17 _).1,aY (dG x.out _) (b.out.put 17 _).2⟩
theorem B5 (u:cN e=18) (hn:ge e) (w:C5) (h:ey w E m c d): C6 prog 107 #[.slice (some ⟨m,0,none⟩) 22 c,.i e,.u q] w λn g=>n=.returned (.tuple #[])/\ey g E m c (fZ d 18 q)/\w.grownBy g (some m):=by
 simp only [ge,H8,I1] at hn;obtain ⟨⟨⟨⟨B,C⟩,D⟩,base⟩,G⟩:=hn;have H:Hid (ey w E m c d):=h;clear h;have p:fZ d 18 q=if fI d 1=true then d else d.set 18 (bq 18 q):=rfl
 have t:Hid (∀ w,CB 108 #[.i e] w (.i 18)):=by rw [<- u];exact dH e
 clear u;have s:Hid (∀ w,Sl .u64 w (some ⟨m,0,none⟩) d->d.length=22->CE 121 #[.slice (some ⟨m,0,none⟩) 22 c,.i 1] w (.bool (fI d 1))):=λw y z=>lj _ c d 1 ab w z y;generalize fI d 1=lk at *;cases lk with
 | true =>have F:Hid (fZ d 18 q=d):=p;clear p;go_enter func107,ntmps107;go_wp2_with fail;refine (t.out _).mono ?_;rintro n o ⟨rfl,l⟩;have x:Hid (Bw w o):=l;have b:Hid (ey o E m c d):=H.out.below l;clear l;go_wp2_with fail;refine (s.out _ (kI b.out) b.out.len).mono ?_;rintro n A ⟨rfl,j⟩;subst j;go_wp2_with fail;refine A8 (A5 results107 _ _ _) rfl ?_;exact ⟨rfl,vw,dG x.out _⟩
 | false =>have F:Hid (fZ d 18 q=d.set 18 (bq 18 q)):=p;clear p;go_enter func107,ntmps107;go_wp2_with fail;refine (t.out _).mono ?_;rintro n o ⟨rfl,l⟩;have x:Hid (Bw w o):=l;have b:Hid (ey o E m c d):=H.out.below l;clear l;have cap:=b.out.cell 18 ab;have f:=b.out.froz 18;go_wp2_with fail;refine (s.out _ (kI b.out) b.out.len).mono ?_;rintro n A ⟨rfl,j⟩;subst j;go_wp2_with fail;refine (fz _ q _).mono ?_;rintro n I ⟨rfl,r⟩;subst r;go_wp2_with fail;refine A8 (A5 results107 _ _ _) rfl ?_;exact ⟨rfl,by rw [F.out];exact (b.out.put 18 _).1,aY (dG x.out _) (b.out.put 18 _).2⟩
theorem B6 (u:cN e=19) (hn:ge e) (w:C5) (h:ey w E m c d): C6 prog 107 #[.slice (some ⟨m,0,none⟩) 22 c,.i e,.u q] w λn g=>n=.returned (.tuple #[])/\ey g E m c (fZ d 19 q)/\w.grownBy g (some m):=by
 simp only [ge,H8,I1] at hn;obtain ⟨⟨⟨⟨B,C⟩,D⟩,base⟩,G⟩:=hn;have H:Hid (ey w E m c d):=h;clear h;have p:fZ d 19 q=if fI d 2=true then d else d.set 19 (bq 19 q):=rfl
 have t:Hid (∀ w,CB 108 #[.i e] w (.i 19)):=by rw [<- u];exact dH e
 clear u;have s:Hid (∀ w,Sl .u64 w (some ⟨m,0,none⟩) d->d.length=22->CE 121 #[.slice (some ⟨m,0,none⟩) 22 c,.i 2] w (.bool (fI d 2))):=λw y z=>lj _ c d 2 ab w z y;generalize fI d 2=lk at *;cases lk with
 | true =>have F:Hid (fZ d 19 q=d):=p;clear p;go_enter func107,ntmps107;go_wp2_with fail;refine (t.out _).mono ?_;rintro n o ⟨rfl,l⟩;have x:Hid (Bw w o):=l;have b:Hid (ey o E m c d):=H.out.below l;clear l;go_wp2_with fail;refine (s.out _ (kI b.out) b.out.len).mono ?_;rintro n A ⟨rfl,j⟩;subst j;go_wp2_with fail;refine A8 (A5 results107 _ _ _) rfl ?_;exact ⟨rfl,vw,dG x.out _⟩
 | false =>have F:Hid (fZ d 19 q=d.set 19 (bq 19 q)):=p;clear p;go_enter func107,ntmps107;go_wp2_with fail;refine (t.out _).mono ?_;rintro n o ⟨rfl,l⟩;have x:Hid (Bw w o):=l;have b:Hid (ey o E m c d):=H.out.below l;clear l;have cap:=b.out.cell 19 ab;have f:=b.out.froz 19;go_wp2_with fail;refine (s.out _ (kI b.out) b.out.len).mono ?_;rintro n A ⟨rfl,j⟩;subst j;go_wp2_with fail;refine (fz _ q _).mono ?_;rintro n I ⟨rfl,r⟩;subst r;go_wp2_with fail;refine A8 (A5 results107 _ _ _) rfl ?_;exact ⟨rfl,by rw [F.out];exact (b.out.put 19 _).1,aY (dG x.out _) (b.out.put 19 _).2⟩
theorem B7 (u:cN e=20) (hn:ge e) (w:C5) (h:ey w E m c d): C6 prog 107 #[.slice (some ⟨m,0,none⟩) 22 c,.i e,.u q] w λn g=>n=.returned (.tuple #[])/\ey g E m c (fZ d 20 q)/\w.grownBy g (some m):=by
 simp only [ge,H8,I1] at hn;obtain ⟨⟨⟨⟨B,C⟩,D⟩,base⟩,G⟩:=hn;have H:Hid (ey w E m c d):=h;clear h;have p:fZ d 20 q=if fI d 3=true then d else d.set 20 (bq 20 q):=rfl
 have t:Hid (∀ w,CB 108 #[.i e] w (.i 20)):=by rw [<- u];exact dH e
 clear u;have s:Hid (∀ w,Sl .u64 w (some ⟨m,0,none⟩) d->d.length=22->CE 121 #[.slice (some ⟨m,0,none⟩) 22 c,.i 3] w (.bool (fI d 3))):=λw y z=>lj _ c d 3 ab w z y;generalize fI d 3=lk at *;cases lk with
 | true =>have F:Hid (fZ d 20 q=d):=p;clear p;go_enter func107,ntmps107;go_wp2_with fail;refine (t.out _).mono ?_;rintro n o ⟨rfl,l⟩;have x:Hid (Bw w o):=l;have b:Hid (ey o E m c d):=H.out.below l;clear l;go_wp2_with fail;refine (s.out _ (kI b.out) b.out.len).mono ?_;rintro n A ⟨rfl,j⟩;subst j;go_wp2_with fail;refine A8 (A5 results107 _ _ _) rfl ?_;exact ⟨rfl,vw,dG x.out _⟩
 | false =>have F:Hid (fZ d 20 q=d.set 20 (bq 20 q)):=p;clear p;go_enter func107,ntmps107;go_wp2_with fail;refine (t.out _).mono ?_;rintro n o ⟨rfl,l⟩;have x:Hid (Bw w o):=l;have b:Hid (ey o E m c d):=H.out.below l;clear l;have cap:=b.out.cell 20 ab;have f:=b.out.froz 20;go_wp2_with fail;refine (s.out _ (kI b.out) b.out.len).mono ?_;rintro n A ⟨rfl,j⟩;subst j;go_wp2_with fail;refine (fz _ q _).mono ?_;rintro n I ⟨rfl,r⟩;subst r;go_wp2_with fail;refine A8 (A5 results107 _ _ _) rfl ?_;exact ⟨rfl,by rw [F.out];exact (b.out.put 20 _).1,aY (dG x.out _) (b.out.put 20 _).2⟩
theorem EN (y:z<22) (hk:¬ (z=9\/z=15\/z=16\/z=17\/z=18\/z=19\/z=20)) (o:cN e=(z:Int)) (hn:ge e) (w:C5) (h:ey w E m c d): C6 prog 107 #[.slice (some ⟨m,0,none⟩) 22 c,.i e,.u q] w λn l=>n=.returned (.tuple #[])/\ey l E m c (fZ d (z:Int) q)/\w.grownBy l (some m):=by
 simp only [ge,H8,I1] at hn;obtain ⟨⟨⟨⟨k,A⟩,B⟩,C⟩,D⟩:=hn;have H:Hid (ey w E m c d):=h;clear h;have F:Hid (fZ d (z:Int) q=d.set z (bq z q)):=by show _=_;unfold fZ;rw [JZ9 ab,JZ9 ab,JZ9 ab,JZ9 ab];rfl
 have d9:((z:Int)==9)=false:=by simp;omega
 have Vi:((z:Int)==15)=false:=by simp;omega
 have Vh:((z:Int)==16)=false:=by simp;omega
 have Vt:((z:Int)==17)=false:=by simp;omega
 have s:((z:Int)==18)=false:=by simp;omega
 have t:((z:Int)==19)=false:=by simp;omega
 have u:((z:Int)==20)=false:=by simp;omega
 have r:Hid (∀ w,CB 108 #[.i e] w (.i (z:Int))):=by rw [<- o];exact dH e
 clear o;clear hk;go_enter func107,ntmps107;go_wp2_with fail;refine (r.out _).mono ?_;rintro n p ⟨rfl,j⟩;have x:Hid (Bw w p):=j;have b:Hid (ey p E m c d):=H.out.below j;clear j;have cap:=b.out.cell z y;have f:=b.out.froz z;go_wp2_with fail;refine (fz _ q _).mono ?_;rintro n base ⟨rfl,g⟩;subst g;go_wp2_with fail;refine A8 (A5 results107 _ _ _) rfl ?_;exact ⟨rfl,by rw [F.out];exact (b.out.put z _).1,aY (dG x.out _) (b.out.put z _).2⟩
theorem B8 (cap:Nat) (l:List Int) (n x:Int) (hk:dB n) (w:C5) (h:ey w E m cap l): C6 prog 107 #[.slice (some ⟨m,0,none⟩) 22 cap,.i n,.u x] w λe o=>e=.returned (.tuple #[])/\ey o E m cap (cg l n x)/\w.grownBy o (some m):=by
 by_cases b:ge n
 ·rw [zO b];have r:=rO n;have q:0<=cN n:=(by simp [ge] at b;simp [dB] at hk;omega);obtain ⟨k,a⟩:∃ k:Nat,cN n=(k:Int):=⟨(cN n).toNat,ab⟩;rw [a];by_cases e:k=9\/k=15\/k=16\/k=17\/k=18\/k=19\/k=20
  ·by_cases p:k=9;·subst p;exact EM E m cap l n x a b w h
   ·by_cases c:k=15;·subst c;exact BX E m cap l n x a b w h
    ·by_cases d:k=16;·subst d;exact BY E m cap l n x a b w h
     ·by_cases f:k=17;·subst f;exact BZ E m cap l n x a b w h
      ·by_cases i:k=18;·subst i;exact B5 E m cap l n x a b w h
       ·by_cases j:k=19;·subst j;exact B6 E m cap l n x a b w h
        ·have g:k=20:=ab;subst g;exact B7 E m cap l n x a b w h
  ·exact EN E m cap l n x k ab e a b w h
 ·have:n=769\/n=3860\/n=256\/n=260\/n=324:=by simp [ge] at b;omega
  rcases this with rfl|rfl|rfl|rfl|rfl;·exact BT E m cap l x w h
  ·exact zN E m cap l x w h
  ·exact BU E m cap l x w h
  ·exact BW E m cap l x w h
  ·exact BV E m cap l x w h
theorem GQ (h:ey x w n k a) (j:Nat) (b:j<22) (base:Int) (o:Oper) (ev:F3->Value) (p v:F3) (d:o.op=.store 24 p v) (q:ev p=.p n j) (hv:ev v=.u base): (execOp ev o).run prog x=.ok .skip (x.setCell ⟨n,j,none⟩ (.u base)):=by
 have c:=h.cell j b;have f:=h.froz j;have r:∀ m,(store ⟨n,j,none⟩ (.u base) m).run prog x=.ok () (x.setCell ⟨n,j,none⟩ (.u base)):=by intro m;rw [run_store_int];simp [stored,c,f]
 simp [execOp,d,q,hv,go_sem];rw [c];simp [f]
theorem qn {b:Array Oper} {rest:List Oper} {o:Oper} {a:Act} {Q:Exit->Act->C5->Prop} (e:o.guard=none) (p v:F3) (i:o.op=.store 24 p v) (hd:o.dst=none) {base g cap:Nat} {l:List Int} (h:ey x base g cap l) (j:Nat) (f:j<22) (w:Int) (k:a.eval p=.p g j) (hv:a.eval v=.u w) (hk:∀ c,ey c base g cap (l.set j w)->x.grownBy c (some g)->wpList prog b Q rest a c):wpList prog b Q (o::rest) a x:=by refine wpList_plain e λK d=>?_;unfold Oper.wp;rw [GQ h j f w o a.eval p v i k hv,Oper.upon_skip];rw [hd];exact d _ _ (hk _ (h.put j w).1 (h.put j w).2)
theorem bJ (b:0<=B) (c:B<18446744073709551616) (hk:E<64) (hn:m<64) (w:C5): C6 prog 31 #[.u B,.i E,.i m] w λe d=>e=.returned (.u (de B E m))/\d=w.drew:=by
 have F:Hid (A6 .and .u64 (B/2^E) (Uz.wrap (Uz.wrap (2^m)-1))=de B E m):=iD B E m b c hn;go_enter func31,ntmps31;go_wp2_with fail;go_region;all_goals go_wp2_with fail
 all_goals go_ret
 all_goals exact ⟨by rw [<- F.out];rfl,rfl⟩
theorem ug: CE 210 #[.string D.str] s (.tuple #[.u D.mask,.i D.at]):=by
 cases D<;>simp only [Fm.str,Fm.mask,Fm.at];all_goals go_enter func210,ntmps210
 all_goals go_wp2_with fail
 all_goals go_ret2
 all_goals exact ⟨rfl,rfl⟩
theorem i8 (g:1<=E) (j:E<=64) (w:C5): CE 138 #[.u B,.i E] w (.u (ay E B)):=by
 have d:decide ((E:Int)<1)=false:=by simp;omega
 have f:decide ((64:Int)<(E:Int))=false:=by simp;omega
 obtain ⟨m,l,b⟩:∃ m:Nat,(64:Int)-(E:Int)=(m:Int)/\m=64-E:=⟨64-E,ab,rfl⟩;have F:Hid (Uz.wrap (I5 (Uz.wrap (B*2^m))/2^m)=ay E B):=by show _=_;rw [b];rfl
 clear b;go_enter func138,ntmps138;go_wp2_with fail;go_ret;exact ⟨by rw [<- F.out];rfl,rfl⟩
theorem ei (f:1<=E) (g:E<=64) (w:C5): CE 101 #[.u B,.u E] w (.u (ay E B)):=by
 obtain ⟨m,j,b⟩:∃ m:Nat,(64:Int)-(E:Int)=(m:Int)/\m=64-E:=⟨64-E,ab,rfl⟩;have F:Hid (Uz.wrap (I5 (Uz.wrap (B*2^m))/2^m)=ay E B):=by show _=_;rw [b];rfl
 clear b;have c:Uz.wrap (m:Int)=m:=by rw [I4];omega
 go_enter func101,ntmps101;go_wp2_with fail;go_ret;exact ⟨by rw [<- F.out];rfl,rfl⟩
def i9 (op:Int) (f:Fm):Int:=if op=98 then A6 .or .u64 f.mask 3968 else if op=63\/op=74 then A6 .or .u64 f.mask 32505856 else f.mask
def vD (f:Fm) (o z m:Int):Int:=A6 .or .u64 (A6 .or .u64 o (Uz.wrap (z*4096))) (Uz.wrap (m*2^f.at))
theorem vE (D:ByteArray) (f:Fm) (o z m:Int) (w:C5): CB 184 #[.i B,.agg #[.string D,.string f.str,.u o,.u z,.u m]] w (.tuple #[.u (i9 B f),.u (vD f o z m)]):=by
 have r:=ug f;obtain ⟨M,d⟩:∃ M,M=f.mask:=⟨_,rfl⟩;obtain ⟨t,l⟩:∃ t,t=f.at:=⟨_,rfl⟩;obtain ⟨s,p⟩:∃ s,s=f.str:=⟨_,rfl⟩;have u:Hid (vD f o z m=A6 .or .u64 (A6 .or .u64 o (Uz.wrap (z*4096))) (Uz.wrap (m*2^t))):=by show _=_;rw [vD,l]
 rw [<- p,<- d,<- l] at r;rw [<- p];have op:t<64:=by rw [l];cases f<;>decide
 by_cases b:B=98
 ·subst b;have g:Hid (i9 98 f=A6 .or .u64 M 3968):=(by show _=_;rw [i9,JZ8 rfl,d]);clear d l p;go_enter func184,ntmps184;go_wp2_with fail;refine (r _).mono ?_;rintro e A ⟨rfl,rfl⟩;go_wp2_with fail;go_region;all_goals go_wp2_with fail
  all_goals go_ret2
  all_goals exact ⟨by rw [g.out,u.out];rfl,(bal _ _).drew⟩
 ·have q:(B==98)=false:=lw;by_cases c:B=63
  ·subst c;have g:Hid (i9 63 f=A6 .or .u64 M 32505856):=(by show _=_;rw [i9,JZ9 bc,JZ8 bc,d]);clear d l p b q;go_enter func184,ntmps184;go_wp2_with fail;refine (r _).mono ?_;rintro e A ⟨rfl,rfl⟩;go_wp2_with fail;go_region;all_goals go_wp2_with fail
   all_goals go_ret2
   all_goals exact ⟨by rw [g.out,u.out];rfl,(bal _ _).drew⟩
  ·have y:(B==63)=false:=kc;by_cases j:B=74
   ·subst j;have g:Hid (i9 74 f=A6 .or .u64 M 32505856):=(by show _=_;rw [i9,JZ9 bc,JZ8 bc,d]);clear d l p b q c y;go_enter func184,ntmps184;go_wp2_with fail;refine (r _).mono ?_;rintro e A ⟨rfl,rfl⟩;go_wp2_with fail;go_region;all_goals go_wp2_with fail
    all_goals go_ret2
    all_goals exact ⟨by rw [g.out,u.out];rfl,(bal _ _).drew⟩
   ·have C:(B==74)=false:=(by simpa using j);have g:Hid (i9 B f=M):=(by show _=_;rw [i9,JZ9 b,JZ9 ab,d]);clear d l p b c j;go_enter func184,ntmps184;go_wp2_with fail;refine (r _).mono ?_;rintro e A ⟨rfl,rfl⟩;go_wp2_with fail;go_region;all_goals go_wp2_with fail
    all_goals go_ret2
    all_goals exact ⟨by rw [g.out,u.out];rfl,(bal _ _).drew⟩
theorem Jz (u:Bool) (g f:Nat) (b c1:Nat) (a2:Option D1) (j c2:Nat) (q:Int) (xs ys:List Int) (t E:Nat) (w:C5) (hx:xs.length=b) (hy:ys.length=j) (hn0:1<=b) (hn1:b<=16) (hc1:b<=c1) (hc2:c1<=9223372036854775807) (F:t<=E) (G:E<=w.heap.size) (T:bj t E w (eX (some ⟨g,f,none⟩) b c1 xs a2 j c2 ys)) (hw:0<=xs.getD 0 0/\xs.getD 0 0<=255): C6 prog 96 #[.agg #[.u B,.u e,.bool u,.slice (some ⟨g,f,none⟩) b c1,.slice a2 j c2,.i q],.u 268435456,.i 1] w λcm C=>∃ (c:Option D1) (d:Nat),cm=.returned (.tuple #[.u (xs.getD 0 0),.agg #[.u B,.u e,.bool u,.slice c (b-1) d,.slice a2 j c2,.i q],.bool true])/\C.ownsRow w.heap.size 5 1 (.slice c (b-1) d) (b-1) ((xs.drop 1).map (K1 .u8))/\Bw w C:=by
 have W:=T.in_;obtain ⟨b',off',cm,U,Y⟩:=W 0 ab;simp only [Option.some.injEq,Addr.mk.injEq,and_true] at cm;obtain ⟨rfl,rfl⟩:=cm;have y:∀ z A,Bw w ((w.alloc z).alloc A):=λz A=>eD;have k0:∀ z A,((w.alloc z).alloc A).cell? ⟨g,f,none⟩=some (.int .u8 (xs.getD 0 0)):=λz A=>((y z A).cell (by exact U)).trans Y;have t0:((b:Int)==0)=false:=by simp;omega
 have i0:(0:Int)<(b:Int):=ab
 have i1:(1:Int)<=(b:Int):=ab
 have X:Hid (∀ C,Bw w C->Sl .u8 C (some ⟨g,f+1,none⟩) (xs.drop 1)):=λC hb=>(W.below hb).next
 have L:Hid ((xs.drop 1).length=b-1/\b-1<=1048576):=⟨by rw [N1,hx],ab⟩;have HF:Hid (bj t E w (eX (some ⟨g,f,none⟩) b c1 xs a2 j c2 ys)):=T;have HE2:Hid (t<=E/\E<=w.heap.size):=⟨F,G⟩;have G:=jl ((w.alloc (.cells #[.u B,.u e,.bool u,.slice (some ⟨g,f,none⟩) b c1,.slice a2 j c2,.i q] 27)).alloc (.cells #[.u 0,.u 0,.bool false,.slice none 0 0,.slice none 0 0,.i 0] 27)) (w.heap.size+1+1) di (.cells #[] 5 (0,0)) rfl;rw [K0,K0] at G;have I:Uz.wrap (xs.getD 0 0)=xs.getD 0 0:=by rw [I4];omega
 have D:=aq I;clear W Y T F I hw hx hy;generalize xs.getD 0 0=x0 at *;by_cases S:c1=1;·have V:b=1:=ab;subst S V;have H:xs.drop 1=[]:=O1.1 (by have:=L.out.1;simpa using this);rw [H];clear H X L;go_enter func96,ntmps96;go_wp2_with (first | (at_builtin;refine it rfl (.tmp 58) (.tmp 61) rfl (w.heap.size+1+1) _ rfl G _ 0 _ [] rfl rfl ab (λi hi=>absurd hi (Nat.not_lt_zero _)) di ?_;intro c d J o l;obtain ⟨r,s,m,K⟩:=Pb l;have R0:=aq r;have R1:=aq s;have N:=aq m;have R:=aq K;have P:=aq o;obtain ⟨p0,p1,p2,p3,p4,p5⟩:=aQ r;obtain ⟨s0,s1,s2,s3,s4,s5⟩:=aQ s;obtain ⟨y0,y1,y2,y3,y4,y5⟩:=mn s;have f3:=dD r 3;clear r s m K o l));go_region;go_wp2_with fail;rw [D.out];have Q:=fj (fT R1.out ⟨w.heap.size,3,none⟩ (.slice c 0 d) cb) (.u B) (.u e) (.bool u) (.slice c 0 d) (.slice a2 j c2) (.i q);have M:=(((bj.nil (w.heap.size+1+1) (w.heap.size+1+1) J).snoc (aE c 0 d []) _ J.heap.size P.out (G1 _) (G1 _) (G1 _) (by have:=R.out;omega)).set ⟨w.heap.size,3,none⟩ (.slice c 0 d) (.inl cb)).put6 (w.heap.size+1) (.inl ab) (.u B) (.u e) (.bool u) (.slice c 0 d) (.slice a2 j c2) (.i q);have O:=dE (N.out.setCell (p:=⟨w.heap.size,3,none⟩) (G1 _) (.slice c 0 d)) (g:=w.heap.size+1) ab (.u B) (.u e) (.bool u) (.slice c 0 d) (.slice a2 j c2) (.i q);exact A9 (bM results96 _ _ _ _ _ _ _ rfl (Bz Q) underlying27 rfl aU) rfl ⟨c,d,rfl,cQ (dc (M.own _ (L6.2 rfl)) (Below.refl _ _).drew) ab,O.drew⟩
 ·have Z:¬ (c1-1=0):=ab;go_enter func96,ntmps96;go_wp2_with (first | (at_builtin;refine it rfl (.tmp 58) (.tmp 61) rfl (w.heap.size+1+1) _ rfl G (some ⟨g,f+1,none⟩) (b-1) (c1-1) (xs.drop 1) rfl L.out.1 L.out.2 (X.out _ ((y _ _).alloc (y _ _).size _)) di ?_;intro c d J o l;obtain ⟨r,s,m,K⟩:=Pb l;have R0:=aq r;have R1:=aq s;have N:=aq m;have R:=aq K;have P:=aq o;obtain ⟨p0,p1,p2,p3,p4,p5⟩:=aQ r;obtain ⟨s0,s1,s2,s3,s4,s5⟩:=aQ s;obtain ⟨y0,y1,y2,y3,y4,y5⟩:=mn s;have f3:=dD r 3;clear r s m K o l));go_region;go_wp2_with fail;rw [D.out];have Q:=fj (fT R1.out ⟨w.heap.size,3,none⟩ (.slice c (b-1) d) cb) (.u B) (.u e) (.bool u) (.slice c (b-1) d) (.slice a2 j c2) (.i q);have M:=(((bj.nil (w.heap.size+1+1) (w.heap.size+1+1) J).snoc (aE c (b-1) d (xs.drop 1)) _ J.heap.size P.out (G1 _) (G1 _) (G1 _) (by have:=R.out;omega)).set ⟨w.heap.size,3,none⟩ (.slice c (b-1) d) (.inl cb)).put6 (w.heap.size+1) (.inl ab) (.u B) (.u e) (.bool u) (.slice c (b-1) d) (.slice a2 j c2) (.i q);have O:=dE (N.out.setCell (p:=⟨w.heap.size,3,none⟩) (G1 _) (.slice c (b-1) d)) (g:=w.heap.size+1) ab (.u B) (.u e) (.bool u) (.slice c (b-1) d) (.slice a2 j c2) (.i q);exact A9 (bM results96 _ _ _ _ _ _ _ rfl (Bz Q) underlying27 rfl aU) rfl ⟨c,d,rfl,cQ (dc (M.own _ (L6.2 rfl)) (Below.refl _ _).drew) ab,O.drew⟩
theorem EO (s:Bool) (a1:Option D1) (l c1:Nat) (a2:Option D1) (b c2:Nat) (r:Int) (x:Int) (xs ys:List Int) (t E:Nat) (w:C5) (hy:ys.length=b) (G:b<4096) (C:t<=E) (D:E<=w.heap.size) (J:bj t E w (eX a1 l c1 xs a2 b c2 ys)): C6 prog 97 #[.agg #[.u B,.u e,.bool s,.slice a1 l c1,.slice a2 b c2,.i r],.u 268435456,.i 1,.u x] w λcm u=>∃ (c:Option D1) (d:Nat),cm=.returned (.tuple #[.agg #[.u B,.u e,.bool s,.slice a1 l c1,.slice c (b+1) d,.i r],.bool true])/\u.ownsRow w.heap.size 5 1 (.slice c (b+1) d) (b+1) ((ys++[IntKind.u8.wrap x]).map (K1 .u8))/\Bw w u:=by
 have R:=J.out_
 have A:∀ S T,Bw w ((w.alloc S).alloc T):=λS T=>eD
 have dd:decide ((b:Int)<4096):=by simp;omega
 have HS:Hid (∀ u,Bw w u->Sl .u8 u a2 ys):=λu hb=>R.below hb
 have I:Hid (ys.length=b/\b<4096):=⟨hy,G⟩
 have HF:Hid (bj t E w (eX a1 l c1 xs a2 b c2 ys)):=J
 have HE2:Hid (t<=E/\E<=w.heap.size):=⟨C,D⟩
 have Q:=jl ((w.alloc (.cells #[.u B,.u e,.bool s,.slice a1 l c1,.slice a2 b c2,.i r] 27)).alloc (.cells #[.u 0,.u 0,.bool false,.slice none 0 0,.slice none 0 0,.i 0] 27)) (w.heap.size+1+1) di (.cells #[] 5 (0,0)) rfl
 rw [K0,K0] at Q
 obtain ⟨i0,hi,K,L,M⟩:=info_parts info5
 clear R J C D hy G
 rw [show IntKind.u8.wrap x=x%256 from IntKind.wrap_u8 x]
 go_enter func97,ntmps97
 go_wp2_with (first
  | (at_builtin;refine it rfl (.tmp 51) (.tmp 53) rfl (w.heap.size+1+1) _ rfl Q a2 b c2 ys rfl I.out.1 (by have:=I.out.2;omega) (HS.out _ ((A _ _).alloc (A _ _).size _)) di ?_;intro b1 d1 w1 H y;obtain ⟨U,V,F,W⟩:=Pb y;have R0:=aq U;have R1:=aq V;have Y:=aq F;have P:=aq W;have O:=aq H;clear U V F W H y)
  | (at_builtin;refine wpList_append_own _ rfl (.tmp 54) (.tmp 57) 22 rfl (w.heap.size+1+1) 5 i0 (.int .u8 0) 1 1 underlying22 hi K L M rfl bc _ b (ys.map (K1 .u8)) rfl (dc O.out (bal _ _)) ⟨w1.heap.size,0,none⟩ 1 1 [.int .u8 (x%256)] rfl rfl (Pc _ _) ia (by have:=I.out.2;unfold maxLen;omega) (by have:=I.out.2;omega) (by have:=P.out;rw [K0];omega) ?_;intro v' N q z o;obtain ⟨c,d,rfl⟩:=K9 q;obtain ⟨f,j,m⟩:=Vy R0.out R1.out O.out z;have S0:=aq f;have S1:=aq j;have Z:=aq (Y.out.trans (m.mono ab));have Z2:=aq m.size;have O2:=aq q;obtain ⟨p0,p1,p2,p3,p4,p5⟩:=aQ f;obtain ⟨s0,s1,s2,s3,s4,s5⟩:=aQ j;obtain ⟨y0,y1,y2,y3,y4,y5⟩:=mn j;have f4:=dD f 4;clear f j m q z o))
 have T1:=fj (fT S1.out ⟨w.heap.size,4,none⟩ (.slice c (b+1) d) cb) (.u B) (.u e) (.bool s) (.slice a1 l c1) (.slice c (b+1) d) (.i r)
 have O3:N.ownsRow (w.heap.size+1+1) 5 1 (.slice c (b+1) d) (b+1) ((ys++[x%256]).map (K1 .u8)):=by rw [List.map_append];exact O2.out
 have X:=(((bj.nil (w.heap.size+1+1) (w.heap.size+1+1) N).snoc (aE c (b+1) d (ys++[x%256])) _ N.heap.size O3 (G1 _) (G1 _) (G1 _) (by have:=P.out;have:=Z2.out;omega)).set ⟨w.heap.size,4,none⟩ (.slice c (b+1) d) (.inl cb)).put6 (w.heap.size+1) (.inl ab) (.u B) (.u e) (.bool s) (.slice a1 l c1) (.slice c (b+1) d) (.i r)
 have B4:=dE (Z.out.setCell (p:=⟨w.heap.size,4,none⟩) (G1 _) (.slice c (b+1) d)) (g:=w.heap.size+1) ab (.u B) (.u e) (.bool s) (.slice a1 l c1) (.slice c (b+1) d) (.i r)
 exact A9 (cL results97 _ _ _ _ _ _ _ rfl T1 underlying27 rfl aU) rfl ⟨c,d,rfl,cQ (X.own _ (L6.2 rfl)) ab,B4⟩
def fE (w w':C5) (a1:Option D1) (c1:Nat) (xs:List Int) (a2:Option D1) (c2:Nat) (ys:List Int) (a:Option D1) (b:Nat) (zs:List Int) (b2:Option D1) (c:Nat) (us:List Int):Prop :=
 ((a=a1/\b=c1/\zs=xs)/\b2=a2/\c=c2/\us=ys) \/
 (w'.ownsRow w.heap.size 5 1 (.slice a zs.length b) zs.length (zs.map (K1 .u8))/\b2=a2/\c=c2/\us=ys) \/
 ((a=a1/\b=c1/\zs=xs)/\w'.ownsRow w.heap.size 5 1 (.slice b2 us.length c) us.length (us.map (K1 .u8))) \/
 bj w.heap.size w'.heap.size w' (eX a zs.length b zs b2 us.length c us)
theorem fE.same (w':C5) (a1:Option D1) (c1:Nat) (xs:List Int) (a2:Option D1) (c2:Nat) (ys:List Int):fE s w' a1 c1 xs a2 c2 ys a1 c1 xs a2 c2 ys:=.inl ⟨⟨rfl,rfl,rfl⟩,rfl,rfl,rfl⟩
theorem fE.below {w':C5} {a2:Option D1} {ys:List Int} {c:Option D1} {zs:List Int} {b2:Option D1} {e:Nat} {us:List Int} (h:fE x l f w a a2 n ys c k zs b2 e us) (hb:Bw l w'):fE x w' f w a a2 n ys c k zs b2 e us:=by
 rcases h with h|⟨xs,b⟩|⟨xs,b⟩|h;·exact .inl h
 ·exact .inr (.inl ⟨dc xs hb,b⟩)
 ·exact .inr (.inr (.inl ⟨xs,dc b hb⟩))
 ·exact .inr (.inr (.inr ((h.below hb).low (G1 _) hb.size)))
theorem EP (c1:Nat) (w:C5) (j:p.xs.length<=16) (hb:cS p) (l:z<=c1) (t:c1<=w.heap.size) (a2:bj z c1 w (eX b p.xs.length E p.xs o p.ys.length c p.ys)): C6 prog 96 #[.agg #[.u p.t,.u p.cm,.bool p.so,.slice b p.xs.length E,.slice o p.ys.length c,.i p.ir],.u e,.i q] w λaddr a=>∃ (a1:Option D1) (c2:Nat) (d:Option D1) (f:Nat),addr=.returned (.tuple #[.u (jz p (gF e q)).1,.agg (fl (jz p (gF e q)).2.1 a1 c2 d f),.bool (jz p (gF e q)).2.2])/\fE w a b E p.xs o c p.ys a1 c2 (jz p (gF e q)).2.1.xs d f (jz p (gF e q)).2.1.ys/\Bw w a:=by
 refine jW e q (λk=>C6 prog 96 #[.agg #[.u p.t,.u p.cm,.bool p.so,.slice b p.xs.length E,.slice o p.ys.length c,.i p.ir],.u e,.i q] w λaddr a=>∃ (a1:Option D1) (c2:Nat) (d:Option D1) (f:Nat),addr=.returned (.tuple #[.u (jz p k).1,.agg (fl (jz p k).2.1 a1 c2 d f),.bool (jz p k).2.2])/\fE w a b E p.xs o c p.ys a1 c2 (jz p k).2.1.xs d f (jz p k).2.1.ys/\Bw w a) ?_ ?_ ?_ ?_ ?_ ?_ ?_;·rintro rfl rfl;exact (K3 p.t p.cm p.so b _ E o _ c p.ir w).mono λaddr a h=>⟨b,E,o,c,h.1,fE.same _ _ _ _ _ _ _ _,h.2⟩
 ·rintro rfl rfl;exact (K4 p.t p.cm p.so b _ E o _ c p.ir w).mono λaddr a h=>⟨b,E,o,c,h.1,fE.same _ _ _ _ _ _ _ _,h.2⟩
 ·rintro rfl rfl;exact (K5 p.t p.cm p.so b _ E o _ c p.ir w).mono λaddr a h=>⟨b,E,o,c,h.1,fE.same _ _ _ _ _ _ _ _,h.2⟩
 ·rintro rfl rfl;rcases Nat.eq_zero_or_pos p.xs.length with i|i
  ·have D:p.xs=[]:=O1.1 i;have h:=IY p.t p.cm p.so b E o p.ys.length c p.ir w;rw [i];refine h.mono λaddr a h=>⟨b,E,o,c,?_,?_,h.2⟩;·rw [h.1];simp only [jz,fl,D];rfl
   ·simp only [jz,D];exact fE.same _ _ _ _ _ _ _ _
  ·obtain ⟨g,rfl,m,n⟩:=IZ a2 i;unfold maxLen at n;have u:=jg hb.1 0;refine (Jz p.t p.cm p.so g 0 p.xs.length E o p.ys.length c p.ir p.xs p.ys z c1 w rfl rfl i j m ab l t a2 u).mono λaddr a h=>?_;obtain ⟨a1,c2,size,r,s⟩:=h;refine ⟨a1,c2,o,c,?_,.inr (.inl ⟨?_,rfl,rfl,?_⟩),s⟩;·rw [size];simp only [jz,fl,N1]
   ·simp only [jz,N1];exact r
   ·simp only [jz]
 ·rintro rfl rfl;exact (K6 p.t p.cm p.so b _ E o _ c p.ir w).mono λaddr a h=>⟨b,E,o,c,h.1,fE.same _ _ _ _ _ _ _ _,h.2⟩
 ·rintro rfl rfl;exact (K7 p.t p.cm p.so b _ E o _ c p.ir ab w).mono λaddr a h=>⟨b,E,o,c,h.1,fE.same _ _ _ _ _ _ _ _,h.2⟩
 ·intro v x y B A C;exact (K8 p.t p.cm p.so b _ E o _ c p.ir e q v x y B A C w).mono λaddr a h=>⟨none,0,none,0,h.1,.inr (.inr (.inr (gy _ _ _))),h.2⟩
theorem EQ (i:I5 (A6 .and .u64 e 1)=y):C6 prog 97 #[.agg #[.u p.t,.u p.cm,.bool p.so,.slice b p.xs.length E,.slice o p.ys.length c,.i p.ir],.u 268435457,.i 1,.u e] s λx a=>∃ (a1:Option D1) (d:Nat) (c2:Option D1) (f:Nat),x=.returned (.tuple #[.agg (fl ((⟨p.t,p.cm,p.so,p.xs,p.ys,y⟩,true):DV × Bool).1 a1 d c2 f),.bool ((⟨p.t,p.cm,p.so,p.xs,p.ys,y⟩,true):DV × Bool).2])/\fE s a b E p.xs o c p.ys a1 d ((⟨p.t,p.cm,p.so,p.xs,p.ys,y⟩,true):DV × Bool).1.xs c2 f ((⟨p.t,p.cm,p.so,p.xs,p.ys,y⟩,true):DV × Bool).1.ys/\Bw s a:=by have g:=I8 p.t p.cm p.so b p.xs.length E o p.ys.length c p.ir e s;rw [i] at g;exact g.mono λx a h=>⟨b,E,o,c,h.1,fE.same _ _ _ _ _ _ _ _,h.2⟩
theorem B9 (c1:Nat) (w:C5) (i:p.ys.length<=4096) (j:z<=c1) (size:c1<=w.heap.size) (x:bj z c1 w (eX b p.xs.length E p.xs o p.ys.length c p.ys)): C6 prog 97 #[.agg #[.u p.t,.u p.cm,.bool p.so,.slice b p.xs.length E,.slice o p.ys.length c,.i p.ir],.u e,.i q,.u r] w λaddr a=>∃ (a1:Option D1) (d:Nat) (c2:Option D1) (f:Nat),addr=.returned (.tuple #[.agg (fl (fU p r (gF e q)).1 a1 d c2 f),.bool (fU p r (gF e q)).2])/\fE w a b E p.xs o c p.ys a1 d (fU p r (gF e q)).1.xs c2 f (fU p r (gF e q)).1.ys/\Bw w a:=by
 refine jW e q (λk=>C6 prog 97 #[.agg #[.u p.t,.u p.cm,.bool p.so,.slice b p.xs.length E,.slice o p.ys.length c,.i p.ir],.u e,.i q,.u r] w λaddr a=>∃ (a1:Option D1) (d:Nat) (c2:Option D1) (f:Nat),addr=.returned (.tuple #[.agg (fl (fU p r k).1 a1 d c2 f),.bool (fU p r k).2])/\fE w a b E p.xs o c p.ys a1 d (fU p r k).1.xs c2 f (fU p r k).1.ys/\Bw w a) ?_ ?_ ?_ ?_ ?_ ?_ ?_;·rintro rfl rfl;rw [GH];exact (I0 p.t p.cm p.so b _ E o _ c p.ir r w).mono λaddr a h=>⟨b,E,o,c,h.1,fE.same _ _ _ _ _ _ _ _,h.2⟩
 ·rintro rfl rfl;rw [GI];exact (I6 p.t p.cm p.so b _ E o _ c p.ir r w).mono λaddr a h=>⟨b,E,o,c,h.1,fE.same _ _ _ _ _ _ _ _,h.2⟩
 ·rintro rfl rfl;rw [GJ];exact (I7 p.t p.cm p.so b _ E o _ c p.ir r w).mono λaddr a h=>⟨b,E,o,c,h.1,fE.same _ _ _ _ _ _ _ _,h.2⟩
 ·rintro rfl rfl;by_cases g:p.ys.length<4096
  ·rw [zF p r g];refine (EO p.t p.cm p.so b _ E o _ c p.ir r p.xs p.ys z c1 w rfl g j size x).mono λaddr a h=>?_;obtain ⟨m,n,a2,i,D⟩:=h;have l:(p.ys++[IntKind.u8.wrap r]).length=p.ys.length+1:=(by rw [List.length_append];rfl);refine ⟨b,E,m,n,?_,.inr (.inr (.inl ⟨⟨rfl,rfl,rfl⟩,?_⟩)),D⟩;·rw [a2];dsimp only [fl];rw [l]
   ·dsimp only;rw [l];exact i
  ·rw [zG p r g];exact (Ef p.t p.cm p.so b _ E o _ c p.ir r g i w).mono λaddr a h=>⟨b,E,o,c,h.1,fE.same _ _ _ _ _ _ _ _,h.2⟩
 ·rintro rfl rfl;rw [GK];exact EQ p b E o c r w _ rfl
 ·rintro rfl rfl;rw [GL];exact (I9 p.t p.cm p.so b _ E o _ c p.ir r w).mono λaddr a h=>⟨b,E,o,c,h.1,fE.same _ _ _ _ _ _ _ _,h.2⟩
 ·intro s t u v y B;rw [GM];exact (Ja p.t p.cm p.so b _ E o _ c p.ir r e q s t u v y B w).mono λaddr a h=>⟨none,0,none,0,h.1,.inr (.inr (.inr (gy _ _ _))),h.2⟩
theorem Ca:B=3860\/B=769\/B=256\/B=260\/B=324\/((B==3860)=false/\(B==769)=false/\(B==256)=false/\(B==260)=false/\(B==324)=false):=by simp only [beq_eq_false_iff_ne];omega
theorem ER (hz:t.length=22) (hs:Sl .u64 s b t) (hk:dB e): CB 106 #[.slice b 22 E,.i e] s (.u (dF t e)):=by
 obtain ⟨a,d,rfl,p,g⟩:=hs 0 ab;have cell:∀ j,j<22->s.cell? ⟨a,d+j,none⟩=some (.u (t.getD j 0)):=by intro j L;obtain ⟨K,w,n,_,C⟩:=hs j ab;simp only [Option.some.injEq,Addr.mk.injEq,and_true] at n;obtain ⟨rfl,rfl⟩:=n;exact C
 rcases Ca e with rfl|rfl|rfl|rfl|rfl|⟨m,o,r,d4,d5⟩;·go_enter func106,ntmps106;exact a0f
 ·go_enter func106,ntmps106;exact a0f
 ·have F:Hid (dF t 256=A6 .and .u64 (t.getD 0 0) 786722):=(rfl:dF t 256=_);have cap:=cell 0 ab;rw [Nat.add_zero] at cap;clear cell g;generalize t.getD 0 0=y at *;go_enter func106,ntmps106;exact a0b
 ·have F:Hid (dF t 260=A6 .and .u64 (t.getD 3 0) (t.getD 2 0)):=(rfl:dF t 260=_);have H:=cell 3 ab;have G:=cell 2 ab;clear cell g;generalize t.getD 3 0=y at *;generalize t.getD 2 0=z at *;go_enter func106,ntmps106;go_wp2_with fail;go_quiet (fail)
  go_wp2_with fail;go_ret;exact ⟨bh,⟨rfl,rfl,rfl,G1 _,λ_ _=>rfl⟩⟩
 ·have F:Hid (dF t 324=A6 .and .u64 (t.getD 9 0) (t.getD 2 0)):=(rfl:dF t 324=_);have H:=cell 9 ab;have G:=cell 2 ab;clear cell g;generalize t.getD 9 0=y at *;generalize t.getD 2 0=z at *;go_enter func106,ntmps106;go_wp2_with fail;go_quiet (fail)
  go_wp2_with fail;go_ret;exact ⟨bh,⟨rfl,rfl,rfl,G1 _,λ_ _=>rfl⟩⟩
 ·have D:0<=cN e:=(by simp only [dB,m,o,I3,JZ6] at hk;exact hk);have B:=rO e;obtain ⟨k,c⟩:∃ k:Nat,cN e=(k:Int):=⟨(cN e).toNat,ab⟩;have I:k<22:=ab;have F:Hid (dF t e=t.getD k 0):=(by show _=_;simp only [beq_eq_false_iff_ne] at m o r d4 d5;unfold dF;rw [JZ9 m,JZ9 o,JZ9 r,JZ9 d4,JZ9 d5,c,Int.toNat_natCast]);have l:Hid (∀ s,CB 108 #[.i e] s (.i (k:Int))):=(by rw [<- c];exact dH e);have u:Hid (s.cell? ⟨a,d+k,none⟩=some (.u (t.getD k 0))):=cell k I;clear cell g c B D hk;generalize t.getD k 0=y at *;go_enter func106,ntmps106;go_wp2_with fail;refine (l.out _).mono ?_;rintro n J ⟨rfl,f⟩;have A:J.cell? ⟨a,d+k,none⟩=some (.u y):=(f.cell (by exact p)).trans u.out;go_wp2_with fail;go_ret;exact ⟨bh,f⟩
def qN (w:C5) (p:Option D1) (l:List (Nat × Nat × Nat)):Prop:=∀ k,k<l.length->∃ g,p=some ⟨g,0,none⟩/\g<w.heap.size/\w.cell? ⟨g,k*3,none⟩=some (.i (l.getD k (0,0,0)).1) /\
 w.cell? ⟨g,k*3+1,none⟩=some (.i (l.getD k (0,0,0)).2.1)/\w.cell? ⟨g,k*3+2,none⟩=some (.i (l.getD k (0,0,0)).2.2)
def pc (p:Nat × Nat × Nat):List Value:=[.i p.1,.i p.2.1,.i p.2.2]
theorem LL (A:Obj) (cs:Array Value) (t:TypeId) (l:List (Nat × Nat × Nat)) (h:cs=(l.flatMap pc).toArray):qN ((s.alloc A).alloc (.cells cs t)) (some ⟨s.heap.size+1,0,none⟩) l:=by
 subst h;intro k a;have b:((s.alloc A).alloc (.cells (l.flatMap pc).toArray t)).heap[s.heap.size+1]?=some (.cells (l.flatMap pc).toArray t (0,0)):=F0 _ _ _;have e:∀ j,j<3->((s.alloc A).alloc (.cells (l.flatMap pc).toArray t)).cell? ⟨s.heap.size+1,k*3+j,none⟩=(pc (l.getD k (0,0,0)))[j]?:=by intro j c;rw [D4 _ _ _ _ _ _ b];have:=vu pc 3 l (by intro x _;rfl) k a j c;rw [show l.getD k (0,0,0)=l[k] by simp [P2,a],<- this];simp
 exact ⟨_,rfl,di,e 0 bc,e 1 bc,e 2 bc⟩
theorem yC (p:Option D1):qN s p []:=by intro k a;simp at a
theorem oH:(prog.info? 261).map (·.size)=some 5:=by kernel_rfl
theorem zP: C6 prog 211 #[.string D.str] s λe b=>∃ p,e=.returned (.agg #[.bool D.hasRd,.bool D.hasA,.bool D.hasB,.slice p D.pcs.length D.pcs.length,.i D.width])/\Hid (qN b p D.pcs)/\Bw s b:=by
 cases D
 case r =>
  simp only [Fm.str]
  go_enter func211,ntmps211
  go_wp2_with fail
  exact A9 (D2 results211 _ _ _ _ _ _ _ rfl (D3 _ _) underlying261 rfl oH) rfl ⟨none,rfl,yC _ _,bal _ _⟩
 case x =>
  simp only [Fm.str]
  go_enter func211,ntmps211
  go_wp2_with fail
  exact A9 (D2 results211 _ _ _ _ _ _ _ rfl (D3 _ _) underlying261 rfl oH) rfl ⟨none,rfl,yC _ _,bal _ _⟩
 all_goals (
  simp only [Fm.str]
  go_enter func211,ntmps211
  go_wp2_with fail
  exact A9 (D2 results211 _ _ _ _ _ _ _ rfl (D8 _ _ _) underlying261 rfl oH) rfl ⟨some ⟨s.heap.size+1,0,none⟩,rfl,LL _ _ _ _ _ rfl,(bal _ _).alloc di _⟩)
def qO (x:Int) (l:List (Nat × Nat × Nat)):Int:=l.foldl (λa p=>A6 .or .u64 a (Uz.wrap (de x p.1 p.2.1*2^p.2.2))) 0
def LO (f:Fm) (x:Int):Int:=if f.hasRd then de x 7 5 else 0
def aV (f:Fm) (x:Int):Int:=if f.hasA then de x 15 5 else 0
def bV (f:Fm) (x:Int):Int:=if f.hasB then de x 20 5 else 0
theorem JA (l:List (Nat × Nat × Nat)) (k:Nat) (h:k<l.length):A6 .or .u64 (qO B (l.take k)) (Uz.wrap (de B (l.getD k (0,0,0)).1 (l.getD k (0,0,0)).2.1*2^(l.getD k (0,0,0)).2.2))=qO B (l.take (k+1)):=by
 have e:l.getD k (0,0,0)=l[k]:=by simp [P2,h]
 rw [e,List.take_succ_eq_append_getElem h];simp only [qO,List.foldl_append,R4,R5]
theorem qN.below {w':List (Nat × Nat × Nat)} (h:qN x f w') (hb:Bw x l):qN l f w':=by intro k p;obtain ⟨g,e,a,b,c,d⟩:=h k p;exact ⟨g,e,Nat.lt_of_lt_of_le a hb.size,(hb.cell (by exact a)).trans b,(hb.cell (by exact a)).trans c,(hb.cell (by exact a)).trans d⟩
theorem dp (hb:Bw x l) {g:Nat} {o:Obj} (h:x.heap[g]?=some o):l.heap[g]?=some o:=by
 rw [hb.block g ?_];·exact h
 ·obtain ⟨a,_⟩:=Array.getElem?_eq_some_iff.1 h;exact a
theorem Cb (h:Below w x l) (n:Nat):Below w x (l.drewN n):=⟨h.os,h.tape,h.output,h.size,h.block⟩
theorem LP (a:0<=B) (b:B<18446744073709551616) (hk:E<64) (hn:m<64) (w:C5):
 C6 prog 31 #[.u B,.i E,.i m] w λe c=>e=.returned (.u (de B E m))/\∃ n,c=w.drewN n :=
 (bJ B E m a b hk hn w).mono λ_ _ h=>⟨h.1,1,h.2⟩
theorem oI:(#[K1 .i64 B,.i e,.i q,.i r,.i y]:Array Value).all (·.oneCell'):=by simp [Value.oneCell']
theorem fR:(prog.info? 88).map (·.size)=some 5:=by kernel_rfl
theorem vF (h0:0<=e) (h1:e<18446744073709551616) (w:C5): CB 185 #[.i B,.string D.str,.u e] w (.agg #[.i B,.i (LO D e),.i (aV D e),.i (bV D e),.i (I5 (ay D.width (qO e D.pcs)))]):=by
 have G:=zP D
 obtain ⟨b1,f⟩:∃ b,b=D.hasRd:=⟨_,rfl⟩
 obtain ⟨b2,E⟩:∃ b,b=D.hasA:=⟨_,rfl⟩
 obtain ⟨b3,F⟩:∃ b,b=D.hasB:=⟨_,rfl⟩
 obtain ⟨l,Y⟩:∃ l,l=D.pcs:=⟨_,rfl⟩
 obtain ⟨op,t⟩:∃ op,op=D.width:=⟨_,rfl⟩
 obtain ⟨s,hs⟩:∃ s,s=D.str:=⟨_,rfl⟩
 have W1:1<=op:=by rw [t];cases D<;>decide
 have W2:op<=64:=by rw [t];cases D<;>decide
 have PB:Hid (∀ p ∈ l,p.1<64/\p.2.1<64/\p.2.2<64):=by
  show ∀ p ∈ l,p.1<64/\p.2.1<64/\p.2.2<64
  rw [Y];cases D<;>decide
 have LB:l.length<=4:=by rw [Y];cases D<;>decide
 rw [<- f,<- E,<- F,<- Y,<- t,<- hs] at G
 have R1:Hid (LO D e=if b1 then de e 7 5 else 0):=by show _=_;rw [LO,f]
 have R2:Hid (aV D e=if b2 then de e 15 5 else 0):=by show _=_;rw [aV,E]
 have R3:Hid (bV D e=if b3 then de e 20 5 else 0):=by show _=_;rw [bV,F]
 rw [<- hs,<- Y,<- t]
 clear f E F Y t hs
 obtain ⟨Z,I⟩:∃ y,y=de e 7 5:=⟨_,rfl⟩
 obtain ⟨y2,J⟩:∃ y,y=de e 15 5:=⟨_,rfl⟩
 obtain ⟨y3,K⟩:∃ y,y=de e 20 5:=⟨_,rfl⟩
 have B1:=bJ e 7 5 h0 h1 bc bc
 have B2:=bJ e 15 5 h0 h1 bc bc
 have B3:=bJ e 20 5 h0 h1 bc bc
 have L1:0<=Z/\Z<32:=by rw [I];exact kL e 7 5
 have L2:0<=y2/\y2<32:=by rw [J];exact kL e 15 5
 have L3:0<=y3/\y3<32:=by rw [K];exact kL e 20 5
 have V1:I5 Z=Z:=L0 _ ab
 have V2:I5 y2=y2:=L0 _ ab
 have V3:I5 y3=y3:=L0 _ ab
 rw [<- I] at B1 R1
 rw [<- J] at B2 R2
 rw [<- K] at B3 R3
 clear I J K L1 L2 L3
 have R:Hid (∀ w:C5,C6 prog 31 #[.u e,.i 7,.i 5] w λx u=>x=.returned (.u Z)/\u=w.drew):=B1
 have S:Hid (∀ w:C5,C6 prog 31 #[.u e,.i 15,.i 5] w λx u=>x=.returned (.u y2)/\u=w.drew):=B2
 have T:Hid (∀ w:C5,C6 prog 31 #[.u e,.i 20,.i 5] w λx u=>x=.returned (.u y3)/\u=w.drew):=B3
 clear B1 B2 B3
 cases b1<;>cases b2<;>cases b3
 all_goals (
  go_enter func185,ntmps185
  go_wp2_with fail
  refine (G _).mono ?_
  rintro x d ⟨p,rfl,hP,c⟩
  clear G
  have Q:Hid (d.heap[w.heap.size]?=some (.cells #[.i 0,.i 0,.i 0,.i 0,.i 0] 88 (0,0))):=by
   show _=_
   rw [c.block _ di];exact D3 _ _
  have hsz:w.heap.size<d.heap.size:=by have:=c.size;simp at this;omega
  go_wp2_with (go_at_call 31;first | (with_reducible refine (R.out _).mono ?_;rintro x w2 ⟨rfl,rfl⟩) | (with_reducible refine (S.out _).mono ?_;rintro x w2 ⟨rfl,rfl⟩) | (with_reducible refine (T.out _).mono ?_;rintro x w2 ⟨rfl,rfl⟩))
  go_loopw [9,37] (λacc i wr=>∃ k:Nat,k<=l.length/\i=.i k/\acc=.u (qO e (l.take k))/\∃ N O P:Int,∃ c1 c2 c3:Bool,Hid (N=LO D e)/\Hid (O=aV D e)/\Hid (P=bV D e) /\
   Hid (wr.heap[w.heap.size]?=some (.cells #[.i 0,.i 0,.i 0,.i 0,.i 0] 88 (0,0))) /\
   Hid (wr.heap[d.heap.size]?=some (.cells #[.bool c1,.bool c2,.bool c3,.slice p l.length l.length,.i op] 261 (0,0))) /\
   Hid (wr.heap[d.heap.size+1]?=some (.cells #[.i B,.i N,.i O,.i P,.i 0] 88 (0,0))) /\
   Hid (qN wr p l)/\Bw w wr)
   (λ_ i _=>l.length-(intOf i).toNat)
  case atStart =>
   have hb0:=((bal _ _).trans (c.mono di):Bw w d)
   refine ⟨0,ab,rfl,rfl,_,_,_,_,_,_,?_,?_,?_,?_,D8 _ _ _,F0 _ _ _,?_,?_⟩
   ·show _=_;rw [R1.out];rfl
   ·show _=_;rw [R2.out];rfl
   ·show _=_;rw [R3.out];rfl
   ·exact dp l6 Q.out
   ·exact qN.below hP.out l6
   ·exact aa hb0 l6
  case round =>
   obtain ⟨k,hk,rfl,rfl,N,O,P,c1,c2,c3,Q1,Q2,Q3,G6,G7,G8,HP,o⟩:=hrel
   clear hP c Q
   by_cases H:k<l.length
   ·obtain ⟨g,hpg,hg,d0,d1,d2⟩:=HP.out k H
    subst hpg
    have AC:Hid (A6 .or .u64 (qO e (l.take k)) (Uz.wrap (de e (l.getD k (0,0,0)).1 (l.getD k (0,0,0)).2.1*2^(l.getD k (0,0,0)).2.2))=qO e (l.take (k+1))):=JA e l k H
    have V:=PB.out (l.getD k (0,0,0)) (by simp [P2,H])
    obtain ⟨⟨pa,pb,pt⟩,hq⟩:∃ q,q=l.getD k (0,0,0):=⟨_,rfl⟩
    rw [<- hq] at d0 d1 d2 AC V
    clear hq
    obtain ⟨W,X,PB5⟩:=V
    simp only at d0 d1 d2 W X PB5
    have C:=LP e pa pb h0 h1 W X
    obtain ⟨y,hy⟩:∃ y,y=de e pa pb:=⟨_,rfl⟩
    obtain ⟨z,L⟩:∃ z,z=qO e (l.take k):=⟨_,rfl⟩
    rw [<- hy] at C
    have AC2:Hid (A6 .or .u64 z (Uz.wrap (y*2^pt))=qO e (l.take (k+1))):=by
     show _=_
     rw [L,hy];exact AC.out
    have BQ:Hid (∀ w:C5,C6 prog 31 #[.u e,.i pa,.i pb] w λx u=>x=.returned (.u y)/\∃ m,u=w.drewN m):=C
    rw [<- L]
    clear C AC hy L
    go_wp2_with fail
    go_quiet (first | (go_at_call 31;with_reducible refine Calls.quiet_of (BQ.out _)))
    go_wp2_with fail
    go_roundw
    case rel=>
     have r:Bw wr ((wr.alloc (.cells #[.i pa,.i pb,.i pt] 264)).drewN nq):=Cb (bal _ _) nq
     exact ⟨k+1,ab,by go_num,by rw [<- AC2.out],N,O,P,c1,c2,c3,Q1,Q2,Q3,dp r G6.out,dp r G7.out,dp r G8.out,qN.below HP.out r,aa o r⟩
    case measure=>simp [intOf];omega
   ·have hkl:k=l.length:=by omega
    have A:l.take k=l:=List.take_of_length_le ab
    rw [A]
    subst hkl
    clear A R S T R1 R2 R3
    obtain ⟨z,L⟩:∃ z,z=qO e l:=⟨_,rfl⟩
    have HZ:Hid (z=qO e l):=L
    rw [<- L]
    clear L
    have e7:=D4 wr d.heap.size 4 _ _ _ G7.out
    have M:∀ j,wr.cell? ⟨d.heap.size+1,j,none⟩=_:=λj=>D4 wr (d.heap.size+1) j _ _ _ G8.out
    have e80:=M 0
    have e81:=M 1
    have e82:=M 2
    have e83:=M 3
    have e84:=M 4
    have f84:=frozen_of_row wr (d.heap.size+1) 4 _ _ G8.out
    have U:(wr.setCell ⟨d.heap.size+1,4,none⟩ (.i (I5 (ay op z)))).heap[w.heap.size]?=some (.cells #[.i 0,.i 0,.i 0,.i 0,.i 0] 88 (0,0)):=by
     rw [heap_setCell_other _ _ _ _ (by show w.heap.size≠d.heap.size+1;omega)];exact G6.out
    simp at e7 e80 e81 e82 e83 e84
    clear M
    go_wp2_with (first | (go_at_call 138;with_reducible refine (i8 z op W1 W2 _).mono ?_;rintro x w2 ⟨rfl,hw2⟩;have hw3:=hw2.symm;subst hw3) | (refine wpList_store_rowTo rfl 88 (.tmp 6) (.tmp 59) rfl rfl w.heap.size #[.i B,.i N,.i O,.i P,.i (I5 (ay op z))] rfl rfl 88 _ U fR rfl (oI B N O P _) ?_))
    refine A9 (D2 results185 _ _ _ _ _ _ _ rfl (setRow_heap _ _ _ _ _ _ U) underlying88 rfl fR) rfl ⟨?_,?_⟩
    ·rw [<- Q1.out,<- Q2.out,<- Q3.out,<- HZ.out]
    ·exact aK (o.setCell (by show w.heap.size<=d.heap.size+1;omega) _) (G1 _) _)
def nF:List (Nat × Bool)->Nat
 | []=>0
 | (n,b)::l=>(if b then 2^n-1 else 0)+2^n*nF l
def rZ:List (Nat × Bool)->Nat->Nat
 | [],_=>0
 | (n,b)::l,x=>(if b then x%2^n else 0)+2^n*rZ l (x/2^n)
theorem LQ:∀ (l:List (Nat × Bool)) (x:Nat),x &&& nF l=rZ l x:=by
 intro l;induction l with
 | nil=>intro x;simp [nF,rZ]
 | cons p l e =>
   intro x;obtain ⟨n,b⟩:=p;have d:0<2^n:=Nat.two_pow_pos n;have a:nF ((n,b)::l)/2^n=nF l:=(by rw [nF,Nat.add_mul_div_left _ _ d,Nat.div_eq_of_lt,Nat.zero_add];cases b<;>simp<;>omega);have c:nF ((n,b)::l)%2^n=if b then 2^n-1 else 0:=by rw [nF,Nat.add_mul_mod_self_left,Nat.mod_eq_of_lt];cases b<;>simp<;>omega
   rw [Jr x _ n,a,c,e,rZ];cases b;·simp
   ·simp only [if_true];rw [Lo,Nat.mod_mod];omega
theorem tA (l:List (Nat × Bool)) (a:0<=B) (b:B<4294967296) (hm:E=nF l) (hb:E<18446744073709551616):A6 .and .u64 B (E:Int)=(rZ l B.toNat:Nat):=by subst hm;rw [u64_and B _ a ab ab ab,Int.toNat_natCast,LQ]
theorem Uq (a:0<=B) (b:B<4294967296):A6 .and .u64 B 127=B%128:=by have h:=tA B 127 [(7,true)] a b bc bc;rw [show ((127:Nat):Int)=127 from rfl] at h;rw [h];simp [rZ];omega
theorem Pq (a:0<=B) (b:B<4294967296):A6 .and .u64 B 28799=B%128+B/4096%8*4096:=by have h:=tA B 28799 [(7,true),(5,false),(3,true)] a b bc bc;rw [show ((28799:Nat):Int)=28799 from rfl] at h;rw [h];simp [rZ];omega
theorem Ur (a:0<=B) (b:B<4294967296):A6 .and .u64 B 4261441663=B%128+B/4096%8*4096+B/33554432*33554432:=by have h:=tA B 4261441663 [(7,true),(5,false),(3,true),(10,false),(7,true)] a b bc bc;rw [show ((4261441663:Nat):Int)=4261441663 from rfl] at h;rw [h];simp [rZ];omega
theorem Us (a:0<=B) (b:B<4294967296):A6 .and .u64 B 4261445631=B%32768+B/33554432*33554432:=by have h:=tA B 4261445631 [(15,true),(10,false),(7,true)] a b bc bc;rw [show ((4261445631:Nat):Int)=4261445631 from rfl] at h;rw [h];simp [rZ];omega
theorem VD (a:0<=B) (b:B<4294967296):A6 .and .u64 B 4227887231=B%128+B/4096%8*4096+B/67108864*67108864:=by have h:=tA B 4227887231 [(7,true),(5,false),(3,true),(11,false),(6,true)] a b bc bc;rw [show ((4227887231:Nat):Int)=4227887231 from rfl] at h;rw [h];simp [rZ];omega
theorem VE (a:0<=B) (b:B<4294967296):A6 .and .u64 B 4160778367=B%128+B/4096%8*4096+B/134217728*134217728:=by have h:=tA B 4160778367 [(7,true),(5,false),(3,true),(12,false),(5,true)] a b bc bc;rw [show ((4160778367:Nat):Int)=4160778367 from rfl] at h;rw [h];simp [rZ];omega
theorem Ut (a:0<=B) (b:B<4294967296):A6 .and .u64 B 4193284223=B%128+B/4096%8*4096+B/1048576%32*1048576+B/134217728*134217728:=by have h:=tA B 4193284223 [(7,true),(5,false),(3,true),(5,false),(5,true),(2,false),(5,true)] a b bc bc;rw [show ((4193284223:Nat):Int)=4193284223 from rfl] at h;rw [h];simp [rZ];omega
theorem VF (a:0<=B) (b:B<4294967296):A6 .and .u64 B 4294967295=B:=by have h:=tA B 4294967295 [(32,true)] a b bc bc;rw [show ((4294967295:Nat):Int)=4294967295 from rfl] at h;rw [h];simp [rZ];omega
def yD (k:Nat) (r:Row):Bool:=decide (0<=r.op/\r.op<128/\0<=r.more/\(k=97->r.fm=.r)/\(k=62\/k=73->r.fm=.a)) &&
 (match r.fm with
 | .r=>decide (r.more<128/\0<=r.f3/\r.f3<8)
 | .w=>decide (r.more<128/\0<=r.f3/\r.f3<8)
 | .h=>decide (r.more<64/\0<=r.f3/\r.f3<8)
 | .a=>decide (r.more<32/\0<=r.f3/\r.f3<8)
 | .x=>decide (r.more<4096/\r.f3=0)
 | .u=>decide (r.more=0/\r.f3=-1)
 | .j=>decide (r.more=0/\r.f3=-1)
 | _=>decide (r.more=0/\0<=r.f3/\r.f3<8))
theorem GS:∀ k,k<98->yD k (ce k):=by
 have h:(List.range 98).all (λk=>yD k (ce k)):=ba
 intro k a;exact List.all_eq_true.1 h k ta
theorem iy (d:0<=e) (k:e<128) (o:0<=q) (g:q<8) (h4:0<=r) (h:r<2^(32-D.at)) (i:D.at=0->r=0):vD D e q r=e+q*4096+r*2^D.at:=by
 unfold vD;have c:Uz.wrap (q*4096)=q*2^12:=by rw [I4];omega
 have e2:A6 .or .u64 e (q*2^12)=e+q*2^12:=mU e q 12 3 d ab o g ab ab;rw [c,e2];by_cases b:D.at=0;·have j:=i b;subst j;have e3:Uz.wrap (0*2^D.at)=0:=(by rw [Int.zero_mul];rfl);have e4:A6 .or .u64 (e+q*2^12) 0=e+q*2^12:=(by have:=mU (e+q*2^12) 0 0 1 ab ab ab ab ab;rw [u64_or _ _ ab ab ab ab];simp;omega);rw [e3,e4];omega
 ·have a:D.at=20\/D.at=25\/D.at=26\/D.at=27:=(by cases D<;>simp [Fm.at] at b ⊢);rcases a with a|a|a|a<;>rw [a] at h ⊢;·have e3:Uz.wrap (r*2^20)=r*2^20:=dv;rw [e3,mU (e+q*2^12) r 20 12 ab ab h4 ab ab ab];omega
  ·have e3:Uz.wrap (r*2^25)=r*2^25:=dv;rw [e3,mU (e+q*2^12) r 25 7 ab ab h4 ab ab ab];omega
  ·have e3:Uz.wrap (r*2^26)=r*2^26:=dv;rw [e3,mU (e+q*2^12) r 26 6 ab ab h4 ab ab ab];omega
  ·have e3:Uz.wrap (r*2^27)=r*2^27:=dv;rw [e3,mU (e+q*2^12) r 27 5 ab ab h4 ab ab ab];omega
theorem LS (r:Row) (hr:yD E r) (x:Int) (d:0<=x) (g:x<4294967296): (A6 .and .u64 x (i9 ((E:Int)+1) r.fm)==vD r.fm r.op r.f3z r.more)=decide (fO E r.fm r.op r.f3 r.more x):=by
 obtain ⟨k,f,o,z,m⟩:=r
 simp only [yD,H8,JZ6] at hr
 obtain ⟨⟨l,n,p,v,y⟩,t⟩:=hr
 simp only [Row.f3z]
 rw [Bool.eq_iff_iff,beq_iff_eq,decide_eq_true_iff]
 have C:∀ f,i9 98 f=A6 .or .u64 (Fm.mask f) 3968:=λf=>by rw [i9,JZ8 rfl]
 cases f
 case r =>
  simp only [JZ6] at t
  rw [JZ9 ab,iy .r o z m l n ab ab p la (by simp [Fm.at])]
  by_cases A:E=97
  ·subst A
   have e:i9 (((97:Nat):Int)+1) .r=4261445631:=bc
   rw [e,Us x d g]
   simp only [fO,Fm.at,forall_const]
   omega
  ·have e:i9 ((E:Int)+1) .r=4261441663:=by
    have D:¬ (E=62\/E=73):=λh=>by cases y h
    rw [i9,JZ9 ab,JZ9 ab];rfl
   rw [e,Ur x d g]
   simp only [fO,Fm.at]
   omega
 case a =>
  simp only [JZ6] at t
  have q:¬ E=97:=λh=>by cases v h
  rw [JZ9 ab,iy .a o z m l n ab ab p la (by simp [Fm.at])]
  by_cases A:E=62\/E=73
  ·have e:i9 ((E:Int)+1) .a=4193284223:=by
    rw [i9,JZ9 ab,JZ8 ab];decide
   rw [e,Ut x d g]
   simp only [fO,Fm.at]
   omega
  ·have e:i9 ((E:Int)+1) .a=4160778367:=by
    rw [i9,JZ9 ab,JZ9 ab];rfl
   rw [e,VE x d g]
   simp only [fO,Fm.at]
   omega
 all_goals (
  have q:¬ E=97:=λh=>by cases v h
  have B:¬ (E=62\/E=73):=λh=>by cases y h
  simp only [JZ6] at t
  rw [i9,JZ9 ab,JZ9 ab]
  simp only [Fm.mask])
 case h =>
  rw [JZ9 ab,iy .h o z m l n ab ab p la (by simp [Fm.at]),VD x d g]
  simp only [fO,Fm.at]
  omega
 case w =>
  rw [JZ9 ab,iy .w o z m l n ab ab p la (by simp [Fm.at]),Ur x d g]
  simp only [fO,Fm.at]
  omega
 case x =>
  rw [JZ9 ab,iy .x o z m l n ab ab p la (by simp [Fm.at]),VF x d g]
  simp only [fO,Fm.at]
  omega
 case u =>
  rw [JZ8 ab,iy .u o 0 m l n ab ab p la (by intro _;omega),Uq x d g]
  simp only [fO,Fm.at,and_true]
  omega
 case j =>
  rw [JZ8 ab,iy .j o 0 m l n ab ab p la (by intro _;omega),Uq x d g]
  simp only [fO,Fm.at,and_true]
  omega
 case i =>
  rw [JZ9 ab,iy .i o z m l n ab ab p la (by intro _;omega),Pq x d g]
  simp only [fO,Fm.at,and_true]
  omega
 case s =>
  rw [JZ9 ab,iy .s o z m l n ab ab p la (by intro _;omega),Pq x d g]
  simp only [fO,Fm.at,and_true]
  omega
 case b =>
  rw [JZ9 ab,iy .b o z m l n ab ab p la (by intro _;omega),Pq x d g]
  simp only [fO,Fm.at,and_true]
  omega
 case c =>
  rw [JZ9 ab,iy .c o z m l n ab ab p la (by intro _;omega),Pq x d g]
  simp only [fO,Fm.at,and_true]
  omega
theorem SO:de B E m=B/2^E%2^m:=rfl
theorem Ps (k:0<=e) (l:e<4294967296):qO e D.pcs=zJ D e:=by
 have Z:∀ y:Int,0<=y->y<18446744073709551616->A6 .or .u64 0 (Uz.wrap y)=y:=by
  intro y d g
  have x:Uz.wrap y=y:=by rw [I4];omega
  rw [x,u64_or 0 y ab ab d g]
  simp;omega
 have W:∀ y:Int,0<=y->y<18446744073709551616->Uz.wrap y=y:=by
  intro y d g
  rw [I4];omega
 cases D<;>simp only [Fm.pcs,qO,R4,R5,zJ,SO]
 case i=>rw [Z _ ab ab];omega
 case h=>rw [Z _ ab ab];omega
 case w=>rw [Z _ ab ab];omega
 case u=>rw [Z _ ab ab];omega
 case a=>rw [Z _ ab ab];omega
 case c=>rw [Z _ ab ab];omega
 case s =>
  rw [Z _ ab ab,W _ ab ab,mU _ (e/2^7%2^5) 0 5 ab ab ab ab ab ab]
  omega
 case b =>
  rw [Z _ ab ab,W _ ab ab,mU _ (e/2^7%2^1) 11 1 ab ab ab ab ab ab,
   W _ ab ab,mU _ (e/2^25%2^6) 5 6 ab ab ab ab ab ab,
   W _ ab ab,mU _ (e/2^8%2^4) 1 4 ab ab ab ab ab ab]
  omega
 case j =>
  rw [Z _ ab ab,W _ ab ab,mU _ (e/2^12%2^8) 12 8 ab ab ab ab ab ab,
   W _ ab ab,mU _ (e/2^20%2^1) 11 1 ab ab ab ab ab ab,
   W _ ab ab,mU _ (e/2^21%2^10) 1 10 ab ab ab ab ab ab]
  omega
def qP (k:Nat) (x:Int):Ins:=⟨(k:Int)+1,LO (ce k).fm x,aV (ce k).fm x,bV (ce k).fm x,n8 (ce k).fm x⟩
def mH (k:Nat) (x:Int):Bool:=decide (fO k (ce k).fm (ce k).op (ce k).f3 (ce k).more x)
def cy (x:Int):Nat->Nat->Option Nat
 | 0,_=>none
 | n+1,k=>if mH k x=true then some k else cy x n (k+1)
theorem tB (hk:E<98) (h:mH E B):cy B (98-E) E=some E:=by rw [show 98-E=(98-(E+1))+1 from ab,cy,JZ8 h]
theorem qQ (hk:E<98) (h:mH E B=false):cy B (98-E) E=cy B (98-(E+1)) (E+1):=by rw [show 98-E=(98-(E+1))+1 from ab,cy,JZ9 (by rw [h];decide)]
def Cc (x:Int):Option Ins:=if x<4294967296 then (cy x 98 0).map (λk=>qP k x) else none
def pY:Ins:=⟨0,0,0,0,0⟩
def mj (x:Int):Value:=match Cc x with
 | some i=>.tuple #[i.val,.bool true]
 | none=>.tuple #[pY.val,.bool false]
theorem Cd (h:¬ B<4294967296):mj B=.tuple #[pY.val,.bool false]:=by simp [mj,Cc,h]
theorem Ce (h:B<4294967296) (a:cy B 98 0=some E):mj B=.tuple #[(qP E B).val,.bool true]:=by simp [mj,Cc,h,a]
theorem yE (h:B<4294967296) (a:cy B 98 0=none):mj B=.tuple #[pY.val,.bool false]:=by simp [mj,Cc,h,a]
