/- Own lemmas. -/
import Derived.Test.YtfagphfjfhpmjaaGreatDoorAut
import Derived.Test.YtfagphfjfhpmjaaGreatDoorK04
import Derived.Test.YtfagphfjfhpmjaaGreatDoorK06
set_option maxRecDepth 100000
set_option maxHeartbeats 3200000
namespace Go.Proofs.YtfagphfjfhpmjaaGreatDoor
open Go.RowKit Tryz
open IntKind renaming u64->Uz
set_option linter.unusedVariables false
variable {x l:World} {w n k g:Nat} {a:List Int} {f:Option Addr} (p:DV) (b:Option Addr) (B:Int) (o:Fm) (D E:Nat) (m:Option Addr) (t:List Int) (c:Int) (d:Nat) (e:List Int) (q r:Int) (s:World) (y:Int) (z:Nat)
theorem lE (o:d<4) (w:World) (hz:t.length=22) (hs:Sl .u64 w b t): CE 200 #[.slice b 22 D,.i d] w (.u (dJ t d)):=by
 obtain ⟨a,f,rfl,j,m⟩:=hs 16 ab;have p:wrap64 (8*(d:Int))=((8*d:Nat):Int):=by unfold wrap64;omega
 have c:Uz.wrap ((8*d:Nat):Int)=((8*d:Nat):Int):=by rw [IntKind.wrap_u64];omega
 have i:8*d<64:=ab
 have F:Hid (dJ t d=bits .and .u64 (t.getD 16 0/2^(8*d)) 255):=(rfl:dJ t d=_);generalize t.getD 16 0=x at *;go_enter func200,ntmps200;exact a03
theorem kU (u:d<4) (w:World) (hz:t.length=22) (hs:Sl .u64 w b t): CE 204 #[.slice b 22 D,.i d] w (.bool (fA t d)):=by
 have p:Hid (CE 200 #[.slice b 22 D,.i d] w (.u (dJ t d))):=lE b D t d u w hz hs;have i:fA t d=((dJ t d/128==1)||(decide (d<3)&&(dJ t (d+1)/128==1)&&(bits .and .u64 (dJ t (d+1)/8) 3==1))):=rfl;cases r:(dJ t d/128==1) with
 | true =>have F:Hid (fA t d=true):=(by show _=_;rw [i,r];rfl);clear i;generalize dJ t d=y at *;go_enter func204,ntmps204;go_wp2_with fail;refine p.out.mono ?_;rintro e o ⟨rfl,a⟩;subst a;exact a03
 | false =>
   rw [r,Bool.false_or] at i;by_cases g:d<3
   ·have q:decide (d<3)=true:=v8;have s:decide ((d:Int)<3)=true:=bv;rw [q,Bool.true_and] at i;have A:wrap64 ((d:Int)+1)=((d+1:Nat):Int):=ka;have f:Hid (CE 200 #[.slice b 22 D,.i ((d+1:Nat):Int)] w (.u (dJ t (d+1)))):=lE b D t (d+1) ab w hz hs;clear hs;generalize dJ t d=y at *;generalize dJ t (d+1)=z at *;cases j:(z/128==1) with
    | true =>obtain ⟨c,l⟩:∃ c,(bits .and .u64 (z/8) 3==1)=c:=⟨_,rfl⟩;have F:Hid (fA t d=c):=(by show _=_;rw [i,j,l,Bool.true_and]);clear i;go_enter func204,ntmps204;go_wp2_with fail;refine p.out.mono ?_;rintro e o ⟨rfl,a⟩;subst a;go_wp2_with (go_at_call 200;refine f.out.mono ?_;rintro e o ⟨rfl,a⟩;subst a);go_ret;exact ⟨bh,rfl⟩
    | false =>have F:Hid (fA t d=false):=(by show _=_;rw [i,j,Bool.false_and]);clear i;go_enter func204,ntmps204;go_wp2_with fail;refine p.out.mono ?_;rintro e o ⟨rfl,a⟩;subst a;go_wp2_with (go_at_call 200;refine f.out.mono ?_;rintro e o ⟨rfl,a⟩;subst a);go_ret;exact ⟨bh,rfl⟩
   ·have q:decide (d<3)=false:=v8;have s:decide ((d:Int)<3)=false:=bv;have F:Hid (fA t d=false):=(by show _=_;rw [i,q];rfl);clear i q;generalize dJ t d=y at *;go_enter func204,ntmps204;go_wp2_with fail;refine p.out.mono ?_;rintro e o ⟨rfl,a⟩;subst a;exact a03
def i9 (l:List Int) (i:Nat):Int:=bits .and .u64 (dJ l i/8) 3
def fj (a:Int):Nat->Nat->Nat
 | 0,k=>k
 | n+1,k=>if (bits .and .u64 (a/2^k) 1==1)=true then fj a n (k+1) else k
theorem Le (hk:D<53) (h:(bits .and .u64 (B/2^D) 1==1)=true):fj B (53-D) D=fj B (53-(D+1)) (D+1):=by rw [show 53-D=(53-(D+1))+1 from ab,fj,if_pos h]
theorem EA (hk:D<53) (h:(bits .and .u64 (B/2^D) 1==1)=false):fj B (53-D) D=D:=by rw [show 53-D=(53-(D+1))+1 from ab,fj,if_neg (by rw [h];decide)]
def tu (a:Int) (k:Nat):Int:=Uz.wrap (bits .andNot .u64 a (Uz.wrap (Uz.wrap (2^(k+1))-1))*4)
def yz (a:Int) (k:Nat):Int:=Uz.wrap (Uz.wrap (tu a k+Uz.wrap (2^(k+3)))-1)
def kV (l:List Int) (i:Nat):Int:=if 0<i then Uz.wrap (l.getD (16+i) 0*4) else 0
def cZ (l:List Int) (i:Nat):Int × Int × Bool :=
 if (i9 l i==1)=true then (if Uz.wrap (l.getD (17+i) 0*4)<=kV l i then (0,0,false) else (kV l i,Uz.wrap (Uz.wrap (l.getD (17+i) 0*4)-1),true))
 else if (i9 l i==2)=true then (Uz.wrap (l.getD (17+i) 0*4),Uz.wrap (Uz.wrap (l.getD (17+i) 0*4)+3),true)
 else if (i9 l i==3)=true then (tu (l.getD (17+i) 0) (fj (l.getD (17+i) 0) 53 0),yz (l.getD (17+i) 0) (fj (l.getD (17+i) 0) 53 0),true)
 else (0,0,false)
theorem zL (Y:d<4) (w:World) (hz:t.length=22) (hs:Sl .u64 w b t): CE 199 #[.slice b 22 D,.i d] w (.tuple #[.u (cZ t d).1,.u (cZ t d).2.1,.bool (cZ t d).2.2]):=by
 obtain ⟨a,I,rfl,hb,Q⟩:=hs (17+d) ab;obtain ⟨b',R,K,_,P⟩:=hs (16+d) ab;simp only [Option.some.injEq,Addr.mk.injEq,and_true] at K;obtain ⟨rfl,rfl⟩:=K;have u:Hid (CE 200 #[.slice (some ⟨a,I,none⟩) 22 D,.i d] w (.u (dJ t d))):=lE _ D t d Y w hz hs;have Z:bits .and .u64 (dJ t d/8) 3=i9 t d:=rfl;have c:cZ t d=if (i9 t d==1)=true then (if Uz.wrap (t.getD (17+d) 0*4)<=kV t d then (0,0,false) else (kV t d,Uz.wrap (Uz.wrap (t.getD (17+d) 0*4)-1),true))
  else if (i9 t d==2)=true then (Uz.wrap (t.getD (17+d) 0*4),Uz.wrap (Uz.wrap (t.getD (17+d) 0*4)+3),true)
  else if (i9 t d==3)=true then (tu (t.getD (17+d) 0) (fj (t.getD (17+d) 0) 53 0),yz (t.getD (17+d) 0) (fj (t.getD (17+d) 0) 53 0),true)
  else (0,0,false):=rfl
 have m:kV t d=if 0<d then Uz.wrap (t.getD (16+d) 0*4) else 0:=rfl
 have X:wrap64 (17+(d:Int))=((17+d:Nat):Int):=by unfold wrap64;omega
 have W:wrap64 (16+(d:Int))=((16+d:Nat):Int):=by unfold wrap64;omega
 have T:0<=((17+d:Nat):Int)/\((17+d:Nat):Int)<((22:Nat):Int):=ab
 have S:0<=((16+d:Nat):Int)/\((16+d:Nat):Int)<((22:Nat):Int):=ab
 generalize cZ t d=r at *;generalize i9 t d=H at *;generalize dJ t d=cf at *;generalize kV t d=L at *;generalize t.getD (17+d) 0=x at *;generalize t.getD (16+d) 0=y at *;clear hs;cases M:(H==1) with
 | true =>
   rw [if_pos M] at c;have cap:(decide (0<d)=true/\L=Uz.wrap (y*4))\/(decide (0<d)=false/\L=0):=by
    by_cases p:0<d;·rw [if_pos p] at m;exact Or.inl ⟨by simpa using p,m⟩
    ·rw [if_neg p] at m;exact Or.inr ⟨by simpa using p,m⟩
   obtain ⟨l,ht⟩:∃ l,Uz.wrap (x*4)=l:=⟨_,rfl⟩;rw [ht] at c;clear m;rcases cap with ⟨cap,o⟩|⟨cap,o⟩
   ·rw [o] at c;obtain ⟨C,G⟩:∃ l,Uz.wrap (y*4)=l:=⟨_,rfl⟩;rw [G] at c;clear o;by_cases f:l<=C;·have i:decide (l<=C)=true:=kd;rw [if_pos f] at c;have F:Hid (r=(0,0,false)):=c;clear c f;go_enter func199,ntmps199;go_wp2_with fail;refine u.out.mono ?_;rintro e z ⟨rfl,g⟩;have j:=g.symm;subst j;go_wp2_with fail;go_ret3;exact ⟨bh,rfl⟩
    ·have i:decide (l<=C)=false:=kd;rw [if_neg f] at c;have F:Hid (r=(C,Uz.wrap (l-1),true)):=c;clear c f;go_enter func199,ntmps199;go_wp2_with fail;refine u.out.mono ?_;rintro e z ⟨rfl,g⟩;have j:=g.symm;subst j;go_wp2_with fail;go_ret3;exact ⟨bh,rfl⟩
   ·subst o;by_cases f:l<=0;·have i:decide (l<=0)=true:=kd;rw [if_pos f] at c;have F:Hid (r=(0,0,false)):=c;clear c f;go_enter func199,ntmps199;go_wp2_with fail;refine u.out.mono ?_;rintro e z ⟨rfl,g⟩;have j:=g.symm;subst j;go_wp2_with fail;go_ret3;exact ⟨bh,rfl⟩
    ·have i:decide (l<=0)=false:=kd;rw [if_neg f] at c;have F:Hid (r=(0,Uz.wrap (l-1),true)):=c;clear c f;go_enter func199,ntmps199;go_wp2_with fail;refine u.out.mono ?_;rintro e z ⟨rfl,g⟩;have j:=g.symm;subst j;go_wp2_with fail;go_ret3;exact ⟨bh,rfl⟩
 | false =>
   rw [if_neg (by rw [M];decide)] at c;cases N:(H==2) with
   | true =>rw [if_pos N] at c;have F:Hid (r=(Uz.wrap (x*4),Uz.wrap (Uz.wrap (x*4)+3),true)):=c;clear c m;go_enter func199,ntmps199;go_wp2_with fail;refine u.out.mono ?_;rintro e z ⟨rfl,g⟩;have j:=g.symm;subst j;go_wp2_with fail;go_ret3;exact ⟨bh,rfl⟩
   | false =>
     rw [if_neg (by rw [N];decide)] at c;cases O:(H==3) with
     | true =>
       rw [if_pos O] at c;have F:Hid (r=(tu x (fj x 53 0),yz x (fj x 53 0),true)):=c;clear c m;go_enter func199,ntmps199;go_wp2_with fail;refine u.out.mono ?_;rintro e z ⟨rfl,g⟩;have j:=g.symm;subst j;go_wp2_with fail;go_loopw [9] (λv wr=>∃ k:Nat,k<=53/\v=.u k/\Hid (fj x (53-k) k=fj x 53 0)/\wr=w)
        (λv _=>53-(intOf v).toNat)
       case atStart=>exact ⟨0,ab,rfl,(rfl:fj x (53-0) 0=fj x 53 0),rfl⟩
       case round =>
        obtain ⟨k,hk,rfl,E,rfl⟩:=hrel;have fin:Hid (fj x 53 0=k)->Hid (r=(tu x k,yz x k,true)):=λh=>by show r=_;rw [F.out,h.out]
        have U:((k:Int)+1)=((k+1:Nat):Int):=ab;have u1:Uz.wrap ((k:Int)+1)=((k+1:Nat):Int):=dm;have u3:Uz.wrap ((k:Int)+3)=((k+3:Nat):Int):=dm;clear U;by_cases B:k<53
        ·have V:decide ((k:Int)<53)=true:=bv;cases q:(bits .and .u64 (x/2^k) 1==1) with
         | true =>
           have A:Hid (fj x (53-(k+1)) (k+1)=fj x 53 0):=(Le x k B q).symm.trans E.out;clear fin u1 u3;go_wp2_with fail;go_roundw;case rel=>exact ⟨k+1,ab,by go_num,A,trivial⟩
           case measure=>simp [intOf];omega
         | false =>have A:=fin (E.out.symm.trans (EA x k B q));clear fin;go_wp2_with fail;go_ret3;exact ⟨by rw [A.out];rfl,rfl⟩
        ·have s:k=53:=ab;have A:=fin (E.out.symm.trans (by rw [s];rfl));have V:decide ((k:Int)<53)=false:=bv;clear fin s;go_wp2_with fail;go_ret3;exact ⟨by rw [A.out];rfl,rfl⟩
     | false =>rw [if_neg (by rw [O];decide)] at c;have F:Hid (r=(0,0,false)):=c;clear c m;go_enter func199,ntmps199;go_wp2_with fail;refine u.out.mono ?_;rintro e z ⟨rfl,g⟩;have j:=g.symm;subst j;go_wp2_with fail;go_ret3;exact ⟨bh,rfl⟩
theorem Sp (a b:Int) (w:World):CE 61 #[.i B,.i a,.i b] w (.bool (decide (a<=B/\B<=b))):=by
 by_cases c:a<=B
 ·by_cases d:B<=b;·have F:Hid (decide (a<=B/\B<=b)=true):=(by show decide (a<=B/\B<=b)=true;simp [c,d]);have f:decide (a<=B)=true:=kc;have g:decide (B<=b)=true:=kp;clear c d;go_enter func61,ntmps61;go_wp2;go_ret;exact ⟨bh,rfl⟩
  ·have F:Hid (decide (a<=B/\B<=b)=false):=(by show decide (a<=B/\B<=b)=false;simp [d]);have f:decide (a<=B)=true:=kc;have g:decide (B<=b)=false:=kp;clear c d;exact x9
 ·have F:Hid (decide (a<=B/\B<=b)=false):=(by show decide (a<=B/\B<=b)=false;simp [c]);have f:decide (a<=B)=false:=kc;clear c;exact x9
def TT (r:Int × Int × Bool) (x:Int):Bool:=r.2.2&&decide (r.1<=x)&&decide (x<=r.2.1)
def vF (l:List Int) (x:Int):Nat->Nat->Bool
 | 0,_=>false
 | n+1,k=>if TT (cZ l k) x=true then ((dJ l k/128==1)&&(bits .and .u64 (dJ l k/2) 1==0)) else vF l x n (k+1)
theorem OZ (hk:d<4) (h:TT (cZ t d) c=true):vF t c (4-d) d=((dJ t d/128==1)&&(bits .and .u64 (dJ t d/2) 1==0)):=by rw [show 4-d=(4-(d+1))+1 from ab,vF,if_pos h]
def bo (x s:Int):Int:=Uz.wrap (Uz.wrap (x+Uz.wrap s)-1)
def qI (r:Int × Int × Bool) (x y:Int):Bool:=!r.2.2||decide (y<r.1)||decide (r.2.1<x)
def O0 (r:Int × Int × Bool) (x y:Int):Bool:=decide (x<r.1)||decide (r.2.1<y)
def xD (b p kind:Int):Bool :=
 if ((p==3)&&(b/128==0))=true then true else if (kind==1)=true then (bits .and .u64 (b/4) 1==1) else if (kind==2)=true then (bits .and .u64 b 1==1) else (bits .and .u64 (b/2) 1==1)
def aB (l:List Int) (p x y kind:Int):Nat->Nat->Bool
 | 0,_=>(p==3)
 | n+1,k=>if qI (cZ l k) x y=true then aB l p x y kind n (k+1) else !O0 (cZ l k) x y&&xD (dJ l k) p kind
theorem Jd (hk:z<4) (h:qI (cZ t z) q r=true):aB t c q r y (4-z) z=aB t c q r y (4-(z+1)) (z+1):=by rw [show 4-z=(4-(z+1))+1 from ab,aB,if_pos h]
theorem Lf (hk:z<4) (h:qI (cZ t z) q r=false):aB t c q r y (4-z) z=(!O0 (cZ t z) q r&&xD (dJ t z) c y):=by rw [show 4-z=(4-(z+1))+1 from ab,aB,if_neg (by rw [h];decide)]
theorem mx (p x s kind:Int) (w:World) (hz:t.length=22) (hs:Sl .u64 w b t): CE 133 #[.slice b 22 D,.i p,.u x,.i s,.i kind] w (.bool (aB t p x (bo x s) kind 4 0)):=by
 have M:Uz.wrap (Uz.wrap (x+Uz.wrap s)-1)=bo x s:=rfl;generalize bo x s=y at *;have O:Hid (Sl .u64 w b t):=hs;have P:Hid (t.length=22):=hz;have V:Hid (True/\aB t p x y kind 4 0=aB t p x y kind 4 0):=⟨trivial,rfl⟩;clear hs hz V;go_enter func133,ntmps133;go_wp2_with fail;go_loopw [12] (λv wr=>∃ k:Nat,k<=4/\v=.i k/\Hid (aB t p x y kind (4-k) k=aB t p x y kind 4 0)/\wr=w)
  (λv _=>4-(intOf v).toNat)
 case atStart=>exact ⟨0,ab,rfl,(rfl:aB t p x y kind (4-0) 0=aB t p x y kind 4 0),rfl⟩
 case round =>
  obtain ⟨k,hk,rfl,K,rfl⟩:=hrel;clear M;by_cases m:k<4
  ·have dk:decide ((k:Int)<4)=true:=bv;have HR:Hid (CE 199 #[.slice b 22 D,.i k] wr (.tuple #[.u (cZ t k).1,.u (cZ t k).2.1,.bool (cZ t k).2.2])):=zL b D t k m wr P.out O.out;have W:Hid (CE 200 #[.slice b 22 D,.i k] wr (.u (dJ t k))):=lE b D t k m wr P.out O.out;have d:qI (cZ t k) x y=false->Hid (aB t p x y kind 4 0=(!O0 (cZ t k) x y&&xD (dJ t k) p kind)):=λh=>K.out.symm.trans (Lf t p x y kind k m h);have a:qI (cZ t k) x y=true->Hid (aB t p x y kind (4-(k+1)) (k+1)=aB t p x y kind 4 0):=λh=>(Jd t p x y kind k m h).symm.trans K.out;generalize cZ t k=r at *;generalize dJ t k=c at *;obtain ⟨B,C,H⟩:=r;simp only at HR;have S:qI (B,C,H) x y=(!H||decide (y<B)||decide (C<x)):=rfl;have T:O0 (B,C,H) x y=(decide (x<B)||decide (C<y)):=rfl;rw [S] at d a;rw [T] at d;clear S T;go_wp2_with fail;refine HR.out.mono ?_;rintro e w1 ⟨rfl,u⟩;have z:=u.symm;subst z;cases H with
   | false =>
     have g:=a (rfl);clear d a;go_wp2_with fail;go_roundw;case rel=>exact ⟨k+1,ab,by go_num,g,trivial⟩
     case measure=>simp [intOf];omega
   | true =>
     cases I:decide (y<B) with
     | true =>
       have g:=a (by rw [I];rfl);clear d a;go_wp2_with fail;go_roundw;case rel=>exact ⟨k+1,ab,by go_num,g,trivial⟩
       case measure=>simp [intOf];omega
     | false =>
       cases Q:decide (C<x) with
       | true =>
         have g:=a (by rw [I,Q];rfl);clear d a;go_wp2_with fail;go_roundw;case rel=>exact ⟨k+1,ab,by go_num,g,trivial⟩
         case measure=>simp [intOf];omega
       | false =>
         have g:=d (by rw [I,Q];rfl);clear d a;cases J:decide (x<B) with
         | true =>go_wp2_with fail;go_ret;exact ⟨by rw [g.out,J];rfl,rfl⟩
         | false =>
           cases R:decide (C<y) with
           | true =>go_wp2_with fail;go_ret;exact ⟨by rw [g.out,J,R];rfl,rfl⟩
           | false =>
             have G:Hid (aB t p x y kind 4 0=xD c p kind):=(by show _=_;rw [g.out,J,R];rfl);clear g;have cap:xD c p kind=if ((p==3)&&(c/128==0))=true then true else if (kind==1)=true then (bits .and .u64 (c/4) 1==1) else if (kind==2)=true then (bits .and .u64 c 1==1) else (bits .and .u64 (c/2) 1==1):=rfl
             go_wp2_with fail;refine W.out.mono ?_;rintro e w1 ⟨rfl,u⟩;have z:=u.symm;subst z;have f:((p==3)=true/\(c/128==0)=true)\/((p==3)=true/\(c/128==0)=false)\/(p==3)=false:=(by cases (p==3)<;>cases (c/128==0)<;>simp);generalize xD c p kind=E at *;rcases f with ⟨j,A⟩|f;·have o:Hid (E=true):=(by show _=_;rw [cap,j,A];rfl);clear cap;go_wp2_with fail;go_ret;exact ⟨by rw [G.out,o.out];rfl,rfl⟩
             ·have l:E=if (kind==1)=true then (bits .and .u64 (c/4) 1==1) else if (kind==2)=true then (bits .and .u64 c 1==1) else (bits .and .u64 (c/2) 1==1):=by
               rcases f with ⟨j,A⟩|j;·rw [cap,j,A];rfl
               ·rw [cap,j];rfl
              clear cap;obtain ⟨X,e1⟩:∃ q,(bits .and .u64 (c/4) 1==1)=q:=⟨_,rfl⟩;obtain ⟨Y,e2⟩:∃ q,(bits .and .u64 c 1==1)=q:=⟨_,rfl⟩;obtain ⟨Z,e3⟩:∃ q,(bits .and .u64 (c/2) 1==1)=q:=⟨_,rfl⟩;rw [e1,e2,e3] at l;cases N:(kind==1) with
              | true =>
                have o:Hid (E=X):=(by show _=_;rw [l,N];rfl);clear l;rcases f with ⟨j,A⟩|j;all_goals
                 go_wp2_with fail
                 go_ret
                 exact ⟨by rw [G.out,o.out];rfl,rfl⟩
              | false =>
                cases U:(kind==2) with
                | true =>
                  have o:Hid (E=Y):=(by show _=_;rw [l,N,U];rfl);clear l;rcases f with ⟨j,A⟩|j;all_goals
                   go_wp2_with fail
                   go_ret
                   exact ⟨by rw [G.out,o.out];rfl,rfl⟩
                | false =>
                  have o:Hid (E=Z):=(by show _=_;rw [l,N,U];rfl);clear l;rcases f with ⟨j,A⟩|j;all_goals
                   go_wp2_with fail
                   go_ret
                   exact ⟨by rw [G.out,o.out];rfl,rfl⟩
  ·have L:k=4:=ab;subst L;obtain ⟨q,hq⟩:∃ q,(p==3)=q:=⟨_,rfl⟩;have g:Hid (aB t p x y kind 4 0=q):=K.out.symm.trans hq;go_wp2_with fail;go_ret;exact ⟨vo,rfl⟩
def vG (n:Nat) (l:List Int) (p x s kind:Int):Bool:=bn n l p&&jf s&&decide (1<=kind/\kind<=3)&&!decide (bo x s<x)&&aB l p x (bo x s) kind 4 0
structure Fd where
 addr:Int
 code:Int
 marked:Bool
 at_:Int
 entry:Int
def Fd.cells (f:Fd):Array Value:=#[.u f.addr,.i f.code,.bool f.marked,.u f.at_,.u f.entry]
def eu (k:Int):Int:=if k=1 then 12 else if k=2 then 13 else 15
def dL (k:Int):Int:=if k=1 then 1 else if k=2 then 5 else 7
def bW (k:Int):Fd:=⟨0,eu k,false,0,0⟩
def fK (k:Int):Fd:=⟨0,dL k,false,0,0⟩
def bK (T va:Int) (lv:Nat):Int:=Uz.wrap (T+Uz.wrap (8*bits .and .u64 (va/2^(12+9*lv)) 511))
def fE (zs:List Int) (x:Int):Int:=le zs (x-2147483648).toNat 8
def pL (e:Int):Bool:=(bits .and .u64 e 1==0)||((ap e 1==0)&&(ap e 2==1))||(e/18014398509481984 != 0)
def ew (e:Int):Int:=bits .and .u64 (e/1024) 17592186044415
def mz (e:Int):Bool:=(ap e 1==0)&&(ap e 3==0)
def jk (e:Int) (lv:Nat):Bool:=((lv:Int)==0)||(bits .and .u64 (e/16) 1==1)||(bits .and .u64 (e/64) 3 != 0)
def Je (m:Nat):Int:=Uz.wrap (Uz.wrap (2^m)-1)
def mA (e:Int) (lv:Nat):Bool:=bits .and .u64 (ew e) (Je (9*lv)) != 0
def gJ (l:List Int) (kind e:Int):Bool :=
 ((kind==1)&&(ap e 3==0))||((kind==2)&&(ap e 1==0)&&((ap e 3==0)||(ap (l.getD 0 0) 19==0)))||((kind==3)&&(ap e 2==0))
def gK (l:List Int) (p kind e:Int):Bool :=
 ((p==0)&&(ap e 4==0))||((p==1)&&(ap e 4==1)&&((kind==1)||(ap (l.getD 0 0) 18==0)))
def gE (e va:Int) (lv:Nat):Int:=bits .or .u64 (bits .andNot .u64 (Uz.wrap (ew e*4096)) (Je (12+9*lv))) (bits .and .u64 va (Je (12+9*lv)))
def cF (e kind:Int):Int:=if (kind==3)=true then bits .or .u64 (bits .or .u64 e 64) 128 else bits .or .u64 e 64
def dp (l:List Int) (p va kind e x:Int) (lv:Nat):Fd :=
 if mA e lv=true then bW kind else if gJ l kind e=true then bW kind else if gK l p kind e=true then bW kind
 else if (cF e kind != e)=true then (if aB l 1 x (bo x 8) 3 4 0=true then ⟨gE e va lv,0,true,x,cF e kind⟩ else fK kind) else ⟨gE e va lv,0,false,0,0⟩
def bO (zs:List Int) (n:Nat) (l:List Int) (p va kind:Int):Nat->Int->Fd
 | 0,T=>if gB n (bK T va 0) 8=true then (if aB l 1 (bK T va 0) (bo (bK T va 0) 8) 2 4 0=true then
  (if pL (fE zs (bK T va 0))=true then bW kind else if mz (fE zs (bK T va 0))=true then bW kind else dp l p va kind (fE zs (bK T va 0)) (bK T va 0) 0) else fK kind) else fK kind
 | lv+1,T=>if gB n (bK T va (lv+1)) 8=true then (if aB l 1 (bK T va (lv+1)) (bo (bK T va (lv+1)) 8) 2 4 0=true then
  (if pL (fE zs (bK T va (lv+1)))=true then bW kind else if mz (fE zs (bK T va (lv+1)))=true then (if jk (fE zs (bK T va (lv+1))) (lv+1)=true then bW kind else bO zs n l p va kind lv (Uz.wrap (ew (fE zs (bK T va (lv+1)))*4096))) else dp l p va kind (fE zs (bK T va (lv+1))) (bK T va (lv+1)) (lv+1)) else fK kind) else fK kind
def kW (l:List Int):Int:=Uz.wrap (bits .and .u64 (l.getD 15 0) 17592186044415*4096)
def ct (zs:List Int) (n:Nat) (l:List Int) (p va kind:Int):Fd :=
 if ((p==3)||(l.getD 15 0/1152921504606846976==0))=true then ⟨va,0,false,0,0⟩ else if (au 39 va != va)=true then bW kind else bO zs n l p va kind 2 (kW l)
theorem gL (T:Int):bO t d e q r y z T = (if gB d (bK T r z) 8=true then (if aB e 1 (bK T r z) (bo (bK T r z) 8) 2 4 0=true then (if pL (fE t (bK T r z))=true then bW y else if mz (fE t (bK T r z))=true then (if jk (fE t (bK T r z)) z=true then bW y else bO t d e q r y (z-1) (Uz.wrap (ew (fE t (bK T r z))*4096))) else dp e q r y (fE t (bK T r z)) (bK T r z) z) else fK y) else fK y):=by
 cases z with
 | zero =>rw [bO];have:jk (fE t (bK T r 0)) 0=true:=rfl;rw [this,if_pos rfl]
 | succ z=>rw [bO];rfl
def eG (w:World) (base g cap:Nat) (l:List Int):Prop:=w.ownsRow base 22 1 (.slice (some ⟨g,0,none⟩) 22 cap) 22 (l.map (Value.int .u64))
theorem eG.len (h:eG x w n k a):a.length=22:=by have:=h.1;simpa using this
theorem eG.cell (h:eG x w g n a) (j:Nat) (l:j<22):x.cell? ⟨g,j,none⟩=some (.u (a.getD j 0)):=by have b:=h.len;have e:=World.ownsRow.cellAt h j l;rw [e];simp [List.getD,List.getElem?_eq_getElem (show j<a.length by omega)]
theorem eG.froz (h:eG x w n k a) (j:Nat):x.frozen? ⟨n,j,none⟩=false:=World.ownsRow.frozenAt h j
theorem eG.put (h:eG x w n k a) (j:Nat) (v:Int):eG (x.setCell ⟨n,j,none⟩ (.u v)) w n k (a.set j v)/\x.grownBy (x.setCell ⟨n,j,none⟩ (.u v)) (some n):=by have e:=World.ownsRow.stored h j (.u v);rw [ks] at e;exact e
theorem eG.below (h:eG x w g n a) (hb:Bw x l):eG l w g n a:=dY h hb
theorem dH (hb:Bw x l) (row:Option Nat):x.grownBy l row:=⟨hb.os,hb.tape,hb.output,hb.size,λk a _=>hb.block k a⟩
theorem BF (h:eG s D E d e): Calls prog 150 #[.slice (some ⟨E,0,none⟩) 22 d,.i 769,.u q] s λl b=>l=.returned (.tuple #[])/\eG b D E d (cn e 769 q)/\s.grownBy b (some E):=by go_enter func150,ntmps150;go_wp2_with fail;refine bodyPost_ret (results_none results150 _ _ _) rfl ?_;exact ⟨rfl,h,lw _ _⟩
theorem zM (h:eG s D E d e): Calls prog 150 #[.slice (some ⟨E,0,none⟩) 22 d,.i 3860,.u q] s λl b=>l=.returned (.tuple #[])/\eG b D E d (cn e 3860 q)/\s.grownBy b (some E):=by go_enter func150,ntmps150;go_wp2_with fail;refine bodyPost_ret (results_none results150 _ _ _) rfl ?_;exact ⟨rfl,h,lw _ _⟩
theorem BG (h:eG s D E d e): Calls prog 150 #[.slice (some ⟨E,0,none⟩) 22 d,.i 256,.u q] s λl b=>l=.returned (.tuple #[])/\eG b D E d (cn e 256 q)/\s.grownBy b (some E):=by have F:Hid (cn e 256 q=e.set 0 (bits .or .u64 (bits .andNot .u64 (e.getD 0 0) 786722) (bits .and .u64 q 786722))):=(rfl:cn e 256 q=_);have H:Hid (eG s D E d e):=h;have c:=h.cell 0 ab;have f:=h.froz 0;clear h;go_enter func150,ntmps150;go_wp2_with fail;refine bodyPost_ret (results_none results150 _ _ _) rfl ?_;exact ⟨rfl,by rw [F.out];exact (H.out.put 0 _).1,(H.out.put 0 _).2⟩
theorem BH (h:eG s D E d e): Calls prog 150 #[.slice (some ⟨E,0,none⟩) 22 d,.i 324,.u q] s λl b=>l=.returned (.tuple #[])/\eG b D E d (cn e 324 q)/\s.grownBy b (some E):=by have F:Hid (cn e 324 q=e.set 9 (bits .or .u64 (bits .andNot .u64 (e.getD 9 0) (bits .and .u64 (e.getD 2 0) 2)) (bits .and .u64 q (bits .and .u64 (e.getD 2 0) 2)))):=(rfl:cn e 324 q=_);have H:Hid (eG s D E d e):=h;have c:=h.cell 9 ab;have cap:=h.cell 2 ab;have f:=h.froz 9;clear h;go_enter func150,ntmps150;go_wp2_with fail;refine bodyPost_ret (results_none results150 _ _ _) rfl ?_;exact ⟨rfl,by rw [F.out];exact (H.out.put 9 _).1,(H.out.put 9 _).2⟩
theorem BI (h:eG s D E d e): Calls prog 150 #[.slice (some ⟨E,0,none⟩) 22 d,.i 260,.u q] s λl cap=>l=.returned (.tuple #[])/\eG cap D E d (cn e 260 q)/\s.grownBy cap (some E):=by
 have F:Hid (cn e 260 q=e.set 3 (bz 3 (bits .or .u64 (bits .andNot .u64 (e.getD 3 0) (e.getD 2 0)) (bits .and .u64 q (e.getD 2 0))))):=(rfl:cn e 260 q=_);have H:Hid (eG s D E d e):=h;have c:=h.cell 3 ab;have j:=h.cell 2 ab;have f:=h.froz 3;clear h;generalize e.getD 3 0=p at *;generalize e.getD 2 0=o at *;go_enter func150,ntmps150;go_wp2_with fail;go_region_with (go_at_call 189;refine (fu _ _ _).mono ?_;rintro l m ⟨rfl,b⟩;subst b);all_goals go_wp2_with fail
 all_goals refine bodyPost_ret (results_none results150 _ _ _) rfl ?_
 all_goals exact ⟨rfl,by rw [F.out];exact ((H.out.put 3 _).1).below ((Below.refl _ _).drew),aW (H.out.put 3 _).2 ⟨rfl,rfl,rfl,Nat.le_refl _,λ_ _ _=>rfl⟩⟩
def fZ (n:Int):Bool:=!(n==769)&&!(n==3860)&&!(n==256)&&!(n==260)&&!(n==324)
theorem zN {n:Int} (h:fZ n=true) (l:List Int) (x:Int):cn l n x=fV l (cU n) x:=by simp [fZ] at h;unfold cn;rw [if_neg ab,if_neg ab,if_neg ab,if_neg ab]
theorem EB (m:cU q=9) (hn:fZ q=true) (w:World) (h:eG w D E d e): Calls prog 150 #[.slice (some ⟨E,0,none⟩) 22 d,.i q,.u r] w λl cap=>l=.returned (.tuple #[])/\eG cap D E d (fV e 9 r)/\w.grownBy cap (some E):=by
 simp only [fZ,Bool.and_eq_true,Bool.not_eq_true'] at hn;obtain ⟨⟨⟨⟨x,s⟩,t⟩,u⟩,z⟩:=hn;have H:Hid (eG w D E d e):=h;clear h;have F:Hid (fV e 9 r=e.set 9 (bits .or .u64 (bits .andNot .u64 (e.getD 9 0) 546) (bits .and .u64 r 546))):=(rfl:fV e 9 r=_);have n:Hid (∀ w,CB 151 #[.i q] w (.i 9)):=by rw [<- m];exact dK q
 clear m;go_enter func150,ntmps150;go_wp2_with fail;refine (n.out _).mono ?_;rintro l o ⟨rfl,j⟩;have p:Hid (Bw w o):=j;have b:Hid (eG o D E d e):=H.out.below j;clear j;have c:=b.out.cell 9 ab;have f:=b.out.froz 9;generalize e.getD 9 0=y at *;go_wp2_with fail;refine bodyPost_end (results_none results150 _ _ _) rfl ?_;exact ⟨rfl,by rw [F.out];exact (b.out.put 9 _).1,aW (dH p.out _) (b.out.put 9 _).2⟩
theorem BJ (x:Int) (t:cU q=15) (hn:fZ q=true) (w:World) (h:eG w D E d e): Calls prog 150 #[.slice (some ⟨E,0,none⟩) 22 d,.i q,.u x] w λl p=>l=.returned (.tuple #[])/\eG p D E d (fV e 15 x)/\w.grownBy p (some E):=by
 simp only [fZ,Bool.and_eq_true,Bool.not_eq_true'] at hn;obtain ⟨⟨⟨⟨z,A⟩,B⟩,C⟩,base⟩:=hn;have H:Hid (eG w D E d e):=h;clear h;have m:fV e 15 x=if ((x/1152921504606846976==0)||(x/1152921504606846976==8))=true then e.set 15 x else e:=rfl
 obtain ⟨y,u⟩:∃ y,x/1152921504606846976=y:=⟨_,rfl⟩;rw [u] at m;have n:Hid (∀ w,CB 151 #[.i q] w (.i 15)):=by rw [<- t];exact dK q
 clear t;cases r:(y==0) with
 | true =>have F:Hid (fV e 15 x=e.set 15 x):=(by show _=_;rw [m,r];rfl);clear m;go_enter func150,ntmps150;go_wp2_with fail;refine (n.out _).mono ?_;rintro l j ⟨rfl,cap⟩;have o:Hid (Bw w j):=cap;have b:Hid (eG j D E d e):=H.out.below cap;clear cap;have c:=b.out.cell 15 ab;have f:=b.out.froz 15;go_wp2_with fail;refine bodyPost_end (results_none results150 _ _ _) rfl ?_;exact ⟨rfl,by rw [F.out];exact (b.out.put 15 _).1,aW (dH o.out _) (b.out.put 15 _).2⟩
 | false =>
   cases s:(y==8) with
   | true =>have F:Hid (fV e 15 x=e.set 15 x):=(by show _=_;rw [m,r,s];rfl);clear m;go_enter func150,ntmps150;go_wp2_with fail;refine (n.out _).mono ?_;rintro l j ⟨rfl,cap⟩;have o:Hid (Bw w j):=cap;have b:Hid (eG j D E d e):=H.out.below cap;clear cap;have c:=b.out.cell 15 ab;have f:=b.out.froz 15;go_wp2_with fail;refine bodyPost_end (results_none results150 _ _ _) rfl ?_;exact ⟨rfl,by rw [F.out];exact (b.out.put 15 _).1,aW (dH o.out _) (b.out.put 15 _).2⟩
   | false =>have F:Hid (fV e 15 x=e):=(by show _=_;rw [m,r,s];rfl);clear m;go_enter func150,ntmps150;go_wp2_with fail;refine (n.out _).mono ?_;rintro l j ⟨rfl,cap⟩;have o:Hid (Bw w j):=cap;have b:Hid (eG j D E d e):=H.out.below cap;clear cap;go_wp2_with fail;refine bodyPost_end (results_none results150 _ _ _) rfl ?_;exact ⟨rfl,sy,dH o.out _⟩
theorem BK (g cap:Nat) (l:List Int) (n x:Int) (L:cU n=16) (hn:fZ n=true) (w:World) (h:eG w D g cap l): Calls prog 150 #[.slice (some ⟨g,0,none⟩) 22 cap,.i n,.u x] w λe m=>e=.returned (.tuple #[])/\eG m D g cap (fV l 16 x)/\w.grownBy m (some g):=by
 simp only [fZ,Bool.and_eq_true,Bool.not_eq_true'] at hn;obtain ⟨⟨⟨⟨X,Y⟩,Z⟩,n4⟩,n5⟩:=hn;have H:Hid (eG w D g cap l):=h;clear h;have F:Hid (fV l 16 x=l.set 16 (eD l (bz 16 x) 4)):=(rfl:fV l 16 x=_);have N:Hid (∀ w,CB 151 #[.i n] w (.i 16)):=by rw [<- L];exact dK n
 clear L;go_enter func150,ntmps150;go_wp2_with fail;refine (N.out _).mono ?_;rintro e G ⟨rfl,r⟩;have M:Hid (Bw w G):=r;have j:Hid (eG G D g cap l):=H.out.below r;clear r;have c:=j.out.cell 16 ab;have f:=j.out.froz 16;have J:Hid (Sl .u64 G (some ⟨g,0,none⟩) l):=kE j.out;have O:Hid (l.length=22):=j.out.len;go_wp2_with fail;refine (fu 16 x _).mono ?_;rintro e S ⟨rfl,B⟩;subst B;obtain ⟨z,base⟩:∃ z,z=bz 16 x:=⟨_,rfl⟩;rw [<- base];rw [<- base] at F;clear base;go_wp2_with fail;go_loopw [9,10] (λy i wr=>∃ k:Nat,k<=4/\i=.i k/\y=.u (eD l z k)/\wr=S)
  (λ_ i _=>4-(intOf i).toNat)
 case atStart=>exact ⟨0,ab,rfl,rfl,rfl⟩
 case round =>
  obtain ⟨k,V,rfl,rfl,rfl⟩:=hrel;by_cases t:k<4
  ·have b:eD l z (k+1)=if (dJ l k/128==1)=true then bits .or .u64 (bits .andNot .u64 (eD l z k) (Uz.wrap (255*2^(8*k)))) (bits .and .u64 (l.getD 16 0) (Uz.wrap (255*2^(8*k)))) else eD l z k:=rfl
   have o:Hid (∀ w,Sl .u64 w (some ⟨g,0,none⟩) l->CE 200 #[.slice (some ⟨g,0,none⟩) 22 cap,.i k] w (.u (dJ l k))):=λw R=>lE _ cap l k t w O.out R;have U:decide ((k:Int)<4)=true:=bv;have W:wrap64 (8*(k:Int))=((8*k:Nat):Int):=ka;have P:Uz.wrap ((8*k:Nat):Int)=((8*k:Nat):Int):=dm;have Q:8*k<64:=ab;obtain ⟨y,C⟩:∃ y,y=eD l z k:=⟨_,rfl⟩;obtain ⟨u,A⟩:∃ u,u=eD l z (k+1):=⟨_,rfl⟩;rw [<- A,<- C] at b;rw [<- C];have I:Hid (u=eD l z (k+1)):=A;clear A C;generalize dJ l k=q at *;generalize l.getD 16 0=E at *;cases K:(q/128==1) with
   | true =>
     rw [if_pos K] at b;have p:Hid (u=bits .or .u64 (bits .andNot .u64 y (Uz.wrap (255*2^(8*k)))) (bits .and .u64 E (Uz.wrap (255*2^(8*k))))):=b;clear b;go_wp2_with fail;refine (o.out _ J.out).mono ?_;rintro e T ⟨rfl,d⟩;subst d;go_wp2_with fail;go_roundw;case rel=>exact ⟨k+1,ab,by go_num,by rw [<- I.out,p.out],trivial⟩
     case measure=>simp [intOf];omega
   | false =>
     rw [if_neg (by rw [K];decide)] at b;have p:Hid (u=y):=b;clear b;go_wp2_with fail;refine (o.out _ J.out).mono ?_;rintro e T ⟨rfl,d⟩;subst d;go_wp2_with fail;go_roundw;case rel=>exact ⟨k+1,ab,by go_num,by rw [<- I.out,p.out],trivial⟩
     case measure=>simp [intOf];omega
  ·have s:k=4:=ab;subst s;generalize eD l z 4=y at *;go_wp2_with fail;refine bodyPost_end (results_none results150 _ _ _) rfl ?_;exact ⟨rfl,by rw [F.out];exact (j.out.put 16 _).1,aW (dH M.out _) (j.out.put 16 _).2⟩
theorem BL (u:cU q=17) (hn:fZ q=true) (w:World) (h:eG w D E d e): Calls prog 150 #[.slice (some ⟨E,0,none⟩) 22 d,.i q,.u r] w λl m=>l=.returned (.tuple #[])/\eG m D E d (fV e 17 r)/\w.grownBy m (some E):=by
 simp only [fZ,Bool.and_eq_true,Bool.not_eq_true'] at hn;obtain ⟨⟨⟨⟨B,C⟩,base⟩,g⟩,G⟩:=hn;have H:Hid (eG w D E d e):=h;clear h;have p:fV e 17 r=if fA e 0=true then e else e.set 17 (bz 17 r):=rfl
 have t:Hid (∀ w,CB 151 #[.i q] w (.i 17)):=by rw [<- u];exact dK q
 clear u;have s:Hid (∀ w,Sl .u64 w (some ⟨E,0,none⟩) e->e.length=22->CE 204 #[.slice (some ⟨E,0,none⟩) 22 d,.i 0] w (.bool (fA e 0))):=λw y z=>kU _ d e 0 ab w z y;generalize fA e 0=lk at *;cases lk with
 | true =>have F:Hid (fV e 17 r=e):=p;clear p;go_enter func150,ntmps150;go_wp2_with fail;refine (t.out _).mono ?_;rintro l o ⟨rfl,cap⟩;have n:Hid (Bw w o):=cap;have b:Hid (eG o D E d e):=H.out.below cap;clear cap;go_wp2_with fail;refine (s.out _ (kE b.out) b.out.len).mono ?_;rintro l A ⟨rfl,j⟩;subst j;go_wp2_with fail;refine bodyPost_end (results_none results150 _ _ _) rfl ?_;exact ⟨rfl,sy,dH n.out _⟩
 | false =>have F:Hid (fV e 17 r=e.set 17 (bz 17 r)):=p;clear p;go_enter func150,ntmps150;go_wp2_with fail;refine (t.out _).mono ?_;rintro l o ⟨rfl,cap⟩;have n:Hid (Bw w o):=cap;have b:Hid (eG o D E d e):=H.out.below cap;clear cap;have c:=b.out.cell 17 ab;have f:=b.out.froz 17;go_wp2_with fail;refine (s.out _ (kE b.out) b.out.len).mono ?_;rintro l A ⟨rfl,j⟩;subst j;go_wp2_with fail;refine (fu _ r _).mono ?_;rintro l I ⟨rfl,x⟩;subst x;go_wp2_with fail;refine bodyPost_end (results_none results150 _ _ _) rfl ?_;exact ⟨rfl,by rw [F.out];exact (b.out.put 17 _).1,aW (dH n.out _) (b.out.put 17 _).2⟩
theorem BM (u:cU q=18) (hn:fZ q=true) (w:World) (h:eG w D E d e): Calls prog 150 #[.slice (some ⟨E,0,none⟩) 22 d,.i q,.u r] w λl m=>l=.returned (.tuple #[])/\eG m D E d (fV e 18 r)/\w.grownBy m (some E):=by
 simp only [fZ,Bool.and_eq_true,Bool.not_eq_true'] at hn;obtain ⟨⟨⟨⟨B,C⟩,base⟩,g⟩,G⟩:=hn;have H:Hid (eG w D E d e):=h;clear h;have p:fV e 18 r=if fA e 1=true then e else e.set 18 (bz 18 r):=rfl
 have t:Hid (∀ w,CB 151 #[.i q] w (.i 18)):=by rw [<- u];exact dK q
 clear u;have s:Hid (∀ w,Sl .u64 w (some ⟨E,0,none⟩) e->e.length=22->CE 204 #[.slice (some ⟨E,0,none⟩) 22 d,.i 1] w (.bool (fA e 1))):=λw y z=>kU _ d e 1 ab w z y;generalize fA e 1=lk at *;cases lk with
 | true =>have F:Hid (fV e 18 r=e):=p;clear p;go_enter func150,ntmps150;go_wp2_with fail;refine (t.out _).mono ?_;rintro l o ⟨rfl,cap⟩;have n:Hid (Bw w o):=cap;have b:Hid (eG o D E d e):=H.out.below cap;clear cap;go_wp2_with fail;refine (s.out _ (kE b.out) b.out.len).mono ?_;rintro l A ⟨rfl,j⟩;subst j;go_wp2_with fail;refine bodyPost_end (results_none results150 _ _ _) rfl ?_;exact ⟨rfl,sy,dH n.out _⟩
 | false =>have F:Hid (fV e 18 r=e.set 18 (bz 18 r)):=p;clear p;go_enter func150,ntmps150;go_wp2_with fail;refine (t.out _).mono ?_;rintro l o ⟨rfl,cap⟩;have n:Hid (Bw w o):=cap;have b:Hid (eG o D E d e):=H.out.below cap;clear cap;have c:=b.out.cell 18 ab;have f:=b.out.froz 18;go_wp2_with fail;refine (s.out _ (kE b.out) b.out.len).mono ?_;rintro l A ⟨rfl,j⟩;subst j;go_wp2_with fail;refine (fu _ r _).mono ?_;rintro l I ⟨rfl,x⟩;subst x;go_wp2_with fail;refine bodyPost_end (results_none results150 _ _ _) rfl ?_;exact ⟨rfl,by rw [F.out];exact (b.out.put 18 _).1,aW (dH n.out _) (b.out.put 18 _).2⟩
theorem BN (u:cU q=19) (hn:fZ q=true) (w:World) (h:eG w D E d e): Calls prog 150 #[.slice (some ⟨E,0,none⟩) 22 d,.i q,.u r] w λl m=>l=.returned (.tuple #[])/\eG m D E d (fV e 19 r)/\w.grownBy m (some E):=by
 simp only [fZ,Bool.and_eq_true,Bool.not_eq_true'] at hn;obtain ⟨⟨⟨⟨B,C⟩,base⟩,g⟩,G⟩:=hn;have H:Hid (eG w D E d e):=h;clear h;have p:fV e 19 r=if fA e 2=true then e else e.set 19 (bz 19 r):=rfl
 have t:Hid (∀ w,CB 151 #[.i q] w (.i 19)):=by rw [<- u];exact dK q
 clear u;have s:Hid (∀ w,Sl .u64 w (some ⟨E,0,none⟩) e->e.length=22->CE 204 #[.slice (some ⟨E,0,none⟩) 22 d,.i 2] w (.bool (fA e 2))):=λw y z=>kU _ d e 2 ab w z y;generalize fA e 2=lk at *;cases lk with
 | true =>have F:Hid (fV e 19 r=e):=p;clear p;go_enter func150,ntmps150;go_wp2_with fail;refine (t.out _).mono ?_;rintro l o ⟨rfl,cap⟩;have n:Hid (Bw w o):=cap;have b:Hid (eG o D E d e):=H.out.below cap;clear cap;go_wp2_with fail;refine (s.out _ (kE b.out) b.out.len).mono ?_;rintro l A ⟨rfl,j⟩;subst j;go_wp2_with fail;refine bodyPost_end (results_none results150 _ _ _) rfl ?_;exact ⟨rfl,sy,dH n.out _⟩
 | false =>have F:Hid (fV e 19 r=e.set 19 (bz 19 r)):=p;clear p;go_enter func150,ntmps150;go_wp2_with fail;refine (t.out _).mono ?_;rintro l o ⟨rfl,cap⟩;have n:Hid (Bw w o):=cap;have b:Hid (eG o D E d e):=H.out.below cap;clear cap;have c:=b.out.cell 19 ab;have f:=b.out.froz 19;go_wp2_with fail;refine (s.out _ (kE b.out) b.out.len).mono ?_;rintro l A ⟨rfl,j⟩;subst j;go_wp2_with fail;refine (fu _ r _).mono ?_;rintro l I ⟨rfl,x⟩;subst x;go_wp2_with fail;refine bodyPost_end (results_none results150 _ _ _) rfl ?_;exact ⟨rfl,by rw [F.out];exact (b.out.put 19 _).1,aW (dH n.out _) (b.out.put 19 _).2⟩
theorem BO (u:cU q=20) (hn:fZ q=true) (w:World) (h:eG w D E d e): Calls prog 150 #[.slice (some ⟨E,0,none⟩) 22 d,.i q,.u r] w λl m=>l=.returned (.tuple #[])/\eG m D E d (fV e 20 r)/\w.grownBy m (some E):=by
 simp only [fZ,Bool.and_eq_true,Bool.not_eq_true'] at hn;obtain ⟨⟨⟨⟨B,C⟩,base⟩,g⟩,G⟩:=hn;have H:Hid (eG w D E d e):=h;clear h;have p:fV e 20 r=if fA e 3=true then e else e.set 20 (bz 20 r):=rfl
 have t:Hid (∀ w,CB 151 #[.i q] w (.i 20)):=by rw [<- u];exact dK q
 clear u;have s:Hid (∀ w,Sl .u64 w (some ⟨E,0,none⟩) e->e.length=22->CE 204 #[.slice (some ⟨E,0,none⟩) 22 d,.i 3] w (.bool (fA e 3))):=λw y z=>kU _ d e 3 ab w z y;generalize fA e 3=lk at *;cases lk with
 | true =>have F:Hid (fV e 20 r=e):=p;clear p;go_enter func150,ntmps150;go_wp2_with fail;refine (t.out _).mono ?_;rintro l o ⟨rfl,cap⟩;have n:Hid (Bw w o):=cap;have b:Hid (eG o D E d e):=H.out.below cap;clear cap;go_wp2_with fail;refine (s.out _ (kE b.out) b.out.len).mono ?_;rintro l A ⟨rfl,j⟩;subst j;go_wp2_with fail;refine bodyPost_end (results_none results150 _ _ _) rfl ?_;exact ⟨rfl,sy,dH n.out _⟩
 | false =>have F:Hid (fV e 20 r=e.set 20 (bz 20 r)):=p;clear p;go_enter func150,ntmps150;go_wp2_with fail;refine (t.out _).mono ?_;rintro l o ⟨rfl,cap⟩;have n:Hid (Bw w o):=cap;have b:Hid (eG o D E d e):=H.out.below cap;clear cap;have c:=b.out.cell 20 ab;have f:=b.out.froz 20;go_wp2_with fail;refine (s.out _ (kE b.out) b.out.len).mono ?_;rintro l A ⟨rfl,j⟩;subst j;go_wp2_with fail;refine (fu _ r _).mono ?_;rintro l I ⟨rfl,x⟩;subst x;go_wp2_with fail;refine bodyPost_end (results_none results150 _ _ _) rfl ?_;exact ⟨rfl,by rw [F.out];exact (b.out.put 20 _).1,aW (dH n.out _) (b.out.put 20 _).2⟩
theorem EC (y:z<22) (hk:¬ (z=9\/z=15\/z=16\/z=17\/z=18\/z=19\/z=20)) (o:cU q=(z:Int)) (hn:fZ q=true) (w:World) (h:eG w D E d e): Calls prog 150 #[.slice (some ⟨E,0,none⟩) 22 d,.i q,.u r] w λl cap=>l=.returned (.tuple #[])/\eG cap D E d (fV e (z:Int) r)/\w.grownBy cap (some E):=by
 simp only [fZ,Bool.and_eq_true,Bool.not_eq_true'] at hn;obtain ⟨⟨⟨⟨k,A⟩,B⟩,C⟩,base⟩:=hn;have H:Hid (eG w D E d e):=h;clear h;have F:Hid (fV e (z:Int) r=e.set z (bz z r)):=by show _=_;unfold fV;rw [if_neg ab,if_neg ab,if_neg ab,if_neg ab];rfl
 have d9:((z:Int)==9)=false:=by simp;omega
 have UG:((z:Int)==15)=false:=by simp;omega
 have UF:((z:Int)==16)=false:=by simp;omega
 have UQ:((z:Int)==17)=false:=by simp;omega
 have s:((z:Int)==18)=false:=by simp;omega
 have t:((z:Int)==19)=false:=by simp;omega
 have u:((z:Int)==20)=false:=by simp;omega
 have x:Hid (∀ w,CB 151 #[.i q] w (.i (z:Int))):=by rw [<- o];exact dK q
 clear o;clear hk;go_enter func150,ntmps150;go_wp2_with fail;refine (x.out _).mono ?_;rintro l p ⟨rfl,j⟩;have n:Hid (Bw w p):=j;have b:Hid (eG p D E d e):=H.out.below j;clear j;have c:=b.out.cell z y;have f:=b.out.froz z;go_wp2_with fail;refine (fu _ r _).mono ?_;rintro l g ⟨rfl,m⟩;subst m;go_wp2_with fail;refine bodyPost_end (results_none results150 _ _ _) rfl ?_;exact ⟨rfl,by rw [F.out];exact (b.out.put z _).1,aW (dH n.out _) (b.out.put z _).2⟩
theorem BP (cap:Nat) (l:List Int) (n x:Int) (hk:dB n=true) (w:World) (h:eG w D E cap l): Calls prog 150 #[.slice (some ⟨E,0,none⟩) 22 cap,.i n,.u x] w λe o=>e=.returned (.tuple #[])/\eG o D E cap (cn l n x)/\w.grownBy o (some E):=by
 by_cases b:fZ n=true
 ·rw [zN b];have r:=rM n;have q:0<=cU n:=(by simp [fZ] at b;simp [dB] at hk;omega);obtain ⟨k,a⟩:∃ k:Nat,cU n=(k:Int):=⟨(cU n).toNat,ab⟩;rw [a];by_cases e:k=9\/k=15\/k=16\/k=17\/k=18\/k=19\/k=20
  ·by_cases p:k=9;·subst p;exact EB D E cap l n x a b w h
   ·by_cases c:k=15;·subst c;exact BJ D E cap l n x a b w h
    ·by_cases d:k=16;·subst d;exact BK D E cap l n x a b w h
     ·by_cases f:k=17;·subst f;exact BL D E cap l n x a b w h
      ·by_cases i:k=18;·subst i;exact BM D E cap l n x a b w h
       ·by_cases j:k=19;·subst j;exact BN D E cap l n x a b w h
        ·have m:k=20:=ab;subst m;exact BO D E cap l n x a b w h
  ·exact EC D E cap l n x k ab e a b w h
 ·have:n=769\/n=3860\/n=256\/n=260\/n=324:=by simp [fZ] at b;omega
  rcases this with rfl|rfl|rfl|rfl|rfl;·exact BF D E cap l x w h
  ·exact zM D E cap l x w h
  ·exact BG D E cap l x w h
  ·exact BI D E cap l x w h
  ·exact BH D E cap l x w h
theorem GC (h:eG x w n k a) (j:Nat) (b:j<22) (base:Int) (o:Oper) (ev:Operand->Value) (p v:Operand) (d:o.op=.store 22 p v) (q:ev p=.p n j) (hv:ev v=.u base): (execOp ev o).run prog x=.ok .skip (x.setCell ⟨n,j,none⟩ (.u base)):=by
 have c:=h.cell j b;have f:=h.froz j;have r:∀ m,(store ⟨n,j,none⟩ (.u base) m).run prog x=.ok () (x.setCell ⟨n,j,none⟩ (.u base)):=by intro m;rw [run_store_int];simp [stored,c,f]
 simp [execOp,d,q,hv,go_sem];rw [c];simp [f]
theorem qf {b:Array Oper} {rest:List Oper} {o:Oper} {l:Act} {Q:Exit->Act->World->Prop} (e:o.guard=none) (p v:Operand) (i:o.op=.store 22 p v) (hd:o.dst=none) (h:eG x w n k a) (j:Nat) (f:j<22) (base:Int) (cap:l.eval p=.p n j) (hv:l.eval v=.u base) (hk:∀ c,eG c w n k (a.set j base)->x.grownBy c (some n)->wpList prog b Q rest l c):wpList prog b Q (o::rest) l x:=by refine wpList_plain e λK d=>?_;unfold Oper.wp;rw [GC h j f base o l.eval p v i cap hv,Oper.upon_skip];rw [hd];exact d _ _ (hk _ (h.put j base).1 (h.put j base).2)
theorem bG (b:0<=B) (c:B<18446744073709551616) (hk:D<64) (hn:E<64) (w:World): Calls prog 76 #[.u B,.i D,.i E] w λe d=>e=.returned (.u (dc B D E))/\d=w.drew:=by
 have F:Hid (bits .and .u64 (B/2^D) (Uz.wrap (Uz.wrap (2^E)-1))=dc B D E):=ix B D E b c hn;go_enter func76,ntmps76;go_wp2_with fail;go_region;all_goals go_wp2_with fail
 all_goals go_ret
 all_goals exact ⟨by rw [<- F.out];rfl,rfl⟩
theorem ue: CE 258 #[.string o.str] s (.tuple #[.u o.mask,.i o.at]):=by
 cases o<;>simp only [Fm.str,Fm.mask,Fm.at];all_goals go_enter func258,ntmps258
 all_goals go_wp2_with fail
 all_goals go_ret2
 all_goals exact ⟨rfl,rfl⟩
theorem iQ (g:1<=D) (j:D<=64) (w:World): CE 153 #[.u B,.i D] w (.u (au D B)):=by
 have d:decide ((D:Int)<1)=false:=by simp;omega
 have f:decide ((64:Int)<(D:Int))=false:=by simp;omega
 obtain ⟨m,l,b⟩:∃ m:Nat,(64:Int)-(D:Int)=(m:Int)/\m=64-D:=⟨64-D,ab,rfl⟩;have F:Hid (Uz.wrap (wrap64 (Uz.wrap (B*2^m))/2^m)=au D B):=by show _=_;rw [b];rfl
 clear b;go_enter func153,ntmps153;go_wp2_with fail;go_ret;exact ⟨by rw [<- F.out];rfl,rfl⟩
theorem eB (f:1<=D) (g:D<=64) (w:World): CE 144 #[.u B,.u D] w (.u (au D B)):=by
 obtain ⟨m,j,b⟩:∃ m:Nat,(64:Int)-(D:Int)=(m:Int)/\m=64-D:=⟨64-D,ab,rfl⟩;have F:Hid (Uz.wrap (wrap64 (Uz.wrap (B*2^m))/2^m)=au D B):=by show _=_;rw [b];rfl
 clear b;have c:Uz.wrap (m:Int)=m:=by rw [IntKind.wrap_u64];omega
 go_enter func144,ntmps144;go_wp2_with fail;go_ret;exact ⟨by rw [<- F.out];rfl,rfl⟩
def iR (op:Int) (f:Fm):Int:=if op=98 then bits .or .u64 f.mask 3968 else if op=63\/op=74 then bits .or .u64 f.mask 32505856 else f.mask
def vH (f:Fm) (o z m:Int):Int:=bits .or .u64 (bits .or .u64 o (Uz.wrap (z*4096))) (Uz.wrap (m*2^f.at))
theorem vI (D:ByteArray) (f:Fm) (o z m:Int) (w:World): CB 223 #[.i B,.agg #[.string D,.string f.str,.u o,.u z,.u m]] w (.tuple #[.u (iR B f),.u (vH f o z m)]):=by
 have r:=ue f;obtain ⟨M,d⟩:∃ M,M=f.mask:=⟨_,rfl⟩;obtain ⟨t,l⟩:∃ t,t=f.at:=⟨_,rfl⟩;obtain ⟨s,p⟩:∃ s,s=f.str:=⟨_,rfl⟩;have u:Hid (vH f o z m=bits .or .u64 (bits .or .u64 o (Uz.wrap (z*4096))) (Uz.wrap (m*2^t))):=by show _=_;rw [vH,l]
 rw [<- p,<- d,<- l] at r;rw [<- p];have op:t<64:=by rw [l];cases f<;>decide
 by_cases b:B=98
 ·subst b;have g:Hid (iR 98 f=bits .or .u64 M 3968):=(by show _=_;rw [iR,if_pos rfl,d]);clear d l p;go_enter func223,ntmps223;go_wp2_with fail;refine (r _).mono ?_;rintro e A ⟨rfl,rfl⟩;go_wp2_with fail;go_region;all_goals go_wp2_with fail
  all_goals go_ret2
  all_goals exact ⟨by rw [g.out,u.out];rfl,(bal _ _).drew⟩
 ·have q:(B==98)=false:=lh;by_cases c:B=63
  ·subst c;have g:Hid (iR 63 f=bits .or .u64 M 32505856):=(by show _=_;rw [iR,if_neg bc,if_pos bc,d]);clear d l p b q;go_enter func223,ntmps223;go_wp2_with fail;refine (r _).mono ?_;rintro e A ⟨rfl,rfl⟩;go_wp2_with fail;go_region;all_goals go_wp2_with fail
   all_goals go_ret2
   all_goals exact ⟨by rw [g.out,u.out];rfl,(bal _ _).drew⟩
  ·have y:(B==63)=false:=kc;by_cases j:B=74
   ·subst j;have g:Hid (iR 74 f=bits .or .u64 M 32505856):=(by show _=_;rw [iR,if_neg bc,if_pos bc,d]);clear d l p b q c y;go_enter func223,ntmps223;go_wp2_with fail;refine (r _).mono ?_;rintro e A ⟨rfl,rfl⟩;go_wp2_with fail;go_region;all_goals go_wp2_with fail
    all_goals go_ret2
    all_goals exact ⟨by rw [g.out,u.out];rfl,(bal _ _).drew⟩
   ·have C:(B==74)=false:=(by simpa using j);have g:Hid (iR B f=M):=(by show _=_;rw [iR,if_neg b,if_neg ab,d]);clear d l p b c j;go_enter func223,ntmps223;go_wp2_with fail;refine (r _).mono ?_;rintro e A ⟨rfl,rfl⟩;go_wp2_with fail;go_region;all_goals go_wp2_with fail
    all_goals go_ret2
    all_goals exact ⟨by rw [g.out,u.out];rfl,(bal _ _).drew⟩
theorem Jf (t cm:Int) (u:Bool) (g f:Nat) (b c1:Nat) (a2:Option Addr) (j c2:Nat) (q:Int) (xs ys:List Int) (B E:Nat) (w:World) (hx:xs.length=b) (hy:ys.length=j) (hn0:1<=b) (hn1:b<=16) (hc1:b<=c1) (hc2:c1<=9223372036854775807) (F:B<=E) (G:E<=w.heap.size) (T:bA B E w (fW (some ⟨g,f,none⟩) b c1 xs a2 j c2 ys)) (hw:0<=xs.getD 0 0/\xs.getD 0 0<=255):Calls prog 138 #[.agg #[.u t,.u cm,.bool u,.slice (some ⟨g,f,none⟩) b c1,.slice a2 j c2,.i q],.u 268435456,.i 1] w λe C=>∃ (c:Option Addr) (d:Nat),e=.returned (.tuple #[.u (xs.getD 0 0),.agg #[.u t,.u cm,.bool u,.slice c (b-1) d,.slice a2 j c2,.i q],.bool true])/\C.ownsRow w.heap.size 5 1 (.slice c (b-1) d) (b-1) ((xs.drop 1).map (Value.int .u8))/\Bw w C:=by
 have W:=T.in_;obtain ⟨b',off',e,U,Y⟩:=W 0 ab;simp only [Option.some.injEq,Addr.mk.injEq,and_true] at e;obtain ⟨rfl,rfl⟩:=e;have y:∀ z A,Bw w ((w.alloc z).alloc A):=λz A=>eE;have k0:∀ z A,((w.alloc z).alloc A).cell? ⟨g,f,none⟩=some (.int .u8 (xs.getD 0 0)):=λz A=>((y z A).cell (by exact U)).trans Y;have t0:((b:Int)==0)=false:=by simp;omega
 have i0:(0:Int)<(b:Int):=ab
 have i1:(1:Int)<=(b:Int):=ab
 have X:Hid (∀ C,Bw w C->Sl .u8 C (some ⟨g,f+1,none⟩) (xs.drop 1)):=λC hb=>(W.below hb).next
 have L:Hid ((xs.drop 1).length=b-1/\b-1<=1048576):=⟨by rw [List.length_drop,hx],ab⟩;have HF:Hid (bA B E w (fW (some ⟨g,f,none⟩) b c1 xs a2 j c2 ys)):=T;have HE2:Hid (B<=E/\E<=w.heap.size):=⟨F,G⟩;have G:=iZ ((w.alloc (.cells #[.u t,.u cm,.bool u,.slice (some ⟨g,f,none⟩) b c1,.slice a2 j c2,.i q] 30)).alloc (.cells #[.u 0,.u 0,.bool false,.slice none 0 0,.slice none 0 0,.i 0] 30)) (w.heap.size+1+1) cp (.cells #[] 5 (0,0)) rfl;rw [World.size_alloc,World.size_alloc] at G;have I:Uz.wrap (xs.getD 0 0)=xs.getD 0 0:=by rw [IntKind.wrap_u64];omega
 have D:=aE I;clear W Y T F I hw hx hy;generalize xs.getD 0 0=x0 at *;by_cases S:c1=1;·have V:b=1:=ab;subst S V;have H:xs.drop 1=[]:=List.length_eq_zero_iff.1 (by have:=L.out.1;simpa using this);rw [H];clear H X L;go_enter func138,ntmps138;go_wp2_with (first | (at_builtin;refine ic rfl (.tmp 58) (.tmp 61) rfl (w.heap.size+1+1) _ rfl G _ 0 _ [] rfl rfl ab (λi hi=>absurd hi (Nat.not_lt_zero _)) cp ?_;intro c d J o l;obtain ⟨r,s,m,K⟩:=OM l;have R0:=aE r;have R1:=aE s;have N:=aE m;have R:=aE K;have P:=aE o;obtain ⟨p0,p1,p2,p3,p4,p5⟩:=g7 r;obtain ⟨s0,s1,s2,s3,s4,s5⟩:=g7 s;obtain ⟨y0,y1,y2,y3,y4,y5⟩:=Bf s;have f3:=hO r 3;clear r s m K o l));go_region;go_wp2_with fail;rw [D.out];have Q:=n8 (gH R1.out ⟨w.heap.size,3,none⟩ (.slice c 0 d) di) (.u t) (.u cm) (.bool u) (.slice c 0 d) (.slice a2 j c2) (.i q);have M:=(((bA.nil (w.heap.size+1+1) (w.heap.size+1+1) J).snoc (aD c 0 d []) _ J.heap.size P.out (Nat.le_refl _) (Nat.le_refl _) (Nat.le_refl _) (by have:=R.out;omega)).set ⟨w.heap.size,3,none⟩ (.slice c 0 d) (.inl di)).put6 (w.heap.size+1) (.inl ab) (.u t) (.u cm) (.bool u) (.slice c 0 d) (.slice a2 j c2) (.i q);have O:=lz (N.out.setCell (p:=⟨w.heap.size,3,none⟩) (Nat.le_refl _) (.slice c 0 d)) (g:=w.heap.size+1) ab (.u t) (.u cm) (.bool u) (.slice c 0 d) (.slice a2 j c2) (.i q);exact bodyPost_ret (bT results138 _ _ _ _ _ _ _ rfl (Bi Q) underlying30 rfl bN) rfl ⟨c,d,rfl,cG (dY (M.own _ (List.mem_singleton.2 rfl)) (Below.refl _ _).drew) ab,O.drew⟩
 ·have Z:¬ (c1-1=0):=ab;go_enter func138,ntmps138;go_wp2_with (first | (at_builtin;refine ic rfl (.tmp 58) (.tmp 61) rfl (w.heap.size+1+1) _ rfl G (some ⟨g,f+1,none⟩) (b-1) (c1-1) (xs.drop 1) rfl L.out.1 L.out.2 (X.out _ ((y _ _).alloc (y _ _).size _)) cp ?_;intro c d J o l;obtain ⟨r,s,m,K⟩:=OM l;have R0:=aE r;have R1:=aE s;have N:=aE m;have R:=aE K;have P:=aE o;obtain ⟨p0,p1,p2,p3,p4,p5⟩:=g7 r;obtain ⟨s0,s1,s2,s3,s4,s5⟩:=g7 s;obtain ⟨y0,y1,y2,y3,y4,y5⟩:=Bf s;have f3:=hO r 3;clear r s m K o l));go_region;go_wp2_with fail;rw [D.out];have Q:=n8 (gH R1.out ⟨w.heap.size,3,none⟩ (.slice c (b-1) d) di) (.u t) (.u cm) (.bool u) (.slice c (b-1) d) (.slice a2 j c2) (.i q);have M:=(((bA.nil (w.heap.size+1+1) (w.heap.size+1+1) J).snoc (aD c (b-1) d (xs.drop 1)) _ J.heap.size P.out (Nat.le_refl _) (Nat.le_refl _) (Nat.le_refl _) (by have:=R.out;omega)).set ⟨w.heap.size,3,none⟩ (.slice c (b-1) d) (.inl di)).put6 (w.heap.size+1) (.inl ab) (.u t) (.u cm) (.bool u) (.slice c (b-1) d) (.slice a2 j c2) (.i q);have O:=lz (N.out.setCell (p:=⟨w.heap.size,3,none⟩) (Nat.le_refl _) (.slice c (b-1) d)) (g:=w.heap.size+1) ab (.u t) (.u cm) (.bool u) (.slice c (b-1) d) (.slice a2 j c2) (.i q);exact bodyPost_ret (bT results138 _ _ _ _ _ _ _ rfl (Bi Q) underlying30 rfl bN) rfl ⟨c,d,rfl,cG (dY (M.own _ (List.mem_singleton.2 rfl)) (Below.refl _ _).drew) ab,O.drew⟩
theorem ED (s:Bool) (a1:Option Addr) (l c1:Nat) (a2:Option Addr) (b c2:Nat) (r:Int) (x:Int) (xs ys:List Int) (t E:Nat) (w:World) (hy:ys.length=b) (G:b<4096) (C:t<=E) (D:E<=w.heap.size) (J:bA t E w (fW a1 l c1 xs a2 b c2 ys)): Calls prog 139 #[.agg #[.u B,.u c,.bool s,.slice a1 l c1,.slice a2 b c2,.i r],.u 268435456,.i 1,.u x] w λe u=>∃ (cm:Option Addr) (d:Nat),e=.returned (.tuple #[.agg #[.u B,.u c,.bool s,.slice a1 l c1,.slice cm (b+1) d,.i r],.bool true])/\u.ownsRow w.heap.size 5 1 (.slice cm (b+1) d) (b+1) ((ys++[IntKind.u8.wrap x]).map (Value.int .u8))/\Bw w u:=by
 have R:=J.out_
 have A:∀ S T,Bw w ((w.alloc S).alloc T):=λS T=>eE
 have dd:decide ((b:Int)<4096)=true:=by simp;omega
 have HS:Hid (∀ u,Bw w u->Sl .u8 u a2 ys):=λu hb=>R.below hb
 have I:Hid (ys.length=b/\b<4096):=⟨hy,G⟩
 have HF:Hid (bA t E w (fW a1 l c1 xs a2 b c2 ys)):=J
 have HE2:Hid (t<=E/\E<=w.heap.size):=⟨C,D⟩
 have Q:=iZ ((w.alloc (.cells #[.u B,.u c,.bool s,.slice a1 l c1,.slice a2 b c2,.i r] 30)).alloc (.cells #[.u 0,.u 0,.bool false,.slice none 0 0,.slice none 0 0,.i 0] 30)) (w.heap.size+1+1) cp (.cells #[] 5 (0,0)) rfl
 rw [World.size_alloc,World.size_alloc] at Q
 obtain ⟨i0,hi,K,L,M⟩:=info_parts info5
 clear R J C D hy G
 rw [show IntKind.u8.wrap x=x%256 from IntKind.wrap_u8 x]
 go_enter func139,ntmps139
 go_wp2_with (first
  | (at_builtin;refine ic rfl (.tmp 51) (.tmp 53) rfl (w.heap.size+1+1) _ rfl Q a2 b c2 ys rfl I.out.1 (by have:=I.out.2;omega) (HS.out _ ((A _ _).alloc (A _ _).size _)) cp ?_;intro b1 d1 w1 H y;obtain ⟨U,V,F,W⟩:=OM y;have R0:=aE U;have R1:=aE V;have Y:=aE F;have P:=aE W;have O:=aE H;clear U V F W H y)
  | (at_builtin;refine wpList_append_own _ rfl (.tmp 54) (.tmp 57) 24 rfl (w.heap.size+1+1) 5 i0 (.int .u8 0) 1 1 underlying24 hi K L M rfl bc _ b (ys.map (Value.int .u8)) rfl (dY O.out (bal _ _)) ⟨w1.heap.size,0,none⟩ 1 1 [.int .u8 (x%256)] rfl rfl (OO _ _) ti (by have:=I.out.2;unfold maxLen;omega) (by have:=I.out.2;omega) (by have:=P.out;rw [World.size_alloc];omega) ?_;intro v' N q z o;obtain ⟨cm,d,rfl⟩:=KL q;obtain ⟨f,j,m⟩:=UU R0.out R1.out O.out z;have S0:=aE f;have S1:=aE j;have Z:=aE (Y.out.trans (m.mono ab));have Z2:=aE m.size;have O2:=aE q;obtain ⟨p0,p1,p2,p3,p4,p5⟩:=g7 f;obtain ⟨s0,s1,s2,s3,s4,s5⟩:=g7 j;obtain ⟨y0,y1,y2,y3,y4,y5⟩:=Bf j;have f4:=hO f 4;clear f j m q z o))
 have T1:=n8 (gH S1.out ⟨w.heap.size,4,none⟩ (.slice cm (b+1) d) di) (.u B) (.u c) (.bool s) (.slice a1 l c1) (.slice cm (b+1) d) (.i r)
 have O3:N.ownsRow (w.heap.size+1+1) 5 1 (.slice cm (b+1) d) (b+1) ((ys++[x%256]).map (Value.int .u8)):=by rw [List.map_append];exact O2.out
 have X:=(((bA.nil (w.heap.size+1+1) (w.heap.size+1+1) N).snoc (aD cm (b+1) d (ys++[x%256])) _ N.heap.size O3 (Nat.le_refl _) (Nat.le_refl _) (Nat.le_refl _) (by have:=P.out;have:=Z2.out;omega)).set ⟨w.heap.size,4,none⟩ (.slice cm (b+1) d) (.inl di)).put6 (w.heap.size+1) (.inl ab) (.u B) (.u c) (.bool s) (.slice a1 l c1) (.slice cm (b+1) d) (.i r)
 have B4:=lz (Z.out.setCell (p:=⟨w.heap.size,4,none⟩) (Nat.le_refl _) (.slice cm (b+1) d)) (g:=w.heap.size+1) ab (.u B) (.u c) (.bool s) (.slice a1 l c1) (.slice cm (b+1) d) (.i r)
 exact bodyPost_ret (cT results139 _ _ _ _ _ _ _ rfl T1 underlying30 rfl bN) rfl ⟨cm,d,rfl,cG (X.own _ (List.mem_singleton.2 rfl)) ab,B4⟩
def fF (w w':World) (a1:Option Addr) (c1:Nat) (xs:List Int) (a2:Option Addr) (c2:Nat) (ys:List Int) (a:Option Addr) (b:Nat) (zs:List Int) (b2:Option Addr) (c:Nat) (us:List Int):Prop :=
 ((a=a1/\b=c1/\zs=xs)/\b2=a2/\c=c2/\us=ys) \/
 (w'.ownsRow w.heap.size 5 1 (.slice a zs.length b) zs.length (zs.map (Value.int .u8))/\b2=a2/\c=c2/\us=ys) \/
 ((a=a1/\b=c1/\zs=xs)/\w'.ownsRow w.heap.size 5 1 (.slice b2 us.length c) us.length (us.map (Value.int .u8))) \/
 bA w.heap.size w'.heap.size w' (fW a zs.length b zs b2 us.length c us)
theorem fF.same (w':World) (a1:Option Addr) (c1:Nat) (xs:List Int) (a2:Option Addr) (c2:Nat) (ys:List Int):fF s w' a1 c1 xs a2 c2 ys a1 c1 xs a2 c2 ys:=.inl ⟨⟨rfl,rfl,rfl⟩,rfl,rfl,rfl⟩
theorem fF.below {w':World} {a2:Option Addr} {ys:List Int} {c:Option Addr} {zs:List Int} {b2:Option Addr} {e:Nat} {us:List Int} (h:fF x l f w a a2 n ys c k zs b2 e us) (hb:Bw l w'):fF x w' f w a a2 n ys c k zs b2 e us:=by
 rcases h with h|⟨xs,b⟩|⟨xs,b⟩|h;·exact .inl h
 ·exact .inr (.inl ⟨dY xs hb,b⟩)
 ·exact .inr (.inr (.inl ⟨xs,dY b hb⟩))
 ·exact .inr (.inr (.inr ((h.below hb).low (Nat.le_refl _) hb.size)))
theorem EE (E:Nat) (w:World) (j:p.xs.length<=16) (hb:dU p) (l:z<=E) (t:E<=w.heap.size) (o:bA z E w (fW b p.xs.length D p.xs m p.ys.length d p.ys)): Calls prog 138 #[.agg #[.u p.t,.u p.cm,.bool p.so,.slice b p.xs.length D,.slice m p.ys.length d,.i p.ir],.u q,.i r] w λe a=>∃ (c1:Option Addr) (c:Nat) (c2:Option Addr) (f:Nat),e=.returned (.tuple #[.u (jn p (gA q r)).1,.agg (fU (jn p (gA q r)).2.1 c1 c c2 f),.bool (jn p (gA q r)).2.2])/\fF w a b D p.xs m d p.ys c1 c (jn p (gA q r)).2.1.xs c2 f (jn p (gA q r)).2.1.ys/\Bw w a:=by
 refine jQ q r (λk=>Calls prog 138 #[.agg #[.u p.t,.u p.cm,.bool p.so,.slice b p.xs.length D,.slice m p.ys.length d,.i p.ir],.u q,.i r] w λe a=>∃ (c1:Option Addr) (c:Nat) (c2:Option Addr) (f:Nat),e=.returned (.tuple #[.u (jn p k).1,.agg (fU (jn p k).2.1 c1 c c2 f),.bool (jn p k).2.2])/\fF w a b D p.xs m d p.ys c1 c (jn p k).2.1.xs c2 f (jn p k).2.1.ys/\Bw w a) ?_ ?_ ?_ ?_ ?_ ?_ ?_;·rintro rfl rfl;exact (KE p.t p.cm p.so b _ D m _ d p.ir w).mono λe a h=>⟨b,D,m,d,h.1,fF.same _ _ _ _ _ _ _ _,h.2⟩
 ·rintro rfl rfl;exact (KF p.t p.cm p.so b _ D m _ d p.ir w).mono λe a h=>⟨b,D,m,d,h.1,fF.same _ _ _ _ _ _ _ _,h.2⟩
 ·rintro rfl rfl;exact (KG p.t p.cm p.so b _ D m _ d p.ir w).mono λe a h=>⟨b,D,m,d,h.1,fF.same _ _ _ _ _ _ _ _,h.2⟩
 ·rintro rfl rfl;rcases Nat.eq_zero_or_pos p.xs.length with i|i
  ·have a1:p.xs=[]:=List.length_eq_zero_iff.1 i;have h:=ID p.t p.cm p.so b D m p.ys.length d p.ir w;rw [i];refine h.mono λe a h=>⟨b,D,m,d,?_,?_,h.2⟩;·rw [h.1];simp only [jn,fU,a1];rfl
   ·simp only [jn,a1];exact fF.same _ _ _ _ _ _ _ _
  ·obtain ⟨g,rfl,a2,n⟩:=IE o i;unfold maxLen at n;have u:=iW hb.1 0;refine (Jf p.t p.cm p.so g 0 p.xs.length D m p.ys.length d p.ir p.xs p.ys z E w rfl rfl i j a2 ab l t o u).mono λe a h=>?_;obtain ⟨c1,c,addr,size,s⟩:=h;refine ⟨c1,c,m,d,?_,.inr (.inl ⟨?_,rfl,rfl,?_⟩),s⟩;·rw [addr];simp only [jn,fU,List.length_drop]
   ·simp only [jn,List.length_drop];exact size
   ·simp only [jn]
 ·rintro rfl rfl;exact (KH p.t p.cm p.so b _ D m _ d p.ir w).mono λe a h=>⟨b,D,m,d,h.1,fF.same _ _ _ _ _ _ _ _,h.2⟩
 ·rintro rfl rfl;exact (KJ p.t p.cm p.so b _ D m _ d p.ir ab w).mono λe a h=>⟨b,D,m,d,h.1,fF.same _ _ _ _ _ _ _ _,h.2⟩
 ·intro v x y B A C;exact (KK p.t p.cm p.so b _ D m _ d p.ir q r v x y B A C w).mono λe a h=>⟨none,0,none,0,h.1,.inr (.inr (.inr (lA _ _ _))),h.2⟩
theorem EF (i:wrap64 (bits .and .u64 q 1)=y):Calls prog 139 #[.agg #[.u p.t,.u p.cm,.bool p.so,.slice b p.xs.length D,.slice m p.ys.length d,.i p.ir],.u 268435457,.i 1,.u q] s λe a=>∃ (c1:Option Addr) (c2:Nat) (c:Option Addr) (f:Nat),e=.returned (.tuple #[.agg (fU ((⟨p.t,p.cm,p.so,p.xs,p.ys,y⟩,true):DV × Bool).1 c1 c2 c f),.bool ((⟨p.t,p.cm,p.so,p.xs,p.ys,y⟩,true):DV × Bool).2])/\fF s a b D p.xs m d p.ys c1 c2 ((⟨p.t,p.cm,p.so,p.xs,p.ys,y⟩,true):DV × Bool).1.xs c f ((⟨p.t,p.cm,p.so,p.xs,p.ys,y⟩,true):DV × Bool).1.ys/\Bw s a:=by have g:=II p.t p.cm p.so b p.xs.length D m p.ys.length d p.ir q s;rw [i] at g;exact g.mono λe a h=>⟨b,D,m,d,h.1,fF.same _ _ _ _ _ _ _ _,h.2⟩
theorem BT (E:Nat) (w:World) (i:p.ys.length<=4096) (j:z<=E) (addr:E<=w.heap.size) (size:bA z E w (fW b p.xs.length D p.xs m p.ys.length d p.ys)): Calls prog 139 #[.agg #[.u p.t,.u p.cm,.bool p.so,.slice b p.xs.length D,.slice m p.ys.length d,.i p.ir],.u q,.i r,.u y] w λe a=>∃ (c1:Option Addr) (c2:Nat) (c:Option Addr) (f:Nat),e=.returned (.tuple #[.agg (fU (fP p y (gA q r)).1 c1 c2 c f),.bool (fP p y (gA q r)).2])/\fF w a b D p.xs m d p.ys c1 c2 (fP p y (gA q r)).1.xs c f (fP p y (gA q r)).1.ys/\Bw w a:=by
 refine jQ q r (λk=>Calls prog 139 #[.agg #[.u p.t,.u p.cm,.bool p.so,.slice b p.xs.length D,.slice m p.ys.length d,.i p.ir],.u q,.i r,.u y] w λe a=>∃ (c1:Option Addr) (c2:Nat) (c:Option Addr) (f:Nat),e=.returned (.tuple #[.agg (fU (fP p y k).1 c1 c2 c f),.bool (fP p y k).2])/\fF w a b D p.xs m d p.ys c1 c2 (fP p y k).1.xs c f (fP p y k).1.ys/\Bw w a) ?_ ?_ ?_ ?_ ?_ ?_ ?_;·rintro rfl rfl;rw [Gr];exact (IF p.t p.cm p.so b _ D m _ d p.ir y w).mono λe a h=>⟨b,D,m,d,h.1,fF.same _ _ _ _ _ _ _ _,h.2⟩
 ·rintro rfl rfl;rw [Gs];exact (IG p.t p.cm p.so b _ D m _ d p.ir y w).mono λe a h=>⟨b,D,m,d,h.1,fF.same _ _ _ _ _ _ _ _,h.2⟩
 ·rintro rfl rfl;rw [Gt];exact (IH p.t p.cm p.so b _ D m _ d p.ir y w).mono λe a h=>⟨b,D,m,d,h.1,fF.same _ _ _ _ _ _ _ _,h.2⟩
 ·rintro rfl rfl;by_cases g:p.ys.length<4096
  ·rw [zE p y g];refine (ED p.t p.cm p.so b _ D m _ d p.ir y p.xs p.ys z E w rfl g j addr size).mono λe a h=>?_;obtain ⟨a2,n,o,i,a1⟩:=h;have l:(p.ys++[IntKind.u8.wrap y]).length=p.ys.length+1:=(by rw [List.length_append];rfl);refine ⟨b,D,a2,n,?_,.inr (.inr (.inl ⟨⟨rfl,rfl,rfl⟩,?_⟩)),a1⟩;·rw [o];dsimp only [fU];rw [l]
   ·dsimp only;rw [l];exact i
  ·rw [zF p y g];exact (DY p.t p.cm p.so b _ D m _ d p.ir y g i w).mono λe a h=>⟨b,D,m,d,h.1,fF.same _ _ _ _ _ _ _ _,h.2⟩
 ·rintro rfl rfl;rw [Gu];exact EF p b D m d y w _ rfl
 ·rintro rfl rfl;rw [Gv];exact (IJ p.t p.cm p.so b _ D m _ d p.ir y w).mono λe a h=>⟨b,D,m,d,h.1,fF.same _ _ _ _ _ _ _ _,h.2⟩
 ·intro s t u v x B;rw [Gx];exact (IK p.t p.cm p.so b _ D m _ d p.ir y q r s t u v x B w).mono λe a h=>⟨none,0,none,0,h.1,.inr (.inr (.inr (lA _ _ _))),h.2⟩
theorem BU:B=3860\/B=769\/B=256\/B=260\/B=324\/((B==3860)=false/\(B==769)=false/\(B==256)=false/\(B==260)=false/\(B==324)=false):=by simp only [beq_eq_false_iff_ne];omega
theorem EG (hz:t.length=22) (hs:Sl .u64 s b t) (hk:dB c=true): CB 149 #[.slice b 22 D,.i c] s (.u (dE t c)):=by
 obtain ⟨a,d,rfl,p,g⟩:=hs 0 ab;have cell:∀ j,j<22->s.cell? ⟨a,d+j,none⟩=some (.u (t.getD j 0)):=by intro j L;obtain ⟨K,w,e,_,C⟩:=hs j ab;simp only [Option.some.injEq,Addr.mk.injEq,and_true] at e;obtain ⟨rfl,rfl⟩:=e;exact C
 rcases BU c with rfl|rfl|rfl|rfl|rfl|⟨m,o,r,d4,d5⟩;·go_enter func149,ntmps149;exact a09
 ·go_enter func149,ntmps149;exact a09
 ·have F:Hid (dE t 256=bits .and .u64 (t.getD 0 0) 786722):=(rfl:dE t 256=_);have E:=cell 0 ab;rw [Nat.add_zero] at E;clear cell g;generalize t.getD 0 0=y at *;go_enter func149,ntmps149;exact a05
 ·have F:Hid (dE t 260=bits .and .u64 (t.getD 3 0) (t.getD 2 0)):=(rfl:dE t 260=_);have H:=cell 3 ab;have G:=cell 2 ab;clear cell g;generalize t.getD 3 0=y at *;generalize t.getD 2 0=z at *;go_enter func149,ntmps149;go_wp2_with fail;go_quiet (fail)
  go_wp2_with fail;go_ret;exact ⟨bh,⟨rfl,rfl,rfl,Nat.le_refl _,λ_ _=>rfl⟩⟩
 ·have F:Hid (dE t 324=bits .and .u64 (t.getD 9 0) (t.getD 2 0)):=(rfl:dE t 324=_);have H:=cell 9 ab;have G:=cell 2 ab;clear cell g;generalize t.getD 9 0=y at *;generalize t.getD 2 0=z at *;go_enter func149,ntmps149;go_wp2_with fail;go_quiet (fail)
  go_wp2_with fail;go_ret;exact ⟨bh,⟨rfl,rfl,rfl,Nat.le_refl _,λ_ _=>rfl⟩⟩
 ·have cap:0<=cU c:=(by simp only [dB,m,o,Bool.false_or,decide_eq_true_eq] at hk;exact hk);have B:=rM c;obtain ⟨k,n⟩:∃ k:Nat,cU c=(k:Int):=⟨(cU c).toNat,ab⟩;have I:k<22:=ab;have F:Hid (dE t c=t.getD k 0):=(by show _=_;simp only [beq_eq_false_iff_ne] at m o r d4 d5;unfold dE;rw [if_neg m,if_neg o,if_neg r,if_neg d4,if_neg d5,n,Int.toNat_natCast]);have l:Hid (∀ s,CB 151 #[.i c] s (.i (k:Int))):=(by rw [<- n];exact dK c);have u:Hid (s.cell? ⟨a,d+k,none⟩=some (.u (t.getD k 0))):=cell k I;clear cell g n B cap hk;generalize t.getD k 0=y at *;go_enter func149,ntmps149;go_wp2_with fail;refine (l.out _).mono ?_;rintro e J ⟨rfl,f⟩;have A:J.cell? ⟨a,d+k,none⟩=some (.u y):=(f.cell (by exact p)).trans u.out;go_wp2_with fail;go_ret;exact ⟨bh,f⟩
def qJ (w:World) (p:Option Addr) (l:List (Nat × Nat × Nat)):Prop:=∀ k,k<l.length->∃ g,p=some ⟨g,0,none⟩/\g<w.heap.size/\w.cell? ⟨g,k*3,none⟩=some (.i (l.getD k (0,0,0)).1) /\
 w.cell? ⟨g,k*3+1,none⟩=some (.i (l.getD k (0,0,0)).2.1)/\w.cell? ⟨g,k*3+2,none⟩=some (.i (l.getD k (0,0,0)).2.2)
def pc (p:Nat × Nat × Nat):List Value:=[.i p.1,.i p.2.1,.i p.2.2]
theorem Lg (A:Obj) (cs:Array Value) (t:TypeId) (l:List (Nat × Nat × Nat)) (h:cs=(l.flatMap pc).toArray):qJ ((s.alloc A).alloc (.cells cs t)) (some ⟨s.heap.size+1,0,none⟩) l:=by
 subst h;intro k a;have b:((s.alloc A).alloc (.cells (l.flatMap pc).toArray t)).heap[s.heap.size+1]?=some (.cells (l.flatMap pc).toArray t (0,0)):=heap_alloc2_new _ _ _;have e:∀ j,j<3->((s.alloc A).alloc (.cells (l.flatMap pc).toArray t)).cell? ⟨s.heap.size+1,k*3+j,none⟩=(pc (l.getD k (0,0,0)))[j]?:=by intro j c;rw [cell_of_row _ _ _ _ _ _ b];have:=vz pc 3 l (by intro x _;rfl) k a j c;rw [show l.getD k (0,0,0)=l[k] by simp [List.getD,a],<- this];simp
 exact ⟨_,rfl,cp,e 0 bc,e 1 bc,e 2 bc⟩
theorem yA (p:Option Addr):qJ s p []:=by intro k a;simp at a
theorem oA:(prog.info? 289).map (·.size)=some 5:=by kernel_rfl
theorem zO: Calls prog 259 #[.string o.str] s λe b=>∃ p,e=.returned (.agg #[.bool o.hasRd,.bool o.hasA,.bool o.hasB,.slice p o.pcs.length o.pcs.length,.i o.width])/\Hid (qJ b p o.pcs)/\Bw s b:=by
 cases o
 case r =>
  simp only [Fm.str]
  go_enter func259,ntmps259
  go_wp2_with fail
  exact bodyPost_ret (results_cell_row results259 _ _ _ _ _ _ _ rfl (heap_alloc_new _ _) underlying289 rfl oA) rfl ⟨none,rfl,yA _ _,bal _ _⟩
 case x =>
  simp only [Fm.str]
  go_enter func259,ntmps259
  go_wp2_with fail
  exact bodyPost_ret (results_cell_row results259 _ _ _ _ _ _ _ rfl (heap_alloc_new _ _) underlying289 rfl oA) rfl ⟨none,rfl,yA _ _,bal _ _⟩
 all_goals (
  simp only [Fm.str]
  go_enter func259,ntmps259
  go_wp2_with fail
  exact bodyPost_ret (results_cell_row results259 _ _ _ _ _ _ _ rfl (heap_alloc2_old _ _ _) underlying289 rfl oA) rfl ⟨some ⟨s.heap.size+1,0,none⟩,rfl,Lg _ _ _ _ _ rfl,(bal _ _).alloc cp _⟩)
def qK (x:Int) (l:List (Nat × Nat × Nat)):Int:=l.foldl (λa p=>bits .or .u64 a (Uz.wrap (dc x p.1 p.2.1*2^p.2.2))) 0
def Lh (f:Fm) (x:Int):Int:=if f.hasRd then dc x 7 5 else 0
def aV (f:Fm) (x:Int):Int:=if f.hasA then dc x 15 5 else 0
def bV (f:Fm) (x:Int):Int:=if f.hasB then dc x 20 5 else 0
theorem Jg (l:List (Nat × Nat × Nat)) (k:Nat) (h:k<l.length):bits .or .u64 (qK B (l.take k)) (Uz.wrap (dc B (l.getD k (0,0,0)).1 (l.getD k (0,0,0)).2.1*2^(l.getD k (0,0,0)).2.2))=qK B (l.take (k+1)):=by
 have e:l.getD k (0,0,0)=l[k]:=by simp [List.getD,h]
 rw [e,List.take_succ_eq_append_getElem h];simp only [qK,List.foldl_append,List.foldl_cons,List.foldl_nil]
theorem qJ.below {w':List (Nat × Nat × Nat)} (h:qJ x f w') (hb:Bw x l):qJ l f w':=by intro k p;obtain ⟨g,e,a,b,c,d⟩:=h k p;exact ⟨g,e,Nat.lt_of_lt_of_le a hb.size,(hb.cell (by exact a)).trans b,(hb.cell (by exact a)).trans c,(hb.cell (by exact a)).trans d⟩
theorem du (hb:Bw x l) {o:Obj} (h:x.heap[w]?=some o):l.heap[w]?=some o:=by
 rw [hb.block w ?_];·exact h
 ·obtain ⟨a,_⟩:=Array.getElem?_eq_some_iff.1 h;exact a
theorem BV (h:Below w x l) (n:Nat):Below w x (l.drewN n):=⟨h.os,h.tape,h.output,h.size,h.block⟩
theorem Lj (a:0<=B) (b:B<18446744073709551616) (hk:D<64) (hn:E<64) (w:World):
 Calls prog 76 #[.u B,.i D,.i E] w λe c=>e=.returned (.u (dc B D E))/\∃ m,c=w.drewN m :=
 (bG B D E a b hk hn w).mono λ_ _ h=>⟨h.1,1,h.2⟩
theorem oB:(#[Value.int .i64 B,.i c,.i q,.i r,.i y]:Array Value).all (·.oneCell')=true:=by simp [Value.oneCell']
theorem fM:(prog.info? 80).map (·.size)=some 5:=by kernel_rfl
theorem vJ (h0:0<=c) (h1:c<18446744073709551616) (w:World): CB 224 #[.i B,.string o.str,.u c] w (.agg #[.i B,.i (Lh o c),.i (aV o c),.i (bV o c),.i (wrap64 (au o.width (qK c o.pcs)))]):=by
 have G:=zO o
 obtain ⟨b1,D⟩:∃ b,b=o.hasRd:=⟨_,rfl⟩
 obtain ⟨b2,E⟩:∃ b,b=o.hasA:=⟨_,rfl⟩
 obtain ⟨b3,F⟩:∃ b,b=o.hasB:=⟨_,rfl⟩
 obtain ⟨l,Y⟩:∃ l,l=o.pcs:=⟨_,rfl⟩
 obtain ⟨op,t⟩:∃ op,op=o.width:=⟨_,rfl⟩
 obtain ⟨s,hs⟩:∃ s,s=o.str:=⟨_,rfl⟩
 have W1:1<=op:=by rw [t];cases o<;>decide
 have W2:op<=64:=by rw [t];cases o<;>decide
 have PB:Hid (∀ p ∈ l,p.1<64/\p.2.1<64/\p.2.2<64):=by
  show ∀ p ∈ l,p.1<64/\p.2.1<64/\p.2.2<64
  rw [Y];cases o<;>decide
 have LB:l.length<=4:=by rw [Y];cases o<;>decide
 rw [<- D,<- E,<- F,<- Y,<- t,<- hs] at G
 have R1:Hid (Lh o c=if b1 then dc c 7 5 else 0):=by show _=_;rw [Lh,D]
 have R2:Hid (aV o c=if b2 then dc c 15 5 else 0):=by show _=_;rw [aV,E]
 have R3:Hid (bV o c=if b3 then dc c 20 5 else 0):=by show _=_;rw [bV,F]
 rw [<- hs,<- Y,<- t]
 clear D E F Y t hs
 obtain ⟨Z,I⟩:∃ y,y=dc c 7 5:=⟨_,rfl⟩
 obtain ⟨y2,J⟩:∃ y,y=dc c 15 5:=⟨_,rfl⟩
 obtain ⟨y3,K⟩:∃ y,y=dc c 20 5:=⟨_,rfl⟩
 have B1:=bG c 7 5 h0 h1 bc bc
 have B2:=bG c 15 5 h0 h1 bc bc
 have B3:=bG c 20 5 h0 h1 bc bc
 have L1:0<=Z/\Z<32:=by rw [I];exact kH c 7 5
 have L2:0<=y2/\y2<32:=by rw [J];exact kH c 15 5
 have L3:0<=y3/\y3<32:=by rw [K];exact kH c 20 5
 have V1:wrap64 Z=Z:=IntWalk.wrap64_in _ ab
 have V2:wrap64 y2=y2:=IntWalk.wrap64_in _ ab
 have V3:wrap64 y3=y3:=IntWalk.wrap64_in _ ab
 rw [<- I] at B1 R1
 rw [<- J] at B2 R2
 rw [<- K] at B3 R3
 clear I J K L1 L2 L3
 have R:Hid (∀ w:World,Calls prog 76 #[.u c,.i 7,.i 5] w λe u=>e=.returned (.u Z)/\u=w.drew):=B1
 have S:Hid (∀ w:World,Calls prog 76 #[.u c,.i 15,.i 5] w λe u=>e=.returned (.u y2)/\u=w.drew):=B2
 have T:Hid (∀ w:World,Calls prog 76 #[.u c,.i 20,.i 5] w λe u=>e=.returned (.u y3)/\u=w.drew):=B3
 clear B1 B2 B3
 cases b1<;>cases b2<;>cases b3
 all_goals (
  go_enter func224,ntmps224
  go_wp2_with fail
  refine (G _).mono ?_
  rintro e d ⟨p,rfl,hP,x⟩
  clear G
  have Q:Hid (d.heap[w.heap.size]?=some (.cells #[.i 0,.i 0,.i 0,.i 0,.i 0] 80 (0,0))):=by
   show _=_
   rw [x.block _ cp];exact heap_alloc_new _ _
  have hsz:w.heap.size<d.heap.size:=by have:=x.size;simp at this;omega
  go_wp2_with (go_at_call 76;first | (with_reducible refine (R.out _).mono ?_;rintro e w2 ⟨rfl,rfl⟩) | (with_reducible refine (S.out _).mono ?_;rintro e w2 ⟨rfl,rfl⟩) | (with_reducible refine (T.out _).mono ?_;rintro e w2 ⟨rfl,rfl⟩))
  go_loopw [9,37] (λacc i wr=>∃ k:Nat,k<=l.length/\i=.i k/\acc=.u (qK c (l.take k))/\∃ N O P:Int,∃ c1 c2 c3:Bool,Hid (N=Lh o c)/\Hid (O=aV o c)/\Hid (P=bV o c) /\
   Hid (wr.heap[w.heap.size]?=some (.cells #[.i 0,.i 0,.i 0,.i 0,.i 0] 80 (0,0))) /\
   Hid (wr.heap[d.heap.size]?=some (.cells #[.bool c1,.bool c2,.bool c3,.slice p l.length l.length,.i op] 289 (0,0))) /\
   Hid (wr.heap[d.heap.size+1]?=some (.cells #[.i B,.i N,.i O,.i P,.i 0] 80 (0,0))) /\
   Hid (qJ wr p l)/\Bw w wr)
   (λ_ i _=>l.length-(intOf i).toNat)
  case atStart =>
   have hb0:=((bal _ _).trans (x.mono cp):Bw w d)
   refine ⟨0,ab,rfl,rfl,_,_,_,_,_,_,?_,?_,?_,?_,heap_alloc2_old _ _ _,heap_alloc2_new _ _ _,?_,?_⟩
   ·show _=_;rw [R1.out];rfl
   ·show _=_;rw [R2.out];rfl
   ·show _=_;rw [R3.out];rfl
   ·exact du lx Q.out
   ·exact qJ.below hP.out lx
   ·exact aa hb0 lx
  case round =>
   obtain ⟨k,hk,rfl,rfl,N,O,P,c1,c2,c3,Q1,Q2,Q3,G6,G7,G8,HP,f⟩:=hrel
   clear hP x Q
   by_cases H:k<l.length
   ·obtain ⟨g,hpg,hg,d0,d1,d2⟩:=HP.out k H
    subst hpg
    have AC:Hid (bits .or .u64 (qK c (l.take k)) (Uz.wrap (dc c (l.getD k (0,0,0)).1 (l.getD k (0,0,0)).2.1*2^(l.getD k (0,0,0)).2.2))=qK c (l.take (k+1))):=Jg c l k H
    have V:=PB.out (l.getD k (0,0,0)) (by simp [List.getD,H])
    obtain ⟨⟨pa,pb,pt⟩,hq⟩:∃ q,q=l.getD k (0,0,0):=⟨_,rfl⟩
    rw [<- hq] at d0 d1 d2 AC V
    clear hq
    obtain ⟨W,X,PB5⟩:=V
    simp only at d0 d1 d2 W X PB5
    have C:=Lj c pa pb h0 h1 W X
    obtain ⟨y,hy⟩:∃ y,y=dc c pa pb:=⟨_,rfl⟩
    obtain ⟨z,L⟩:∃ z,z=qK c (l.take k):=⟨_,rfl⟩
    rw [<- hy] at C
    have AC2:Hid (bits .or .u64 z (Uz.wrap (y*2^pt))=qK c (l.take (k+1))):=by
     show _=_
     rw [L,hy];exact AC.out
    have BQ:Hid (∀ w:World,Calls prog 76 #[.u c,.i pa,.i pb] w λe u=>e=.returned (.u y)/\∃ m,u=w.drewN m):=C
    rw [<- L]
    clear C AC hy L
    go_wp2_with fail
    go_quiet (first | (go_at_call 76;with_reducible refine Calls.quiet_of (BQ.out _)))
    go_wp2_with fail
    go_roundw
    case rel=>
     have r:Bw wr ((wr.alloc (.cells #[.i pa,.i pb,.i pt] 292)).drewN nq):=BV (bal _ _) nq
     exact ⟨k+1,ab,by go_num,by rw [<- AC2.out],N,O,P,c1,c2,c3,Q1,Q2,Q3,du r G6.out,du r G7.out,du r G8.out,qJ.below HP.out r,aa f r⟩
    case measure=>simp [intOf];omega
   ·have hkl:k=l.length:=by omega
    have A:l.take k=l:=List.take_of_length_le ab
    rw [A]
    subst hkl
    clear A R S T R1 R2 R3
    obtain ⟨z,L⟩:∃ z,z=qK c l:=⟨_,rfl⟩
    have HZ:Hid (z=qK c l):=L
    rw [<- L]
    clear L
    have e7:=cell_of_row wr d.heap.size 4 _ _ _ G7.out
    have M:∀ j,wr.cell? ⟨d.heap.size+1,j,none⟩=_:=λj=>cell_of_row wr (d.heap.size+1) j _ _ _ G8.out
    have e80:=M 0
    have e81:=M 1
    have e82:=M 2
    have e83:=M 3
    have e84:=M 4
    have f84:=frozen_of_row wr (d.heap.size+1) 4 _ _ G8.out
    have U:(wr.setCell ⟨d.heap.size+1,4,none⟩ (.i (wrap64 (au op z)))).heap[w.heap.size]?=some (.cells #[.i 0,.i 0,.i 0,.i 0,.i 0] 80 (0,0)):=by
     rw [heap_setCell_other _ _ _ _ (by show w.heap.size≠d.heap.size+1;omega)];exact G6.out
    simp at e7 e80 e81 e82 e83 e84
    clear M
    go_wp2_with (first | (go_at_call 153;with_reducible refine (iQ z op W1 W2 _).mono ?_;rintro e w2 ⟨rfl,hw2⟩;have hw3:=hw2.symm;subst hw3) | (refine wpList_store_rowTo rfl 80 (.tmp 6) (.tmp 59) rfl rfl w.heap.size #[.i B,.i N,.i O,.i P,.i (wrap64 (au op z))] rfl rfl 80 _ U fM rfl (oB B N O P _) ?_))
    refine bodyPost_ret (results_cell_row results224 _ _ _ _ _ _ _ rfl (setRow_heap _ _ _ _ _ _ U) underlying80 rfl fM) rfl ⟨?_,?_⟩
    ·rw [<- Q1.out,<- Q2.out,<- Q3.out,<- HZ.out]
    ·exact aF (f.setCell (by show w.heap.size<=d.heap.size+1;omega) _) (Nat.le_refl _) _)
def ny:List (Nat × Bool)->Nat
 | []=>0
 | (n,b)::l=>(if b then 2^n-1 else 0)+2^n*ny l
def rZ:List (Nat × Bool)->Nat->Nat
 | [],_=>0
 | (n,b)::l,x=>(if b then x%2^n else 0)+2^n*rZ l (x/2^n)
theorem Lk:∀ (l:List (Nat × Bool)) (x:Nat),x &&& ny l=rZ l x:=by
 intro l;induction l with
 | nil=>intro x;simp [ny,rZ]
 | cons p l e =>
   intro x;obtain ⟨n,b⟩:=p;have d:0<2^n:=Nat.two_pow_pos n;have a:ny ((n,b)::l)/2^n=ny l:=(by rw [ny,Nat.add_mul_div_left _ _ d,Nat.div_eq_of_lt,Nat.zero_add];cases b<;>simp<;>omega);have c:ny ((n,b)::l)%2^n=if b then 2^n-1 else 0:=by rw [ny,Nat.add_mul_mod_self_left,Nat.mod_eq_of_lt];cases b<;>simp<;>omega
   rw [I9 x _ n,a,c,e,rZ];cases b;·simp
   ·simp only [if_true];rw [KY,Nat.mod_mod];omega
theorem tw (l:List (Nat × Bool)) (a:0<=B) (b:B<4294967296) (hm:D=ny l) (hb:D<18446744073709551616):bits .and .u64 B (D:Int)=(rZ l B.toNat:Nat):=by subst hm;rw [u64_and B _ a ab ab ab,Int.toNat_natCast,Lk]
theorem TU (a:0<=B) (b:B<4294967296):bits .and .u64 B 127=B%128:=by have h:=tw B 127 [(7,true)] a b bc bc;rw [show ((127:Nat):Int)=127 from rfl] at h;rw [h];simp [rZ];omega
theorem O4 (a:0<=B) (b:B<4294967296):bits .and .u64 B 28799=B%128+B/4096%8*4096:=by have h:=tw B 28799 [(7,true),(5,false),(3,true)] a b bc bc;rw [show ((28799:Nat):Int)=28799 from rfl] at h;rw [h];simp [rZ];omega
theorem TW (a:0<=B) (b:B<4294967296):bits .and .u64 B 4261441663=B%128+B/4096%8*4096+B/33554432*33554432:=by have h:=tw B 4261441663 [(7,true),(5,false),(3,true),(10,false),(7,true)] a b bc bc;rw [show ((4261441663:Nat):Int)=4261441663 from rfl] at h;rw [h];simp [rZ];omega
theorem TX (a:0<=B) (b:B<4294967296):bits .and .u64 B 4261445631=B%32768+B/33554432*33554432:=by have h:=tw B 4261445631 [(15,true),(10,false),(7,true)] a b bc bc;rw [show ((4261445631:Nat):Int)=4261445631 from rfl] at h;rw [h];simp [rZ];omega
theorem U2 (a:0<=B) (b:B<4294967296):bits .and .u64 B 4227887231=B%128+B/4096%8*4096+B/67108864*67108864:=by have h:=tw B 4227887231 [(7,true),(5,false),(3,true),(11,false),(6,true)] a b bc bc;rw [show ((4227887231:Nat):Int)=4227887231 from rfl] at h;rw [h];simp [rZ];omega
theorem U5 (a:0<=B) (b:B<4294967296):bits .and .u64 B 4160778367=B%128+B/4096%8*4096+B/134217728*134217728:=by have h:=tw B 4160778367 [(7,true),(5,false),(3,true),(12,false),(5,true)] a b bc bc;rw [show ((4160778367:Nat):Int)=4160778367 from rfl] at h;rw [h];simp [rZ];omega
theorem TY (a:0<=B) (b:B<4294967296):bits .and .u64 B 4193284223=B%128+B/4096%8*4096+B/1048576%32*1048576+B/134217728*134217728:=by have h:=tw B 4193284223 [(7,true),(5,false),(3,true),(5,false),(5,true),(2,false),(5,true)] a b bc bc;rw [show ((4193284223:Nat):Int)=4193284223 from rfl] at h;rw [h];simp [rZ];omega
theorem U7 (a:0<=B) (b:B<4294967296):bits .and .u64 B 4294967295=B:=by have h:=tw B 4294967295 [(32,true)] a b bc bc;rw [show ((4294967295:Nat):Int)=4294967295 from rfl] at h;rw [h];simp [rZ];omega
def yB (k:Nat) (r:Row):Bool:=decide (0<=r.op/\r.op<128/\0<=r.more/\(k=97->r.fm=.r)/\(k=62\/k=73->r.fm=.a)) &&
 (match r.fm with
 | .r=>decide (r.more<128/\0<=r.f3/\r.f3<8)
 | .w=>decide (r.more<128/\0<=r.f3/\r.f3<8)
 | .h=>decide (r.more<64/\0<=r.f3/\r.f3<8)
 | .a=>decide (r.more<32/\0<=r.f3/\r.f3<8)
 | .x=>decide (r.more<4096/\r.f3=0)
 | .u=>decide (r.more=0/\r.f3=-1)
 | .j=>decide (r.more=0/\r.f3=-1)
 | _=>decide (r.more=0/\0<=r.f3/\r.f3<8))
theorem GD:∀ k,k<98->yB k (ch k)=true:=by
 have h:(List.range 98).all (λk=>yB k (ch k))=true:=ba
 intro k a;exact List.all_eq_true.1 h k ri
theorem io (d:0<=c) (k:c<128) (e:0<=q) (g:q<8) (h4:0<=r) (h:r<2^(32-o.at)) (i:o.at=0->r=0):vH o c q r=c+q*4096+r*2^o.at:=by
 unfold vH;have f:Uz.wrap (q*4096)=q*2^12:=by rw [IntKind.wrap_u64];omega
 have e2:bits .or .u64 c (q*2^12)=c+q*2^12:=mP c q 12 3 d ab e g ab ab;rw [f,e2];by_cases b:o.at=0;·have j:=i b;subst j;have e3:Uz.wrap (0*2^o.at)=0:=(by rw [Int.zero_mul];rfl);have e4:bits .or .u64 (c+q*2^12) 0=c+q*2^12:=(by have:=mP (c+q*2^12) 0 0 1 ab ab ab ab ab;rw [u64_or _ _ ab ab ab ab];simp;omega);rw [e3,e4];omega
 ·have a:o.at=20\/o.at=25\/o.at=26\/o.at=27:=(by cases o<;>simp [Fm.at] at b ⊢);rcases a with a|a|a|a<;>rw [a] at h ⊢;·have e3:Uz.wrap (r*2^20)=r*2^20:=dm;rw [e3,mP (c+q*2^12) r 20 12 ab ab h4 ab ab ab];omega
  ·have e3:Uz.wrap (r*2^25)=r*2^25:=dm;rw [e3,mP (c+q*2^12) r 25 7 ab ab h4 ab ab ab];omega
  ·have e3:Uz.wrap (r*2^26)=r*2^26:=dm;rw [e3,mP (c+q*2^12) r 26 6 ab ab h4 ab ab ab];omega
  ·have e3:Uz.wrap (r*2^27)=r*2^27:=dm;rw [e3,mP (c+q*2^12) r 27 5 ab ab h4 ab ab ab];omega
theorem Ll (r:Row) (hr:yB D r=true) (x:Int) (d:0<=x) (g:x<4294967296): (bits .and .u64 x (iR ((D:Int)+1) r.fm)==vH r.fm r.op r.f3z r.more)=decide (fJ D r.fm r.op r.f3 r.more x):=by
 obtain ⟨E,f,o,z,m⟩:=r
 simp only [yB,Bool.and_eq_true,decide_eq_true_eq] at hr
 obtain ⟨⟨l,n,p,v,y⟩,t⟩:=hr
 simp only [Row.f3z]
 rw [Bool.eq_iff_iff,beq_iff_eq,decide_eq_true_iff]
 have C:∀ f,iR 98 f=bits .or .u64 (Fm.mask f) 3968:=λf=>by rw [iR,if_pos rfl]
 cases f
 case r =>
  simp only [decide_eq_true_eq] at t
  rw [if_neg ab,io .r o z m l n ab ab p ko (by simp [Fm.at])]
  by_cases A:D=97
  ·subst A
   have e:iR (((97:Nat):Int)+1) .r=4261445631:=bc
   rw [e,TX x d g]
   simp only [fJ,Fm.at,forall_const]
   omega
  ·have e:iR ((D:Int)+1) .r=4261441663:=by
    have k:¬ (D=62\/D=73):=λh=>by cases y h
    rw [iR,if_neg ab,if_neg ab];rfl
   rw [e,TW x d g]
   simp only [fJ,Fm.at]
   omega
 case a =>
  simp only [decide_eq_true_eq] at t
  have q:¬ D=97:=λh=>by cases v h
  rw [if_neg ab,io .a o z m l n ab ab p ko (by simp [Fm.at])]
  by_cases A:D=62\/D=73
  ·have e:iR ((D:Int)+1) .a=4193284223:=by
    rw [iR,if_neg ab,if_pos ab];decide
   rw [e,TY x d g]
   simp only [fJ,Fm.at]
   omega
  ·have e:iR ((D:Int)+1) .a=4160778367:=by
    rw [iR,if_neg ab,if_neg ab];rfl
   rw [e,U5 x d g]
   simp only [fJ,Fm.at]
   omega
 all_goals (
  have q:¬ D=97:=λh=>by cases v h
  have B:¬ (D=62\/D=73):=λh=>by cases y h
  simp only [decide_eq_true_eq] at t
  rw [iR,if_neg ab,if_neg ab]
  simp only [Fm.mask])
 case h =>
  rw [if_neg ab,io .h o z m l n ab ab p ko (by simp [Fm.at]),U2 x d g]
  simp only [fJ,Fm.at]
  omega
 case w =>
  rw [if_neg ab,io .w o z m l n ab ab p ko (by simp [Fm.at]),TW x d g]
  simp only [fJ,Fm.at]
  omega
 case x =>
  rw [if_neg ab,io .x o z m l n ab ab p ko (by simp [Fm.at]),U7 x d g]
  simp only [fJ,Fm.at]
  omega
 case u =>
  rw [if_pos ab,io .u o 0 m l n ab ab p ko (by intro _;omega),TU x d g]
  simp only [fJ,Fm.at,and_true]
  omega
 case j =>
  rw [if_pos ab,io .j o 0 m l n ab ab p ko (by intro _;omega),TU x d g]
  simp only [fJ,Fm.at,and_true]
  omega
 case i =>
  rw [if_neg ab,io .i o z m l n ab ab p ko (by intro _;omega),O4 x d g]
  simp only [fJ,Fm.at,and_true]
  omega
 case s =>
  rw [if_neg ab,io .s o z m l n ab ab p ko (by intro _;omega),O4 x d g]
  simp only [fJ,Fm.at,and_true]
  omega
 case b =>
  rw [if_neg ab,io .b o z m l n ab ab p ko (by intro _;omega),O4 x d g]
  simp only [fJ,Fm.at,and_true]
  omega
 case c =>
  rw [if_neg ab,io .c o z m l n ab ab p ko (by intro _;omega),O4 x d g]
  simp only [fJ,Fm.at,and_true]
  omega
theorem Sq:dc B D E=B/2^D%2^E:=rfl
theorem O5 (x:Int) (k:0<=x) (l:x<4294967296):qK x o.pcs=zI o x:=by
 have Z:∀ y:Int,0<=y->y<18446744073709551616->bits .or .u64 0 (Uz.wrap y)=y:=by
  intro y d g
  have e:Uz.wrap y=y:=by rw [IntKind.wrap_u64];omega
  rw [e,u64_or 0 y ab ab d g]
  simp;omega
 have W:∀ y:Int,0<=y->y<18446744073709551616->Uz.wrap y=y:=by
  intro y d g
  rw [IntKind.wrap_u64];omega
 cases o<;>simp only [Fm.pcs,qK,List.foldl_cons,List.foldl_nil,zI,Sq]
 case i=>rw [Z _ ab ab];omega
 case h=>rw [Z _ ab ab];omega
 case w=>rw [Z _ ab ab];omega
 case u=>rw [Z _ ab ab];omega
 case a=>rw [Z _ ab ab];omega
 case c=>rw [Z _ ab ab];omega
 case s =>
  rw [Z _ ab ab,W _ ab ab,mP _ (x/2^7%2^5) 0 5 ab ab ab ab ab ab]
  omega
 case b =>
  rw [Z _ ab ab,W _ ab ab,mP _ (x/2^7%2^1) 11 1 ab ab ab ab ab ab,
   W _ ab ab,mP _ (x/2^25%2^6) 5 6 ab ab ab ab ab ab,
   W _ ab ab,mP _ (x/2^8%2^4) 1 4 ab ab ab ab ab ab]
  omega
 case j =>
  rw [Z _ ab ab,W _ ab ab,mP _ (x/2^12%2^8) 12 8 ab ab ab ab ab ab,
   W _ ab ab,mP _ (x/2^20%2^1) 11 1 ab ab ab ab ab ab,
   W _ ab ab,mP _ (x/2^21%2^10) 1 10 ab ab ab ab ab ab]
  omega
def qL (k:Nat) (x:Int):Ins:=⟨(k:Int)+1,Lh (ch k).fm x,aV (ch k).fm x,bV (ch k).fm x,nV (ch k).fm x⟩
def mB (k:Nat) (x:Int):Bool:=decide (fJ k (ch k).fm (ch k).op (ch k).f3 (ch k).more x)
def cD (x:Int):Nat->Nat->Option Nat
 | 0,_=>none
 | n+1,k=>if mB k x=true then some k else cD x n (k+1)
theorem tz (hk:D<98) (h:mB D B=true):cD B (98-D) D=some D:=by rw [show 98-D=(98-(D+1))+1 from ab,cD,if_pos h]
theorem qM (hk:D<98) (h:mB D B=false):cD B (98-D) D=cD B (98-(D+1)) (D+1):=by rw [show 98-D=(98-(D+1))+1 from ab,cD,if_neg (by rw [h];decide)]
def BW (x:Int):Option Ins:=if x<4294967296 then (cD x 98 0).map (λk=>qL k x) else none
def pS:Ins:=⟨0,0,0,0,0⟩
def mg (x:Int):Value:=match BW x with
 | some i=>.tuple #[i.val,.bool true]
 | none=>.tuple #[pS.val,.bool false]
theorem BX (h:¬ B<4294967296):mg B=.tuple #[pS.val,.bool false]:=by simp [mg,BW,h]
theorem BY (h:B<4294967296) (a:cD B 98 0=some D):mg B=.tuple #[(qL D B).val,.bool true]:=by simp [mg,BW,h,a]
theorem yC (h:B<4294967296) (a:cD B 98 0=none):mg B=.tuple #[pS.val,.bool false]:=by simp [mg,BW,h,a]
end Go.Proofs.YtfagphfjfhpmjaaGreatDoor
