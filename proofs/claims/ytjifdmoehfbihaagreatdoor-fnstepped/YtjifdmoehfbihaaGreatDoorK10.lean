/- Own lemmas. -/
import Derived.Test.YtjifdmoehfbihaaGreatDoorAut
import Derived.Test.YtjifdmoehfbihaaGreatDoorK07
import Derived.Test.YtjifdmoehfbihaaGreatDoorK09
set_option maxRecDepth 100000
set_option maxHeartbeats 3200000
namespace Go.Proofs.YtjifdmoehfbihaaGreatDoor
open Go.RowKit Tryz
open IntKind renaming u64->Uz
set_option linter.unusedVariables false
theorem kX (a:Option Addr) (cap:Nat) (l:List Int) (i:Nat) (o:i<4) (w:World) (hz:l.length=22) (hs:Sl .u64 w a l):CE 180 #[.slice a 22 cap,.i i] w (.u (du l i)):=by
 obtain ⟨b,f,rfl,j,m⟩:=hs 16 ab;have p:wrap64 (8*(i:Int))=((8*i:Nat):Int):=by unfold wrap64;omega
 have c:Uz.wrap ((8*i:Nat):Int)=((8*i:Nat):Int):=by rw [IntKind.wrap_u64];omega
 have d:8*i<64:=ab
 have F:Hid (du l i=bits .and .u64 (l.getD 16 0/2^(8*i)) 255):=(rfl:du l i=_);generalize l.getD 16 0=x at *;go_enter func180,ntmps180;exact yn
theorem kE (a:Option Addr) (cap:Nat) (l:List Int) (i:Nat) (u:i<4) (w:World) (hz:l.length=22) (hs:Sl .u64 w a l):CE 184 #[.slice a 22 cap,.i i] w (.bool (fp l i)):=by
 have p:Hid (CE 180 #[.slice a 22 cap,.i i] w (.u (du l i))):=kX a cap l i u w hz hs;have d:fp l i=((du l i/128==1)||(decide (i<3)&&(du l (i+1)/128==1)&&(bits .and .u64 (du l (i+1)/8) 3==1))):=rfl;cases r:(du l i/128==1) with
 | true =>have F:Hid (fp l i=true):=(by show _=_;rw [d,r];rfl);clear d;generalize du l i=y at *;go_enter func184,ntmps184;go_wp2_with fail;refine p.out.mono ?_;rintro e o ⟨rfl,b⟩;exact a02
 | false =>
   rw [r,Bool.false_or] at d;by_cases g:i<3
   ·have q:decide (i<3)=true:=ul;have s:decide ((i:Int)<3)=true:=bh;rw [q,Bool.true_and] at d;have A:wrap64 ((i:Int)+1)=((i+1:Nat):Int):=lr;have f:Hid (CE 180 #[.slice a 22 cap,.i ((i+1:Nat):Int)] w (.u (du l (i+1)))):=kX a cap l (i+1) ab w hz hs;clear hs;generalize du l i=y at *;generalize du l (i+1)=z at *;cases j:(z/128==1) with
    | true =>obtain ⟨c,t⟩:∃ c,(bits .and .u64 (z/8) 3==1)=c:=⟨_,rfl⟩;have F:Hid (fp l i=c):=(by show _=_;rw [d,j,t,Bool.true_and]);clear d;go_enter func184,ntmps184;go_wp2_with fail;refine p.out.mono ?_;rintro e o ⟨rfl,b⟩;subst b;go_wp2_with (go_at_call 180;refine f.out.mono ?_;rintro e o ⟨rfl,b⟩;subst b);go_ret;exact ⟨bc,rfl⟩
    | false =>have F:Hid (fp l i=false):=(by show _=_;rw [d,j,Bool.false_and]);clear d;go_enter func184,ntmps184;go_wp2_with fail;refine p.out.mono ?_;rintro e o ⟨rfl,b⟩;subst b;go_wp2_with (go_at_call 180;refine f.out.mono ?_;rintro e o ⟨rfl,b⟩;subst b);go_ret;exact ⟨bc,rfl⟩
   ·have q:decide (i<3)=false:=ul;have s:decide ((i:Int)<3)=false:=bh;have F:Hid (fp l i=false):=(by show _=_;rw [d,q];rfl);clear d q;generalize du l i=y at *;go_enter func184,ntmps184;go_wp2_with fail;refine p.out.mono ?_;rintro e o ⟨rfl,b⟩;exact a02
def iS (l:List Int) (i:Nat):Int:=bits .and .u64 (du l i/8) 3
def eQ (a:Int):Nat->Nat->Nat
 | 0,k=>k
 | n+1,k=>if (bits .and .u64 (a/2^k) 1==1)=true then eQ a n (k+1) else k
theorem J7 (a:Int) (k:Nat) (hk:k<53) (h:(bits .and .u64 (a/2^k) 1==1)=true):eQ a (53-k) k=eQ a (53-(k+1)) (k+1):=by rw [show 53-k=(53-(k+1))+1 from ab,eQ,if_pos h]
theorem Dt (a:Int) (k:Nat) (hk:k<53) (h:(bits .and .u64 (a/2^k) 1==1)=false):eQ a (53-k) k=k:=by rw [show 53-k=(53-(k+1))+1 from ab,eQ,if_neg (by rw [h];decide)]
def sj (a:Int) (k:Nat):Int:=Uz.wrap (bits .andNot .u64 a (Uz.wrap (Uz.wrap (2^(k+1))-1))*4)
def xD (a:Int) (k:Nat):Int:=Uz.wrap (Uz.wrap (sj a k+Uz.wrap (2^(k+3)))-1)
def kF (l:List Int) (i:Nat):Int:=if 0<i then Uz.wrap (l.getD (16+i) 0*4) else 0
def cO (l:List Int) (i:Nat):Int × Int × Bool :=
 if (iS l i==1)=true then (if Uz.wrap (l.getD (17+i) 0*4)<=kF l i then (0,0,false) else (kF l i,Uz.wrap (Uz.wrap (l.getD (17+i) 0*4)-1),true))
 else if (iS l i==2)=true then (Uz.wrap (l.getD (17+i) 0*4),Uz.wrap (Uz.wrap (l.getD (17+i) 0*4)+3),true)
 else if (iS l i==3)=true then (sj (l.getD (17+i) 0) (eQ (l.getD (17+i) 0) 53 0),xD (l.getD (17+i) 0) (eQ (l.getD (17+i) 0) 53 0),true)
 else (0,0,false)
theorem yP (a:Option Addr) (cap:Nat) (l:List Int) (i:Nat) (Y:i<4) (w:World) (hz:l.length=22) (hs:Sl .u64 w a l):CE 179 #[.slice a 22 cap,.i i] w (.tuple #[.u (cO l i).1,.u (cO l i).2.1,.bool (cO l i).2.2]):=by
 obtain ⟨b,I,rfl,hb,Q⟩:=hs (17+i) ab;obtain ⟨b',R,K,_,P⟩:=hs (16+i) ab;simp only [Option.some.injEq,Addr.mk.injEq,and_true] at K;obtain ⟨rfl,rfl⟩:=K;have u:Hid (CE 180 #[.slice (some ⟨b,I,none⟩) 22 cap,.i i] w (.u (du l i))):=kX _ cap l i Y w hz hs;have Z:bits .and .u64 (du l i/8) 3=iS l i:=rfl;have c:cO l i=if (iS l i==1)=true then (if Uz.wrap (l.getD (17+i) 0*4)<=kF l i then (0,0,false) else (kF l i,Uz.wrap (Uz.wrap (l.getD (17+i) 0*4)-1),true))
  else if (iS l i==2)=true then (Uz.wrap (l.getD (17+i) 0*4),Uz.wrap (Uz.wrap (l.getD (17+i) 0*4)+3),true)
  else if (iS l i==3)=true then (sj (l.getD (17+i) 0) (eQ (l.getD (17+i) 0) 53 0),xD (l.getD (17+i) 0) (eQ (l.getD (17+i) 0) 53 0),true)
  else (0,0,false):=rfl
 have m:kF l i=if 0<i then Uz.wrap (l.getD (16+i) 0*4) else 0:=rfl
 have X:wrap64 (17+(i:Int))=((17+i:Nat):Int):=by unfold wrap64;omega
 have W:wrap64 (16+(i:Int))=((16+i:Nat):Int):=by unfold wrap64;omega
 have T:0<=((17+i:Nat):Int)/\((17+i:Nat):Int)<((22:Nat):Int):=ab
 have S:0<=((16+i:Nat):Int)/\((16+i:Nat):Int)<((22:Nat):Int):=ab
 generalize cO l i=r at *;generalize iS l i=H at *;generalize du l i=cf at *;generalize kF l i=L at *;generalize l.getD (17+i) 0=x at *;generalize l.getD (16+i) 0=y at *;clear hs;cases M:(H==1) with
 | true =>
   rw [if_pos M] at c;have D:(decide (0<i)=true/\L=Uz.wrap (y*4))\/(decide (0<i)=false/\L=0):=by
    by_cases p:0<i;·rw [if_pos p] at m;exact Or.inl ⟨by simpa using p,m⟩
    ·rw [if_neg p] at m;exact Or.inr ⟨by simpa using p,m⟩
   obtain ⟨t,ht⟩:∃ t,Uz.wrap (x*4)=t:=⟨_,rfl⟩;rw [ht] at c;clear m;rcases D with ⟨D,o⟩|⟨D,o⟩
   ·rw [o] at c;obtain ⟨C,G⟩:∃ t,Uz.wrap (y*4)=t:=⟨_,rfl⟩;rw [G] at c;clear o;by_cases f:t<=C;·have d:decide (t<=C)=true:=i6;rw [if_pos f] at c;have F:Hid (r=(0,0,false)):=c;clear c f;go_enter func179,ntmps179;go_wp2_with fail;refine u.out.mono ?_;rintro e z ⟨rfl,g⟩;have j:=g.symm;subst j;go_wp2_with fail;go_ret3;exact ⟨bc,rfl⟩
    ·have d:decide (t<=C)=false:=i6;rw [if_neg f] at c;have F:Hid (r=(C,Uz.wrap (t-1),true)):=c;clear c f;go_enter func179,ntmps179;go_wp2_with fail;refine u.out.mono ?_;rintro e z ⟨rfl,g⟩;have j:=g.symm;subst j;go_wp2_with fail;go_ret3;exact ⟨bc,rfl⟩
   ·subst o;by_cases f:t<=0;·have d:decide (t<=0)=true:=i6;rw [if_pos f] at c;have F:Hid (r=(0,0,false)):=c;clear c f;go_enter func179,ntmps179;go_wp2_with fail;refine u.out.mono ?_;rintro e z ⟨rfl,g⟩;have j:=g.symm;subst j;go_wp2_with fail;go_ret3;exact ⟨bc,rfl⟩
    ·have d:decide (t<=0)=false:=i6;rw [if_neg f] at c;have F:Hid (r=(0,Uz.wrap (t-1),true)):=c;clear c f;go_enter func179,ntmps179;go_wp2_with fail;refine u.out.mono ?_;rintro e z ⟨rfl,g⟩;have j:=g.symm;subst j;go_wp2_with fail;go_ret3;exact ⟨bc,rfl⟩
 | false =>
   rw [if_neg (by rw [M];decide)] at c;cases N:(H==2) with
   | true =>rw [if_pos N] at c;have F:Hid (r=(Uz.wrap (x*4),Uz.wrap (Uz.wrap (x*4)+3),true)):=c;clear c m;go_enter func179,ntmps179;go_wp2_with fail;refine u.out.mono ?_;rintro e z ⟨rfl,g⟩;have j:=g.symm;subst j;go_wp2_with fail;go_ret3;exact ⟨bc,rfl⟩
   | false =>
     rw [if_neg (by rw [N];decide)] at c;cases O:(H==3) with
     | true =>
       rw [if_pos O] at c;have F:Hid (r=(sj x (eQ x 53 0),xD x (eQ x 53 0),true)):=c;clear c m;go_enter func179,ntmps179;go_wp2_with fail;refine u.out.mono ?_;rintro e z ⟨rfl,g⟩;have j:=g.symm;subst j;go_wp2_with fail;go_loopw [9] (λv wr=>∃ k:Nat,k<=53/\v=.u k/\Hid (eQ x (53-k) k=eQ x 53 0)/\wr=w)
        (λv _=>53-(intOf v).toNat)
       case atStart=>exact ⟨0,ab,rfl,(rfl:eQ x (53-0) 0=eQ x 53 0),rfl⟩
       case round =>
        obtain ⟨k,hk,rfl,E,rfl⟩:=hrel;have fin:Hid (eQ x 53 0=k)->Hid (r=(sj x k,xD x k,true)):=λh=>by show r=_;rw [F.out,h.out]
        have U:((k:Int)+1)=((k+1:Nat):Int):=ab;have u1:Uz.wrap ((k:Int)+1)=((k+1:Nat):Int):=di;have u3:Uz.wrap ((k:Int)+3)=((k+3:Nat):Int):=di;clear U;by_cases B:k<53
        ·have V:decide ((k:Int)<53)=true:=bh;cases q:(bits .and .u64 (x/2^k) 1==1) with
         | true =>
           have A:Hid (eQ x (53-(k+1)) (k+1)=eQ x 53 0):=(J7 x k B q).symm.trans E.out;clear fin u1 u3;go_wp2_with fail;go_roundw;case rel=>exact ⟨k+1,ab,by go_num,A,trivial⟩
           case measure=>simp [intOf];omega
         | false =>have A:=fin (E.out.symm.trans (Dt x k B q));clear fin;go_wp2_with fail;go_ret3;exact ⟨by rw [A.out];rfl,rfl⟩
        ·have s:k=53:=ab;have A:=fin (E.out.symm.trans (by rw [s];rfl));have V:decide ((k:Int)<53)=false:=bh;clear fin s;go_wp2_with fail;go_ret3;exact ⟨by rw [A.out];rfl,rfl⟩
     | false =>rw [if_neg (by rw [O];decide)] at c;have F:Hid (r=(0,0,false)):=c;clear c m;go_enter func179,ntmps179;go_wp2_with fail;refine u.out.mono ?_;rintro e z ⟨rfl,g⟩;have j:=g.symm;subst j;go_wp2_with fail;go_ret3;exact ⟨bc,rfl⟩
theorem QT (x a b:Int) (w:World):CE 51 #[.i x,.i a,.i b] w (.bool (decide (a<=x/\x<=b))):=by
 by_cases c:a<=x
 ·by_cases d:x<=b;·have F:Hid (decide (a<=x/\x<=b)=true):=(by show decide (a<=x/\x<=b)=true;simp [c,d]);have f:decide (a<=x)=true:=i5;have g:decide (x<=b)=true:=ki;clear c d;go_enter func51,ntmps51;go_wp2;go_ret;exact ⟨bc,rfl⟩
  ·have F:Hid (decide (a<=x/\x<=b)=false):=(by show decide (a<=x/\x<=b)=false;simp [d]);have f:decide (a<=x)=true:=i5;have g:decide (x<=b)=false:=ki;clear c d;exact v9
 ·have F:Hid (decide (a<=x/\x<=b)=false):=(by show decide (a<=x/\x<=b)=false;simp [c]);have f:decide (a<=x)=false:=i5;clear c;exact v9
def ST (r:Int × Int × Bool) (x:Int):Bool:=r.2.2&&decide (r.1<=x)&&decide (x<=r.2.1)
def uG (l:List Int) (x:Int):Nat->Nat->Bool
 | 0,_=>false
 | n+1,k=>if ST (cO l k) x=true then ((du l k/128==1)&&(bits .and .u64 (du l k/2) 1==0)) else uG l x n (k+1)
theorem NS (l:List Int) (x:Int) (k:Nat) (hk:k<4) (h:ST (cO l k) x=true):uG l x (4-k) k=((du l k/128==1)&&(bits .and .u64 (du l k/2) 1==0)):=by rw [show 4-k=(4-(k+1))+1 from ab,uG,if_pos h]
def aZ (x s:Int):Int:=Uz.wrap (Uz.wrap (x+Uz.wrap s)-1)
def pT (r:Int × Int × Bool) (x y:Int):Bool:=!r.2.2||decide (y<r.1)||decide (r.2.1<x)
def NT (r:Int × Int × Bool) (x y:Int):Bool:=decide (x<r.1)||decide (r.2.1<y)
def wI (b p kind:Int):Bool :=
 if ((p==3)&&(b/128==0))=true then true else if (kind==1)=true then (bits .and .u64 (b/4) 1==1) else if (kind==2)=true then (bits .and .u64 b 1==1) else (bits .and .u64 (b/2) 1==1)
def aA (l:List Int) (p x y kind:Int):Nat->Nat->Bool
 | 0,_=>(p==3)
 | n+1,k=>if pT (cO l k) x y=true then aA l p x y kind n (k+1) else !NT (cO l k) x y&&wI (du l k) p kind
theorem Ic (l:List Int) (p x y kind:Int) (k:Nat) (hk:k<4) (h:pT (cO l k) x y=true):aA l p x y kind (4-k) k=aA l p x y kind (4-(k+1)) (k+1):=by rw [show 4-k=(4-(k+1))+1 from ab,aA,if_pos h]
theorem J8 (l:List Int) (p x y kind:Int) (k:Nat) (hk:k<4) (h:pT (cO l k) x y=false):aA l p x y kind (4-k) k=(!NT (cO l k) x y&&wI (du l k) p kind):=by rw [show 4-k=(4-(k+1))+1 from ab,aA,if_neg (by rw [h];decide)]
theorem l4 (a:Option Addr) (cap:Nat) (l:List Int) (p x s kind:Int) (w:World) (hz:l.length=22) (hs:Sl .u64 w a l):CE 115 #[.slice a 22 cap,.i p,.u x,.i s,.i kind] w (.bool (aA l p x (aZ x s) kind 4 0)):=by
 have M:Uz.wrap (Uz.wrap (x+Uz.wrap s)-1)=aZ x s:=rfl;generalize aZ x s=y at *;have O:Hid (Sl .u64 w a l):=hs;have P:Hid (l.length=22):=hz;have V:Hid (True/\aA l p x y kind 4 0=aA l p x y kind 4 0):=⟨trivial,rfl⟩;clear hs hz V;go_enter func115,ntmps115;go_wp2_with fail;go_loopw [12] (λv wr=>∃ k:Nat,k<=4/\v=.i k/\Hid (aA l p x y kind (4-k) k=aA l p x y kind 4 0)/\wr=w)
  (λv _=>4-(intOf v).toNat)
 case atStart=>exact ⟨0,ab,rfl,(rfl:aA l p x y kind (4-0) 0=aA l p x y kind 4 0),rfl⟩
 case round =>
  obtain ⟨k,hk,rfl,K,rfl⟩:=hrel;clear M;by_cases m:k<4
  ·have dk:decide ((k:Int)<4)=true:=bh;have HR:Hid (CE 179 #[.slice a 22 cap,.i k] wr (.tuple #[.u (cO l k).1,.u (cO l k).2.1,.bool (cO l k).2.2])):=yP a cap l k m wr P.out O.out;have W:Hid (CE 180 #[.slice a 22 cap,.i k] wr (.u (du l k))):=kX a cap l k m wr P.out O.out;have d:pT (cO l k) x y=false->Hid (aA l p x y kind 4 0=(!NT (cO l k) x y&&wI (du l k) p kind)):=λh=>K.out.symm.trans (J8 l p x y kind k m h);have b:pT (cO l k) x y=true->Hid (aA l p x y kind (4-(k+1)) (k+1)=aA l p x y kind 4 0):=λh=>(Ic l p x y kind k m h).symm.trans K.out;generalize cO l k=r at *;generalize du l k=c at *;obtain ⟨B,C,H⟩:=r;simp only at HR;have S:pT (B,C,H) x y=(!H||decide (y<B)||decide (C<x)):=rfl;have T:NT (B,C,H) x y=(decide (x<B)||decide (C<y)):=rfl;rw [S] at d b;rw [T] at d;clear S T;go_wp2_with fail;refine HR.out.mono ?_;rintro e w1 ⟨rfl,u⟩;have z:=u.symm;subst z;cases H with
   | false =>
     have g:=b (rfl);clear d b;go_wp2_with fail;go_roundw;case rel=>exact ⟨k+1,ab,by go_num,g,trivial⟩
     case measure=>simp [intOf];omega
   | true =>
     cases I:decide (y<B) with
     | true =>
       have g:=b (by rw [I];rfl);clear d b;go_wp2_with fail;go_roundw;case rel=>exact ⟨k+1,ab,by go_num,g,trivial⟩
       case measure=>simp [intOf];omega
     | false =>
       cases Q:decide (C<x) with
       | true =>
         have g:=b (by rw [I,Q];rfl);clear d b;go_wp2_with fail;go_roundw;case rel=>exact ⟨k+1,ab,by go_num,g,trivial⟩
         case measure=>simp [intOf];omega
       | false =>
         have g:=d (by rw [I,Q];rfl);clear d b;cases J:decide (x<B) with
         | true =>go_wp2_with fail;go_ret;exact ⟨by rw [g.out,J];rfl,rfl⟩
         | false =>
           cases R:decide (C<y) with
           | true =>go_wp2_with fail;go_ret;exact ⟨by rw [g.out,J,R];rfl,rfl⟩
           | false =>
             have G:Hid (aA l p x y kind 4 0=wI c p kind):=(by show _=_;rw [g.out,J,R];rfl);clear g;have D:wI c p kind=if ((p==3)&&(c/128==0))=true then true else if (kind==1)=true then (bits .and .u64 (c/4) 1==1) else if (kind==2)=true then (bits .and .u64 c 1==1) else (bits .and .u64 (c/2) 1==1):=rfl
             go_wp2_with fail;refine W.out.mono ?_;rintro e w1 ⟨rfl,u⟩;have z:=u.symm;subst z;have f:((p==3)=true/\(c/128==0)=true)\/((p==3)=true/\(c/128==0)=false)\/(p==3)=false:=(by cases (p==3)<;>cases (c/128==0)<;>simp);generalize wI c p kind=E at *;rcases f with ⟨j,A⟩|f;·have o:Hid (E=true):=(by show _=_;rw [D,j,A];rfl);clear D;go_wp2_with fail;go_ret;exact ⟨by rw [G.out,o.out];rfl,rfl⟩
             ·have t:E=if (kind==1)=true then (bits .and .u64 (c/4) 1==1) else if (kind==2)=true then (bits .and .u64 c 1==1) else (bits .and .u64 (c/2) 1==1):=by
               rcases f with ⟨j,A⟩|j;·rw [D,j,A];rfl
               ·rw [D,j];rfl
              clear D;obtain ⟨X,e1⟩:∃ q,(bits .and .u64 (c/4) 1==1)=q:=⟨_,rfl⟩;obtain ⟨Y,e2⟩:∃ q,(bits .and .u64 c 1==1)=q:=⟨_,rfl⟩;obtain ⟨Z,e3⟩:∃ q,(bits .and .u64 (c/2) 1==1)=q:=⟨_,rfl⟩;rw [e1,e2,e3] at t;cases N:(kind==1) with
              | true =>
                have o:Hid (E=X):=(by show _=_;rw [t,N];rfl);clear t;rcases f with ⟨j,A⟩|j;all_goals
                 go_wp2_with fail
                 go_ret
                 exact ⟨by rw [G.out,o.out];rfl,rfl⟩
              | false =>
                cases U:(kind==2) with
                | true =>
                  have o:Hid (E=Y):=(by show _=_;rw [t,N,U];rfl);clear t;rcases f with ⟨j,A⟩|j;all_goals
                   go_wp2_with fail
                   go_ret
                   exact ⟨by rw [G.out,o.out];rfl,rfl⟩
                | false =>
                  have o:Hid (E=Z):=(by show _=_;rw [t,N,U];rfl);clear t;rcases f with ⟨j,A⟩|j;all_goals
                   go_wp2_with fail
                   go_ret
                   exact ⟨by rw [G.out,o.out];rfl,rfl⟩
  ·have L:k=4:=ab;subst L;obtain ⟨q,hq⟩:∃ q,(p==3)=q:=⟨_,rfl⟩;have g:Hid (aA l p x y kind 4 0=q):=K.out.symm.trans hq;go_wp2_with fail;go_ret;exact ⟨by rw [g.out];rfl,rfl⟩
def uH (n:Nat) (l:List Int) (p x s kind:Int):Bool:=aX n l p&&iW s&&decide (1<=kind/\kind<=3)&&!decide (aZ x s<x)&&aA l p x (aZ x s) kind 4 0
theorem Ie (t cm:Int) (u:Bool) (g f:Nat) (b c1:Nat) (a2:Option Addr) (j c2:Nat) (q:Int) (xs ys:List Int) (B E:Nat) (w:World) (hx:xs.length=b) (hy:ys.length=j) (hn0:1<=b) (hn1:b<=16) (hc1:b<=c1) (hc2:c1<=9223372036854775807) (F:B<=E) (G:E<=w.heap.size) (T:bx B E w (fO (some ⟨g,f,none⟩) b c1 xs a2 j c2 ys)) (hw:0<=xs.getD 0 0/\xs.getD 0 0<=255):Calls prog 120 #[.agg #[.u t,.u cm,.bool u,.slice (some ⟨g,f,none⟩) b c1,.slice a2 j c2,.i q],.u 268435456,.i 1] w λe C=>∃ (c:Option Addr) (d:Nat),e=.returned (.tuple #[.u (xs.getD 0 0),.agg #[.u t,.u cm,.bool u,.slice c (b-1) d,.slice a2 j c2,.i q],.bool true])/\C.ownsRow w.heap.size 5 1 (.slice c (b-1) d) (b-1) ((xs.drop 1).map (Value.int .u8))/\Bw w C:=by
 have W:=T.in_;obtain ⟨b',off',e,U,Y⟩:=W 0 ab;simp only [Option.some.injEq,Addr.mk.injEq,and_true] at e;obtain ⟨rfl,rfl⟩:=e;have y:∀ z A,Bw w ((w.alloc z).alloc A):=λz A=>dZ;have k0:∀ z A,((w.alloc z).alloc A).cell? ⟨g,f,none⟩=some (.int .u8 (xs.getD 0 0)):=λz A=>((y z A).cell (by exact U)).trans Y;have t0:((b:Int)==0)=false:=by simp;omega
 have i0:(0:Int)<(b:Int):=ab
 have i1:(1:Int)<=(b:Int):=ab
 have X:Hid (∀ C,Bw w C->Sl .u8 C (some ⟨g,f+1,none⟩) (xs.drop 1)):=λC hb=>(W.below hb).next
 have L:Hid ((xs.drop 1).length=b-1/\b-1<=1048576):=⟨by rw [List.length_drop,hx],ab⟩;have HF:Hid (bx B E w (fO (some ⟨g,f,none⟩) b c1 xs a2 j c2 ys)):=T;have HE2:Hid (B<=E/\E<=w.heap.size):=⟨F,G⟩;have G:=iP ((w.alloc (.cells #[.u t,.u cm,.bool u,.slice (some ⟨g,f,none⟩) b c1,.slice a2 j c2,.i q] 30)).alloc (.cells #[.u 0,.u 0,.bool false,.slice none 0 0,.slice none 0 0,.i 0] 30)) (w.heap.size+1+1) cp (.cells #[] 5 (0,0)) rfl;rw [World.size_alloc,World.size_alloc] at G;have I:Uz.wrap (xs.getD 0 0)=xs.getD 0 0:=by rw [IntKind.wrap_u64];omega
 have D:=aD I;clear W Y T F I hw hx hy;generalize xs.getD 0 0=x0 at *;by_cases S:c1=1;·have V:b=1:=ab;subst S V;have H:xs.drop 1=[]:=List.length_eq_zero_iff.1 (by have:=L.out.1;simpa using this);rw [H];clear H X L;go_enter func120,ntmps120;go_wp2_with (first | (at_builtin;refine gX rfl (.tmp 58) (.tmp 61) rfl (w.heap.size+1+1) _ rfl G _ 0 _ [] rfl rfl ab (λi hi=>absurd hi (Nat.not_lt_zero _)) cp ?_;intro c d J o l;obtain ⟨r,s,m,K⟩:=NN l;have R0:=aD r;have R1:=aD s;have N:=aD m;have R:=aD K;have P:=aD o;obtain ⟨p0,p1,p2,p3,p4,p5⟩:=gQ r;obtain ⟨s0,s1,s2,s3,s4,s5⟩:=gQ s;obtain ⟨y0,y1,y2,y3,y4,y5⟩:=Al s;have f3:=gU r 3;clear r s m K o l));go_region;go_wp2_with fail;rw [D.out];have Q:=nH (gy R1.out ⟨w.heap.size,3,none⟩ (.slice c 0 d) cb) (.u t) (.u cm) (.bool u) (.slice c 0 d) (.slice a2 j c2) (.i q);have M:=(((bx.nil (w.heap.size+1+1) (w.heap.size+1+1) J).snoc (aF c 0 d []) _ J.heap.size P.out (Nat.le_refl _) (Nat.le_refl _) (Nat.le_refl _) (by have:=R.out;omega)).set ⟨w.heap.size,3,none⟩ (.slice c 0 d) (.inl cb)).put6 (w.heap.size+1) (.inl ab) (.u t) (.u cm) (.bool u) (.slice c 0 d) (.slice a2 j c2) (.i q);have O:=kT (N.out.setCell (p:=⟨w.heap.size,3,none⟩) (Nat.le_refl _) (.slice c 0 d)) (g:=w.heap.size+1) ab (.u t) (.u cm) (.bool u) (.slice c 0 d) (.slice a2 j c2) (.i q);exact bodyPost_ret (bN results120 _ _ _ _ _ _ _ rfl (Ao Q) underlying30 rfl bI) rfl ⟨c,d,rfl,cN (eB (M.own _ (List.mem_singleton.2 rfl)) (Below.refl _ _).drew) ab,O.drew⟩
 ·have Z:¬ (c1-1=0):=ab;go_enter func120,ntmps120;go_wp2_with (first | (at_builtin;refine gX rfl (.tmp 58) (.tmp 61) rfl (w.heap.size+1+1) _ rfl G (some ⟨g,f+1,none⟩) (b-1) (c1-1) (xs.drop 1) rfl L.out.1 L.out.2 (X.out _ ((y _ _).alloc (y _ _).size _)) cp ?_;intro c d J o l;obtain ⟨r,s,m,K⟩:=NN l;have R0:=aD r;have R1:=aD s;have N:=aD m;have R:=aD K;have P:=aD o;obtain ⟨p0,p1,p2,p3,p4,p5⟩:=gQ r;obtain ⟨s0,s1,s2,s3,s4,s5⟩:=gQ s;obtain ⟨y0,y1,y2,y3,y4,y5⟩:=Al s;have f3:=gU r 3;clear r s m K o l));go_region;go_wp2_with fail;rw [D.out];have Q:=nH (gy R1.out ⟨w.heap.size,3,none⟩ (.slice c (b-1) d) cb) (.u t) (.u cm) (.bool u) (.slice c (b-1) d) (.slice a2 j c2) (.i q);have M:=(((bx.nil (w.heap.size+1+1) (w.heap.size+1+1) J).snoc (aF c (b-1) d (xs.drop 1)) _ J.heap.size P.out (Nat.le_refl _) (Nat.le_refl _) (Nat.le_refl _) (by have:=R.out;omega)).set ⟨w.heap.size,3,none⟩ (.slice c (b-1) d) (.inl cb)).put6 (w.heap.size+1) (.inl ab) (.u t) (.u cm) (.bool u) (.slice c (b-1) d) (.slice a2 j c2) (.i q);have O:=kT (N.out.setCell (p:=⟨w.heap.size,3,none⟩) (Nat.le_refl _) (.slice c (b-1) d)) (g:=w.heap.size+1) ab (.u t) (.u cm) (.bool u) (.slice c (b-1) d) (.slice a2 j c2) (.i q);exact bodyPost_ret (bN results120 _ _ _ _ _ _ _ rfl (Ao Q) underlying30 rfl bI) rfl ⟨c,d,rfl,cN (eB (M.own _ (List.mem_singleton.2 rfl)) (Below.refl _ _).drew) ab,O.drew⟩
theorem Du (t cm:Int) (s:Bool) (a1:Option Addr) (l c1:Nat) (a2:Option Addr) (b c2:Nat) (r:Int) (x:Int) (xs ys:List Int) (B E:Nat) (w:World) (hy:ys.length=b) (G:b<4096) (C:B<=E) (D:E<=w.heap.size) (J:bx B E w (fO a1 l c1 xs a2 b c2 ys)):Calls prog 122 #[.agg #[.u t,.u cm,.bool s,.slice a1 l c1,.slice a2 b c2,.i r],.u 268435456,.i 1,.u x] w λe u=>∃ (c:Option Addr) (d:Nat),e=.returned (.tuple #[.agg #[.u t,.u cm,.bool s,.slice a1 l c1,.slice c (b+1) d,.i r],.bool true])/\u.ownsRow w.heap.size 5 1 (.slice c (b+1) d) (b+1) ((ys++[IntKind.u8.wrap x]).map (Value.int .u8))/\Bw w u:=by
 have R:=J.out_
 have A:∀ S T,Bw w ((w.alloc S).alloc T):=λS T=>dZ
 have dd:decide ((b:Int)<4096)=true:=by simp;omega
 have HS:Hid (∀ u,Bw w u->Sl .u8 u a2 ys):=λu hb=>R.below hb
 have I:Hid (ys.length=b/\b<4096):=⟨hy,G⟩
 have HF:Hid (bx B E w (fO a1 l c1 xs a2 b c2 ys)):=J
 have HE2:Hid (B<=E/\E<=w.heap.size):=⟨C,D⟩
 have Q:=iP ((w.alloc (.cells #[.u t,.u cm,.bool s,.slice a1 l c1,.slice a2 b c2,.i r] 30)).alloc (.cells #[.u 0,.u 0,.bool false,.slice none 0 0,.slice none 0 0,.i 0] 30)) (w.heap.size+1+1) cp (.cells #[] 5 (0,0)) rfl
 rw [World.size_alloc,World.size_alloc] at Q
 obtain ⟨i0,hi,K,L,M⟩:=info_parts info5
 clear R J C D hy G
 rw [show IntKind.u8.wrap x=x%256 from IntKind.wrap_u8 x]
 go_enter func122,ntmps122
 go_wp2_with (first
  | (at_builtin;refine gX rfl (.tmp 51) (.tmp 53) rfl (w.heap.size+1+1) _ rfl Q a2 b c2 ys rfl I.out.1 (by have:=I.out.2;omega) (HS.out _ ((A _ _).alloc (A _ _).size _)) cp ?_;intro b1 d1 w1 H y;obtain ⟨U,V,F,W⟩:=NN y;have R0:=aD U;have R1:=aD V;have Y:=aD F;have P:=aD W;have O:=aD H;clear U V F W H y)
  | (at_builtin;refine wpList_append_own _ rfl (.tmp 54) (.tmp 57) 24 rfl (w.heap.size+1+1) 5 i0 (.int .u8 0) 1 1 underlying24 hi K L M rfl bb _ b (ys.map (Value.int .u8)) rfl (eB O.out (bal _ _)) ⟨w1.heap.size,0,none⟩ 1 1 [.int .u8 (x%256)] rfl rfl (NP _ _) (by simp [Value.oneCell']) (by have:=I.out.2;unfold maxLen;omega) (by have:=I.out.2;omega) (by have:=P.out;rw [World.size_alloc];omega) ?_;intro v' N q z o;obtain ⟨c,d,rfl⟩:=JV q;obtain ⟨f,j,m⟩:=T7 R0.out R1.out O.out z;have S0:=aD f;have S1:=aD j;have Z:=aD (Y.out.trans (m.mono ab));have Z2:=aD m.size;have O2:=aD q;obtain ⟨p0,p1,p2,p3,p4,p5⟩:=gQ f;obtain ⟨s0,s1,s2,s3,s4,s5⟩:=gQ j;obtain ⟨y0,y1,y2,y3,y4,y5⟩:=Al j;have f4:=gU f 4;clear f j m q z o))
 have T1:=nH (gy S1.out ⟨w.heap.size,4,none⟩ (.slice c (b+1) d) cb) (.u t) (.u cm) (.bool s) (.slice a1 l c1) (.slice c (b+1) d) (.i r)
 have O3:N.ownsRow (w.heap.size+1+1) 5 1 (.slice c (b+1) d) (b+1) ((ys++[x%256]).map (Value.int .u8)):=by rw [List.map_append];exact O2.out
 have X:=(((bx.nil (w.heap.size+1+1) (w.heap.size+1+1) N).snoc (aF c (b+1) d (ys++[x%256])) _ N.heap.size O3 (Nat.le_refl _) (Nat.le_refl _) (Nat.le_refl _) (by have:=P.out;have:=Z2.out;omega)).set ⟨w.heap.size,4,none⟩ (.slice c (b+1) d) (.inl cb)).put6 (w.heap.size+1) (.inl ab) (.u t) (.u cm) (.bool s) (.slice a1 l c1) (.slice c (b+1) d) (.i r)
 have B4:=kT (Z.out.setCell (p:=⟨w.heap.size,4,none⟩) (Nat.le_refl _) (.slice c (b+1) d)) (g:=w.heap.size+1) ab (.u t) (.u cm) (.bool s) (.slice a1 l c1) (.slice c (b+1) d) (.i r)
 exact bodyPost_ret (cJ results122 _ _ _ _ _ _ _ rfl T1 underlying30 rfl bI) rfl ⟨c,d,rfl,cN (X.own _ (List.mem_singleton.2 rfl)) ab,B4⟩
def fq (w w':World) (a1:Option Addr) (c1:Nat) (xs:List Int) (a2:Option Addr) (c2:Nat) (ys:List Int) (a:Option Addr) (b:Nat) (zs:List Int) (b2:Option Addr) (c:Nat) (us:List Int):Prop :=
 ((a=a1/\b=c1/\zs=xs)/\b2=a2/\c=c2/\us=ys) \/
 (w'.ownsRow w.heap.size 5 1 (.slice a zs.length b) zs.length (zs.map (Value.int .u8))/\b2=a2/\c=c2/\us=ys) \/
 ((a=a1/\b=c1/\zs=xs)/\w'.ownsRow w.heap.size 5 1 (.slice b2 us.length c) us.length (us.map (Value.int .u8))) \/
 bx w.heap.size w'.heap.size w' (fO a zs.length b zs b2 us.length c us)
theorem fq.same (w w':World) (a1:Option Addr) (c1:Nat) (xs:List Int) (a2:Option Addr) (c2:Nat) (ys:List Int):fq w w' a1 c1 xs a2 c2 ys a1 c1 xs a2 c2 ys:=.inl ⟨⟨rfl,rfl,rfl⟩,rfl,rfl,rfl⟩
theorem fq.below {w w1 w':World} {a1:Option Addr} {c1:Nat} {xs:List Int} {a2:Option Addr} {c2:Nat} {ys:List Int} {c:Option Addr} {d:Nat} {zs:List Int} {b2:Option Addr} {e:Nat} {us:List Int} (h:fq w w1 a1 c1 xs a2 c2 ys c d zs b2 e us) (hb:Bw w1 w'):fq w w' a1 c1 xs a2 c2 ys c d zs b2 e us:=by
 rcases h with h|⟨a,b⟩|⟨a,b⟩|h;·exact .inl h
 ·exact .inr (.inl ⟨eB a hb,b⟩)
 ·exact .inr (.inr (.inl ⟨a,eB b hb⟩))
 ·exact .inr (.inr (.inr ((h.below hb).low (Nat.le_refl _) hb.size)))
theorem Dy (D:DV) (a1:Option Addr) (c1:Nat) (a2:Option Addr) (c2:Nat) (addr size:Int) (B E:Nat) (w:World) (j:D.xs.length<=16) (hb:dH D) (l:B<=E) (t:E<=w.heap.size) (o:bx B E w (fO a1 D.xs.length c1 D.xs a2 D.ys.length c2 D.ys)):Calls prog 120 #[.agg #[.u D.t,.u D.cm,.bool D.so,.slice a1 D.xs.length c1,.slice a2 D.ys.length c2,.i D.ir],.u addr,.i size] w λe a=>∃ (b:Option Addr) (c:Nat) (d:Option Addr) (f:Nat),e=.returned (.tuple #[.u (jc D (gj addr size)).1,.agg (fM (jc D (gj addr size)).2.1 b c d f),.bool (jc D (gj addr size)).2.2])/\fq w a a1 c1 D.xs a2 c2 D.ys b c (jc D (gj addr size)).2.1.xs d f (jc D (gj addr size)).2.1.ys/\Bw w a:=by
 refine jD addr size (λk=>Calls prog 120 #[.agg #[.u D.t,.u D.cm,.bool D.so,.slice a1 D.xs.length c1,.slice a2 D.ys.length c2,.i D.ir],.u addr,.i size] w λe a=>∃ (b:Option Addr) (c:Nat) (d:Option Addr) (f:Nat),e=.returned (.tuple #[.u (jc D k).1,.agg (fM (jc D k).2.1 b c d f),.bool (jc D k).2.2])/\fq w a a1 c1 D.xs a2 c2 D.ys b c (jc D k).2.1.xs d f (jc D k).2.1.ys/\Bw w a) ?_ ?_ ?_ ?_ ?_ ?_ ?_;·rintro rfl rfl;exact (JP D.t D.cm D.so a1 _ c1 a2 _ c2 D.ir w).mono λe a h=>⟨a1,c1,a2,c2,h.1,fq.same _ _ _ _ _ _ _ _,h.2⟩
 ·rintro rfl rfl;exact (JQ D.t D.cm D.so a1 _ c1 a2 _ c2 D.ir w).mono λe a h=>⟨a1,c1,a2,c2,h.1,fq.same _ _ _ _ _ _ _ _,h.2⟩
 ·rintro rfl rfl;exact (JR D.t D.cm D.so a1 _ c1 a2 _ c2 D.ir w).mono λe a h=>⟨a1,c1,a2,c2,h.1,fq.same _ _ _ _ _ _ _ _,h.2⟩
 ·rintro rfl rfl;rcases Nat.eq_zero_or_pos D.xs.length with i|i
  ·have p:D.xs=[]:=List.length_eq_zero_iff.1 i;have h:=He D.t D.cm D.so a1 c1 a2 D.ys.length c2 D.ir w;rw [i];refine h.mono λe a h=>⟨a1,c1,a2,c2,?_,?_,h.2⟩;·rw [h.1];simp only [jc,fM,p];rfl
   ·simp only [jc,p];exact fq.same _ _ _ _ _ _ _ _
  ·obtain ⟨g,rfl,m,n⟩:=Hf o i;unfold maxLen at n;have u:=iM hb.1 0;refine (Ie D.t D.cm D.so g 0 D.xs.length c1 a2 D.ys.length c2 D.ir D.xs D.ys B E w rfl rfl i j m ab l t o u).mono λe a h=>?_;obtain ⟨b,c,q,r,s⟩:=h;refine ⟨b,c,a2,c2,?_,.inr (.inl ⟨?_,rfl,rfl,?_⟩),s⟩;·rw [q];simp only [jc,fM,List.length_drop]
   ·simp only [jc,List.length_drop];exact r
   ·simp only [jc]
 ·rintro rfl rfl;exact (JS D.t D.cm D.so a1 _ c1 a2 _ c2 D.ir w).mono λe a h=>⟨a1,c1,a2,c2,h.1,fq.same _ _ _ _ _ _ _ _,h.2⟩
 ·rintro rfl rfl;exact (JT D.t D.cm D.so a1 _ c1 a2 _ c2 D.ir ab w).mono λe a h=>⟨a1,c1,a2,c2,h.1,fq.same _ _ _ _ _ _ _ _,h.2⟩
 ·intro v x y z A C;exact (JU D.t D.cm D.so a1 _ c1 a2 _ c2 D.ir addr size v x y z A C w).mono λe a h=>⟨none,0,none,0,h.1,.inr (.inr (.inr (kU _ _ _))),h.2⟩
theorem Dz (D:DV) (a1:Option Addr) (c1:Nat) (a2:Option Addr) (c2:Nat) (x:Int) (w:World) (q:Int) (i:wrap64 (bits .and .u64 x 1)=q):Calls prog 122 #[.agg #[.u D.t,.u D.cm,.bool D.so,.slice a1 D.xs.length c1,.slice a2 D.ys.length c2,.i D.ir],.u 268435457,.i 1,.u x] w λe a=>∃ (b:Option Addr) (d:Nat) (c:Option Addr) (f:Nat),e=.returned (.tuple #[.agg (fM ((⟨D.t,D.cm,D.so,D.xs,D.ys,q⟩,true):DV × Bool).1 b d c f),.bool ((⟨D.t,D.cm,D.so,D.xs,D.ys,q⟩,true):DV × Bool).2])/\fq w a a1 c1 D.xs a2 c2 D.ys b d ((⟨D.t,D.cm,D.so,D.xs,D.ys,q⟩,true):DV × Bool).1.xs c f ((⟨D.t,D.cm,D.so,D.xs,D.ys,q⟩,true):DV × Bool).1.ys/\Bw w a:=by have g:=Hj D.t D.cm D.so a1 D.xs.length c1 a2 D.ys.length c2 D.ir x w;rw [i] at g;exact g.mono λe a h=>⟨a1,c1,a2,c2,h.1,fq.same _ _ _ _ _ _ _ _,h.2⟩
theorem AA (D:DV) (a1:Option Addr) (c1:Nat) (a2:Option Addr) (c2:Nat) (addr size x:Int) (B E:Nat) (w:World) (i:D.ys.length<=4096) (j:B<=E) (q:E<=w.heap.size) (r:bx B E w (fO a1 D.xs.length c1 D.xs a2 D.ys.length c2 D.ys)):Calls prog 122 #[.agg #[.u D.t,.u D.cm,.bool D.so,.slice a1 D.xs.length c1,.slice a2 D.ys.length c2,.i D.ir],.u addr,.i size,.u x] w λe a=>∃ (b:Option Addr) (d:Nat) (c:Option Addr) (f:Nat),e=.returned (.tuple #[.agg (fM (fI D x (gj addr size)).1 b d c f),.bool (fI D x (gj addr size)).2])/\fq w a a1 c1 D.xs a2 c2 D.ys b d (fI D x (gj addr size)).1.xs c f (fI D x (gj addr size)).1.ys/\Bw w a:=by
 refine jD addr size (λk=>Calls prog 122 #[.agg #[.u D.t,.u D.cm,.bool D.so,.slice a1 D.xs.length c1,.slice a2 D.ys.length c2,.i D.ir],.u addr,.i size,.u x] w λe a=>∃ (b:Option Addr) (d:Nat) (c:Option Addr) (f:Nat),e=.returned (.tuple #[.agg (fM (fI D x k).1 b d c f),.bool (fI D x k).2])/\fq w a a1 c1 D.xs a2 c2 D.ys b d (fI D x k).1.xs c f (fI D x k).1.ys/\Bw w a) ?_ ?_ ?_ ?_ ?_ ?_ ?_;·rintro rfl rfl;rw [Fl];exact (Hg D.t D.cm D.so a1 _ c1 a2 _ c2 D.ir x w).mono λe a h=>⟨a1,c1,a2,c2,h.1,fq.same _ _ _ _ _ _ _ _,h.2⟩
 ·rintro rfl rfl;rw [Fp];exact (Hh D.t D.cm D.so a1 _ c1 a2 _ c2 D.ir x w).mono λe a h=>⟨a1,c1,a2,c2,h.1,fq.same _ _ _ _ _ _ _ _,h.2⟩
 ·rintro rfl rfl;rw [Fq];exact (Hi D.t D.cm D.so a1 _ c1 a2 _ c2 D.ir x w).mono λe a h=>⟨a1,c1,a2,c2,h.1,fq.same _ _ _ _ _ _ _ _,h.2⟩
 ·rintro rfl rfl;by_cases g:D.ys.length<4096
  ·rw [yL D x g];refine (Du D.t D.cm D.so a1 _ c1 a2 _ c2 D.ir x D.xs D.ys B E w rfl g j q r).mono λe a h=>?_;obtain ⟨m,n,o,i,p⟩:=h;have l:(D.ys++[IntKind.u8.wrap x]).length=D.ys.length+1:=(by rw [List.length_append];rfl);refine ⟨a1,c1,m,n,?_,.inr (.inr (.inl ⟨⟨rfl,rfl,rfl⟩,?_⟩)),p⟩;·rw [o];dsimp only [fM];rw [l]
   ·dsimp only;rw [l];exact i
  ·rw [yM D x g];exact (CU D.t D.cm D.so a1 _ c1 a2 _ c2 D.ir x g i w).mono λe a h=>⟨a1,c1,a2,c2,h.1,fq.same _ _ _ _ _ _ _ _,h.2⟩
 ·rintro rfl rfl;rw [Fs];exact Dz D a1 c1 a2 c2 x w _ rfl
 ·rintro rfl rfl;rw [Ft];exact (Hk D.t D.cm D.so a1 _ c1 a2 _ c2 D.ir x w).mono λe a h=>⟨a1,c1,a2,c2,h.1,fq.same _ _ _ _ _ _ _ _,h.2⟩
 ·intro s t u v y z;rw [Fu];exact (Hl D.t D.cm D.so a1 _ c1 a2 _ c2 D.ir x addr size s t u v y z w).mono λe a h=>⟨none,0,none,0,h.1,.inr (.inr (.inr (kU _ _ _))),h.2⟩
end Go.Proofs.YtjifdmoehfbihaaGreatDoor
