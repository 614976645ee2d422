/- Own lemmas. -/
import Derived.Test.YtjifdmoehfbihaaGreatDoorAuj
import Derived.Test.YtjifdmoehfbihaaGreatDoorJ04
import Derived.Test.YtjifdmoehfbihaaGreatDoorJ06
set_option maxRecDepth 100000
set_option maxHeartbeats 3200000
namespace Go.Proofs.YtjifdmoehfbihaaGreatDoor
open Go.RowKit Tryz
open IntKind renaming u64->Uz
set_option linter.unusedVariables false
variable {x l:World} {w n k g:Nat} {a:List Int} {f:Option Addr} (p:DV) (b:Option Addr) (B:Int) (o:Fm) (D E:Nat) (m:Option Addr) (t:List Int) (c:Int) (d:Nat) (e:List Int) (q r:Int) (s:World) (y:Int) (z:Nat)
theorem lH (o:d<4) (w:World) (hz:t.length=22) (hs:Sl .u64 w b t): CE 180 #[.slice b 22 D,.i d] w (.u (db t d)):=by
 obtain ⟨a,f,rfl,j,m⟩:=hs 16 ab;have p:wrap64 (8*(d:Int))=((8*d:Nat):Int):=by unfold wrap64;omega
 have c:Uz.wrap ((8*d:Nat):Int)=((8*d:Nat):Int):=by rw [IntKind.wrap_u64];omega
 have i:8*d<64:=ab
 have F:Hid (db t d=bits .and .u64 (t.getD 16 0/2^(8*d)) 255):=(rfl:db t d=_);generalize t.getD 16 0=x at *;go_enter func180,ntmps180;exact a02
theorem kX (u:d<4) (w:World) (hz:t.length=22) (hs:Sl .u64 w b t): CE 184 #[.slice b 22 D,.i d] w (.bool (fw t d)):=by
 have p:Hid (CE 180 #[.slice b 22 D,.i d] w (.u (db t d))):=lH b D t d u w hz hs;have i:fw t d=((db t d/128==1)||(decide (d<3)&&(db t (d+1)/128==1)&&(bits .and .u64 (db t (d+1)/8) 3==1))):=rfl;cases r:(db t d/128==1) with
 | true =>have F:Hid (fw t d=true):=(by show _=_;rw [i,r];rfl);clear i;generalize db t d=y at *;go_enter func184,ntmps184;go_wp2_with fail;refine p.out.mono ?_;rintro e o ⟨rfl,a⟩;subst a;exact a02
 | false =>
   rw [r,Bool.false_or] at i;by_cases g:d<3
   ·have q:decide (d<3)=true:=v8;have s:decide ((d:Int)<3)=true:=bv;rw [q,Bool.true_and] at i;have A:wrap64 ((d:Int)+1)=((d+1:Nat):Int):=l0;have f:Hid (CE 180 #[.slice b 22 D,.i ((d+1:Nat):Int)] w (.u (db t (d+1)))):=lH b D t (d+1) ab w hz hs;clear hs;generalize db t d=y at *;generalize db t (d+1)=z at *;cases j:(z/128==1) with
    | true =>obtain ⟨c,l⟩:∃ c,(bits .and .u64 (z/8) 3==1)=c:=⟨_,rfl⟩;have F:Hid (fw t d=c):=(by show _=_;rw [i,j,l,Bool.true_and]);clear i;go_enter func184,ntmps184;go_wp2_with fail;refine p.out.mono ?_;rintro e o ⟨rfl,a⟩;subst a;go_wp2_with (go_at_call 180;refine f.out.mono ?_;rintro e o ⟨rfl,a⟩;subst a);go_ret;exact ⟨bh,rfl⟩
    | false =>have F:Hid (fw t d=false):=(by show _=_;rw [i,j,Bool.false_and]);clear i;go_enter func184,ntmps184;go_wp2_with fail;refine p.out.mono ?_;rintro e o ⟨rfl,a⟩;subst a;go_wp2_with (go_at_call 180;refine f.out.mono ?_;rintro e o ⟨rfl,a⟩;subst a);go_ret;exact ⟨bh,rfl⟩
   ·have q:decide (d<3)=false:=v8;have s:decide ((d:Int)<3)=false:=bv;have F:Hid (fw t d=false):=(by show _=_;rw [i,q];rfl);clear i q;generalize db t d=y at *;go_enter func184,ntmps184;go_wp2_with fail;refine p.out.mono ?_;rintro e o ⟨rfl,a⟩;subst a;exact a02
def iN (l:List Int) (i:Nat):Int:=bits .and .u64 (db l i/8) 3
def fl (a:Int):Nat->Nat->Nat
 | 0,k=>k
 | n+1,k=>if (bits .and .u64 (a/2^k) 1==1)=true then fl a n (k+1) else k
theorem LD (hk:D<53) (h:(bits .and .u64 (B/2^D) 1==1)=true):fl B (53-D) D=fl B (53-(D+1)) (D+1):=by rw [show 53-D=(53-(D+1))+1 from ab,fl,if_pos h]
theorem EN (hk:D<53) (h:(bits .and .u64 (B/2^D) 1==1)=false):fl B (53-D) D=D:=by rw [show 53-D=(53-(D+1))+1 from ab,fl,if_neg (by rw [h];decide)]
def tD (a:Int) (k:Nat):Int:=Uz.wrap (bits .andNot .u64 a (Uz.wrap (Uz.wrap (2^(k+1))-1))*4)
def yI (a:Int) (k:Nat):Int:=Uz.wrap (Uz.wrap (tD a k+Uz.wrap (2^(k+3)))-1)
def jE (l:List Int) (i:Nat):Int:=if 0<i then Uz.wrap (l.getD (16+i) 0*4) else 0
def cG (l:List Int) (i:Nat):Int × Int × Bool :=
 if (iN l i==1)=true then (if Uz.wrap (l.getD (17+i) 0*4)<=jE l i then (0,0,false) else (jE l i,Uz.wrap (Uz.wrap (l.getD (17+i) 0*4)-1),true))
 else if (iN l i==2)=true then (Uz.wrap (l.getD (17+i) 0*4),Uz.wrap (Uz.wrap (l.getD (17+i) 0*4)+3),true)
 else if (iN l i==3)=true then (tD (l.getD (17+i) 0) (fl (l.getD (17+i) 0) 53 0),yI (l.getD (17+i) 0) (fl (l.getD (17+i) 0) 53 0),true)
 else (0,0,false)
theorem zU (Y:d<4) (w:World) (hz:t.length=22) (hs:Sl .u64 w b t): CE 179 #[.slice b 22 D,.i d] w (.tuple #[.u (cG t d).1,.u (cG t d).2.1,.bool (cG t d).2.2]):=by
 obtain ⟨a,I,rfl,hb,Q⟩:=hs (17+d) ab;obtain ⟨b',R,K,_,P⟩:=hs (16+d) ab;simp only [Option.some.injEq,Addr.mk.injEq,and_true] at K;obtain ⟨rfl,rfl⟩:=K;have u:Hid (CE 180 #[.slice (some ⟨a,I,none⟩) 22 D,.i d] w (.u (db t d))):=lH _ D t d Y w hz hs;have Z:bits .and .u64 (db t d/8) 3=iN t d:=rfl;have c:cG t d=if (iN t d==1)=true then (if Uz.wrap (t.getD (17+d) 0*4)<=jE t d then (0,0,false) else (jE t d,Uz.wrap (Uz.wrap (t.getD (17+d) 0*4)-1),true))
  else if (iN t d==2)=true then (Uz.wrap (t.getD (17+d) 0*4),Uz.wrap (Uz.wrap (t.getD (17+d) 0*4)+3),true)
  else if (iN t d==3)=true then (tD (t.getD (17+d) 0) (fl (t.getD (17+d) 0) 53 0),yI (t.getD (17+d) 0) (fl (t.getD (17+d) 0) 53 0),true)
  else (0,0,false):=rfl
 have m:jE t d=if 0<d then Uz.wrap (t.getD (16+d) 0*4) else 0:=rfl
 have X:wrap64 (17+(d:Int))=((17+d:Nat):Int):=by unfold wrap64;omega
 have W:wrap64 (16+(d:Int))=((16+d:Nat):Int):=by unfold wrap64;omega
 have T:0<=((17+d:Nat):Int)/\((17+d:Nat):Int)<((22:Nat):Int):=ab
 have S:0<=((16+d:Nat):Int)/\((16+d:Nat):Int)<((22:Nat):Int):=ab
 generalize cG t d=r at *;generalize iN t d=H at *;generalize db t d=cf at *;generalize jE t d=L at *;generalize t.getD (17+d) 0=x at *;generalize t.getD (16+d) 0=y at *;clear hs;cases M:(H==1) with
 | true =>
   rw [if_pos M] at c;have cap:(decide (0<d)=true/\L=Uz.wrap (y*4))\/(decide (0<d)=false/\L=0):=by
    by_cases p:0<d;·rw [if_pos p] at m;exact Or.inl ⟨by simpa using p,m⟩
    ·rw [if_neg p] at m;exact Or.inr ⟨by simpa using p,m⟩
   obtain ⟨l,ht⟩:∃ l,Uz.wrap (x*4)=l:=⟨_,rfl⟩;rw [ht] at c;clear m;rcases cap with ⟨cap,o⟩|⟨cap,o⟩
   ·rw [o] at c;obtain ⟨C,G⟩:∃ l,Uz.wrap (y*4)=l:=⟨_,rfl⟩;rw [G] at c;clear o;by_cases f:l<=C;·have i:decide (l<=C)=true:=i3;rw [if_pos f] at c;have F:Hid (r=(0,0,false)):=c;clear c f;go_enter func179,ntmps179;go_wp2_with fail;refine u.out.mono ?_;rintro e z ⟨rfl,g⟩;have j:=g.symm;subst j;go_wp2_with fail;go_ret3;exact ⟨bh,rfl⟩
    ·have i:decide (l<=C)=false:=i3;rw [if_neg f] at c;have F:Hid (r=(C,Uz.wrap (l-1),true)):=c;clear c f;go_enter func179,ntmps179;go_wp2_with fail;refine u.out.mono ?_;rintro e z ⟨rfl,g⟩;have j:=g.symm;subst j;go_wp2_with fail;go_ret3;exact ⟨bh,rfl⟩
   ·subst o;by_cases f:l<=0;·have i:decide (l<=0)=true:=i3;rw [if_pos f] at c;have F:Hid (r=(0,0,false)):=c;clear c f;go_enter func179,ntmps179;go_wp2_with fail;refine u.out.mono ?_;rintro e z ⟨rfl,g⟩;have j:=g.symm;subst j;go_wp2_with fail;go_ret3;exact ⟨bh,rfl⟩
    ·have i:decide (l<=0)=false:=i3;rw [if_neg f] at c;have F:Hid (r=(0,Uz.wrap (l-1),true)):=c;clear c f;go_enter func179,ntmps179;go_wp2_with fail;refine u.out.mono ?_;rintro e z ⟨rfl,g⟩;have j:=g.symm;subst j;go_wp2_with fail;go_ret3;exact ⟨bh,rfl⟩
 | false =>
   rw [if_neg (by rw [M];decide)] at c;cases N:(H==2) with
   | true =>rw [if_pos N] at c;have F:Hid (r=(Uz.wrap (x*4),Uz.wrap (Uz.wrap (x*4)+3),true)):=c;clear c m;go_enter func179,ntmps179;go_wp2_with fail;refine u.out.mono ?_;rintro e z ⟨rfl,g⟩;have j:=g.symm;subst j;go_wp2_with fail;go_ret3;exact ⟨bh,rfl⟩
   | false =>
     rw [if_neg (by rw [N];decide)] at c;cases O:(H==3) with
     | true =>
       rw [if_pos O] at c;have F:Hid (r=(tD x (fl x 53 0),yI x (fl x 53 0),true)):=c;clear c m;go_enter func179,ntmps179;go_wp2_with fail;refine u.out.mono ?_;rintro e z ⟨rfl,g⟩;have j:=g.symm;subst j;go_wp2_with fail;go_loopw [9] (λv wr=>∃ k:Nat,k<=53/\v=.u k/\Hid (fl x (53-k) k=fl x 53 0)/\wr=w)
        (λv _=>53-(intOf v).toNat)
       case atStart=>exact ⟨0,ab,rfl,(rfl:fl x (53-0) 0=fl x 53 0),rfl⟩
       case round =>
        obtain ⟨k,hk,rfl,E,rfl⟩:=hrel;have fin:Hid (fl x 53 0=k)->Hid (r=(tD x k,yI x k,true)):=λh=>by show r=_;rw [F.out,h.out]
        have U:((k:Int)+1)=((k+1:Nat):Int):=ab;have u1:Uz.wrap ((k:Int)+1)=((k+1:Nat):Int):=dm;have u3:Uz.wrap ((k:Int)+3)=((k+3:Nat):Int):=dm;clear U;by_cases B:k<53
        ·have V:decide ((k:Int)<53)=true:=bv;cases q:(bits .and .u64 (x/2^k) 1==1) with
         | true =>
           have A:Hid (fl x (53-(k+1)) (k+1)=fl x 53 0):=(LD x k B q).symm.trans E.out;clear fin u1 u3;go_wp2_with fail;go_roundw;case rel=>exact ⟨k+1,ab,by go_num,A,trivial⟩
           case measure=>simp [intOf];omega
         | false =>have A:=fin (E.out.symm.trans (EN x k B q));clear fin;go_wp2_with fail;go_ret3;exact ⟨by rw [A.out];rfl,rfl⟩
        ·have s:k=53:=ab;have A:=fin (E.out.symm.trans (by rw [s];rfl));have V:decide ((k:Int)<53)=false:=bv;clear fin s;go_wp2_with fail;go_ret3;exact ⟨by rw [A.out];rfl,rfl⟩
     | false =>rw [if_neg (by rw [O];decide)] at c;have F:Hid (r=(0,0,false)):=c;clear c m;go_enter func179,ntmps179;go_wp2_with fail;refine u.out.mono ?_;rintro e z ⟨rfl,g⟩;have j:=g.symm;subst j;go_wp2_with fail;go_ret3;exact ⟨bh,rfl⟩
theorem Th (a b:Int) (w:World):CE 51 #[.i B,.i a,.i b] w (.bool (decide (a<=B/\B<=b))):=by
 by_cases c:a<=B
 ·by_cases d:B<=b;·have F:Hid (decide (a<=B/\B<=b)=true):=(by show decide (a<=B/\B<=b)=true;simp [c,d]);have f:decide (a<=B)=true:=i6;have g:decide (B<=b)=true:=kc;clear c d;go_enter func51,ntmps51;go_wp2;go_ret;exact ⟨bh,rfl⟩
  ·have F:Hid (decide (a<=B/\B<=b)=false):=(by show decide (a<=B/\B<=b)=false;simp [d]);have f:decide (a<=B)=true:=i6;have g:decide (B<=b)=false:=kc;clear c d;exact x8
 ·have F:Hid (decide (a<=B/\B<=b)=false):=(by show decide (a<=B/\B<=b)=false;simp [c]);have f:decide (a<=B)=false:=i6;clear c;exact x8
def LE (n:Nat) (l:List Int) (i:Int):Bool:=bo n l&&decide (0<=i/\i<=3)
def rZ (n:Nat) (l:List Int) (i:Int):Int × Int × Bool:=match LE n l i with | true=>cG l i.toNat | false=>(0,0,false)
def UI (r:Int × Int × Bool) (x:Int):Bool:=r.2.2&&decide (r.1<=x)&&decide (x<=r.2.1)
def vK (l:List Int) (x:Int):Nat->Nat->Bool
 | 0,_=>false
 | n+1,k=>if UI (cG l k) x=true then ((db l k/128==1)&&(bits .and .u64 (db l k/2) 1==0)) else vK l x n (k+1)
theorem PC (hk:d<4) (h:UI (cG t d) c=true):vK t c (4-d) d=((db t d/128==1)&&(bits .and .u64 (db t d/2) 1==0)):=by rw [show 4-d=(4-(d+1))+1 from ab,vK,if_pos h]
def aU (x s:Int):Int:=Uz.wrap (Uz.wrap (x+Uz.wrap s)-1)
def pT (r:Int × Int × Bool) (x y:Int):Bool:=!r.2.2||decide (y<r.1)||decide (r.2.1<x)
def PF (r:Int × Int × Bool) (x y:Int):Bool:=decide (x<r.1)||decide (r.2.1<y)
def vL (b p kind:Int):Bool :=
 if ((p==3)&&(b/128==0))=true then true else if (kind==1)=true then (bits .and .u64 (b/4) 1==1) else if (kind==2)=true then (bits .and .u64 b 1==1) else (bits .and .u64 (b/2) 1==1)
def ay (l:List Int) (p x y kind:Int):Nat->Nat->Bool
 | 0,_=>(p==3)
 | n+1,k=>if pT (cG l k) x y=true then ay l p x y kind n (k+1) else !PF (cG l k) x y&&vL (db l k) p kind
theorem Jv (hk:z<4) (h:pT (cG t z) q r=true):ay t c q r y (4-z) z=ay t c q r y (4-(z+1)) (z+1):=by rw [show 4-z=(4-(z+1))+1 from ab,ay,if_pos h]
theorem LF (hk:z<4) (h:pT (cG t z) q r=false):ay t c q r y (4-z) z=(!PF (cG t z) q r&&vL (db t z) c y):=by rw [show 4-z=(4-(z+1))+1 from ab,ay,if_neg (by rw [h];decide)]
theorem mB (p x s kind:Int) (w:World) (hz:t.length=22) (hs:Sl .u64 w b t): CE 115 #[.slice b 22 D,.i p,.u x,.i s,.i kind] w (.bool (ay t p x (aU x s) kind 4 0)):=by
 have M:Uz.wrap (Uz.wrap (x+Uz.wrap s)-1)=aU x s:=rfl;generalize aU x s=y at *;have O:Hid (Sl .u64 w b t):=hs;have P:Hid (t.length=22):=hz;have V:Hid (True/\ay t p x y kind 4 0=ay t p x y kind 4 0):=⟨trivial,rfl⟩;clear hs hz V;go_enter func115,ntmps115;go_wp2_with fail;go_loopw [12] (λv wr=>∃ k:Nat,k<=4/\v=.i k/\Hid (ay t p x y kind (4-k) k=ay t p x y kind 4 0)/\wr=w)
  (λv _=>4-(intOf v).toNat)
 case atStart=>exact ⟨0,ab,rfl,(rfl:ay t p x y kind (4-0) 0=ay t p x y kind 4 0),rfl⟩
 case round =>
  obtain ⟨k,hk,rfl,K,rfl⟩:=hrel;clear M;by_cases m:k<4
  ·have dk:decide ((k:Int)<4)=true:=bv;have HR:Hid (CE 179 #[.slice b 22 D,.i k] wr (.tuple #[.u (cG t k).1,.u (cG t k).2.1,.bool (cG t k).2.2])):=zU b D t k m wr P.out O.out;have W:Hid (CE 180 #[.slice b 22 D,.i k] wr (.u (db t k))):=lH b D t k m wr P.out O.out;have d:pT (cG t k) x y=false->Hid (ay t p x y kind 4 0=(!PF (cG t k) x y&&vL (db t k) p kind)):=λh=>K.out.symm.trans (LF t p x y kind k m h);have a:pT (cG t k) x y=true->Hid (ay t p x y kind (4-(k+1)) (k+1)=ay t p x y kind 4 0):=λh=>(Jv t p x y kind k m h).symm.trans K.out;generalize cG t k=r at *;generalize db t k=c at *;obtain ⟨B,C,H⟩:=r;simp only at HR;have S:pT (B,C,H) x y=(!H||decide (y<B)||decide (C<x)):=rfl;have T:PF (B,C,H) x y=(decide (x<B)||decide (C<y)):=rfl;rw [S] at d a;rw [T] at d;clear S T;go_wp2_with fail;refine HR.out.mono ?_;rintro e w1 ⟨rfl,u⟩;have z:=u.symm;subst z;cases H with
   | false =>
     have g:=a (rfl);clear d a;go_wp2_with fail;go_roundw;case rel=>exact ⟨k+1,ab,by go_num,g,trivial⟩
     case measure=>simp [intOf];omega
   | true =>
     cases I:decide (y<B) with
     | true =>
       have g:=a (by rw [I];rfl);clear d a;go_wp2_with fail;go_roundw;case rel=>exact ⟨k+1,ab,by go_num,g,trivial⟩
       case measure=>simp [intOf];omega
     | false =>
       cases Q:decide (C<x) with
       | true =>
         have g:=a (by rw [I,Q];rfl);clear d a;go_wp2_with fail;go_roundw;case rel=>exact ⟨k+1,ab,by go_num,g,trivial⟩
         case measure=>simp [intOf];omega
       | false =>
         have g:=d (by rw [I,Q];rfl);clear d a;cases J:decide (x<B) with
         | true =>go_wp2_with fail;go_ret;exact ⟨by rw [g.out,J];rfl,rfl⟩
         | false =>
           cases R:decide (C<y) with
           | true =>go_wp2_with fail;go_ret;exact ⟨by rw [g.out,J,R];rfl,rfl⟩
           | false =>
             have G:Hid (ay t p x y kind 4 0=vL c p kind):=(by show _=_;rw [g.out,J,R];rfl);clear g;have cap:vL c p kind=if ((p==3)&&(c/128==0))=true then true else if (kind==1)=true then (bits .and .u64 (c/4) 1==1) else if (kind==2)=true then (bits .and .u64 c 1==1) else (bits .and .u64 (c/2) 1==1):=rfl
             go_wp2_with fail;refine W.out.mono ?_;rintro e w1 ⟨rfl,u⟩;have z:=u.symm;subst z;have f:((p==3)=true/\(c/128==0)=true)\/((p==3)=true/\(c/128==0)=false)\/(p==3)=false:=(by cases (p==3)<;>cases (c/128==0)<;>simp);generalize vL c p kind=E at *;rcases f with ⟨j,A⟩|f;·have o:Hid (E=true):=(by show _=_;rw [cap,j,A];rfl);clear cap;go_wp2_with fail;go_ret;exact ⟨by rw [G.out,o.out];rfl,rfl⟩
             ·have l:E=if (kind==1)=true then (bits .and .u64 (c/4) 1==1) else if (kind==2)=true then (bits .and .u64 c 1==1) else (bits .and .u64 (c/2) 1==1):=by
               rcases f with ⟨j,A⟩|j;·rw [cap,j,A];rfl
               ·rw [cap,j];rfl
              clear cap;obtain ⟨X,e1⟩:∃ q,(bits .and .u64 (c/4) 1==1)=q:=⟨_,rfl⟩;obtain ⟨Y,e2⟩:∃ q,(bits .and .u64 c 1==1)=q:=⟨_,rfl⟩;obtain ⟨Z,e3⟩:∃ q,(bits .and .u64 (c/2) 1==1)=q:=⟨_,rfl⟩;rw [e1,e2,e3] at l;cases N:(kind==1) with
              | true =>
                have o:Hid (E=X):=(by show _=_;rw [l,N];rfl);clear l;rcases f with ⟨j,A⟩|j;all_goals
                 go_wp2_with fail
                 go_ret
                 exact ⟨by rw [G.out,o.out];rfl,rfl⟩
              | false =>
                cases U:(kind==2) with
                | true =>
                  have o:Hid (E=Y):=(by show _=_;rw [l,N,U];rfl);clear l;rcases f with ⟨j,A⟩|j;all_goals
                   go_wp2_with fail
                   go_ret
                   exact ⟨by rw [G.out,o.out];rfl,rfl⟩
                | false =>
                  have o:Hid (E=Z):=(by show _=_;rw [l,N,U];rfl);clear l;rcases f with ⟨j,A⟩|j;all_goals
                   go_wp2_with fail
                   go_ret
                   exact ⟨by rw [G.out,o.out];rfl,rfl⟩
  ·have L:k=4:=ab;subst L;obtain ⟨q,hq⟩:∃ q,(p==3)=q:=⟨_,rfl⟩;have g:Hid (ay t p x y kind 4 0=q):=K.out.symm.trans hq;go_wp2_with fail;go_ret;exact ⟨by rw [g.out];rfl,rfl⟩
def vM (n:Nat) (l:List Int) (p x s kind:Int):Bool:=bj n l p&&jp s&&decide (1<=kind/\kind<=3)&&!decide (aU x s<x)&&ay l p x (aU x s) kind 4 0
structure Fd where
 addr:Int
 code:Int
 marked:Bool
 at_:Int
 entry:Int
def Fd.cells (f:Fd):Array Value:=#[.u f.addr,.i f.code,.bool f.marked,.u f.at_,.u f.entry]
def ey (k:Int):Int:=if k=1 then 12 else if k=2 then 13 else 15
def dJ (k:Int):Int:=if k=1 then 1 else if k=2 then 5 else 7
def bZ (k:Int):Fd:=⟨0,ey k,false,0,0⟩
def fR (k:Int):Fd:=⟨0,dJ k,false,0,0⟩
def bK (T va:Int) (lv:Nat):Int:=Uz.wrap (T+Uz.wrap (8*bits .and .u64 (va/2^(12+9*lv)) 511))
def fI (zs:List Int) (x:Int):Int:=le zs (x-2147483648).toNat 8
def pL (e:Int):Bool:=(bits .and .u64 e 1==0)||((ap e 1==0)&&(ap e 2==1))||(e/18014398509481984 != 0)
def eB (e:Int):Int:=bits .and .u64 (e/1024) 17592186044415
def mC (e:Int):Bool:=(ap e 1==0)&&(ap e 3==0)
def jt (e:Int) (lv:Nat):Bool:=((lv:Int)==0)||(bits .and .u64 (e/16) 1==1)||(bits .and .u64 (e/64) 3 != 0)
def Jw (m:Nat):Int:=Uz.wrap (Uz.wrap (2^m)-1)
def mD (e:Int) (lv:Nat):Bool:=bits .and .u64 (eB e) (Jw (9*lv)) != 0
def gO (l:List Int) (kind e:Int):Bool :=
 ((kind==1)&&(ap e 3==0))||((kind==2)&&(ap e 1==0)&&((ap e 3==0)||(ap (l.getD 0 0) 19==0)))||((kind==3)&&(ap e 2==0))
def gQ (l:List Int) (p kind e:Int):Bool :=
 ((p==0)&&(ap e 4==0))||((p==1)&&(ap e 4==1)&&((kind==1)||(ap (l.getD 0 0) 18==0)))
def gH (e va:Int) (lv:Nat):Int:=bits .or .u64 (bits .andNot .u64 (Uz.wrap (eB e*4096)) (Jw (12+9*lv))) (bits .and .u64 va (Jw (12+9*lv)))
def cn (e kind:Int):Int:=if (kind==3)=true then bits .or .u64 (bits .or .u64 e 64) 128 else bits .or .u64 e 64
def cH (l:List Int) (p va kind e x:Int) (lv:Nat):Fd :=
 if mD e lv=true then bZ kind else if gO l kind e=true then bZ kind else if gQ l p kind e=true then bZ kind
 else if (cn e kind != e)=true then (if ay l 1 x (aU x 8) 3 4 0=true then ⟨gH e va lv,0,true,x,cn e kind⟩ else fR kind) else ⟨gH e va lv,0,false,0,0⟩
def bC (zs:List Int) (n:Nat) (l:List Int) (p va kind:Int):Nat->Int->Fd
 | 0,T=>if gi n (bK T va 0) 8=true then (if ay l 1 (bK T va 0) (aU (bK T va 0) 8) 2 4 0=true then
  (if pL (fI zs (bK T va 0))=true then bZ kind else if mC (fI zs (bK T va 0))=true then bZ kind else cH l p va kind (fI zs (bK T va 0)) (bK T va 0) 0) else fR kind) else fR kind
 | lv+1,T=>if gi n (bK T va (lv+1)) 8=true then (if ay l 1 (bK T va (lv+1)) (aU (bK T va (lv+1)) 8) 2 4 0=true then
  (if pL (fI zs (bK T va (lv+1)))=true then bZ kind else if mC (fI zs (bK T va (lv+1)))=true then (if jt (fI zs (bK T va (lv+1))) (lv+1)=true then bZ kind else bC zs n l p va kind lv (Uz.wrap (eB (fI zs (bK T va (lv+1)))*4096))) else cH l p va kind (fI zs (bK T va (lv+1))) (bK T va (lv+1)) (lv+1)) else fR kind) else fR kind
def kY (l:List Int):Int:=Uz.wrap (bits .and .u64 (l.getD 15 0) 17592186044415*4096)
def bN (zs:List Int) (n:Nat) (l:List Int) (p va kind:Int):Fd :=
 if ((p==3)||(l.getD 15 0/1152921504606846976==0))=true then ⟨va,0,false,0,0⟩ else if (au 39 va != va)=true then bZ kind else bC zs n l p va kind 2 (kY l)
theorem gR (T:Int):bC t d e q r y z T = (if gi d (bK T r z) 8=true then (if ay e 1 (bK T r z) (aU (bK T r z) 8) 2 4 0=true then (if pL (fI t (bK T r z))=true then bZ y else if mC (fI t (bK T r z))=true then (if jt (fI t (bK T r z)) z=true then bZ y else bC t d e q r y (z-1) (Uz.wrap (eB (fI t (bK T r z))*4096))) else cH e q r y (fI t (bK T r z)) (bK T r z) z) else fR y) else fR y):=by
 cases z with
 | zero =>rw [bC];have:jt (fI t (bK T r 0)) 0=true:=rfl;rw [this,if_pos rfl]
 | succ z=>rw [bC];rfl
def eG (w:World) (base g cap:Nat) (l:List Int):Prop:=w.ownsRow base 22 1 (.slice (some ⟨g,0,none⟩) 22 cap) 22 (l.map (Value.int .u64))
theorem eG.len (h:eG x w n k a):a.length=22:=by have:=h.1;simpa using this
theorem eG.cell (h:eG x w g n a) (j:Nat) (l:j<22):x.cell? ⟨g,j,none⟩=some (.u (a.getD j 0)):=by have b:=h.len;have e:=World.ownsRow.cellAt h j l;rw [e];simp [List.getD,List.getElem?_eq_getElem (show j<a.length by omega)]
theorem eG.froz (h:eG x w n k a) (j:Nat):x.frozen? ⟨n,j,none⟩=false:=World.ownsRow.frozenAt h j
theorem eG.put (h:eG x w n k a) (j:Nat) (v:Int):eG (x.setCell ⟨n,j,none⟩ (.u v)) w n k (a.set j v)/\x.grownBy (x.setCell ⟨n,j,none⟩ (.u v)) (some n):=by have e:=World.ownsRow.stored h j (.u v);rw [kv] at e;exact e
theorem eG.below (h:eG x w g n a) (hb:Bw x l):eG l w g n a:=dH h hb
theorem dG (hb:Bw x l) (row:Option Nat):x.grownBy l row:=⟨hb.os,hb.tape,hb.output,hb.size,λk a _=>hb.block k a⟩
theorem BO (h:eG s D E d e): Calls prog 133 #[.slice (some ⟨E,0,none⟩) 22 d,.i 769,.u q] s λl b=>l=.returned (.tuple #[])/\eG b D E d (bW e 769 q)/\s.grownBy b (some E):=by go_enter func133,ntmps133;go_wp2_with fail;refine bodyPost_ret (results_none results133 _ _ _) rfl ?_;exact ⟨rfl,h,ny _ _⟩
theorem zV (h:eG s D E d e): Calls prog 133 #[.slice (some ⟨E,0,none⟩) 22 d,.i 3860,.u q] s λl b=>l=.returned (.tuple #[])/\eG b D E d (bW e 3860 q)/\s.grownBy b (some E):=by go_enter func133,ntmps133;go_wp2_with fail;refine bodyPost_ret (results_none results133 _ _ _) rfl ?_;exact ⟨rfl,h,ny _ _⟩
theorem BP (h:eG s D E d e): Calls prog 133 #[.slice (some ⟨E,0,none⟩) 22 d,.i 256,.u q] s λl b=>l=.returned (.tuple #[])/\eG b D E d (bW e 256 q)/\s.grownBy b (some E):=by have F:Hid (bW e 256 q=e.set 0 (bits .or .u64 (bits .andNot .u64 (e.getD 0 0) 786722) (bits .and .u64 q 786722))):=(rfl:bW e 256 q=_);have H:Hid (eG s D E d e):=h;have c:=h.cell 0 ab;have f:=h.froz 0;clear h;go_enter func133,ntmps133;go_wp2_with fail;refine bodyPost_ret (results_none results133 _ _ _) rfl ?_;exact ⟨rfl,by rw [F.out];exact (H.out.put 0 _).1,(H.out.put 0 _).2⟩
theorem BT (h:eG s D E d e): Calls prog 133 #[.slice (some ⟨E,0,none⟩) 22 d,.i 324,.u q] s λl b=>l=.returned (.tuple #[])/\eG b D E d (bW e 324 q)/\s.grownBy b (some E):=by have F:Hid (bW e 324 q=e.set 9 (bits .or .u64 (bits .andNot .u64 (e.getD 9 0) (bits .and .u64 (e.getD 2 0) 2)) (bits .and .u64 q (bits .and .u64 (e.getD 2 0) 2)))):=(rfl:bW e 324 q=_);have H:Hid (eG s D E d e):=h;have c:=h.cell 9 ab;have cap:=h.cell 2 ab;have f:=h.froz 9;clear h;go_enter func133,ntmps133;go_wp2_with fail;refine bodyPost_ret (results_none results133 _ _ _) rfl ?_;exact ⟨rfl,by rw [F.out];exact (H.out.put 9 _).1,(H.out.put 9 _).2⟩
theorem BU (h:eG s D E d e): Calls prog 133 #[.slice (some ⟨E,0,none⟩) 22 d,.i 260,.u q] s λl cap=>l=.returned (.tuple #[])/\eG cap D E d (bW e 260 q)/\s.grownBy cap (some E):=by
 have F:Hid (bW e 260 q=e.set 3 (bn 3 (bits .or .u64 (bits .andNot .u64 (e.getD 3 0) (e.getD 2 0)) (bits .and .u64 q (e.getD 2 0))))):=(rfl:bW e 260 q=_);have H:Hid (eG s D E d e):=h;have c:=h.cell 3 ab;have j:=h.cell 2 ab;have f:=h.froz 3;clear h;generalize e.getD 3 0=p at *;generalize e.getD 2 0=o at *;go_enter func133,ntmps133;go_wp2_with fail;go_region_with (go_at_call 172;refine (fy _ _ _).mono ?_;rintro l m ⟨rfl,b⟩;subst b);all_goals go_wp2_with fail
 all_goals refine bodyPost_ret (results_none results133 _ _ _) rfl ?_
 all_goals exact ⟨rfl,by rw [F.out];exact ((H.out.put 3 _).1).below ((Below.refl _ _).drew),aZ (H.out.put 3 _).2 ⟨rfl,rfl,rfl,Nat.le_refl _,λ_ _ _=>rfl⟩⟩
def gn (n:Int):Bool:=!(n==769)&&!(n==3860)&&!(n==256)&&!(n==260)&&!(n==324)
theorem zW {n:Int} (h:gn n=true) (l:List Int) (x:Int):bW l n x=fV l (cZ n) x:=by simp [gn] at h;unfold bW;rw [if_neg ab,if_neg ab,if_neg ab,if_neg ab]
theorem EO (m:cZ q=9) (hn:gn q=true) (w:World) (h:eG w D E d e): Calls prog 133 #[.slice (some ⟨E,0,none⟩) 22 d,.i q,.u r] w λl cap=>l=.returned (.tuple #[])/\eG cap D E d (fV e 9 r)/\w.grownBy cap (some E):=by
 simp only [gn,Bool.and_eq_true,Bool.not_eq_true'] at hn;obtain ⟨⟨⟨⟨x,s⟩,t⟩,u⟩,z⟩:=hn;have H:Hid (eG w D E d e):=h;clear h;have F:Hid (fV e 9 r=e.set 9 (bits .or .u64 (bits .andNot .u64 (e.getD 9 0) 546) (bits .and .u64 r 546))):=(rfl:fV e 9 r=_);have n:Hid (∀ w,CB 134 #[.i q] w (.i 9)):=by rw [<- m];exact dI q
 clear m;go_enter func133,ntmps133;go_wp2_with fail;refine (n.out _).mono ?_;rintro l o ⟨rfl,j⟩;have p:Hid (Bw w o):=j;have b:Hid (eG o D E d e):=H.out.below j;clear j;have c:=b.out.cell 9 ab;have f:=b.out.froz 9;generalize e.getD 9 0=y at *;go_wp2_with fail;refine bodyPost_end (results_none results133 _ _ _) rfl ?_;exact ⟨rfl,by rw [F.out];exact (b.out.put 9 _).1,aZ (dG p.out _) (b.out.put 9 _).2⟩
theorem BV (x:Int) (t:cZ q=15) (hn:gn q=true) (w:World) (h:eG w D E d e): Calls prog 133 #[.slice (some ⟨E,0,none⟩) 22 d,.i q,.u x] w λl p=>l=.returned (.tuple #[])/\eG p D E d (fV e 15 x)/\w.grownBy p (some E):=by
 simp only [gn,Bool.and_eq_true,Bool.not_eq_true'] at hn;obtain ⟨⟨⟨⟨z,A⟩,B⟩,C⟩,base⟩:=hn;have H:Hid (eG w D E d e):=h;clear h;have m:fV e 15 x=if ((x/1152921504606846976==0)||(x/1152921504606846976==8))=true then e.set 15 x else e:=rfl
 obtain ⟨y,u⟩:∃ y,x/1152921504606846976=y:=⟨_,rfl⟩;rw [u] at m;have n:Hid (∀ w,CB 134 #[.i q] w (.i 15)):=by rw [<- t];exact dI q
 clear t;cases r:(y==0) with
 | true =>have F:Hid (fV e 15 x=e.set 15 x):=(by show _=_;rw [m,r];rfl);clear m;go_enter func133,ntmps133;go_wp2_with fail;refine (n.out _).mono ?_;rintro l j ⟨rfl,cap⟩;have o:Hid (Bw w j):=cap;have b:Hid (eG j D E d e):=H.out.below cap;clear cap;have c:=b.out.cell 15 ab;have f:=b.out.froz 15;go_wp2_with fail;refine bodyPost_end (results_none results133 _ _ _) rfl ?_;exact ⟨rfl,by rw [F.out];exact (b.out.put 15 _).1,aZ (dG o.out _) (b.out.put 15 _).2⟩
 | false =>
   cases s:(y==8) with
   | true =>have F:Hid (fV e 15 x=e.set 15 x):=(by show _=_;rw [m,r,s];rfl);clear m;go_enter func133,ntmps133;go_wp2_with fail;refine (n.out _).mono ?_;rintro l j ⟨rfl,cap⟩;have o:Hid (Bw w j):=cap;have b:Hid (eG j D E d e):=H.out.below cap;clear cap;have c:=b.out.cell 15 ab;have f:=b.out.froz 15;go_wp2_with fail;refine bodyPost_end (results_none results133 _ _ _) rfl ?_;exact ⟨rfl,by rw [F.out];exact (b.out.put 15 _).1,aZ (dG o.out _) (b.out.put 15 _).2⟩
   | false =>have F:Hid (fV e 15 x=e):=(by show _=_;rw [m,r,s];rfl);clear m;go_enter func133,ntmps133;go_wp2_with fail;refine (n.out _).mono ?_;rintro l j ⟨rfl,cap⟩;have o:Hid (Bw w j):=cap;have b:Hid (eG j D E d e):=H.out.below cap;clear cap;go_wp2_with fail;refine bodyPost_end (results_none results133 _ _ _) rfl ?_;exact ⟨rfl,sy,dG o.out _⟩
theorem BW (g cap:Nat) (l:List Int) (n x:Int) (L:cZ n=16) (hn:gn n=true) (w:World) (h:eG w D g cap l): Calls prog 133 #[.slice (some ⟨g,0,none⟩) 22 cap,.i n,.u x] w λe m=>e=.returned (.tuple #[])/\eG m D g cap (fV l 16 x)/\w.grownBy m (some g):=by
 simp only [gn,Bool.and_eq_true,Bool.not_eq_true'] at hn;obtain ⟨⟨⟨⟨X,Y⟩,Z⟩,n4⟩,n5⟩:=hn;have H:Hid (eG w D g cap l):=h;clear h;have F:Hid (fV l 16 x=l.set 16 (eI l (bn 16 x) 4)):=(rfl:fV l 16 x=_);have N:Hid (∀ w,CB 134 #[.i n] w (.i 16)):=by rw [<- L];exact dI n
 clear L;go_enter func133,ntmps133;go_wp2_with fail;refine (N.out _).mono ?_;rintro e G ⟨rfl,r⟩;have M:Hid (Bw w G):=r;have j:Hid (eG G D g cap l):=H.out.below r;clear r;have c:=j.out.cell 16 ab;have f:=j.out.froz 16;have J:Hid (Sl .u64 G (some ⟨g,0,none⟩) l):=kI j.out;have O:Hid (l.length=22):=j.out.len;go_wp2_with fail;refine (fy 16 x _).mono ?_;rintro e S ⟨rfl,B⟩;subst B;obtain ⟨z,base⟩:∃ z,z=bn 16 x:=⟨_,rfl⟩;rw [<- base];rw [<- base] at F;clear base;go_wp2_with fail;go_loopw [9,10] (λy i wr=>∃ k:Nat,k<=4/\i=.i k/\y=.u (eI l z k)/\wr=S)
  (λ_ i _=>4-(intOf i).toNat)
 case atStart=>exact ⟨0,ab,rfl,rfl,rfl⟩
 case round =>
  obtain ⟨k,V,rfl,rfl,rfl⟩:=hrel;by_cases t:k<4
  ·have b:eI l z (k+1)=if (db l k/128==1)=true then bits .or .u64 (bits .andNot .u64 (eI l z k) (Uz.wrap (255*2^(8*k)))) (bits .and .u64 (l.getD 16 0) (Uz.wrap (255*2^(8*k)))) else eI l z k:=rfl
   have o:Hid (∀ w,Sl .u64 w (some ⟨g,0,none⟩) l->CE 180 #[.slice (some ⟨g,0,none⟩) 22 cap,.i k] w (.u (db l k))):=λw R=>lH _ cap l k t w O.out R;have U:decide ((k:Int)<4)=true:=bv;have W:wrap64 (8*(k:Int))=((8*k:Nat):Int):=l0;have P:Uz.wrap ((8*k:Nat):Int)=((8*k:Nat):Int):=dm;have Q:8*k<64:=ab;obtain ⟨y,C⟩:∃ y,y=eI l z k:=⟨_,rfl⟩;obtain ⟨u,A⟩:∃ u,u=eI l z (k+1):=⟨_,rfl⟩;rw [<- A,<- C] at b;rw [<- C];have I:Hid (u=eI l z (k+1)):=A;clear A C;generalize db l k=q at *;generalize l.getD 16 0=E at *;cases K:(q/128==1) with
   | true =>
     rw [if_pos K] at b;have p:Hid (u=bits .or .u64 (bits .andNot .u64 y (Uz.wrap (255*2^(8*k)))) (bits .and .u64 E (Uz.wrap (255*2^(8*k))))):=b;clear b;go_wp2_with fail;refine (o.out _ J.out).mono ?_;rintro e T ⟨rfl,d⟩;subst d;go_wp2_with fail;go_roundw;case rel=>exact ⟨k+1,ab,by go_num,by rw [<- I.out,p.out],trivial⟩
     case measure=>simp [intOf];omega
   | false =>
     rw [if_neg (by rw [K];decide)] at b;have p:Hid (u=y):=b;clear b;go_wp2_with fail;refine (o.out _ J.out).mono ?_;rintro e T ⟨rfl,d⟩;subst d;go_wp2_with fail;go_roundw;case rel=>exact ⟨k+1,ab,by go_num,by rw [<- I.out,p.out],trivial⟩
     case measure=>simp [intOf];omega
  ·have s:k=4:=ab;subst s;generalize eI l z 4=y at *;go_wp2_with fail;refine bodyPost_end (results_none results133 _ _ _) rfl ?_;exact ⟨rfl,by rw [F.out];exact (j.out.put 16 _).1,aZ (dG M.out _) (j.out.put 16 _).2⟩
theorem BX (u:cZ q=17) (hn:gn q=true) (w:World) (h:eG w D E d e): Calls prog 133 #[.slice (some ⟨E,0,none⟩) 22 d,.i q,.u r] w λl m=>l=.returned (.tuple #[])/\eG m D E d (fV e 17 r)/\w.grownBy m (some E):=by
 simp only [gn,Bool.and_eq_true,Bool.not_eq_true'] at hn;obtain ⟨⟨⟨⟨B,C⟩,base⟩,g⟩,G⟩:=hn;have H:Hid (eG w D E d e):=h;clear h;have p:fV e 17 r=if fw e 0=true then e else e.set 17 (bn 17 r):=rfl
 have t:Hid (∀ w,CB 134 #[.i q] w (.i 17)):=by rw [<- u];exact dI q
 clear u;have s:Hid (∀ w,Sl .u64 w (some ⟨E,0,none⟩) e->e.length=22->CE 184 #[.slice (some ⟨E,0,none⟩) 22 d,.i 0] w (.bool (fw e 0))):=λw y z=>kX _ d e 0 ab w z y;generalize fw e 0=lk at *;cases lk with
 | true =>have F:Hid (fV e 17 r=e):=p;clear p;go_enter func133,ntmps133;go_wp2_with fail;refine (t.out _).mono ?_;rintro l o ⟨rfl,cap⟩;have n:Hid (Bw w o):=cap;have b:Hid (eG o D E d e):=H.out.below cap;clear cap;go_wp2_with fail;refine (s.out _ (kI b.out) b.out.len).mono ?_;rintro l A ⟨rfl,j⟩;subst j;go_wp2_with fail;refine bodyPost_end (results_none results133 _ _ _) rfl ?_;exact ⟨rfl,sy,dG n.out _⟩
 | false =>have F:Hid (fV e 17 r=e.set 17 (bn 17 r)):=p;clear p;go_enter func133,ntmps133;go_wp2_with fail;refine (t.out _).mono ?_;rintro l o ⟨rfl,cap⟩;have n:Hid (Bw w o):=cap;have b:Hid (eG o D E d e):=H.out.below cap;clear cap;have c:=b.out.cell 17 ab;have f:=b.out.froz 17;go_wp2_with fail;refine (s.out _ (kI b.out) b.out.len).mono ?_;rintro l A ⟨rfl,j⟩;subst j;go_wp2_with fail;refine (fy _ r _).mono ?_;rintro l I ⟨rfl,x⟩;subst x;go_wp2_with fail;refine bodyPost_end (results_none results133 _ _ _) rfl ?_;exact ⟨rfl,by rw [F.out];exact (b.out.put 17 _).1,aZ (dG n.out _) (b.out.put 17 _).2⟩
theorem BY (u:cZ q=18) (hn:gn q=true) (w:World) (h:eG w D E d e): Calls prog 133 #[.slice (some ⟨E,0,none⟩) 22 d,.i q,.u r] w λl m=>l=.returned (.tuple #[])/\eG m D E d (fV e 18 r)/\w.grownBy m (some E):=by
 simp only [gn,Bool.and_eq_true,Bool.not_eq_true'] at hn;obtain ⟨⟨⟨⟨B,C⟩,base⟩,g⟩,G⟩:=hn;have H:Hid (eG w D E d e):=h;clear h;have p:fV e 18 r=if fw e 1=true then e else e.set 18 (bn 18 r):=rfl
 have t:Hid (∀ w,CB 134 #[.i q] w (.i 18)):=by rw [<- u];exact dI q
 clear u;have s:Hid (∀ w,Sl .u64 w (some ⟨E,0,none⟩) e->e.length=22->CE 184 #[.slice (some ⟨E,0,none⟩) 22 d,.i 1] w (.bool (fw e 1))):=λw y z=>kX _ d e 1 ab w z y;generalize fw e 1=lk at *;cases lk with
 | true =>have F:Hid (fV e 18 r=e):=p;clear p;go_enter func133,ntmps133;go_wp2_with fail;refine (t.out _).mono ?_;rintro l o ⟨rfl,cap⟩;have n:Hid (Bw w o):=cap;have b:Hid (eG o D E d e):=H.out.below cap;clear cap;go_wp2_with fail;refine (s.out _ (kI b.out) b.out.len).mono ?_;rintro l A ⟨rfl,j⟩;subst j;go_wp2_with fail;refine bodyPost_end (results_none results133 _ _ _) rfl ?_;exact ⟨rfl,sy,dG n.out _⟩
 | false =>have F:Hid (fV e 18 r=e.set 18 (bn 18 r)):=p;clear p;go_enter func133,ntmps133;go_wp2_with fail;refine (t.out _).mono ?_;rintro l o ⟨rfl,cap⟩;have n:Hid (Bw w o):=cap;have b:Hid (eG o D E d e):=H.out.below cap;clear cap;have c:=b.out.cell 18 ab;have f:=b.out.froz 18;go_wp2_with fail;refine (s.out _ (kI b.out) b.out.len).mono ?_;rintro l A ⟨rfl,j⟩;subst j;go_wp2_with fail;refine (fy _ r _).mono ?_;rintro l I ⟨rfl,x⟩;subst x;go_wp2_with fail;refine bodyPost_end (results_none results133 _ _ _) rfl ?_;exact ⟨rfl,by rw [F.out];exact (b.out.put 18 _).1,aZ (dG n.out _) (b.out.put 18 _).2⟩
theorem BZ (u:cZ q=19) (hn:gn q=true) (w:World) (h:eG w D E d e): Calls prog 133 #[.slice (some ⟨E,0,none⟩) 22 d,.i q,.u r] w λl m=>l=.returned (.tuple #[])/\eG m D E d (fV e 19 r)/\w.grownBy m (some E):=by
 simp only [gn,Bool.and_eq_true,Bool.not_eq_true'] at hn;obtain ⟨⟨⟨⟨B,C⟩,base⟩,g⟩,G⟩:=hn;have H:Hid (eG w D E d e):=h;clear h;have p:fV e 19 r=if fw e 2=true then e else e.set 19 (bn 19 r):=rfl
 have t:Hid (∀ w,CB 134 #[.i q] w (.i 19)):=by rw [<- u];exact dI q
 clear u;have s:Hid (∀ w,Sl .u64 w (some ⟨E,0,none⟩) e->e.length=22->CE 184 #[.slice (some ⟨E,0,none⟩) 22 d,.i 2] w (.bool (fw e 2))):=λw y z=>kX _ d e 2 ab w z y;generalize fw e 2=lk at *;cases lk with
 | true =>have F:Hid (fV e 19 r=e):=p;clear p;go_enter func133,ntmps133;go_wp2_with fail;refine (t.out _).mono ?_;rintro l o ⟨rfl,cap⟩;have n:Hid (Bw w o):=cap;have b:Hid (eG o D E d e):=H.out.below cap;clear cap;go_wp2_with fail;refine (s.out _ (kI b.out) b.out.len).mono ?_;rintro l A ⟨rfl,j⟩;subst j;go_wp2_with fail;refine bodyPost_end (results_none results133 _ _ _) rfl ?_;exact ⟨rfl,sy,dG n.out _⟩
 | false =>have F:Hid (fV e 19 r=e.set 19 (bn 19 r)):=p;clear p;go_enter func133,ntmps133;go_wp2_with fail;refine (t.out _).mono ?_;rintro l o ⟨rfl,cap⟩;have n:Hid (Bw w o):=cap;have b:Hid (eG o D E d e):=H.out.below cap;clear cap;have c:=b.out.cell 19 ab;have f:=b.out.froz 19;go_wp2_with fail;refine (s.out _ (kI b.out) b.out.len).mono ?_;rintro l A ⟨rfl,j⟩;subst j;go_wp2_with fail;refine (fy _ r _).mono ?_;rintro l I ⟨rfl,x⟩;subst x;go_wp2_with fail;refine bodyPost_end (results_none results133 _ _ _) rfl ?_;exact ⟨rfl,by rw [F.out];exact (b.out.put 19 _).1,aZ (dG n.out _) (b.out.put 19 _).2⟩
theorem B5 (u:cZ q=20) (hn:gn q=true) (w:World) (h:eG w D E d e): Calls prog 133 #[.slice (some ⟨E,0,none⟩) 22 d,.i q,.u r] w λl m=>l=.returned (.tuple #[])/\eG m D E d (fV e 20 r)/\w.grownBy m (some E):=by
 simp only [gn,Bool.and_eq_true,Bool.not_eq_true'] at hn;obtain ⟨⟨⟨⟨B,C⟩,base⟩,g⟩,G⟩:=hn;have H:Hid (eG w D E d e):=h;clear h;have p:fV e 20 r=if fw e 3=true then e else e.set 20 (bn 20 r):=rfl
 have t:Hid (∀ w,CB 134 #[.i q] w (.i 20)):=by rw [<- u];exact dI q
 clear u;have s:Hid (∀ w,Sl .u64 w (some ⟨E,0,none⟩) e->e.length=22->CE 184 #[.slice (some ⟨E,0,none⟩) 22 d,.i 3] w (.bool (fw e 3))):=λw y z=>kX _ d e 3 ab w z y;generalize fw e 3=lk at *;cases lk with
 | true =>have F:Hid (fV e 20 r=e):=p;clear p;go_enter func133,ntmps133;go_wp2_with fail;refine (t.out _).mono ?_;rintro l o ⟨rfl,cap⟩;have n:Hid (Bw w o):=cap;have b:Hid (eG o D E d e):=H.out.below cap;clear cap;go_wp2_with fail;refine (s.out _ (kI b.out) b.out.len).mono ?_;rintro l A ⟨rfl,j⟩;subst j;go_wp2_with fail;refine bodyPost_end (results_none results133 _ _ _) rfl ?_;exact ⟨rfl,sy,dG n.out _⟩
 | false =>have F:Hid (fV e 20 r=e.set 20 (bn 20 r)):=p;clear p;go_enter func133,ntmps133;go_wp2_with fail;refine (t.out _).mono ?_;rintro l o ⟨rfl,cap⟩;have n:Hid (Bw w o):=cap;have b:Hid (eG o D E d e):=H.out.below cap;clear cap;have c:=b.out.cell 20 ab;have f:=b.out.froz 20;go_wp2_with fail;refine (s.out _ (kI b.out) b.out.len).mono ?_;rintro l A ⟨rfl,j⟩;subst j;go_wp2_with fail;refine (fy _ r _).mono ?_;rintro l I ⟨rfl,x⟩;subst x;go_wp2_with fail;refine bodyPost_end (results_none results133 _ _ _) rfl ?_;exact ⟨rfl,by rw [F.out];exact (b.out.put 20 _).1,aZ (dG n.out _) (b.out.put 20 _).2⟩
theorem EP (y:z<22) (hk:¬ (z=9\/z=15\/z=16\/z=17\/z=18\/z=19\/z=20)) (o:cZ q=(z:Int)) (hn:gn q=true) (w:World) (h:eG w D E d e): Calls prog 133 #[.slice (some ⟨E,0,none⟩) 22 d,.i q,.u r] w λl cap=>l=.returned (.tuple #[])/\eG cap D E d (fV e (z:Int) r)/\w.grownBy cap (some E):=by
 simp only [gn,Bool.and_eq_true,Bool.not_eq_true'] at hn;obtain ⟨⟨⟨⟨k,A⟩,B⟩,C⟩,base⟩:=hn;have H:Hid (eG w D E d e):=h;clear h;have F:Hid (fV e (z:Int) r=e.set z (bn z r)):=by show _=_;unfold fV;rw [if_neg ab,if_neg ab,if_neg ab,if_neg ab];rfl
 have d9:((z:Int)==9)=false:=by simp;omega
 have Vy:((z:Int)==15)=false:=by simp;omega
 have Vx:((z:Int)==16)=false:=by simp;omega
 have VJ:((z:Int)==17)=false:=by simp;omega
 have s:((z:Int)==18)=false:=by simp;omega
 have t:((z:Int)==19)=false:=by simp;omega
 have u:((z:Int)==20)=false:=by simp;omega
 have x:Hid (∀ w,CB 134 #[.i q] w (.i (z:Int))):=by rw [<- o];exact dI q
 clear o;clear hk;go_enter func133,ntmps133;go_wp2_with fail;refine (x.out _).mono ?_;rintro l p ⟨rfl,j⟩;have n:Hid (Bw w p):=j;have b:Hid (eG p D E d e):=H.out.below j;clear j;have c:=b.out.cell z y;have f:=b.out.froz z;go_wp2_with fail;refine (fy _ r _).mono ?_;rintro l g ⟨rfl,m⟩;subst m;go_wp2_with fail;refine bodyPost_end (results_none results133 _ _ _) rfl ?_;exact ⟨rfl,by rw [F.out];exact (b.out.put z _).1,aZ (dG n.out _) (b.out.put z _).2⟩
theorem B6 (cap:Nat) (l:List Int) (n x:Int) (hk:dt n=true) (w:World) (h:eG w D E cap l): Calls prog 133 #[.slice (some ⟨E,0,none⟩) 22 cap,.i n,.u x] w λe o=>e=.returned (.tuple #[])/\eG o D E cap (bW l n x)/\w.grownBy o (some E):=by
 by_cases b:gn n=true
 ·rw [zW b];have r:=rO n;have q:0<=cZ n:=(by simp [gn] at b;simp [dt] at hk;omega);obtain ⟨k,a⟩:∃ k:Nat,cZ n=(k:Int):=⟨(cZ n).toNat,ab⟩;rw [a];by_cases e:k=9\/k=15\/k=16\/k=17\/k=18\/k=19\/k=20
  ·by_cases p:k=9;·subst p;exact EO D E cap l n x a b w h
   ·by_cases c:k=15;·subst c;exact BV D E cap l n x a b w h
    ·by_cases d:k=16;·subst d;exact BW D E cap l n x a b w h
     ·by_cases f:k=17;·subst f;exact BX D E cap l n x a b w h
      ·by_cases i:k=18;·subst i;exact BY D E cap l n x a b w h
       ·by_cases j:k=19;·subst j;exact BZ D E cap l n x a b w h
        ·have m:k=20:=ab;subst m;exact B5 D E cap l n x a b w h
  ·exact EP D E cap l n x k ab e a b w h
 ·have:n=769\/n=3860\/n=256\/n=260\/n=324:=by simp [gn] at b;omega
  rcases this with rfl|rfl|rfl|rfl|rfl;·exact BO D E cap l x w h
  ·exact zV D E cap l x w h
  ·exact BP D E cap l x w h
  ·exact BU D E cap l x w h
  ·exact BT D E cap l x w h
theorem GP (h:eG x w n k a) (j:Nat) (b:j<22) (base:Int) (o:Oper) (ev:Operand->Value) (p v:Operand) (d:o.op=.store 22 p v) (q:ev p=.p n j) (hv:ev v=.u base): (execOp ev o).run prog x=.ok .skip (x.setCell ⟨n,j,none⟩ (.u base)):=by
 have c:=h.cell j b;have f:=h.froz j;have r:∀ m,(store ⟨n,j,none⟩ (.u base) m).run prog x=.ok () (x.setCell ⟨n,j,none⟩ (.u base)):=by intro m;rw [run_store_int];simp [stored,c,f]
 simp [execOp,d,q,hv,go_sem];rw [c];simp [f]
theorem qi {b:Array Oper} {rest:List Oper} {o:Oper} {l:Act} {Q:Exit->Act->World->Prop} (e:o.guard=none) (p v:Operand) (i:o.op=.store 22 p v) (hd:o.dst=none) (h:eG x w n k a) (j:Nat) (f:j<22) (base:Int) (cap:l.eval p=.p n j) (hv:l.eval v=.u base) (hk:∀ c,eG c w n k (a.set j base)->x.grownBy c (some n)->wpList prog b Q rest l c):wpList prog b Q (o::rest) l x:=by refine wpList_plain e λK d=>?_;unfold Oper.wp;rw [GP h j f base o l.eval p v i cap hv,Oper.upon_skip];rw [hd];exact d _ _ (hk _ (h.put j base).1 (h.put j base).2)
theorem bF (b:0<=B) (c:B<18446744073709551616) (hk:D<64) (hn:E<64) (w:World): Calls prog 66 #[.u B,.i D,.i E] w λe d=>e=.returned (.u (dg B D E))/\d=w.drew:=by
 have F:Hid (bits .and .u64 (B/2^D) (Uz.wrap (Uz.wrap (2^E)-1))=dg B D E):=iE B D E b c hn;go_enter func66,ntmps66;go_wp2_with fail;go_region;all_goals go_wp2_with fail
 all_goals go_ret
 all_goals exact ⟨by rw [<- F.out];rfl,rfl⟩
theorem uk: CE 236 #[.string o.str] s (.tuple #[.u o.mask,.i o.at]):=by
 cases o<;>simp only [Fm.str,Fm.mask,Fm.at];all_goals go_enter func236,ntmps236
 all_goals go_wp2_with fail
 all_goals go_ret2
 all_goals exact ⟨rfl,rfl⟩
theorem iX (g:1<=D) (j:D<=64) (w:World): CE 136 #[.u B,.i D] w (.u (au D B)):=by
 have d:decide ((D:Int)<1)=false:=by simp;omega
 have f:decide ((64:Int)<(D:Int))=false:=by simp;omega
 obtain ⟨m,l,b⟩:∃ m:Nat,(64:Int)-(D:Int)=(m:Int)/\m=64-D:=⟨64-D,ab,rfl⟩;have F:Hid (Uz.wrap (wrap64 (Uz.wrap (B*2^m))/2^m)=au D B):=by show _=_;rw [b];rfl
 clear b;go_enter func136,ntmps136;go_wp2_with fail;go_ret;exact ⟨by rw [<- F.out];rfl,rfl⟩
theorem eE (f:1<=D) (g:D<=64) (w:World): CE 127 #[.u B,.u D] w (.u (au D B)):=by
 obtain ⟨m,j,b⟩:∃ m:Nat,(64:Int)-(D:Int)=(m:Int)/\m=64-D:=⟨64-D,ab,rfl⟩;have F:Hid (Uz.wrap (wrap64 (Uz.wrap (B*2^m))/2^m)=au D B):=by show _=_;rw [b];rfl
 clear b;have c:Uz.wrap (m:Int)=m:=by rw [IntKind.wrap_u64];omega
 go_enter func127,ntmps127;go_wp2_with fail;go_ret;exact ⟨by rw [<- F.out];rfl,rfl⟩
def iY (op:Int) (f:Fm):Int:=if op=98 then bits .or .u64 f.mask 3968 else if op=63\/op=74 then bits .or .u64 f.mask 32505856 else f.mask
def vO (f:Fm) (o z m:Int):Int:=bits .or .u64 (bits .or .u64 o (Uz.wrap (z*4096))) (Uz.wrap (m*2^f.at))
theorem vP (D:ByteArray) (f:Fm) (o z m:Int) (w:World): CB 203 #[.i B,.agg #[.string D,.string f.str,.u o,.u z,.u m]] w (.tuple #[.u (iY B f),.u (vO f o z m)]):=by
 have r:=uk f;obtain ⟨M,d⟩:∃ M,M=f.mask:=⟨_,rfl⟩;obtain ⟨t,l⟩:∃ t,t=f.at:=⟨_,rfl⟩;obtain ⟨s,p⟩:∃ s,s=f.str:=⟨_,rfl⟩;have u:Hid (vO f o z m=bits .or .u64 (bits .or .u64 o (Uz.wrap (z*4096))) (Uz.wrap (m*2^t))):=by show _=_;rw [vO,l]
 rw [<- p,<- d,<- l] at r;rw [<- p];have op:t<64:=by rw [l];cases f<;>decide
 by_cases b:B=98
 ·subst b;have g:Hid (iY 98 f=bits .or .u64 M 3968):=(by show _=_;rw [iY,if_pos rfl,d]);clear d l p;go_enter func203,ntmps203;go_wp2_with fail;refine (r _).mono ?_;rintro e A ⟨rfl,rfl⟩;go_wp2_with fail;go_region;all_goals go_wp2_with fail
  all_goals go_ret2
  all_goals exact ⟨by rw [g.out,u.out];rfl,(bal _ _).drew⟩
 ·have q:(B==98)=false:=la;by_cases c:B=63
  ·subst c;have g:Hid (iY 63 f=bits .or .u64 M 32505856):=(by show _=_;rw [iY,if_neg bc,if_pos bc,d]);clear d l p b q;go_enter func203,ntmps203;go_wp2_with fail;refine (r _).mono ?_;rintro e A ⟨rfl,rfl⟩;go_wp2_with fail;go_region;all_goals go_wp2_with fail
   all_goals go_ret2
   all_goals exact ⟨by rw [g.out,u.out];rfl,(bal _ _).drew⟩
  ·have y:(B==63)=false:=i6;by_cases j:B=74
   ·subst j;have g:Hid (iY 74 f=bits .or .u64 M 32505856):=(by show _=_;rw [iY,if_neg bc,if_pos bc,d]);clear d l p b q c y;go_enter func203,ntmps203;go_wp2_with fail;refine (r _).mono ?_;rintro e A ⟨rfl,rfl⟩;go_wp2_with fail;go_region;all_goals go_wp2_with fail
    all_goals go_ret2
    all_goals exact ⟨by rw [g.out,u.out];rfl,(bal _ _).drew⟩
   ·have C:(B==74)=false:=(by simpa using j);have g:Hid (iY B f=M):=(by show _=_;rw [iY,if_neg b,if_neg ab,d]);clear d l p b c j;go_enter func203,ntmps203;go_wp2_with fail;refine (r _).mono ?_;rintro e A ⟨rfl,rfl⟩;go_wp2_with fail;go_region;all_goals go_wp2_with fail
    all_goals go_ret2
    all_goals exact ⟨by rw [g.out,u.out];rfl,(bal _ _).drew⟩
theorem Jy (t cm:Int) (u:Bool) (g f:Nat) (b c1:Nat) (a2:Option Addr) (j c2:Nat) (q:Int) (xs ys:List Int) (B E:Nat) (w:World) (hx:xs.length=b) (hy:ys.length=j) (hn0:1<=b) (hn1:b<=16) (hc1:b<=c1) (hc2:c1<=9223372036854775807) (F:B<=E) (G:E<=w.heap.size) (T:bz B E w (gj (some ⟨g,f,none⟩) b c1 xs a2 j c2 ys)) (hw:0<=xs.getD 0 0/\xs.getD 0 0<=255):Calls prog 120 #[.agg #[.u t,.u cm,.bool u,.slice (some ⟨g,f,none⟩) b c1,.slice a2 j c2,.i q],.u 268435456,.i 1] w λe C=>∃ (c:Option Addr) (d:Nat),e=.returned (.tuple #[.u (xs.getD 0 0),.agg #[.u t,.u cm,.bool u,.slice c (b-1) d,.slice a2 j c2,.i q],.bool true])/\C.ownsRow w.heap.size 5 1 (.slice c (b-1) d) (b-1) ((xs.drop 1).map (Value.int .u8))/\Bw w C:=by
 have W:=T.in_;obtain ⟨b',off',e,U,Y⟩:=W 0 ab;simp only [Option.some.injEq,Addr.mk.injEq,and_true] at e;obtain ⟨rfl,rfl⟩:=e;have y:∀ z A,Bw w ((w.alloc z).alloc A):=λz A=>eO;have k0:∀ z A,((w.alloc z).alloc A).cell? ⟨g,f,none⟩=some (.int .u8 (xs.getD 0 0)):=λz A=>((y z A).cell (by exact U)).trans Y;have t0:((b:Int)==0)=false:=by simp;omega
 have i0:(0:Int)<(b:Int):=ab
 have i1:(1:Int)<=(b:Int):=ab
 have X:Hid (∀ C,Bw w C->Sl .u8 C (some ⟨g,f+1,none⟩) (xs.drop 1)):=λC hb=>(W.below hb).next
 have L:Hid ((xs.drop 1).length=b-1/\b-1<=1048576):=⟨by rw [List.length_drop,hx],ab⟩;have HF:Hid (bz B E w (gj (some ⟨g,f,none⟩) b c1 xs a2 j c2 ys)):=T;have HE2:Hid (B<=E/\E<=w.heap.size):=⟨F,G⟩;have G:=jh ((w.alloc (.cells #[.u t,.u cm,.bool u,.slice (some ⟨g,f,none⟩) b c1,.slice a2 j c2,.i q] 30)).alloc (.cells #[.u 0,.u 0,.bool false,.slice none 0 0,.slice none 0 0,.i 0] 30)) (w.heap.size+1+1) cp (.cells #[] 5 (0,0)) rfl;rw [World.size_alloc,World.size_alloc] at G;have I:Uz.wrap (xs.getD 0 0)=xs.getD 0 0:=by rw [IntKind.wrap_u64];omega
 have D:=aG I;clear W Y T F I hw hx hy;generalize xs.getD 0 0=x0 at *;by_cases S:c1=1;·have V:b=1:=ab;subst S V;have H:xs.drop 1=[]:=List.length_eq_zero_iff.1 (by have:=L.out.1;simpa using this);rw [H];clear H X L;go_enter func120,ntmps120;go_wp2_with (first | (at_builtin;refine ik rfl (.tmp 58) (.tmp 61) rfl (w.heap.size+1+1) _ rfl G _ 0 _ [] rfl rfl ab (λi hi=>absurd hi (Nat.not_lt_zero _)) cp ?_;intro c d J o l;obtain ⟨r,s,m,K⟩:=Pq l;have R0:=aG r;have R1:=aG s;have N:=aG m;have R:=aG K;have P:=aG o;obtain ⟨p0,p1,p2,p3,p4,p5⟩:=hC r;obtain ⟨s0,s1,s2,s3,s4,s5⟩:=hC s;obtain ⟨y0,y1,y2,y3,y4,y5⟩:=Bo s;have f3:=ic r 3;clear r s m K o l));go_region;go_wp2_with fail;rw [D.out];have Q:=n9 (gL R1.out ⟨w.heap.size,3,none⟩ (.slice c 0 d) di) (.u t) (.u cm) (.bool u) (.slice c 0 d) (.slice a2 j c2) (.i q);have M:=(((bz.nil (w.heap.size+1+1) (w.heap.size+1+1) J).snoc (aF c 0 d []) _ J.heap.size P.out (Nat.le_refl _) (Nat.le_refl _) (Nat.le_refl _) (by have:=R.out;omega)).set ⟨w.heap.size,3,none⟩ (.slice c 0 d) (.inl di)).put6 (w.heap.size+1) (.inl ab) (.u t) (.u cm) (.bool u) (.slice c 0 d) (.slice a2 j c2) (.i q);have O:=lC (N.out.setCell (p:=⟨w.heap.size,3,none⟩) (Nat.le_refl _) (.slice c 0 d)) (g:=w.heap.size+1) ab (.u t) (.u cm) (.bool u) (.slice c 0 d) (.slice a2 j c2) (.i q);exact bodyPost_ret (bU results120 _ _ _ _ _ _ _ rfl (Bt Q) underlying30 rfl bO) rfl ⟨c,d,rfl,cF (dH (M.own _ (List.mem_singleton.2 rfl)) (Below.refl _ _).drew) ab,O.drew⟩
 ·have Z:¬ (c1-1=0):=ab;go_enter func120,ntmps120;go_wp2_with (first | (at_builtin;refine ik rfl (.tmp 58) (.tmp 61) rfl (w.heap.size+1+1) _ rfl G (some ⟨g,f+1,none⟩) (b-1) (c1-1) (xs.drop 1) rfl L.out.1 L.out.2 (X.out _ ((y _ _).alloc (y _ _).size _)) cp ?_;intro c d J o l;obtain ⟨r,s,m,K⟩:=Pq l;have R0:=aG r;have R1:=aG s;have N:=aG m;have R:=aG K;have P:=aG o;obtain ⟨p0,p1,p2,p3,p4,p5⟩:=hC r;obtain ⟨s0,s1,s2,s3,s4,s5⟩:=hC s;obtain ⟨y0,y1,y2,y3,y4,y5⟩:=Bo s;have f3:=ic r 3;clear r s m K o l));go_region;go_wp2_with fail;rw [D.out];have Q:=n9 (gL R1.out ⟨w.heap.size,3,none⟩ (.slice c (b-1) d) di) (.u t) (.u cm) (.bool u) (.slice c (b-1) d) (.slice a2 j c2) (.i q);have M:=(((bz.nil (w.heap.size+1+1) (w.heap.size+1+1) J).snoc (aF c (b-1) d (xs.drop 1)) _ J.heap.size P.out (Nat.le_refl _) (Nat.le_refl _) (Nat.le_refl _) (by have:=R.out;omega)).set ⟨w.heap.size,3,none⟩ (.slice c (b-1) d) (.inl di)).put6 (w.heap.size+1) (.inl ab) (.u t) (.u cm) (.bool u) (.slice c (b-1) d) (.slice a2 j c2) (.i q);have O:=lC (N.out.setCell (p:=⟨w.heap.size,3,none⟩) (Nat.le_refl _) (.slice c (b-1) d)) (g:=w.heap.size+1) ab (.u t) (.u cm) (.bool u) (.slice c (b-1) d) (.slice a2 j c2) (.i q);exact bodyPost_ret (bU results120 _ _ _ _ _ _ _ rfl (Bt Q) underlying30 rfl bO) rfl ⟨c,d,rfl,cF (dH (M.own _ (List.mem_singleton.2 rfl)) (Below.refl _ _).drew) ab,O.drew⟩
theorem EQ (s:Bool) (a1:Option Addr) (l c1:Nat) (a2:Option Addr) (b c2:Nat) (r:Int) (x:Int) (xs ys:List Int) (t E:Nat) (w:World) (hy:ys.length=b) (G:b<4096) (C:t<=E) (D:E<=w.heap.size) (J:bz t E w (gj a1 l c1 xs a2 b c2 ys)): Calls prog 122 #[.agg #[.u B,.u c,.bool s,.slice a1 l c1,.slice a2 b c2,.i r],.u 268435456,.i 1,.u x] w λe u=>∃ (cm:Option Addr) (d:Nat),e=.returned (.tuple #[.agg #[.u B,.u c,.bool s,.slice a1 l c1,.slice cm (b+1) d,.i r],.bool true])/\u.ownsRow w.heap.size 5 1 (.slice cm (b+1) d) (b+1) ((ys++[IntKind.u8.wrap x]).map (Value.int .u8))/\Bw w u:=by
 have R:=J.out_
 have A:∀ S T,Bw w ((w.alloc S).alloc T):=λS T=>eO
 have dd:decide ((b:Int)<4096)=true:=by simp;omega
 have HS:Hid (∀ u,Bw w u->Sl .u8 u a2 ys):=λu hb=>R.below hb
 have I:Hid (ys.length=b/\b<4096):=⟨hy,G⟩
 have HF:Hid (bz t E w (gj a1 l c1 xs a2 b c2 ys)):=J
 have HE2:Hid (t<=E/\E<=w.heap.size):=⟨C,D⟩
 have Q:=jh ((w.alloc (.cells #[.u B,.u c,.bool s,.slice a1 l c1,.slice a2 b c2,.i r] 30)).alloc (.cells #[.u 0,.u 0,.bool false,.slice none 0 0,.slice none 0 0,.i 0] 30)) (w.heap.size+1+1) cp (.cells #[] 5 (0,0)) rfl
 rw [World.size_alloc,World.size_alloc] at Q
 obtain ⟨i0,hi,K,L,M⟩:=info_parts info5
 clear R J C D hy G
 rw [show IntKind.u8.wrap x=x%256 from IntKind.wrap_u8 x]
 go_enter func122,ntmps122
 go_wp2_with (first
  | (at_builtin;refine ik rfl (.tmp 51) (.tmp 53) rfl (w.heap.size+1+1) _ rfl Q a2 b c2 ys rfl I.out.1 (by have:=I.out.2;omega) (HS.out _ ((A _ _).alloc (A _ _).size _)) cp ?_;intro b1 d1 w1 H y;obtain ⟨U,V,F,W⟩:=Pq y;have R0:=aG U;have R1:=aG V;have Y:=aG F;have P:=aG W;have O:=aG H;clear U V F W H y)
  | (at_builtin;refine wpList_append_own _ rfl (.tmp 54) (.tmp 57) 24 rfl (w.heap.size+1+1) 5 i0 (.int .u8 0) 1 1 underlying24 hi K L M rfl bc _ b (ys.map (Value.int .u8)) rfl (dH O.out (bal _ _)) ⟨w1.heap.size,0,none⟩ 1 1 [.int .u8 (x%256)] rfl rfl (Ps _ _) ti (by have:=I.out.2;unfold maxLen;omega) (by have:=I.out.2;omega) (by have:=P.out;rw [World.size_alloc];omega) ?_;intro v' N q z o;obtain ⟨cm,d,rfl⟩:=K9 q;obtain ⟨f,j,m⟩:=VN R0.out R1.out O.out z;have S0:=aG f;have S1:=aG j;have Z:=aG (Y.out.trans (m.mono ab));have Z2:=aG m.size;have O2:=aG q;obtain ⟨p0,p1,p2,p3,p4,p5⟩:=hC f;obtain ⟨s0,s1,s2,s3,s4,s5⟩:=hC j;obtain ⟨y0,y1,y2,y3,y4,y5⟩:=Bo j;have f4:=ic f 4;clear f j m q z o))
 have T1:=n9 (gL S1.out ⟨w.heap.size,4,none⟩ (.slice cm (b+1) d) di) (.u B) (.u c) (.bool s) (.slice a1 l c1) (.slice cm (b+1) d) (.i r)
 have O3:N.ownsRow (w.heap.size+1+1) 5 1 (.slice cm (b+1) d) (b+1) ((ys++[x%256]).map (Value.int .u8)):=by rw [List.map_append];exact O2.out
 have X:=(((bz.nil (w.heap.size+1+1) (w.heap.size+1+1) N).snoc (aF cm (b+1) d (ys++[x%256])) _ N.heap.size O3 (Nat.le_refl _) (Nat.le_refl _) (Nat.le_refl _) (by have:=P.out;have:=Z2.out;omega)).set ⟨w.heap.size,4,none⟩ (.slice cm (b+1) d) (.inl di)).put6 (w.heap.size+1) (.inl ab) (.u B) (.u c) (.bool s) (.slice a1 l c1) (.slice cm (b+1) d) (.i r)
 have B4:=lC (Z.out.setCell (p:=⟨w.heap.size,4,none⟩) (Nat.le_refl _) (.slice cm (b+1) d)) (g:=w.heap.size+1) ab (.u B) (.u c) (.bool s) (.slice a1 l c1) (.slice cm (b+1) d) (.i r)
 exact bodyPost_ret (cW results122 _ _ _ _ _ _ _ rfl T1 underlying30 rfl bO) rfl ⟨cm,d,rfl,cF (X.own _ (List.mem_singleton.2 rfl)) ab,B4⟩
def fJ (w w':World) (a1:Option Addr) (c1:Nat) (xs:List Int) (a2:Option Addr) (c2:Nat) (ys:List Int) (a:Option Addr) (b:Nat) (zs:List Int) (b2:Option Addr) (c:Nat) (us:List Int):Prop :=
 ((a=a1/\b=c1/\zs=xs)/\b2=a2/\c=c2/\us=ys) \/
 (w'.ownsRow w.heap.size 5 1 (.slice a zs.length b) zs.length (zs.map (Value.int .u8))/\b2=a2/\c=c2/\us=ys) \/
 ((a=a1/\b=c1/\zs=xs)/\w'.ownsRow w.heap.size 5 1 (.slice b2 us.length c) us.length (us.map (Value.int .u8))) \/
 bz w.heap.size w'.heap.size w' (gj a zs.length b zs b2 us.length c us)
theorem fJ.same (w':World) (a1:Option Addr) (c1:Nat) (xs:List Int) (a2:Option Addr) (c2:Nat) (ys:List Int):fJ s w' a1 c1 xs a2 c2 ys a1 c1 xs a2 c2 ys:=.inl ⟨⟨rfl,rfl,rfl⟩,rfl,rfl,rfl⟩
theorem fJ.below {w':World} {a2:Option Addr} {ys:List Int} {c:Option Addr} {zs:List Int} {b2:Option Addr} {e:Nat} {us:List Int} (h:fJ x l f w a a2 n ys c k zs b2 e us) (hb:Bw l w'):fJ x w' f w a a2 n ys c k zs b2 e us:=by
 rcases h with h|⟨xs,b⟩|⟨xs,b⟩|h;·exact .inl h
 ·exact .inr (.inl ⟨dH xs hb,b⟩)
 ·exact .inr (.inr (.inl ⟨xs,dH b hb⟩))
 ·exact .inr (.inr (.inr ((h.below hb).low (Nat.le_refl _) hb.size)))
theorem ER (E:Nat) (w:World) (j:p.xs.length<=16) (hb:dW p) (l:z<=E) (t:E<=w.heap.size) (o:bz z E w (gj b p.xs.length D p.xs m p.ys.length d p.ys)): Calls prog 120 #[.agg #[.u p.t,.u p.cm,.bool p.so,.slice b p.xs.length D,.slice m p.ys.length d,.i p.ir],.u q,.i r] w λe a=>∃ (c1:Option Addr) (c:Nat) (c2:Option Addr) (f:Nat),e=.returned (.tuple #[.u (jw p (gD q r)).1,.agg (gh (jw p (gD q r)).2.1 c1 c c2 f),.bool (jw p (gD q r)).2.2])/\fJ w a b D p.xs m d p.ys c1 c (jw p (gD q r)).2.1.xs c2 f (jw p (gD q r)).2.1.ys/\Bw w a:=by
 refine jW q r (λk=>Calls prog 120 #[.agg #[.u p.t,.u p.cm,.bool p.so,.slice b p.xs.length D,.slice m p.ys.length d,.i p.ir],.u q,.i r] w λe a=>∃ (c1:Option Addr) (c:Nat) (c2:Option Addr) (f:Nat),e=.returned (.tuple #[.u (jw p k).1,.agg (gh (jw p k).2.1 c1 c c2 f),.bool (jw p k).2.2])/\fJ w a b D p.xs m d p.ys c1 c (jw p k).2.1.xs c2 f (jw p k).2.1.ys/\Bw w a) ?_ ?_ ?_ ?_ ?_ ?_ ?_;·rintro rfl rfl;exact (K3 p.t p.cm p.so b _ D m _ d p.ir w).mono λe a h=>⟨b,D,m,d,h.1,fJ.same _ _ _ _ _ _ _ _,h.2⟩
 ·rintro rfl rfl;exact (K4 p.t p.cm p.so b _ D m _ d p.ir w).mono λe a h=>⟨b,D,m,d,h.1,fJ.same _ _ _ _ _ _ _ _,h.2⟩
 ·rintro rfl rfl;exact (K5 p.t p.cm p.so b _ D m _ d p.ir w).mono λe a h=>⟨b,D,m,d,h.1,fJ.same _ _ _ _ _ _ _ _,h.2⟩
 ·rintro rfl rfl;rcases Nat.eq_zero_or_pos p.xs.length with i|i
  ·have a1:p.xs=[]:=List.length_eq_zero_iff.1 i;have h:=IZ p.t p.cm p.so b D m p.ys.length d p.ir w;rw [i];refine h.mono λe a h=>⟨b,D,m,d,?_,?_,h.2⟩;·rw [h.1];simp only [jw,gh,a1];rfl
   ·simp only [jw,a1];exact fJ.same _ _ _ _ _ _ _ _
  ·obtain ⟨g,rfl,a2,n⟩:=I0 o i;unfold maxLen at n;have u:=jd hb.1 0;refine (Jy p.t p.cm p.so g 0 p.xs.length D m p.ys.length d p.ir p.xs p.ys z E w rfl rfl i j a2 ab l t o u).mono λe a h=>?_;obtain ⟨c1,c,addr,size,s⟩:=h;refine ⟨c1,c,m,d,?_,.inr (.inl ⟨?_,rfl,rfl,?_⟩),s⟩;·rw [addr];simp only [jw,gh,List.length_drop]
   ·simp only [jw,List.length_drop];exact size
   ·simp only [jw]
 ·rintro rfl rfl;exact (K6 p.t p.cm p.so b _ D m _ d p.ir w).mono λe a h=>⟨b,D,m,d,h.1,fJ.same _ _ _ _ _ _ _ _,h.2⟩
 ·rintro rfl rfl;exact (K7 p.t p.cm p.so b _ D m _ d p.ir ab w).mono λe a h=>⟨b,D,m,d,h.1,fJ.same _ _ _ _ _ _ _ _,h.2⟩
 ·intro v x y B A C;exact (K8 p.t p.cm p.so b _ D m _ d p.ir q r v x y B A C w).mono λe a h=>⟨none,0,none,0,h.1,.inr (.inr (.inr (lD _ _ _))),h.2⟩
theorem ES (i:wrap64 (bits .and .u64 q 1)=y):Calls prog 122 #[.agg #[.u p.t,.u p.cm,.bool p.so,.slice b p.xs.length D,.slice m p.ys.length d,.i p.ir],.u 268435457,.i 1,.u q] s λe a=>∃ (c1:Option Addr) (c2:Nat) (c:Option Addr) (f:Nat),e=.returned (.tuple #[.agg (gh ((⟨p.t,p.cm,p.so,p.xs,p.ys,y⟩,true):DV × Bool).1 c1 c2 c f),.bool ((⟨p.t,p.cm,p.so,p.xs,p.ys,y⟩,true):DV × Bool).2])/\fJ s a b D p.xs m d p.ys c1 c2 ((⟨p.t,p.cm,p.so,p.xs,p.ys,y⟩,true):DV × Bool).1.xs c f ((⟨p.t,p.cm,p.so,p.xs,p.ys,y⟩,true):DV × Bool).1.ys/\Bw s a:=by have g:=I9 p.t p.cm p.so b p.xs.length D m p.ys.length d p.ir q s;rw [i] at g;exact g.mono λe a h=>⟨b,D,m,d,h.1,fJ.same _ _ _ _ _ _ _ _,h.2⟩
theorem B7 (E:Nat) (w:World) (i:p.ys.length<=4096) (j:z<=E) (addr:E<=w.heap.size) (size:bz z E w (gj b p.xs.length D p.xs m p.ys.length d p.ys)): Calls prog 122 #[.agg #[.u p.t,.u p.cm,.bool p.so,.slice b p.xs.length D,.slice m p.ys.length d,.i p.ir],.u q,.i r,.u y] w λe a=>∃ (c1:Option Addr) (c2:Nat) (c:Option Addr) (f:Nat),e=.returned (.tuple #[.agg (gh (fX p y (gD q r)).1 c1 c2 c f),.bool (fX p y (gD q r)).2])/\fJ w a b D p.xs m d p.ys c1 c2 (fX p y (gD q r)).1.xs c f (fX p y (gD q r)).1.ys/\Bw w a:=by
 refine jW q r (λk=>Calls prog 122 #[.agg #[.u p.t,.u p.cm,.bool p.so,.slice b p.xs.length D,.slice m p.ys.length d,.i p.ir],.u q,.i r,.u y] w λe a=>∃ (c1:Option Addr) (c2:Nat) (c:Option Addr) (f:Nat),e=.returned (.tuple #[.agg (gh (fX p y k).1 c1 c2 c f),.bool (fX p y k).2])/\fJ w a b D p.xs m d p.ys c1 c2 (fX p y k).1.xs c f (fX p y k).1.ys/\Bw w a) ?_ ?_ ?_ ?_ ?_ ?_ ?_;·rintro rfl rfl;rw [GE];exact (I6 p.t p.cm p.so b _ D m _ d p.ir y w).mono λe a h=>⟨b,D,m,d,h.1,fJ.same _ _ _ _ _ _ _ _,h.2⟩
 ·rintro rfl rfl;rw [GF];exact (I7 p.t p.cm p.so b _ D m _ d p.ir y w).mono λe a h=>⟨b,D,m,d,h.1,fJ.same _ _ _ _ _ _ _ _,h.2⟩
 ·rintro rfl rfl;rw [GG];exact (I8 p.t p.cm p.so b _ D m _ d p.ir y w).mono λe a h=>⟨b,D,m,d,h.1,fJ.same _ _ _ _ _ _ _ _,h.2⟩
 ·rintro rfl rfl;by_cases g:p.ys.length<4096
  ·rw [zN p y g];refine (EQ p.t p.cm p.so b _ D m _ d p.ir y p.xs p.ys z E w rfl g j addr size).mono λe a h=>?_;obtain ⟨a2,n,o,i,a1⟩:=h;have l:(p.ys++[IntKind.u8.wrap y]).length=p.ys.length+1:=(by rw [List.length_append];rfl);refine ⟨b,D,a2,n,?_,.inr (.inr (.inl ⟨⟨rfl,rfl,rfl⟩,?_⟩)),a1⟩;·rw [o];dsimp only [gh];rw [l]
   ·dsimp only;rw [l];exact i
  ·rw [zO p y g];exact (Eh p.t p.cm p.so b _ D m _ d p.ir y g i w).mono λe a h=>⟨b,D,m,d,h.1,fJ.same _ _ _ _ _ _ _ _,h.2⟩
 ·rintro rfl rfl;rw [GH];exact ES p b D m d y w _ rfl
 ·rintro rfl rfl;rw [GI];exact (Ja p.t p.cm p.so b _ D m _ d p.ir y w).mono λe a h=>⟨b,D,m,d,h.1,fJ.same _ _ _ _ _ _ _ _,h.2⟩
 ·intro s t u v x B;rw [GJ];exact (Jb p.t p.cm p.so b _ D m _ d p.ir y q r s t u v x B w).mono λe a h=>⟨none,0,none,0,h.1,.inr (.inr (.inr (lD _ _ _))),h.2⟩
theorem B8:B=3860\/B=769\/B=256\/B=260\/B=324\/((B==3860)=false/\(B==769)=false/\(B==256)=false/\(B==260)=false/\(B==324)=false):=by simp only [beq_eq_false_iff_ne];omega
theorem ET (hz:t.length=22) (hs:Sl .u64 s b t) (hk:dt c=true): CB 132 #[.slice b 22 D,.i c] s (.u (de t c)):=by
 obtain ⟨a,d,rfl,p,g⟩:=hs 0 ab;have cell:∀ j,j<22->s.cell? ⟨a,d+j,none⟩=some (.u (t.getD j 0)):=by intro j L;obtain ⟨K,w,e,_,C⟩:=hs j ab;simp only [Option.some.injEq,Addr.mk.injEq,and_true] at e;obtain ⟨rfl,rfl⟩:=e;exact C
 rcases B8 c with rfl|rfl|rfl|rfl|rfl|⟨m,o,r,d4,d5⟩;·go_enter func132,ntmps132;exact a08
 ·go_enter func132,ntmps132;exact a08
 ·have F:Hid (de t 256=bits .and .u64 (t.getD 0 0) 786722):=(rfl:de t 256=_);have E:=cell 0 ab;rw [Nat.add_zero] at E;clear cell g;generalize t.getD 0 0=y at *;go_enter func132,ntmps132;exact a04
 ·have F:Hid (de t 260=bits .and .u64 (t.getD 3 0) (t.getD 2 0)):=(rfl:de t 260=_);have H:=cell 3 ab;have G:=cell 2 ab;clear cell g;generalize t.getD 3 0=y at *;generalize t.getD 2 0=z at *;go_enter func132,ntmps132;go_wp2_with fail;go_quiet (fail)
  go_wp2_with fail;go_ret;exact ⟨bh,⟨rfl,rfl,rfl,Nat.le_refl _,λ_ _=>rfl⟩⟩
 ·have F:Hid (de t 324=bits .and .u64 (t.getD 9 0) (t.getD 2 0)):=(rfl:de t 324=_);have H:=cell 9 ab;have G:=cell 2 ab;clear cell g;generalize t.getD 9 0=y at *;generalize t.getD 2 0=z at *;go_enter func132,ntmps132;go_wp2_with fail;go_quiet (fail)
  go_wp2_with fail;go_ret;exact ⟨bh,⟨rfl,rfl,rfl,Nat.le_refl _,λ_ _=>rfl⟩⟩
 ·have cap:0<=cZ c:=(by simp only [dt,m,o,Bool.false_or,decide_eq_true_eq] at hk;exact hk);have B:=rO c;obtain ⟨k,n⟩:∃ k:Nat,cZ c=(k:Int):=⟨(cZ c).toNat,ab⟩;have I:k<22:=ab;have F:Hid (de t c=t.getD k 0):=(by show _=_;simp only [beq_eq_false_iff_ne] at m o r d4 d5;unfold de;rw [if_neg m,if_neg o,if_neg r,if_neg d4,if_neg d5,n,Int.toNat_natCast]);have l:Hid (∀ s,CB 134 #[.i c] s (.i (k:Int))):=(by rw [<- n];exact dI c);have u:Hid (s.cell? ⟨a,d+k,none⟩=some (.u (t.getD k 0))):=cell k I;clear cell g n B cap hk;generalize t.getD k 0=y at *;go_enter func132,ntmps132;go_wp2_with fail;refine (l.out _).mono ?_;rintro e J ⟨rfl,f⟩;have A:J.cell? ⟨a,d+k,none⟩=some (.u y):=(f.cell (by exact p)).trans u.out;go_wp2_with fail;go_ret;exact ⟨bh,f⟩
def qH (w:World) (p:Option Addr) (l:List (Nat × Nat × Nat)):Prop:=∀ k,k<l.length->∃ g,p=some ⟨g,0,none⟩/\g<w.heap.size/\w.cell? ⟨g,k*3,none⟩=some (.i (l.getD k (0,0,0)).1) /\
 w.cell? ⟨g,k*3+1,none⟩=some (.i (l.getD k (0,0,0)).2.1)/\w.cell? ⟨g,k*3+2,none⟩=some (.i (l.getD k (0,0,0)).2.2)
def pc (p:Nat × Nat × Nat):List Value:=[.i p.1,.i p.2.1,.i p.2.2]
theorem LH (A:Obj) (cs:Array Value) (t:TypeId) (l:List (Nat × Nat × Nat)) (h:cs=(l.flatMap pc).toArray):qH ((s.alloc A).alloc (.cells cs t)) (some ⟨s.heap.size+1,0,none⟩) l:=by
 subst h;intro k a;have b:((s.alloc A).alloc (.cells (l.flatMap pc).toArray t)).heap[s.heap.size+1]?=some (.cells (l.flatMap pc).toArray t (0,0)):=heap_alloc2_new _ _ _;have e:∀ j,j<3->((s.alloc A).alloc (.cells (l.flatMap pc).toArray t)).cell? ⟨s.heap.size+1,k*3+j,none⟩=(pc (l.getD k (0,0,0)))[j]?:=by intro j c;rw [cell_of_row _ _ _ _ _ _ b];have:=vE pc 3 l (by intro x _;rfl) k a j c;rw [show l.getD k (0,0,0)=l[k] by simp [List.getD,a],<- this];simp
 exact ⟨_,rfl,cp,e 0 bc,e 1 bc,e 2 bc⟩
theorem yJ (p:Option Addr):qH s p []:=by intro k a;simp at a
theorem oE:(prog.info? 261).map (·.size)=some 5:=by kernel_rfl
theorem zX: Calls prog 237 #[.string o.str] s λe b=>∃ p,e=.returned (.agg #[.bool o.hasRd,.bool o.hasA,.bool o.hasB,.slice p o.pcs.length o.pcs.length,.i o.width])/\Hid (qH b p o.pcs)/\Bw s b:=by
 cases o
 case r =>
  simp only [Fm.str]
  go_enter func237,ntmps237
  go_wp2_with fail
  exact bodyPost_ret (results_cell_row results237 _ _ _ _ _ _ _ rfl (heap_alloc_new _ _) underlying261 rfl oE) rfl ⟨none,rfl,yJ _ _,bal _ _⟩
 case x =>
  simp only [Fm.str]
  go_enter func237,ntmps237
  go_wp2_with fail
  exact bodyPost_ret (results_cell_row results237 _ _ _ _ _ _ _ rfl (heap_alloc_new _ _) underlying261 rfl oE) rfl ⟨none,rfl,yJ _ _,bal _ _⟩
 all_goals (
  simp only [Fm.str]
  go_enter func237,ntmps237
  go_wp2_with fail
  exact bodyPost_ret (results_cell_row results237 _ _ _ _ _ _ _ rfl (heap_alloc2_old _ _ _) underlying261 rfl oE) rfl ⟨some ⟨s.heap.size+1,0,none⟩,rfl,LH _ _ _ _ _ rfl,(bal _ _).alloc cp _⟩)
def qI (x:Int) (l:List (Nat × Nat × Nat)):Int:=l.foldl (λa p=>bits .or .u64 a (Uz.wrap (dg x p.1 p.2.1*2^p.2.2))) 0
def LK (f:Fm) (x:Int):Int:=if f.hasRd then dg x 7 5 else 0
def aV (f:Fm) (x:Int):Int:=if f.hasA then dg x 15 5 else 0
def bV (f:Fm) (x:Int):Int:=if f.hasB then dg x 20 5 else 0
theorem Jz (l:List (Nat × Nat × Nat)) (k:Nat) (h:k<l.length):bits .or .u64 (qI B (l.take k)) (Uz.wrap (dg B (l.getD k (0,0,0)).1 (l.getD k (0,0,0)).2.1*2^(l.getD k (0,0,0)).2.2))=qI B (l.take (k+1)):=by
 have e:l.getD k (0,0,0)=l[k]:=by simp [List.getD,h]
 rw [e,List.take_succ_eq_append_getElem h];simp only [qI,List.foldl_append,List.foldl_cons,List.foldl_nil]
theorem qH.below {w':List (Nat × Nat × Nat)} (h:qH x f w') (hb:Bw x l):qH l f w':=by intro k p;obtain ⟨g,e,a,b,c,d⟩:=h k p;exact ⟨g,e,Nat.lt_of_lt_of_le a hb.size,(hb.cell (by exact a)).trans b,(hb.cell (by exact a)).trans c,(hb.cell (by exact a)).trans d⟩
theorem dB (hb:Bw x l) {o:Obj} (h:x.heap[w]?=some o):l.heap[w]?=some o:=by
 rw [hb.block w ?_];·exact h
 ·obtain ⟨a,_⟩:=Array.getElem?_eq_some_iff.1 h;exact a
theorem B9 (h:Below w x l) (n:Nat):Below w x (l.drewN n):=⟨h.os,h.tape,h.output,h.size,h.block⟩
theorem LL (a:0<=B) (b:B<18446744073709551616) (hk:D<64) (hn:E<64) (w:World):
 Calls prog 66 #[.u B,.i D,.i E] w λe c=>e=.returned (.u (dg B D E))/\∃ m,c=w.drewN m :=
 (bF B D E a b hk hn w).mono λ_ _ h=>⟨h.1,1,h.2⟩
theorem oF:(#[Value.int .i64 B,.i c,.i q,.i r,.i y]:Array Value).all (·.oneCell')=true:=by simp [Value.oneCell']
theorem fU:(prog.info? 69).map (·.size)=some 5:=by kernel_rfl
theorem vQ (h0:0<=c) (h1:c<18446744073709551616) (w:World): CB 204 #[.i B,.string o.str,.u c] w (.agg #[.i B,.i (LK o c),.i (aV o c),.i (bV o c),.i (wrap64 (au o.width (qI c o.pcs)))]):=by
 have G:=zX o
 obtain ⟨b1,D⟩:∃ b,b=o.hasRd:=⟨_,rfl⟩
 obtain ⟨b2,E⟩:∃ b,b=o.hasA:=⟨_,rfl⟩
 obtain ⟨b3,F⟩:∃ b,b=o.hasB:=⟨_,rfl⟩
 obtain ⟨l,Y⟩:∃ l,l=o.pcs:=⟨_,rfl⟩
 obtain ⟨op,t⟩:∃ op,op=o.width:=⟨_,rfl⟩
 obtain ⟨s,hs⟩:∃ s,s=o.str:=⟨_,rfl⟩
 have W1:1<=op:=by rw [t];cases o<;>decide
 have W2:op<=64:=by rw [t];cases o<;>decide
 have PB:Hid (∀ p ∈ l,p.1<64/\p.2.1<64/\p.2.2<64):=by
  show ∀ p ∈ l,p.1<64/\p.2.1<64/\p.2.2<64
  rw [Y];cases o<;>decide
 have LB:l.length<=4:=by rw [Y];cases o<;>decide
 rw [<- D,<- E,<- F,<- Y,<- t,<- hs] at G
 have R1:Hid (LK o c=if b1 then dg c 7 5 else 0):=by show _=_;rw [LK,D]
 have R2:Hid (aV o c=if b2 then dg c 15 5 else 0):=by show _=_;rw [aV,E]
 have R3:Hid (bV o c=if b3 then dg c 20 5 else 0):=by show _=_;rw [bV,F]
 rw [<- hs,<- Y,<- t]
 clear D E F Y t hs
 obtain ⟨Z,I⟩:∃ y,y=dg c 7 5:=⟨_,rfl⟩
 obtain ⟨y2,J⟩:∃ y,y=dg c 15 5:=⟨_,rfl⟩
 obtain ⟨y3,K⟩:∃ y,y=dg c 20 5:=⟨_,rfl⟩
 have B1:=bF c 7 5 h0 h1 bc bc
 have B2:=bF c 15 5 h0 h1 bc bc
 have B3:=bF c 20 5 h0 h1 bc bc
 have L1:0<=Z/\Z<32:=by rw [I];exact kL c 7 5
 have L2:0<=y2/\y2<32:=by rw [J];exact kL c 15 5
 have L3:0<=y3/\y3<32:=by rw [K];exact kL c 20 5
 have V1:wrap64 Z=Z:=IntWalk.wrap64_in _ ab
 have V2:wrap64 y2=y2:=IntWalk.wrap64_in _ ab
 have V3:wrap64 y3=y3:=IntWalk.wrap64_in _ ab
 rw [<- I] at B1 R1
 rw [<- J] at B2 R2
 rw [<- K] at B3 R3
 clear I J K L1 L2 L3
 have R:Hid (∀ w:World,Calls prog 66 #[.u c,.i 7,.i 5] w λe u=>e=.returned (.u Z)/\u=w.drew):=B1
 have S:Hid (∀ w:World,Calls prog 66 #[.u c,.i 15,.i 5] w λe u=>e=.returned (.u y2)/\u=w.drew):=B2
 have T:Hid (∀ w:World,Calls prog 66 #[.u c,.i 20,.i 5] w λe u=>e=.returned (.u y3)/\u=w.drew):=B3
 clear B1 B2 B3
 cases b1<;>cases b2<;>cases b3
 all_goals (
  go_enter func204,ntmps204
  go_wp2_with fail
  refine (G _).mono ?_
  rintro e d ⟨p,rfl,hP,x⟩
  clear G
  have Q:Hid (d.heap[w.heap.size]?=some (.cells #[.i 0,.i 0,.i 0,.i 0,.i 0] 69 (0,0))):=by
   show _=_
   rw [x.block _ cp];exact heap_alloc_new _ _
  have hsz:w.heap.size<d.heap.size:=by have:=x.size;simp at this;omega
  go_wp2_with (go_at_call 66;first | (with_reducible refine (R.out _).mono ?_;rintro e w2 ⟨rfl,rfl⟩) | (with_reducible refine (S.out _).mono ?_;rintro e w2 ⟨rfl,rfl⟩) | (with_reducible refine (T.out _).mono ?_;rintro e w2 ⟨rfl,rfl⟩))
  go_loopw [9,37] (λacc i wr=>∃ k:Nat,k<=l.length/\i=.i k/\acc=.u (qI c (l.take k))/\∃ N O P:Int,∃ c1 c2 c3:Bool,Hid (N=LK o c)/\Hid (O=aV o c)/\Hid (P=bV o c) /\
   Hid (wr.heap[w.heap.size]?=some (.cells #[.i 0,.i 0,.i 0,.i 0,.i 0] 69 (0,0))) /\
   Hid (wr.heap[d.heap.size]?=some (.cells #[.bool c1,.bool c2,.bool c3,.slice p l.length l.length,.i op] 261 (0,0))) /\
   Hid (wr.heap[d.heap.size+1]?=some (.cells #[.i B,.i N,.i O,.i P,.i 0] 69 (0,0))) /\
   Hid (qH wr p l)/\Bw w wr)
   (λ_ i _=>l.length-(intOf i).toNat)
  case atStart =>
   have hb0:=((bal _ _).trans (x.mono cp):Bw w d)
   refine ⟨0,ab,rfl,rfl,_,_,_,_,_,_,?_,?_,?_,?_,heap_alloc2_old _ _ _,heap_alloc2_new _ _ _,?_,?_⟩
   ·show _=_;rw [R1.out];rfl
   ·show _=_;rw [R2.out];rfl
   ·show _=_;rw [R3.out];rfl
   ·exact dB lh Q.out
   ·exact qH.below hP.out lh
   ·exact aa hb0 lh
  case round =>
   obtain ⟨k,hk,rfl,rfl,N,O,P,c1,c2,c3,Q1,Q2,Q3,G6,G7,G8,HP,f⟩:=hrel
   clear hP x Q
   by_cases H:k<l.length
   ·obtain ⟨g,hpg,hg,d0,d1,d2⟩:=HP.out k H
    subst hpg
    have AC:Hid (bits .or .u64 (qI c (l.take k)) (Uz.wrap (dg c (l.getD k (0,0,0)).1 (l.getD k (0,0,0)).2.1*2^(l.getD k (0,0,0)).2.2))=qI c (l.take (k+1))):=Jz c l k H
    have V:=PB.out (l.getD k (0,0,0)) (by simp [List.getD,H])
    obtain ⟨⟨pa,pb,pt⟩,hq⟩:∃ q,q=l.getD k (0,0,0):=⟨_,rfl⟩
    rw [<- hq] at d0 d1 d2 AC V
    clear hq
    obtain ⟨W,X,PB5⟩:=V
    simp only at d0 d1 d2 W X PB5
    have C:=LL c pa pb h0 h1 W X
    obtain ⟨y,hy⟩:∃ y,y=dg c pa pb:=⟨_,rfl⟩
    obtain ⟨z,L⟩:∃ z,z=qI c (l.take k):=⟨_,rfl⟩
    rw [<- hy] at C
    have AC2:Hid (bits .or .u64 z (Uz.wrap (y*2^pt))=qI c (l.take (k+1))):=by
     show _=_
     rw [L,hy];exact AC.out
    have BQ:Hid (∀ w:World,Calls prog 66 #[.u c,.i pa,.i pb] w λe u=>e=.returned (.u y)/\∃ m,u=w.drewN m):=C
    rw [<- L]
    clear C AC hy L
    go_wp2_with fail
    go_quiet (first | (go_at_call 66;with_reducible refine Calls.quiet_of (BQ.out _)))
    go_wp2_with fail
    go_roundw
    case rel=>
     have r:Bw wr ((wr.alloc (.cells #[.i pa,.i pb,.i pt] 264)).drewN nq):=B9 (bal _ _) nq
     exact ⟨k+1,ab,by go_num,by rw [<- AC2.out],N,O,P,c1,c2,c3,Q1,Q2,Q3,dB r G6.out,dB r G7.out,dB r G8.out,qH.below HP.out r,aa f r⟩
    case measure=>simp [intOf];omega
   ·have hkl:k=l.length:=by omega
    have A:l.take k=l:=List.take_of_length_le ab
    rw [A]
    subst hkl
    clear A R S T R1 R2 R3
    obtain ⟨z,L⟩:∃ z,z=qI c l:=⟨_,rfl⟩
    have HZ:Hid (z=qI c l):=L
    rw [<- L]
    clear L
    have e7:=cell_of_row wr d.heap.size 4 _ _ _ G7.out
    have M:∀ j,wr.cell? ⟨d.heap.size+1,j,none⟩=_:=λj=>cell_of_row wr (d.heap.size+1) j _ _ _ G8.out
    have e80:=M 0
    have e81:=M 1
    have e82:=M 2
    have e83:=M 3
    have e84:=M 4
    have f84:=frozen_of_row wr (d.heap.size+1) 4 _ _ G8.out
    have U:(wr.setCell ⟨d.heap.size+1,4,none⟩ (.i (wrap64 (au op z)))).heap[w.heap.size]?=some (.cells #[.i 0,.i 0,.i 0,.i 0,.i 0] 69 (0,0)):=by
     rw [heap_setCell_other _ _ _ _ (by show w.heap.size≠d.heap.size+1;omega)];exact G6.out
    simp at e7 e80 e81 e82 e83 e84
    clear M
    go_wp2_with (first | (go_at_call 136;with_reducible refine (iX z op W1 W2 _).mono ?_;rintro e w2 ⟨rfl,hw2⟩;have hw3:=hw2.symm;subst hw3) | (refine wpList_store_rowTo rfl 69 (.tmp 6) (.tmp 59) rfl rfl w.heap.size #[.i B,.i N,.i O,.i P,.i (wrap64 (au op z))] rfl rfl 69 _ U fU rfl (oF B N O P _) ?_))
    refine bodyPost_ret (results_cell_row results204 _ _ _ _ _ _ _ rfl (setRow_heap _ _ _ _ _ _ U) underlying69 rfl fU) rfl ⟨?_,?_⟩
    ·rw [<- Q1.out,<- Q2.out,<- Q3.out,<- HZ.out]
    ·exact aI (f.setCell (by show w.heap.size<=d.heap.size+1;omega) _) (Nat.le_refl _) _)
def nD:List (Nat × Bool)->Nat
 | []=>0
 | (n,b)::l=>(if b then 2^n-1 else 0)+2^n*nD l
def sa:List (Nat × Bool)->Nat->Nat
 | [],_=>0
 | (n,b)::l,x=>(if b then x%2^n else 0)+2^n*sa l (x/2^n)
theorem LO:∀ (l:List (Nat × Bool)) (x:Nat),x &&& nD l=sa l x:=by
 intro l;induction l with
 | nil=>intro x;simp [nD,sa]
 | cons p l e =>
   intro x;obtain ⟨n,b⟩:=p;have d:0<2^n:=Nat.two_pow_pos n;have a:nD ((n,b)::l)/2^n=nD l:=(by rw [nD,Nat.add_mul_div_left _ _ d,Nat.div_eq_of_lt,Nat.zero_add];cases b<;>simp<;>omega);have c:nD ((n,b)::l)%2^n=if b then 2^n-1 else 0:=by rw [nD,Nat.add_mul_mod_self_left,Nat.mod_eq_of_lt];cases b<;>simp<;>omega
   rw [Jr x _ n,a,c,e,sa];cases b;·simp
   ·simp only [if_true];rw [Ll,Nat.mod_mod];omega
theorem tE (l:List (Nat × Bool)) (a:0<=B) (b:B<4294967296) (hm:D=nD l) (hb:D<18446744073709551616):bits .and .u64 B (D:Int)=(sa l B.toNat:Nat):=by subst hm;rw [u64_and B _ a ab ab ab,Int.toNat_natCast,LO]
theorem UJ (a:0<=B) (b:B<4294967296):bits .and .u64 B 127=B%128:=by have h:=tE B 127 [(7,true)] a b bc bc;rw [show ((127:Nat):Int)=127 from rfl] at h;rw [h];simp [sa];omega
theorem PH (a:0<=B) (b:B<4294967296):bits .and .u64 B 28799=B%128+B/4096%8*4096:=by have h:=tE B 28799 [(7,true),(5,false),(3,true)] a b bc bc;rw [show ((28799:Nat):Int)=28799 from rfl] at h;rw [h];simp [sa];omega
theorem UK (a:0<=B) (b:B<4294967296):bits .and .u64 B 4261441663=B%128+B/4096%8*4096+B/33554432*33554432:=by have h:=tE B 4261441663 [(7,true),(5,false),(3,true),(10,false),(7,true)] a b bc bc;rw [show ((4261441663:Nat):Int)=4261441663 from rfl] at h;rw [h];simp [sa];omega
theorem UL (a:0<=B) (b:B<4294967296):bits .and .u64 B 4261445631=B%32768+B/33554432*33554432:=by have h:=tE B 4261445631 [(15,true),(10,false),(7,true)] a b bc bc;rw [show ((4261445631:Nat):Int)=4261445631 from rfl] at h;rw [h];simp [sa];omega
theorem VS (a:0<=B) (b:B<4294967296):bits .and .u64 B 4227887231=B%128+B/4096%8*4096+B/67108864*67108864:=by have h:=tE B 4227887231 [(7,true),(5,false),(3,true),(11,false),(6,true)] a b bc bc;rw [show ((4227887231:Nat):Int)=4227887231 from rfl] at h;rw [h];simp [sa];omega
theorem VT (a:0<=B) (b:B<4294967296):bits .and .u64 B 4160778367=B%128+B/4096%8*4096+B/134217728*134217728:=by have h:=tE B 4160778367 [(7,true),(5,false),(3,true),(12,false),(5,true)] a b bc bc;rw [show ((4160778367:Nat):Int)=4160778367 from rfl] at h;rw [h];simp [sa];omega
theorem UM (a:0<=B) (b:B<4294967296):bits .and .u64 B 4193284223=B%128+B/4096%8*4096+B/1048576%32*1048576+B/134217728*134217728:=by have h:=tE B 4193284223 [(7,true),(5,false),(3,true),(5,false),(5,true),(2,false),(5,true)] a b bc bc;rw [show ((4193284223:Nat):Int)=4193284223 from rfl] at h;rw [h];simp [sa];omega
theorem VU (a:0<=B) (b:B<4294967296):bits .and .u64 B 4294967295=B:=by have h:=tE B 4294967295 [(32,true)] a b bc bc;rw [show ((4294967295:Nat):Int)=4294967295 from rfl] at h;rw [h];simp [sa];omega
def yK (k:Nat) (r:Row):Bool:=decide (0<=r.op/\r.op<128/\0<=r.more/\(k=97->r.fm=.r)/\(k=62\/k=73->r.fm=.a)) &&
 (match r.fm with
 | .r=>decide (r.more<128/\0<=r.f3/\r.f3<8)
 | .w=>decide (r.more<128/\0<=r.f3/\r.f3<8)
 | .h=>decide (r.more<64/\0<=r.f3/\r.f3<8)
 | .a=>decide (r.more<32/\0<=r.f3/\r.f3<8)
 | .x=>decide (r.more<4096/\r.f3=0)
 | .u=>decide (r.more=0/\r.f3=-1)
 | .j=>decide (r.more=0/\r.f3=-1)
 | _=>decide (r.more=0/\0<=r.f3/\r.f3<8))
theorem GQ:∀ k,k<98->yK k (cj k)=true:=by
 have h:(List.range 98).all (λk=>yK k (cj k))=true:=ba
 intro k a;exact List.all_eq_true.1 h k oi
theorem iw (d:0<=c) (k:c<128) (e:0<=q) (g:q<8) (h4:0<=r) (h:r<2^(32-o.at)) (i:o.at=0->r=0):vO o c q r=c+q*4096+r*2^o.at:=by
 unfold vO;have f:Uz.wrap (q*4096)=q*2^12:=by rw [IntKind.wrap_u64];omega
 have e2:bits .or .u64 c (q*2^12)=c+q*2^12:=mS c q 12 3 d ab e g ab ab;rw [f,e2];by_cases b:o.at=0;·have j:=i b;subst j;have e3:Uz.wrap (0*2^o.at)=0:=(by rw [Int.zero_mul];rfl);have e4:bits .or .u64 (c+q*2^12) 0=c+q*2^12:=(by have:=mS (c+q*2^12) 0 0 1 ab ab ab ab ab;rw [u64_or _ _ ab ab ab ab];simp;omega);rw [e3,e4];omega
 ·have a:o.at=20\/o.at=25\/o.at=26\/o.at=27:=(by cases o<;>simp [Fm.at] at b ⊢);rcases a with a|a|a|a<;>rw [a] at h ⊢;·have e3:Uz.wrap (r*2^20)=r*2^20:=dm;rw [e3,mS (c+q*2^12) r 20 12 ab ab h4 ab ab ab];omega
  ·have e3:Uz.wrap (r*2^25)=r*2^25:=dm;rw [e3,mS (c+q*2^12) r 25 7 ab ab h4 ab ab ab];omega
  ·have e3:Uz.wrap (r*2^26)=r*2^26:=dm;rw [e3,mS (c+q*2^12) r 26 6 ab ab h4 ab ab ab];omega
  ·have e3:Uz.wrap (r*2^27)=r*2^27:=dm;rw [e3,mS (c+q*2^12) r 27 5 ab ab h4 ab ab ab];omega
theorem LP (r:Row) (hr:yK D r=true) (x:Int) (d:0<=x) (g:x<4294967296): (bits .and .u64 x (iY ((D:Int)+1) r.fm)==vO r.fm r.op r.f3z r.more)=decide (fQ D r.fm r.op r.f3 r.more x):=by
 obtain ⟨E,f,o,z,m⟩:=r
 simp only [yK,Bool.and_eq_true,decide_eq_true_eq] at hr
 obtain ⟨⟨l,n,p,v,y⟩,t⟩:=hr
 simp only [Row.f3z]
 rw [Bool.eq_iff_iff,beq_iff_eq,decide_eq_true_iff]
 have C:∀ f,iY 98 f=bits .or .u64 (Fm.mask f) 3968:=λf=>by rw [iY,if_pos rfl]
 cases f
 case r =>
  simp only [decide_eq_true_eq] at t
  rw [if_neg ab,iw .r o z m l n ab ab p ka (by simp [Fm.at])]
  by_cases A:D=97
  ·subst A
   have e:iY (((97:Nat):Int)+1) .r=4261445631:=bc
   rw [e,UL x d g]
   simp only [fQ,Fm.at,forall_const]
   omega
  ·have e:iY ((D:Int)+1) .r=4261441663:=by
    have k:¬ (D=62\/D=73):=λh=>by cases y h
    rw [iY,if_neg ab,if_neg ab];rfl
   rw [e,UK x d g]
   simp only [fQ,Fm.at]
   omega
 case a =>
  simp only [decide_eq_true_eq] at t
  have q:¬ D=97:=λh=>by cases v h
  rw [if_neg ab,iw .a o z m l n ab ab p ka (by simp [Fm.at])]
  by_cases A:D=62\/D=73
  ·have e:iY ((D:Int)+1) .a=4193284223:=by
    rw [iY,if_neg ab,if_pos ab];decide
   rw [e,UM x d g]
   simp only [fQ,Fm.at]
   omega
  ·have e:iY ((D:Int)+1) .a=4160778367:=by
    rw [iY,if_neg ab,if_neg ab];rfl
   rw [e,VT x d g]
   simp only [fQ,Fm.at]
   omega
 all_goals (
  have q:¬ D=97:=λh=>by cases v h
  have B:¬ (D=62\/D=73):=λh=>by cases y h
  simp only [decide_eq_true_eq] at t
  rw [iY,if_neg ab,if_neg ab]
  simp only [Fm.mask])
 case h =>
  rw [if_neg ab,iw .h o z m l n ab ab p ka (by simp [Fm.at]),VS x d g]
  simp only [fQ,Fm.at]
  omega
 case w =>
  rw [if_neg ab,iw .w o z m l n ab ab p ka (by simp [Fm.at]),UK x d g]
  simp only [fQ,Fm.at]
  omega
 case x =>
  rw [if_neg ab,iw .x o z m l n ab ab p ka (by simp [Fm.at]),VU x d g]
  simp only [fQ,Fm.at]
  omega
 case u =>
  rw [if_pos ab,iw .u o 0 m l n ab ab p ka (by intro _;omega),UJ x d g]
  simp only [fQ,Fm.at,and_true]
  omega
 case j =>
  rw [if_pos ab,iw .j o 0 m l n ab ab p ka (by intro _;omega),UJ x d g]
  simp only [fQ,Fm.at,and_true]
  omega
 case i =>
  rw [if_neg ab,iw .i o z m l n ab ab p ka (by intro _;omega),PH x d g]
  simp only [fQ,Fm.at,and_true]
  omega
 case s =>
  rw [if_neg ab,iw .s o z m l n ab ab p ka (by intro _;omega),PH x d g]
  simp only [fQ,Fm.at,and_true]
  omega
 case b =>
  rw [if_neg ab,iw .b o z m l n ab ab p ka (by intro _;omega),PH x d g]
  simp only [fQ,Fm.at,and_true]
  omega
 case c =>
  rw [if_neg ab,iw .c o z m l n ab ab p ka (by intro _;omega),PH x d g]
  simp only [fQ,Fm.at,and_true]
  omega
theorem Ti:dg B D E=B/2^D%2^E:=rfl
theorem PJ (x:Int) (k:0<=x) (l:x<4294967296):qI x o.pcs=zR o x:=by
 have Z:∀ y:Int,0<=y->y<18446744073709551616->bits .or .u64 0 (Uz.wrap y)=y:=by
  intro y d g
  have e:Uz.wrap y=y:=by rw [IntKind.wrap_u64];omega
  rw [e,u64_or 0 y ab ab d g]
  simp;omega
 have W:∀ y:Int,0<=y->y<18446744073709551616->Uz.wrap y=y:=by
  intro y d g
  rw [IntKind.wrap_u64];omega
 cases o<;>simp only [Fm.pcs,qI,List.foldl_cons,List.foldl_nil,zR,Ti]
 case i=>rw [Z _ ab ab];omega
 case h=>rw [Z _ ab ab];omega
 case w=>rw [Z _ ab ab];omega
 case u=>rw [Z _ ab ab];omega
 case a=>rw [Z _ ab ab];omega
 case c=>rw [Z _ ab ab];omega
 case s =>
  rw [Z _ ab ab,W _ ab ab,mS _ (x/2^7%2^5) 0 5 ab ab ab ab ab ab]
  omega
 case b =>
  rw [Z _ ab ab,W _ ab ab,mS _ (x/2^7%2^1) 11 1 ab ab ab ab ab ab,
   W _ ab ab,mS _ (x/2^25%2^6) 5 6 ab ab ab ab ab ab,
   W _ ab ab,mS _ (x/2^8%2^4) 1 4 ab ab ab ab ab ab]
  omega
 case j =>
  rw [Z _ ab ab,W _ ab ab,mS _ (x/2^12%2^8) 12 8 ab ab ab ab ab ab,
   W _ ab ab,mS _ (x/2^20%2^1) 11 1 ab ab ab ab ab ab,
   W _ ab ab,mS _ (x/2^21%2^10) 1 10 ab ab ab ab ab ab]
  omega
def qJ (k:Nat) (x:Int):Ins:=⟨(k:Int)+1,LK (cj k).fm x,aV (cj k).fm x,bV (cj k).fm x,nX (cj k).fm x⟩
def mE (k:Nat) (x:Int):Bool:=decide (fQ k (cj k).fm (cj k).op (cj k).f3 (cj k).more x)
def cD (x:Int):Nat->Nat->Option Nat
 | 0,_=>none
 | n+1,k=>if mE k x=true then some k else cD x n (k+1)
theorem tF (hk:D<98) (h:mE D B=true):cD B (98-D) D=some D:=by rw [show 98-D=(98-(D+1))+1 from ab,cD,if_pos h]
theorem qK (hk:D<98) (h:mE D B=false):cD B (98-D) D=cD B (98-(D+1)) (D+1):=by rw [show 98-D=(98-(D+1))+1 from ab,cD,if_neg (by rw [h];decide)]
def Ca (x:Int):Option Ins:=if x<4294967296 then (cD x 98 0).map (λk=>qJ k x) else none
def pU:Ins:=⟨0,0,0,0,0⟩
def me (x:Int):Value:=match Ca x with
 | some i=>.tuple #[i.val,.bool true]
 | none=>.tuple #[pU.val,.bool false]
theorem Cb (h:¬ B<4294967296):me B=.tuple #[pU.val,.bool false]:=by simp [me,Ca,h]
theorem Cc (h:B<4294967296) (a:cD B 98 0=some D):me B=.tuple #[(qJ D B).val,.bool true]:=by simp [me,Ca,h,a]
theorem yL (h:B<4294967296) (a:cD B 98 0=none):me B=.tuple #[pU.val,.bool false]:=by simp [me,Ca,h,a]
end Go.Proofs.YtjifdmoehfbihaaGreatDoor
