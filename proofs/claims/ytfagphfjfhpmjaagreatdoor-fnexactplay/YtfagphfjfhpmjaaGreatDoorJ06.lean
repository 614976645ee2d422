/- Own lemmas. -/
import Derived.Test.YtfagphfjfhpmjaaGreatDoorAuj
import Derived.Test.YtfagphfjfhpmjaaGreatDoorJ05
import Derived.BigQuiet
set_option maxRecDepth 100000
set_option maxHeartbeats 3200000
namespace Go.Proofs.YtfagphfjfhpmjaaGreatDoor
open Go.RowKit Tryz
open IntKind renaming u64->Uz
set_option linter.unusedVariables false
variable {w a:World} {x b l g:Nat} {n:List Int} {D:Int} {c:Program} {f:FuncId} {k:Array Value} {d:Value} (p:DV) (B:Option Addr) (y E:Int) (m:Bool) (o:Option Addr) (s t:Nat) (z:Option Addr) (j:List Int) (q P:Nat) (e:List Int) (r:Int) (A:World) (C:Int)
theorem EZ:fL p y 0=(⟨p.t,p.cm,bits .and .u64 y 1==1,p.xs,p.ys,p.ir⟩,true):=by rw [fL]
theorem E4:fL p y 1=(⟨p.t,y,p.so,p.xs,p.ys,p.ir⟩,true):=by rw [fL]
theorem E5:fL p y 2=(⟨y,p.cm,p.so,p.xs,p.ys,p.ir⟩,true):=by rw [fL]
theorem yA (h:p.ys.length<4096):fL p y 3=(⟨p.t,p.cm,p.so,p.xs,p.ys++[IntKind.u8.wrap y],p.ir⟩,true):=by rw [fL,if_pos h]
theorem yB (h:¬ p.ys.length<4096):fL p y 3=(p,true):=by rw [fL,if_neg h]
theorem E6:fL p y 4=(⟨p.t,p.cm,p.so,p.xs,p.ys,wrap64 (bits .and .u64 y 1)⟩,true):=by rw [fL]
theorem E7:fL p y 5=(p,true):=by rw [fL]
theorem E8:fL p y 6=(zeroD,false):=by rw [fL]<;>omega
theorem sd (f:Nat) (r:Option Addr) (z u:Nat) (d:Int) (w:World) (c:s<=1048576): CB 71 #[.agg #[.u y,.u E,.bool m,.slice o s f,.slice r z u,.i d]] w (.u (Uz.wrap (Uz.wrap (Uz.wrap (8*gv m)+Uz.wrap (128*gv (decide (E<=y))))+Uz.wrap (2048*gv ((d==1)&&decide (0<s)))))):=by
 have j:Hid (∀ (b:Bool) w,Calls prog 120 #[.bool b] w λe g=>e=.returned (.u (gv b))/\∃ p,g=w.drewN p):=λb w=>(um b w).mono λ_ _ h=>⟨h.1,0,h.2⟩;have l:∀ q p,Bw w ((w.alloc q).drewN p):=λq p=>⟨rfl,rfl,rfl,bc,λk t=>Below.heap_alloc w q k t⟩;clear c;cases A:(d==1) with
 | true =>
   go_enter func71,ntmps71;go_wp2_with fail;go_quiet (first | (go_at_call 120;with_reducible refine Calls.quiet_of (j.out _ _)))
   go_wp2_with fail;go_ret;exact ⟨rfl,l _ _⟩
 | false =>
   go_enter func71,ntmps71;go_wp2_with fail;go_quiet (first | (go_at_call 120;with_reducible refine Calls.quiet_of (j.out _ _)))
   go_wp2_with fail;go_ret;exact ⟨rfl,l _ _⟩
theorem lq (o:q<4) (w:World) (hz:j.length=22) (hs:Sl .u64 w B j): CE 200 #[.slice B 22 s,.i q] w (.u (dK j q)):=by
 obtain ⟨b,f,rfl,l,m⟩:=hs 16 ab;have p:wrap64 (8*(q:Int))=((8*q:Nat):Int):=by unfold wrap64;omega
 have c:Uz.wrap ((8*q:Nat):Int)=((8*q:Nat):Int):=by rw [IntKind.wrap_u64];omega
 have d:8*q<64:=ab
 have F:Hid (dK j q=bits .and .u64 (j.getD 16 0/2^(8*q)) 255):=(rfl:dK j q=_);generalize j.getD 16 0=x at *;go_enter func200,ntmps200;exact a09
theorem kJ (l:List Int) (i:Nat) (u:i<4) (w:World) (hz:l.length=22) (hs:Sl .u64 w B l): CE 204 #[.slice B 22 s,.i i] w (.bool (fw l i)):=by
 have p:Hid (CE 200 #[.slice B 22 s,.i i] w (.u (dK l i))):=lq B s l i u w hz hs;have d:fw l i=((dK l i/128==1)||(decide (i<3)&&(dK l (i+1)/128==1)&&(bits .and .u64 (dK l (i+1)/8) 3==1))):=rfl;cases r:(dK l i/128==1) with
 | true =>have F:Hid (fw l i=true):=(by show _=_;rw [d,r];rfl);clear d;generalize dK l i=y at *;go_enter func204,ntmps204;go_wp2_with fail;refine p.out.mono ?_;rintro e o ⟨rfl,b⟩;exact a0c
 | false =>
   rw [r,Bool.false_or] at d;by_cases g:i<3
   ·have q:decide (i<3)=true:=vw;have cap:decide ((i:Int)<3)=true:=a8;rw [q,Bool.true_and] at d;have A:wrap64 ((i:Int)+1)=((i+1:Nat):Int):=lg;have f:Hid (CE 200 #[.slice B 22 s,.i ((i+1:Nat):Int)] w (.u (dK l (i+1)))):=lq B s l (i+1) ab w hz hs;clear hs;generalize dK l i=y at *;generalize dK l (i+1)=z at *;cases j:(z/128==1) with
    | true =>obtain ⟨c,t⟩:∃ c,(bits .and .u64 (z/8) 3==1)=c:=⟨_,rfl⟩;have F:Hid (fw l i=c):=(by show _=_;rw [d,j,t,Bool.true_and]);clear d;go_enter func204,ntmps204;go_wp2_with fail;refine p.out.mono ?_;rintro e o ⟨rfl,b⟩;subst b;go_wp2_with (go_at_call 200;refine f.out.mono ?_;rintro e o ⟨rfl,b⟩;subst b);go_ret;exact ⟨a7,rfl⟩
    | false =>have F:Hid (fw l i=false):=(by show _=_;rw [d,j,Bool.false_and]);clear d;go_enter func204,ntmps204;go_wp2_with fail;refine p.out.mono ?_;rintro e o ⟨rfl,b⟩;subst b;go_wp2_with (go_at_call 200;refine f.out.mono ?_;rintro e o ⟨rfl,b⟩;subst b);go_ret;exact ⟨a7,rfl⟩
   ·have q:decide (i<3)=false:=vw;have cap:decide ((i:Int)<3)=false:=a8;have F:Hid (fw l i=false):=(by show _=_;rw [d,q];rfl);clear d q;generalize dK l i=y at *;go_enter func204,ntmps204;go_wp2_with fail;refine p.out.mono ?_;rintro e o ⟨rfl,b⟩;exact a0c
def jg (l:List Int) (i:Nat):Int:=bits .and .u64 (dK l i/8) 3
def eU (a:Int):Nat->Nat->Nat
 | 0,k=>k
 | n+1,k=>if (bits .and .u64 (a/2^k) 1==1)=true then eU a n (k+1) else k
theorem JN (hk:s<53) (h:(bits .and .u64 (y/2^s) 1==1)=true):eU y (53-s) s=eU y (53-(s+1)) (s+1):=by rw [show 53-s=(53-(s+1))+1 from ab,eU,if_pos h]
theorem Dr (hk:s<53) (h:(bits .and .u64 (y/2^s) 1==1)=false):eU y (53-s) s=s:=by rw [show 53-s=(53-(s+1))+1 from ab,eU,if_neg (by rw [h];decide)]
def se (a:Int) (k:Nat):Int:=Uz.wrap (bits .andNot .u64 a (Uz.wrap (Uz.wrap (2^(k+1))-1))*4)
def xn (a:Int) (k:Nat):Int:=Uz.wrap (Uz.wrap (se a k+Uz.wrap (2^(k+3)))-1)
def kK (l:List Int) (i:Nat):Int:=if 0<i then Uz.wrap (l.getD (16+i) 0*4) else 0
def cU (l:List Int) (i:Nat):Int × Int × Bool :=
 if (jg l i==1)=true then (if Uz.wrap (l.getD (17+i) 0*4)<=kK l i then (0,0,false) else (kK l i,Uz.wrap (Uz.wrap (l.getD (17+i) 0*4)-1),true))
 else if (jg l i==2)=true then (Uz.wrap (l.getD (17+i) 0*4),Uz.wrap (Uz.wrap (l.getD (17+i) 0*4)+3),true)
 else if (jg l i==3)=true then (se (l.getD (17+i) 0) (eU (l.getD (17+i) 0) 53 0),xn (l.getD (17+i) 0) (eU (l.getD (17+i) 0) 53 0),true)
 else (0,0,false)
theorem yC (a:Option Addr) (cap:Nat) (l:List Int) (i:Nat) (Y:i<4) (w:World) (hz:l.length=22) (hs:Sl .u64 w a l):CE 199 #[.slice a 22 cap,.i i] w (.tuple #[.u (cU l i).1,.u (cU l i).2.1,.bool (cU l i).2.2]):=by
 obtain ⟨b,I,rfl,hb,Q⟩:=hs (17+i) ab;obtain ⟨b',R,K,_,P⟩:=hs (16+i) ab;simp only [Option.some.injEq,Addr.mk.injEq,and_true] at K;obtain ⟨rfl,rfl⟩:=K;have u:Hid (CE 200 #[.slice (some ⟨b,I,none⟩) 22 cap,.i i] w (.u (dK l i))):=lq _ cap l i Y w hz hs;have Z:bits .and .u64 (dK l i/8) 3=jg l i:=rfl;have c:cU l i=if (jg l i==1)=true then (if Uz.wrap (l.getD (17+i) 0*4)<=kK l i then (0,0,false) else (kK l i,Uz.wrap (Uz.wrap (l.getD (17+i) 0*4)-1),true))
  else if (jg l i==2)=true then (Uz.wrap (l.getD (17+i) 0*4),Uz.wrap (Uz.wrap (l.getD (17+i) 0*4)+3),true)
  else if (jg l i==3)=true then (se (l.getD (17+i) 0) (eU (l.getD (17+i) 0) 53 0),xn (l.getD (17+i) 0) (eU (l.getD (17+i) 0) 53 0),true)
  else (0,0,false):=rfl
 have m:kK l i=if 0<i then Uz.wrap (l.getD (16+i) 0*4) else 0:=rfl
 have X:wrap64 (17+(i:Int))=((17+i:Nat):Int):=by unfold wrap64;omega
 have W:wrap64 (16+(i:Int))=((16+i:Nat):Int):=by unfold wrap64;omega
 have T:0<=((17+i:Nat):Int)/\((17+i:Nat):Int)<((22:Nat):Int):=ab
 have S:0<=((16+i:Nat):Int)/\((16+i:Nat):Int)<((22:Nat):Int):=ab
 generalize cU l i=r at *;generalize jg l i=H at *;generalize dK l i=cf at *;generalize kK l i=L at *;generalize l.getD (17+i) 0=x at *;generalize l.getD (16+i) 0=y at *;clear hs;cases M:(H==1) with
 | true =>
   rw [if_pos M] at c;have D:(decide (0<i)=true/\L=Uz.wrap (y*4))\/(decide (0<i)=false/\L=0):=by
    by_cases p:0<i;·rw [if_pos p] at m;exact Or.inl ⟨by simpa using p,m⟩
    ·rw [if_neg p] at m;exact Or.inr ⟨by simpa using p,m⟩
   obtain ⟨t,ht⟩:∃ t,Uz.wrap (x*4)=t:=⟨_,rfl⟩;rw [ht] at c;clear m;rcases D with ⟨D,o⟩|⟨D,o⟩
   ·rw [o] at c;obtain ⟨C,G⟩:∃ t,Uz.wrap (y*4)=t:=⟨_,rfl⟩;rw [G] at c;clear o;by_cases f:t<=C;·have d:decide (t<=C)=true:=e9;rw [if_pos f] at c;have F:Hid (r=(0,0,false)):=c;clear c f;go_enter func199,ntmps199;go_wp2_with fail;refine u.out.mono ?_;rintro e z ⟨rfl,g⟩;have j:=g.symm;subst j;go_wp2_with fail;go_ret3;exact ⟨a7,rfl⟩
    ·have d:decide (t<=C)=false:=e9;rw [if_neg f] at c;have F:Hid (r=(C,Uz.wrap (t-1),true)):=c;clear c f;go_enter func199,ntmps199;go_wp2_with fail;refine u.out.mono ?_;rintro e z ⟨rfl,g⟩;have j:=g.symm;subst j;go_wp2_with fail;go_ret3;exact ⟨a7,rfl⟩
   ·subst o;by_cases f:t<=0;·have d:decide (t<=0)=true:=e9;rw [if_pos f] at c;have F:Hid (r=(0,0,false)):=c;clear c f;go_enter func199,ntmps199;go_wp2_with fail;refine u.out.mono ?_;rintro e z ⟨rfl,g⟩;have j:=g.symm;subst j;go_wp2_with fail;go_ret3;exact ⟨a7,rfl⟩
    ·have d:decide (t<=0)=false:=e9;rw [if_neg f] at c;have F:Hid (r=(0,Uz.wrap (t-1),true)):=c;clear c f;go_enter func199,ntmps199;go_wp2_with fail;refine u.out.mono ?_;rintro e z ⟨rfl,g⟩;have j:=g.symm;subst j;go_wp2_with fail;go_ret3;exact ⟨a7,rfl⟩
 | false =>
   rw [if_neg (by rw [M];decide)] at c;cases N:(H==2) with
   | true =>rw [if_pos N] at c;have F:Hid (r=(Uz.wrap (x*4),Uz.wrap (Uz.wrap (x*4)+3),true)):=c;clear c m;go_enter func199,ntmps199;go_wp2_with fail;refine u.out.mono ?_;rintro e z ⟨rfl,g⟩;have j:=g.symm;subst j;go_wp2_with fail;go_ret3;exact ⟨a7,rfl⟩
   | false =>
     rw [if_neg (by rw [N];decide)] at c;cases O:(H==3) with
     | true =>
       rw [if_pos O] at c;have F:Hid (r=(se x (eU x 53 0),xn x (eU x 53 0),true)):=c;clear c m;go_enter func199,ntmps199;go_wp2_with fail;refine u.out.mono ?_;rintro e z ⟨rfl,g⟩;have j:=g.symm;subst j;go_wp2_with fail;go_loopw [9] (λv wr=>∃ k:Nat,k<=53/\v=.u k/\Hid (eU x (53-k) k=eU x 53 0)/\wr=w)
        (λv _=>53-(intOf v).toNat)
       case atStart=>exact ⟨0,ab,rfl,(rfl:eU x (53-0) 0=eU x 53 0),rfl⟩
       case round =>
        obtain ⟨k,hk,rfl,E,rfl⟩:=hrel;have fin:Hid (eU x 53 0=k)->Hid (r=(se x k,xn x k,true)):=λh=>by show r=_;rw [F.out,h.out]
        have U:((k:Int)+1)=((k+1:Nat):Int):=ab;have u1:Uz.wrap ((k:Int)+1)=((k+1:Nat):Int):=bh;have u3:Uz.wrap ((k:Int)+3)=((k+3:Nat):Int):=bh;clear U;by_cases B:k<53
        ·have V:decide ((k:Int)<53)=true:=a8;cases q:(bits .and .u64 (x/2^k) 1==1) with
         | true =>
           have A:Hid (eU x (53-(k+1)) (k+1)=eU x 53 0):=(JN x k B q).symm.trans E.out;clear fin u1 u3;go_wp2_with fail;go_roundw;case rel=>exact ⟨k+1,ab,by go_num,A,trivial⟩
           case measure=>simp [intOf];omega
         | false =>have A:=fin (E.out.symm.trans (Dr x k B q));clear fin;go_wp2_with fail;go_ret3;exact ⟨by rw [A.out];rfl,rfl⟩
        ·have s:k=53:=ab;have A:=fin (E.out.symm.trans (by rw [s];rfl));have V:decide ((k:Int)<53)=false:=a8;clear fin s;go_wp2_with fail;go_ret3;exact ⟨by rw [A.out];rfl,rfl⟩
     | false =>rw [if_neg (by rw [O];decide)] at c;have F:Hid (r=(0,0,false)):=c;clear c m;go_enter func199,ntmps199;go_wp2_with fail;refine u.out.mono ?_;rintro e z ⟨rfl,g⟩;have j:=g.symm;subst j;go_wp2_with fail;go_ret3;exact ⟨a7,rfl⟩
def bm (x s:Int):Int:=Uz.wrap (Uz.wrap (x+Uz.wrap s)-1)
def qd (r:Int × Int × Bool) (x y:Int):Bool:=!r.2.2||decide (y<r.1)||decide (r.2.1<x)
def Nc (r:Int × Int × Bool) (x y:Int):Bool:=decide (x<r.1)||decide (r.2.1<y)
def wq (b p kind:Int):Bool :=
 if ((p==3)&&(b/128==0))=true then true else if (kind==1)=true then (bits .and .u64 (b/4) 1==1) else if (kind==2)=true then (bits .and .u64 b 1==1) else (bits .and .u64 (b/2) 1==1)
def aE (l:List Int) (p x y kind:Int):Nat->Nat->Bool
 | 0,_=>(p==3)
 | n+1,k=>if qd (cU l k) x y=true then aE l p x y kind n (k+1) else !Nc (cU l k) x y&&wq (dK l k) p kind
theorem Hc (y kind:Int) (k:Nat) (hk:k<4) (h:qd (cU j k) C y=true):aE j r C y kind (4-k) k=aE j r C y kind (4-(k+1)) (k+1):=by rw [show 4-k=(4-(k+1))+1 from ab,aE,if_pos h]
theorem JO (y kind:Int) (k:Nat) (hk:k<4) (h:qd (cU j k) C y=false):aE j r C y kind (4-k) k=(!Nc (cU j k) C y&&wq (dK j k) r kind):=by rw [show 4-k=(4-(k+1))+1 from ab,aE,if_neg (by rw [h];decide)]
theorem ml (p x cap kind:Int) (w:World) (hz:j.length=22) (hs:Sl .u64 w B j): CE 133 #[.slice B 22 s,.i p,.u x,.i cap,.i kind] w (.bool (aE j p x (bm x cap) kind 4 0)):=by
 have M:Uz.wrap (Uz.wrap (x+Uz.wrap cap)-1)=bm x cap:=rfl;generalize bm x cap=y at *;have O:Hid (Sl .u64 w B j):=hs;have P:Hid (j.length=22):=hz;have V:Hid (True/\aE j p x y kind 4 0=aE j p x y kind 4 0):=⟨trivial,rfl⟩;clear hs hz V;go_enter func133,ntmps133;go_wp2_with fail;go_loopw [12] (λv wr=>∃ k:Nat,k<=4/\v=.i k/\Hid (aE j p x y kind (4-k) k=aE j p x y kind 4 0)/\wr=w)
  (λv _=>4-(intOf v).toNat)
 case atStart=>exact ⟨0,ab,rfl,(rfl:aE j p x y kind (4-0) 0=aE j p x y kind 4 0),rfl⟩
 case round =>
  obtain ⟨k,hk,rfl,K,rfl⟩:=hrel;clear M;by_cases m:k<4
  ·have dk:decide ((k:Int)<4)=true:=a8;have HR:Hid (CE 199 #[.slice B 22 s,.i k] wr (.tuple #[.u (cU j k).1,.u (cU j k).2.1,.bool (cU j k).2.2])):=yC B s j k m wr P.out O.out;have W:Hid (CE 200 #[.slice B 22 s,.i k] wr (.u (dK j k))):=lq B s j k m wr P.out O.out;have d:qd (cU j k) x y=false->Hid (aE j p x y kind 4 0=(!Nc (cU j k) x y&&wq (dK j k) p kind)):=λh=>K.out.symm.trans (JO j p x y kind k m h);have b:qd (cU j k) x y=true->Hid (aE j p x y kind (4-(k+1)) (k+1)=aE j p x y kind 4 0):=λh=>(Hc j p x y kind k m h).symm.trans K.out;generalize cU j k=r at *;generalize dK j k=c at *;obtain ⟨a,C,H⟩:=r;simp only at HR;have S:qd (a,C,H) x y=(!H||decide (y<a)||decide (C<x)):=rfl;have T:Nc (a,C,H) x y=(decide (x<a)||decide (C<y)):=rfl;rw [S] at d b;rw [T] at d;clear S T;go_wp2_with fail;refine HR.out.mono ?_;rintro e w1 ⟨rfl,u⟩;have z:=u.symm;subst z;cases H with
   | false =>
     have g:=b (rfl);clear d b;go_wp2_with fail;go_roundw;case rel=>exact ⟨k+1,ab,by go_num,g,trivial⟩
     case measure=>simp [intOf];omega
   | true =>
     cases I:decide (y<a) with
     | true =>
       have g:=b (by rw [I];rfl);clear d b;go_wp2_with fail;go_roundw;case rel=>exact ⟨k+1,ab,by go_num,g,trivial⟩
       case measure=>simp [intOf];omega
     | false =>
       cases Q:decide (C<x) with
       | true =>
         have g:=b (by rw [I,Q];rfl);clear d b;go_wp2_with fail;go_roundw;case rel=>exact ⟨k+1,ab,by go_num,g,trivial⟩
         case measure=>simp [intOf];omega
       | false =>
         have g:=d (by rw [I,Q];rfl);clear d b;cases J:decide (x<a) with
         | true =>go_wp2_with fail;go_ret;exact ⟨by rw [g.out,J];rfl,rfl⟩
         | false =>
           cases R:decide (C<y) with
           | true =>go_wp2_with fail;go_ret;exact ⟨by rw [g.out,J,R];rfl,rfl⟩
           | false =>
             have G:Hid (aE j p x y kind 4 0=wq c p kind):=(by show _=_;rw [g.out,J,R];rfl);clear g;have D:wq c p kind=if ((p==3)&&(c/128==0))=true then true else if (kind==1)=true then (bits .and .u64 (c/4) 1==1) else if (kind==2)=true then (bits .and .u64 c 1==1) else (bits .and .u64 (c/2) 1==1):=rfl
             go_wp2_with fail;refine W.out.mono ?_;rintro e w1 ⟨rfl,u⟩;have z:=u.symm;subst z;have f:((p==3)=true/\(c/128==0)=true)\/((p==3)=true/\(c/128==0)=false)\/(p==3)=false:=(by cases (p==3)<;>cases (c/128==0)<;>simp);generalize wq c p kind=E at *;rcases f with ⟨l,A⟩|f;·have o:Hid (E=true):=(by show _=_;rw [D,l,A];rfl);clear D;go_wp2_with fail;go_ret;exact ⟨by rw [G.out,o.out];rfl,rfl⟩
             ·have t:E=if (kind==1)=true then (bits .and .u64 (c/4) 1==1) else if (kind==2)=true then (bits .and .u64 c 1==1) else (bits .and .u64 (c/2) 1==1):=by
               rcases f with ⟨l,A⟩|l;·rw [D,l,A];rfl
               ·rw [D,l];rfl
              clear D;obtain ⟨X,e1⟩:∃ q,(bits .and .u64 (c/4) 1==1)=q:=⟨_,rfl⟩;obtain ⟨Y,e2⟩:∃ q,(bits .and .u64 c 1==1)=q:=⟨_,rfl⟩;obtain ⟨Z,e3⟩:∃ q,(bits .and .u64 (c/2) 1==1)=q:=⟨_,rfl⟩;rw [e1,e2,e3] at t;cases N:(kind==1) with
              | true =>
                have o:Hid (E=X):=(by show _=_;rw [t,N];rfl);clear t;rcases f with ⟨l,A⟩|l;all_goals
                 go_wp2_with fail
                 go_ret
                 exact ⟨by rw [G.out,o.out];rfl,rfl⟩
              | false =>
                cases U:(kind==2) with
                | true =>
                  have o:Hid (E=Y):=(by show _=_;rw [t,N,U];rfl);clear t;rcases f with ⟨l,A⟩|l;all_goals
                   go_wp2_with fail
                   go_ret
                   exact ⟨by rw [G.out,o.out];rfl,rfl⟩
                | false =>
                  have o:Hid (E=Z):=(by show _=_;rw [t,N,U];rfl);clear t;rcases f with ⟨l,A⟩|l;all_goals
                   go_wp2_with fail
                   go_ret
                   exact ⟨by rw [G.out,o.out];rfl,rfl⟩
  ·have L:k=4:=ab;subst L;obtain ⟨q,hq⟩:∃ q,(p==3)=q:=⟨_,rfl⟩;have g:Hid (aE j p x y kind 4 0=q):=K.out.symm.trans hq;go_wp2_with fail;go_ret;exact ⟨by rw [g.out];rfl,rfl⟩
def uA (n:Nat) (l:List Int) (p x s kind:Int):Bool:=be n l p&&jr s&&decide (1<=kind/\kind<=3)&&!decide (bm x s<x)&&aE l p x (bm x s) kind 4 0
structure Fd where
 addr:Int
 code:Int
 marked:Bool
 at_:Int
 entry:Int
def Fd.cells (f:Fd):Array Value:=#[.u f.addr,.i f.code,.bool f.marked,.u f.at_,.u f.entry]
def eI (k:Int):Int:=if k=1 then 12 else if k=2 then 13 else 15
def dz (k:Int):Int:=if k=1 then 1 else if k=2 then 5 else 7
def bP (k:Int):Fd:=⟨0,eI k,false,0,0⟩
def fT (k:Int):Fd:=⟨0,dz k,false,0,0⟩
def bD (T va:Int) (lv:Nat):Int:=Uz.wrap (T+Uz.wrap (8*bits .and .u64 (va/2^(12+9*lv)) 511))
def fF (zs:List Int) (x:Int):Int:=le zs (x-2147483648).toNat 8
def pf (e:Int):Bool:=(bits .and .u64 e 1==0)||((aq e 1==0)&&(aq e 2==1))||(e/18014398509481984 != 0)
def eZ (e:Int):Int:=bits .and .u64 (e/1024) 17592186044415
def mm (e:Int):Bool:=(aq e 1==0)&&(aq e 3==0)
def kG (e:Int) (lv:Nat):Bool:=((lv:Int)==0)||(bits .and .u64 (e/16) 1==1)||(bits .and .u64 (e/64) 3 != 0)
def Hd (m:Nat):Int:=Uz.wrap (Uz.wrap (2^m)-1)
def m9 (e:Int) (lv:Nat):Bool:=bits .and .u64 (eZ e) (Hd (9*lv)) != 0
def hZ (l:List Int) (kind e:Int):Bool :=
 ((kind==1)&&(aq e 3==0))||((kind==2)&&(aq e 1==0)&&((aq e 3==0)||(aq (l.getD 0 0) 19==0)))||((kind==3)&&(aq e 2==0))
def ic (l:List Int) (p kind e:Int):Bool :=
 ((p==0)&&(aq e 4==0))||((p==1)&&(aq e 4==1)&&((kind==1)||(aq (l.getD 0 0) 18==0)))
def gP (e va:Int) (lv:Nat):Int:=bits .or .u64 (bits .andNot .u64 (Uz.wrap (eZ e*4096)) (Hd (12+9*lv))) (bits .and .u64 va (Hd (12+9*lv)))
def cN (e kind:Int):Int:=if (kind==3)=true then bits .or .u64 (bits .or .u64 e 64) 128 else bits .or .u64 e 64
def db (l:List Int) (p va kind e x:Int) (lv:Nat):Fd :=
 if m9 e lv=true then bP kind else if hZ l kind e=true then bP kind else if ic l p kind e=true then bP kind
 else if (cN e kind != e)=true then (if aE l 1 x (bm x 8) 3 4 0=true then ⟨gP e va lv,0,true,x,cN e kind⟩ else fT kind) else ⟨gP e va lv,0,false,0,0⟩
def bJ (zs:List Int) (n:Nat) (l:List Int) (p va kind:Int):Nat->Int->Fd
 | 0,T=>if gU n (bD T va 0) 8=true then (if aE l 1 (bD T va 0) (bm (bD T va 0) 8) 2 4 0=true then
  (if pf (fF zs (bD T va 0))=true then bP kind else if mm (fF zs (bD T va 0))=true then bP kind else db l p va kind (fF zs (bD T va 0)) (bD T va 0) 0) else fT kind) else fT kind
 | lv+1,T=>if gU n (bD T va (lv+1)) 8=true then (if aE l 1 (bD T va (lv+1)) (bm (bD T va (lv+1)) 8) 2 4 0=true then
  (if pf (fF zs (bD T va (lv+1)))=true then bP kind else if mm (fF zs (bD T va (lv+1)))=true then (if kG (fF zs (bD T va (lv+1))) (lv+1)=true then bP kind else bJ zs n l p va kind lv (Uz.wrap (eZ (fF zs (bD T va (lv+1)))*4096))) else db l p va kind (fF zs (bD T va (lv+1))) (bD T va (lv+1)) (lv+1)) else fT kind) else fT kind
def nN (l:List Int):Int:=Uz.wrap (bits .and .u64 (l.getD 15 0) 17592186044415*4096)
def bT (zs:List Int) (n:Nat) (l:List Int) (p va kind:Int):Fd :=
 if ((p==3)||(l.getD 15 0/1152921504606846976==0))=true then ⟨va,0,false,0,0⟩ else if (av 39 va != va)=true then bP kind else bJ zs n l p va kind 2 (nN l)
theorem gK (kind:Int) (lv:Nat) (T:Int):bJ j q e r C kind lv T = (if gU q (bD T C lv) 8=true then (if aE e 1 (bD T C lv) (bm (bD T C lv) 8) 2 4 0=true then (if pf (fF j (bD T C lv))=true then bP kind else if mm (fF j (bD T C lv))=true then (if kG (fF j (bD T C lv)) lv=true then bP kind else bJ j q e r C kind (lv-1) (Uz.wrap (eZ (fF j (bD T C lv))*4096))) else db e r C kind (fF j (bD T C lv)) (bD T C lv) lv) else fT kind) else fT kind):=by
 cases lv with
 | zero =>rw [bJ];have:kG (fF j (bD T C 0)) 0=true:=rfl;rw [this,if_pos rfl]
 | succ lv=>rw [bJ];rfl
def ei (w:World) (base g cap:Nat) (l:List Int):Prop:=w.ownsRow base 22 1 (.slice (some ⟨g,0,none⟩) 22 cap) 22 (l.map (Value.int .u64))
theorem ei.len (h:ei w x b l n):n.length=22:=by have:=h.1;simpa using this
theorem ei.cell (h:ei w x g b n) (j:Nat) (a:j<22):w.cell? ⟨g,j,none⟩=some (.u (n.getD j 0)):=by have cap:=h.len;have e:=World.ownsRow.cellAt h j a;rw [e];simp [List.getD,List.getElem?_eq_getElem (show j<n.length by omega)]
theorem ei.froz (h:ei w x b l n) (j:Nat):w.frozen? ⟨b,j,none⟩=false:=World.ownsRow.frozenAt h j
theorem ei.put (h:ei w x b l n) (j:Nat) (v:Int):ei (w.setCell ⟨b,j,none⟩ (.u v)) x b l (n.set j v)/\w.grownBy (w.setCell ⟨b,j,none⟩ (.u v)) (some b):=by have e:=World.ownsRow.stored h j (.u v);rw [kf] at e;exact e
theorem ei.below (h:ei w x g b n) (hb:Bw w a):ei a x g b n:=du h hb
theorem dt (hb:Bw w a) (row:Option Nat):w.grownBy a row:=⟨hb.os,hb.tape,hb.output,hb.size,λk w' _=>hb.block k w'⟩
theorem AI (h:ei A s t q e): Calls prog 150 #[.slice (some ⟨t,0,none⟩) 22 q,.i 769,.u r] A λl b=>l=.returned (.tuple #[])/\ei b s t q (bM e 769 r)/\A.grownBy b (some t):=by go_enter func150,ntmps150;go_wp2_with fail;refine bodyPost_ret (results_none results150 _ _ _) rfl ?_;exact ⟨rfl,h,pC _ _⟩
theorem yD (h:ei A s t q e): Calls prog 150 #[.slice (some ⟨t,0,none⟩) 22 q,.i 3860,.u r] A λl b=>l=.returned (.tuple #[])/\ei b s t q (bM e 3860 r)/\A.grownBy b (some t):=by go_enter func150,ntmps150;go_wp2_with fail;refine bodyPost_ret (results_none results150 _ _ _) rfl ?_;exact ⟨rfl,h,pC _ _⟩
theorem AJ (h:ei A s t q e): Calls prog 150 #[.slice (some ⟨t,0,none⟩) 22 q,.i 256,.u r] A λl b=>l=.returned (.tuple #[])/\ei b s t q (bM e 256 r)/\A.grownBy b (some t):=by have F:Hid (bM e 256 r=e.set 0 (bits .or .u64 (bits .andNot .u64 (e.getD 0 0) 786722) (bits .and .u64 r 786722))):=(rfl:bM e 256 r=_);have H:Hid (ei A s t q e):=h;have c:=h.cell 0 ab;have f:=h.froz 0;clear h;go_enter func150,ntmps150;go_wp2_with fail;refine bodyPost_ret (results_none results150 _ _ _) rfl ?_;exact ⟨rfl,by rw [F.out];exact (H.out.put 0 _).1,(H.out.put 0 _).2⟩
theorem AK (h:ei A s t q e): Calls prog 150 #[.slice (some ⟨t,0,none⟩) 22 q,.i 324,.u r] A λl b=>l=.returned (.tuple #[])/\ei b s t q (bM e 324 r)/\A.grownBy b (some t):=by have F:Hid (bM e 324 r=e.set 9 (bits .or .u64 (bits .andNot .u64 (e.getD 9 0) (bits .and .u64 (e.getD 2 0) 2)) (bits .and .u64 r (bits .and .u64 (e.getD 2 0) 2)))):=(rfl:bM e 324 r=_);have H:Hid (ei A s t q e):=h;have c:=h.cell 9 ab;have d:=h.cell 2 ab;have f:=h.froz 9;clear h;go_enter func150,ntmps150;go_wp2_with fail;refine bodyPost_ret (results_none results150 _ _ _) rfl ?_;exact ⟨rfl,by rw [F.out];exact (H.out.put 9 _).1,(H.out.put 9 _).2⟩
theorem AL (h:ei A s t q e): Calls prog 150 #[.slice (some ⟨t,0,none⟩) 22 q,.i 260,.u r] A λl d=>l=.returned (.tuple #[])/\ei d s t q (bM e 260 r)/\A.grownBy d (some t):=by
 have F:Hid (bM e 260 r=e.set 3 (bn 3 (bits .or .u64 (bits .andNot .u64 (e.getD 3 0) (e.getD 2 0)) (bits .and .u64 r (e.getD 2 0))))):=(rfl:bM e 260 r=_);have H:Hid (ei A s t q e):=h;have c:=h.cell 3 ab;have j:=h.cell 2 ab;have f:=h.froz 3;clear h;generalize e.getD 3 0=p at *;generalize e.getD 2 0=o at *;go_enter func150,ntmps150;go_wp2_with fail;go_region_with (go_at_call 189;refine (fM _ _ _).mono ?_;rintro l m ⟨rfl,b⟩;subst b);all_goals go_wp2_with fail
 all_goals refine bodyPost_ret (results_none results150 _ _ _) rfl ?_
 all_goals exact ⟨rfl,by rw [F.out];exact ((H.out.put 3 _).1).below ((Below.refl _ _).drew),bH (H.out.put 3 _).2 ⟨rfl,rfl,rfl,Nat.le_refl _,λ_ _ _=>rfl⟩⟩
def fU (n:Int):Bool:=!(n==769)&&!(n==3860)&&!(n==256)&&!(n==260)&&!(n==324)
theorem yE (h:fU D=true) (l:List Int) (x:Int):bM l D x=fS l (cG D) x:=by simp [fU] at h;unfold bM;rw [if_neg ab,if_neg ab,if_neg ab,if_neg ab]
theorem Ds (m:cG r=9) (hn:fU r=true) (w:World) (h:ei w s t q e): Calls prog 150 #[.slice (some ⟨t,0,none⟩) 22 q,.i r,.u C] w λl d=>l=.returned (.tuple #[])/\ei d s t q (fS e 9 C)/\w.grownBy d (some t):=by
 simp only [fU,Bool.and_eq_true,Bool.not_eq_true'] at hn;obtain ⟨⟨⟨⟨n,base⟩,g⟩,u⟩,z⟩:=hn;have H:Hid (ei w s t q e):=h;clear h;have F:Hid (fS e 9 C=e.set 9 (bits .or .u64 (bits .andNot .u64 (e.getD 9 0) 546) (bits .and .u64 C 546))):=(rfl:fS e 9 C=_);have cap:Hid (∀ w,CB 151 #[.i r] w (.i 9)):=by rw [<- m];exact dx r
 clear m;go_enter func150,ntmps150;go_wp2_with fail;refine (cap.out _).mono ?_;rintro l o ⟨rfl,j⟩;have p:Hid (Bw w o):=j;have b:Hid (ei o s t q e):=H.out.below j;clear j;have c:=b.out.cell 9 ab;have f:=b.out.froz 9;generalize e.getD 9 0=y at *;go_wp2_with fail;refine bodyPost_end (results_none results150 _ _ _) rfl ?_;exact ⟨rfl,by rw [F.out];exact (b.out.put 9 _).1,bH (dt p.out _) (b.out.put 9 _).2⟩
theorem AM (base g cap:Nat) (l:List Int) (n x:Int) (t:cG n=15) (hn:fU n=true) (w:World) (h:ei w base g cap l):Calls prog 150 #[.slice (some ⟨g,0,none⟩) 22 cap,.i n,.u x] w λe p=>e=.returned (.tuple #[])/\ei p base g cap (fS l 15 x)/\w.grownBy p (some g):=by
 simp only [fU,Bool.and_eq_true,Bool.not_eq_true'] at hn;obtain ⟨⟨⟨⟨z,A⟩,B⟩,C⟩,D⟩:=hn;have H:Hid (ei w base g cap l):=h;clear h;have m:fS l 15 x=if ((x/1152921504606846976==0)||(x/1152921504606846976==8))=true then l.set 15 x else l:=rfl
 obtain ⟨y,u⟩:∃ y,x/1152921504606846976=y:=⟨_,rfl⟩;rw [u] at m;have q:Hid (∀ w,CB 151 #[.i n] w (.i 15)):=by rw [<- t];exact dx n
 clear t;cases r:(y==0) with
 | true =>have F:Hid (fS l 15 x=l.set 15 x):=(by show _=_;rw [m,r];rfl);clear m;go_enter func150,ntmps150;go_wp2_with fail;refine (q.out _).mono ?_;rintro e j ⟨rfl,d⟩;have o:Hid (Bw w j):=d;have b:Hid (ei j base g cap l):=H.out.below d;clear d;have c:=b.out.cell 15 ab;have f:=b.out.froz 15;go_wp2_with fail;refine bodyPost_end (results_none results150 _ _ _) rfl ?_;exact ⟨rfl,by rw [F.out];exact (b.out.put 15 _).1,bH (dt o.out _) (b.out.put 15 _).2⟩
 | false =>
   cases s:(y==8) with
   | true =>have F:Hid (fS l 15 x=l.set 15 x):=(by show _=_;rw [m,r,s];rfl);clear m;go_enter func150,ntmps150;go_wp2_with fail;refine (q.out _).mono ?_;rintro e j ⟨rfl,d⟩;have o:Hid (Bw w j):=d;have b:Hid (ei j base g cap l):=H.out.below d;clear d;have c:=b.out.cell 15 ab;have f:=b.out.froz 15;go_wp2_with fail;refine bodyPost_end (results_none results150 _ _ _) rfl ?_;exact ⟨rfl,by rw [F.out];exact (b.out.put 15 _).1,bH (dt o.out _) (b.out.put 15 _).2⟩
   | false =>have F:Hid (fS l 15 x=l):=(by show _=_;rw [m,r,s];rfl);clear m;go_enter func150,ntmps150;go_wp2_with fail;refine (q.out _).mono ?_;rintro e j ⟨rfl,d⟩;have o:Hid (Bw w j):=d;have b:Hid (ei j base g cap l):=H.out.below d;clear d;go_wp2_with fail;refine bodyPost_end (results_none results150 _ _ _) rfl ?_;exact ⟨rfl,vo,dt o.out _⟩
theorem AN (g cap:Nat) (l:List Int) (n x:Int) (L:cG n=16) (hn:fU n=true) (w:World) (h:ei w s g cap l): Calls prog 150 #[.slice (some ⟨g,0,none⟩) 22 cap,.i n,.u x] w λe m=>e=.returned (.tuple #[])/\ei m s g cap (fS l 16 x)/\w.grownBy m (some g):=by
 simp only [fU,Bool.and_eq_true,Bool.not_eq_true'] at hn;obtain ⟨⟨⟨⟨X,Y⟩,Z⟩,n4⟩,n5⟩:=hn;have H:Hid (ei w s g cap l):=h;clear h;have F:Hid (fS l 16 x=l.set 16 (dR l (bn 16 x) 4)):=(rfl:fS l 16 x=_);have N:Hid (∀ w,CB 151 #[.i n] w (.i 16)):=by rw [<- L];exact dx n
 clear L;go_enter func150,ntmps150;go_wp2_with fail;refine (N.out _).mono ?_;rintro e G ⟨rfl,r⟩;have M:Hid (Bw w G):=r;have j:Hid (ei G s g cap l):=H.out.below r;clear r;have c:=j.out.cell 16 ab;have f:=j.out.froz 16;have J:Hid (Sl .u64 G (some ⟨g,0,none⟩) l):=me j.out;have O:Hid (l.length=22):=j.out.len;go_wp2_with fail;refine (fM 16 x _).mono ?_;rintro e S ⟨rfl,B⟩;subst B;obtain ⟨z,D⟩:∃ z,z=bn 16 x:=⟨_,rfl⟩;rw [<- D];rw [<- D] at F;clear D;go_wp2_with fail;go_loopw [9,10] (λy i wr=>∃ k:Nat,k<=4/\i=.i k/\y=.u (dR l z k)/\wr=S)
  (λ_ i _=>4-(intOf i).toNat)
 case atStart=>exact ⟨0,ab,rfl,rfl,rfl⟩
 case round =>
  obtain ⟨k,V,rfl,rfl,rfl⟩:=hrel;by_cases t:k<4
  ·have b:dR l z (k+1)=if (dK l k/128==1)=true then bits .or .u64 (bits .andNot .u64 (dR l z k) (Uz.wrap (255*2^(8*k)))) (bits .and .u64 (l.getD 16 0) (Uz.wrap (255*2^(8*k)))) else dR l z k:=rfl
   have o:Hid (∀ w,Sl .u64 w (some ⟨g,0,none⟩) l->CE 200 #[.slice (some ⟨g,0,none⟩) 22 cap,.i k] w (.u (dK l k))):=λw R=>lq _ cap l k t w O.out R;have U:decide ((k:Int)<4)=true:=a8;have W:wrap64 (8*(k:Int))=((8*k:Nat):Int):=lg;have P:Uz.wrap ((8*k:Nat):Int)=((8*k:Nat):Int):=bh;have Q:8*k<64:=ab;obtain ⟨y,C⟩:∃ y,y=dR l z k:=⟨_,rfl⟩;obtain ⟨u,A⟩:∃ u,u=dR l z (k+1):=⟨_,rfl⟩;rw [<- A,<- C] at b;rw [<- C];have I:Hid (u=dR l z (k+1)):=A;clear A C;generalize dK l k=q at *;generalize l.getD 16 0=E at *;cases K:(q/128==1) with
   | true =>
     rw [if_pos K] at b;have p:Hid (u=bits .or .u64 (bits .andNot .u64 y (Uz.wrap (255*2^(8*k)))) (bits .and .u64 E (Uz.wrap (255*2^(8*k))))):=b;clear b;go_wp2_with fail;refine (o.out _ J.out).mono ?_;rintro e T ⟨rfl,d⟩;subst d;go_wp2_with fail;go_roundw;case rel=>exact ⟨k+1,ab,by go_num,by rw [<- I.out,p.out],trivial⟩
     case measure=>simp [intOf];omega
   | false =>
     rw [if_neg (by rw [K];decide)] at b;have p:Hid (u=y):=b;clear b;go_wp2_with fail;refine (o.out _ J.out).mono ?_;rintro e T ⟨rfl,d⟩;subst d;go_wp2_with fail;go_roundw;case rel=>exact ⟨k+1,ab,by go_num,by rw [<- I.out,p.out],trivial⟩
     case measure=>simp [intOf];omega
  ·have base:k=4:=ab;subst base;generalize dR l z 4=y at *;go_wp2_with fail;refine bodyPost_end (results_none results150 _ _ _) rfl ?_;exact ⟨rfl,by rw [F.out];exact (j.out.put 16 _).1,bH (dt M.out _) (j.out.put 16 _).2⟩
theorem AP (g cap:Nat) (l:List Int) (n x:Int) (u:cG n=17) (hn:fU n=true) (w:World) (h:ei w s g cap l): Calls prog 150 #[.slice (some ⟨g,0,none⟩) 22 cap,.i n,.u x] w λe m=>e=.returned (.tuple #[])/\ei m s g cap (fS l 17 x)/\w.grownBy m (some g):=by
 simp only [fU,Bool.and_eq_true,Bool.not_eq_true'] at hn;obtain ⟨⟨⟨⟨B,C⟩,D⟩,E⟩,G⟩:=hn;have H:Hid (ei w s g cap l):=h;clear h;have p:fS l 17 x=if fw l 0=true then l else l.set 17 (bn 17 x):=rfl
 have t:Hid (∀ w,CB 151 #[.i n] w (.i 17)):=by rw [<- u];exact dx n
 clear u;have base:Hid (∀ w,Sl .u64 w (some ⟨g,0,none⟩) l->l.length=22->CE 204 #[.slice (some ⟨g,0,none⟩) 22 cap,.i 0] w (.bool (fw l 0))):=λw y z=>kJ _ cap l 0 ab w z y;generalize fw l 0=lk at *;cases lk with
 | true =>have F:Hid (fS l 17 x=l):=p;clear p;go_enter func150,ntmps150;go_wp2_with fail;refine (t.out _).mono ?_;rintro e o ⟨rfl,d⟩;have q:Hid (Bw w o):=d;have b:Hid (ei o s g cap l):=H.out.below d;clear d;go_wp2_with fail;refine (base.out _ (me b.out) b.out.len).mono ?_;rintro e A ⟨rfl,j⟩;subst j;go_wp2_with fail;refine bodyPost_end (results_none results150 _ _ _) rfl ?_;exact ⟨rfl,vo,dt q.out _⟩
 | false =>have F:Hid (fS l 17 x=l.set 17 (bn 17 x)):=p;clear p;go_enter func150,ntmps150;go_wp2_with fail;refine (t.out _).mono ?_;rintro e o ⟨rfl,d⟩;have q:Hid (Bw w o):=d;have b:Hid (ei o s g cap l):=H.out.below d;clear d;have c:=b.out.cell 17 ab;have f:=b.out.froz 17;go_wp2_with fail;refine (base.out _ (me b.out) b.out.len).mono ?_;rintro e A ⟨rfl,j⟩;subst j;go_wp2_with fail;refine (fM _ x _).mono ?_;rintro e I ⟨rfl,r⟩;subst r;go_wp2_with fail;refine bodyPost_end (results_none results150 _ _ _) rfl ?_;exact ⟨rfl,by rw [F.out];exact (b.out.put 17 _).1,bH (dt q.out _) (b.out.put 17 _).2⟩
theorem AQ (g cap:Nat) (l:List Int) (n x:Int) (u:cG n=18) (hn:fU n=true) (w:World) (h:ei w s g cap l): Calls prog 150 #[.slice (some ⟨g,0,none⟩) 22 cap,.i n,.u x] w λe m=>e=.returned (.tuple #[])/\ei m s g cap (fS l 18 x)/\w.grownBy m (some g):=by
 simp only [fU,Bool.and_eq_true,Bool.not_eq_true'] at hn;obtain ⟨⟨⟨⟨B,C⟩,D⟩,E⟩,G⟩:=hn;have H:Hid (ei w s g cap l):=h;clear h;have p:fS l 18 x=if fw l 1=true then l else l.set 18 (bn 18 x):=rfl
 have t:Hid (∀ w,CB 151 #[.i n] w (.i 18)):=by rw [<- u];exact dx n
 clear u;have base:Hid (∀ w,Sl .u64 w (some ⟨g,0,none⟩) l->l.length=22->CE 204 #[.slice (some ⟨g,0,none⟩) 22 cap,.i 1] w (.bool (fw l 1))):=λw y z=>kJ _ cap l 1 ab w z y;generalize fw l 1=lk at *;cases lk with
 | true =>have F:Hid (fS l 18 x=l):=p;clear p;go_enter func150,ntmps150;go_wp2_with fail;refine (t.out _).mono ?_;rintro e o ⟨rfl,d⟩;have q:Hid (Bw w o):=d;have b:Hid (ei o s g cap l):=H.out.below d;clear d;go_wp2_with fail;refine (base.out _ (me b.out) b.out.len).mono ?_;rintro e A ⟨rfl,j⟩;subst j;go_wp2_with fail;refine bodyPost_end (results_none results150 _ _ _) rfl ?_;exact ⟨rfl,vo,dt q.out _⟩
 | false =>have F:Hid (fS l 18 x=l.set 18 (bn 18 x)):=p;clear p;go_enter func150,ntmps150;go_wp2_with fail;refine (t.out _).mono ?_;rintro e o ⟨rfl,d⟩;have q:Hid (Bw w o):=d;have b:Hid (ei o s g cap l):=H.out.below d;clear d;have c:=b.out.cell 18 ab;have f:=b.out.froz 18;go_wp2_with fail;refine (base.out _ (me b.out) b.out.len).mono ?_;rintro e A ⟨rfl,j⟩;subst j;go_wp2_with fail;refine (fM _ x _).mono ?_;rintro e I ⟨rfl,r⟩;subst r;go_wp2_with fail;refine bodyPost_end (results_none results150 _ _ _) rfl ?_;exact ⟨rfl,by rw [F.out];exact (b.out.put 18 _).1,bH (dt q.out _) (b.out.put 18 _).2⟩
theorem AR (g cap:Nat) (l:List Int) (n x:Int) (u:cG n=19) (hn:fU n=true) (w:World) (h:ei w s g cap l): Calls prog 150 #[.slice (some ⟨g,0,none⟩) 22 cap,.i n,.u x] w λe m=>e=.returned (.tuple #[])/\ei m s g cap (fS l 19 x)/\w.grownBy m (some g):=by
 simp only [fU,Bool.and_eq_true,Bool.not_eq_true'] at hn;obtain ⟨⟨⟨⟨B,C⟩,D⟩,E⟩,G⟩:=hn;have H:Hid (ei w s g cap l):=h;clear h;have p:fS l 19 x=if fw l 2=true then l else l.set 19 (bn 19 x):=rfl
 have t:Hid (∀ w,CB 151 #[.i n] w (.i 19)):=by rw [<- u];exact dx n
 clear u;have base:Hid (∀ w,Sl .u64 w (some ⟨g,0,none⟩) l->l.length=22->CE 204 #[.slice (some ⟨g,0,none⟩) 22 cap,.i 2] w (.bool (fw l 2))):=λw y z=>kJ _ cap l 2 ab w z y;generalize fw l 2=lk at *;cases lk with
 | true =>have F:Hid (fS l 19 x=l):=p;clear p;go_enter func150,ntmps150;go_wp2_with fail;refine (t.out _).mono ?_;rintro e o ⟨rfl,d⟩;have q:Hid (Bw w o):=d;have b:Hid (ei o s g cap l):=H.out.below d;clear d;go_wp2_with fail;refine (base.out _ (me b.out) b.out.len).mono ?_;rintro e A ⟨rfl,j⟩;subst j;go_wp2_with fail;refine bodyPost_end (results_none results150 _ _ _) rfl ?_;exact ⟨rfl,vo,dt q.out _⟩
 | false =>have F:Hid (fS l 19 x=l.set 19 (bn 19 x)):=p;clear p;go_enter func150,ntmps150;go_wp2_with fail;refine (t.out _).mono ?_;rintro e o ⟨rfl,d⟩;have q:Hid (Bw w o):=d;have b:Hid (ei o s g cap l):=H.out.below d;clear d;have c:=b.out.cell 19 ab;have f:=b.out.froz 19;go_wp2_with fail;refine (base.out _ (me b.out) b.out.len).mono ?_;rintro e A ⟨rfl,j⟩;subst j;go_wp2_with fail;refine (fM _ x _).mono ?_;rintro e I ⟨rfl,r⟩;subst r;go_wp2_with fail;refine bodyPost_end (results_none results150 _ _ _) rfl ?_;exact ⟨rfl,by rw [F.out];exact (b.out.put 19 _).1,bH (dt q.out _) (b.out.put 19 _).2⟩
theorem AS (g cap:Nat) (l:List Int) (n x:Int) (u:cG n=20) (hn:fU n=true) (w:World) (h:ei w s g cap l): Calls prog 150 #[.slice (some ⟨g,0,none⟩) 22 cap,.i n,.u x] w λe m=>e=.returned (.tuple #[])/\ei m s g cap (fS l 20 x)/\w.grownBy m (some g):=by
 simp only [fU,Bool.and_eq_true,Bool.not_eq_true'] at hn;obtain ⟨⟨⟨⟨B,C⟩,D⟩,E⟩,G⟩:=hn;have H:Hid (ei w s g cap l):=h;clear h;have p:fS l 20 x=if fw l 3=true then l else l.set 20 (bn 20 x):=rfl
 have t:Hid (∀ w,CB 151 #[.i n] w (.i 20)):=by rw [<- u];exact dx n
 clear u;have base:Hid (∀ w,Sl .u64 w (some ⟨g,0,none⟩) l->l.length=22->CE 204 #[.slice (some ⟨g,0,none⟩) 22 cap,.i 3] w (.bool (fw l 3))):=λw y z=>kJ _ cap l 3 ab w z y;generalize fw l 3=lk at *;cases lk with
 | true =>have F:Hid (fS l 20 x=l):=p;clear p;go_enter func150,ntmps150;go_wp2_with fail;refine (t.out _).mono ?_;rintro e o ⟨rfl,d⟩;have q:Hid (Bw w o):=d;have b:Hid (ei o s g cap l):=H.out.below d;clear d;go_wp2_with fail;refine (base.out _ (me b.out) b.out.len).mono ?_;rintro e A ⟨rfl,j⟩;subst j;go_wp2_with fail;refine bodyPost_end (results_none results150 _ _ _) rfl ?_;exact ⟨rfl,vo,dt q.out _⟩
 | false =>have F:Hid (fS l 20 x=l.set 20 (bn 20 x)):=p;clear p;go_enter func150,ntmps150;go_wp2_with fail;refine (t.out _).mono ?_;rintro e o ⟨rfl,d⟩;have q:Hid (Bw w o):=d;have b:Hid (ei o s g cap l):=H.out.below d;clear d;have c:=b.out.cell 20 ab;have f:=b.out.froz 20;go_wp2_with fail;refine (base.out _ (me b.out) b.out.len).mono ?_;rintro e A ⟨rfl,j⟩;subst j;go_wp2_with fail;refine (fM _ x _).mono ?_;rintro e I ⟨rfl,r⟩;subst r;go_wp2_with fail;refine bodyPost_end (results_none results150 _ _ _) rfl ?_;exact ⟨rfl,by rw [F.out];exact (b.out.put 20 _).1,bH (dt q.out _) (b.out.put 20 _).2⟩
theorem Dt (k:Nat) (B:k<22) (hk:¬ (k=9\/k=15\/k=16\/k=17\/k=18\/k=19\/k=20)) (o:cG r=(k:Int)) (hn:fU r=true) (w:World) (h:ei w s t q e): Calls prog 150 #[.slice (some ⟨t,0,none⟩) 22 q,.i r,.u C] w λl d=>l=.returned (.tuple #[])/\ei d s t q (fS e (k:Int) C)/\w.grownBy d (some t):=by
 simp only [fU,Bool.and_eq_true,Bool.not_eq_true'] at hn;obtain ⟨⟨⟨⟨D,E⟩,G⟩,I⟩,J⟩:=hn;have H:Hid (ei w s t q e):=h;clear h;have F:Hid (fS e (k:Int) C=e.set k (bn k C)):=by show _=_;unfold fS;rw [if_neg ab,if_neg ab,if_neg ab,if_neg ab];rfl
 have x:((k:Int)==9)=false:=by simp;omega
 have base:((k:Int)==15)=false:=by simp;omega
 have g:((k:Int)==16)=false:=by simp;omega
 have u:((k:Int)==17)=false:=by simp;omega
 have y:((k:Int)==18)=false:=by simp;omega
 have z:((k:Int)==19)=false:=by simp;omega
 have A:((k:Int)==20)=false:=by simp;omega
 have n:Hid (∀ w,CB 151 #[.i r] w (.i (k:Int))):=by rw [<- o];exact dx r
 clear o;clear hk;go_enter func150,ntmps150;go_wp2_with fail;refine (n.out _).mono ?_;rintro l p ⟨rfl,j⟩;have cap:Hid (Bw w p):=j;have b:Hid (ei p s t q e):=H.out.below j;clear j;have c:=b.out.cell k B;have f:=b.out.froz k;go_wp2_with fail;refine (fM _ C _).mono ?_;rintro l K ⟨rfl,m⟩;subst m;go_wp2_with fail;refine bodyPost_end (results_none results150 _ _ _) rfl ?_;exact ⟨rfl,by rw [F.out];exact (b.out.put k _).1,bH (dt cap.out _) (b.out.put k _).2⟩
theorem AT (n x:Int) (hk:df n=true) (w:World) (h:ei w s t q e): Calls prog 150 #[.slice (some ⟨t,0,none⟩) 22 q,.i n,.u x] w λl o=>l=.returned (.tuple #[])/\ei o s t q (bM e n x)/\w.grownBy o (some t):=by
 by_cases b:fU n=true
 ·rw [yE b];have r:=qU n;have cap:0<=cG n:=(by simp [fU] at b;simp [df] at hk;omega);obtain ⟨k,a⟩:∃ k:Nat,cG n=(k:Int):=⟨(cG n).toNat,ab⟩;rw [a];by_cases l:k=9\/k=15\/k=16\/k=17\/k=18\/k=19\/k=20
  ·by_cases p:k=9;·subst p;exact Ds s t q e n x a b w h
   ·by_cases c:k=15;·subst c;exact AM s t q e n x a b w h
    ·by_cases d:k=16;·subst d;exact AN s t q e n x a b w h
     ·by_cases f:k=17;·subst f;exact AP s t q e n x a b w h
      ·by_cases i:k=18;·subst i;exact AQ s t q e n x a b w h
       ·by_cases j:k=19;·subst j;exact AR s t q e n x a b w h
        ·have m:k=20:=ab;subst m;exact AS s t q e n x a b w h
  ·exact Dt s t q e n x k ab l a b w h
 ·have:n=769\/n=3860\/n=256\/n=260\/n=324:=by simp [fU] at b;omega
  rcases this with rfl|rfl|rfl|rfl|rfl;·exact AI s t q e x w h
  ·exact yD s t q e x w h
  ·exact AJ s t q e x w h
  ·exact AL s t q e x w h
  ·exact AK s t q e x w h
theorem E9 (h:ei w x b l n) (j:Nat) (g:j<22) (base:Int) (o:Oper) (ev:Operand->Value) (p v:Operand) (d:o.op=.store 22 p v) (q:ev p=.p b j) (hv:ev v=.u base): (execOp ev o).run prog w=.ok .skip (w.setCell ⟨b,j,none⟩ (.u base)):=by
 have c:=h.cell j g;have f:=h.froz j;have r:∀ m,(store ⟨b,j,none⟩ (.u base) m).run prog w=.ok () (w.setCell ⟨b,j,none⟩ (.u base)):=by intro m;rw [run_store_int];simp [stored,c,f]
 simp [execOp,d,q,hv,go_sem];rw [c];simp [f]
theorem pI {b:Array Oper} {rest:List Oper} {o:Oper} {a:Act} {Q:Exit->Act->World->Prop} (e:o.guard=none) (p v:Operand) (i:o.op=.store 22 p v) (hd:o.dst=none) {base g cap:Nat} {l:List Int} (h:ei w base g cap l) (j:Nat) (f:j<22) (x:Int) (k:a.eval p=.p g j) (hv:a.eval v=.u x) (hk:∀ c,ei c base g cap (l.set j x)->w.grownBy c (some g)->wpList prog b Q rest a c):wpList prog b Q (o::rest) a w:=by refine wpList_plain e λK d=>?_;unfold Oper.wp;rw [E9 h j f x o a.eval p v i k hv,Oper.upon_skip];rw [hd];exact d _ _ (hk _ (h.put j x).1 (h.put j x).2)
theorem bA (b:0<=y) (c:y<18446744073709551616) (hk:s<64) (hn:t<64) (w:World): Calls prog 76 #[.u y,.i s,.i t] w λe d=>e=.returned (.u (cQ y s t))/\d=w.drew:=by
 have F:Hid (bits .and .u64 (y/2^s) (Uz.wrap (Uz.wrap (2^t)-1))=cQ y s t):=iC y s t b c hn;go_enter func76,ntmps76;go_wp2_with fail;go_region;all_goals go_wp2_with fail
 all_goals go_ret
 all_goals exact ⟨by rw [<- F.out];rfl,rfl⟩
theorem td (f:Fm) (w:World):CE 258 #[.string f.str] w (.tuple #[.u f.mask,.i f.at]):=by
 cases f<;>simp only [Fm.str,Fm.mask,Fm.at];all_goals go_enter func258,ntmps258
 all_goals go_wp2_with fail
 all_goals go_ret2
 all_goals exact ⟨rfl,rfl⟩
theorem iW (g:1<=s) (j:s<=64) (w:World): CE 153 #[.u y,.i s] w (.u (av s y)):=by
 have d:decide ((s:Int)<1)=false:=by simp;omega
 have f:decide ((64:Int)<(s:Int))=false:=by simp;omega
 obtain ⟨m,l,b⟩:∃ m:Nat,(64:Int)-(s:Int)=(m:Int)/\m=64-s:=⟨64-s,ab,rfl⟩;have F:Hid (Uz.wrap (wrap64 (Uz.wrap (y*2^m))/2^m)=av s y):=by show _=_;rw [b];rfl
 clear b;go_enter func153,ntmps153;go_wp2_with fail;go_ret;exact ⟨by rw [<- F.out];rfl,rfl⟩
theorem dO (f:1<=s) (g:s<=64) (w:World): CE 144 #[.u y,.u s] w (.u (av s y)):=by
 obtain ⟨m,j,b⟩:∃ m:Nat,(64:Int)-(s:Int)=(m:Int)/\m=64-s:=⟨64-s,ab,rfl⟩;have F:Hid (Uz.wrap (wrap64 (Uz.wrap (y*2^m))/2^m)=av s y):=by show _=_;rw [b];rfl
 clear b;have c:Uz.wrap (m:Int)=m:=by rw [IntKind.wrap_u64];omega
 go_enter func144,ntmps144;go_wp2_with fail;go_ret;exact ⟨by rw [<- F.out];rfl,rfl⟩
def iX (op:Int) (f:Fm):Int:=if op=98 then bits .or .u64 f.mask 3968 else if op=63\/op=74 then bits .or .u64 f.mask 32505856 else f.mask
def uB (f:Fm) (o z m:Int):Int:=bits .or .u64 (bits .or .u64 o (Uz.wrap (z*4096))) (Uz.wrap (m*2^f.at))
theorem uC (D:ByteArray) (f:Fm) (o z m:Int) (w:World): CB 223 #[.i y,.agg #[.string D,.string f.str,.u o,.u z,.u m]] w (.tuple #[.u (iX y f),.u (uB f o z m)]):=by
 have r:=td f;obtain ⟨M,d⟩:∃ M,M=f.mask:=⟨_,rfl⟩;obtain ⟨t,l⟩:∃ t,t=f.at:=⟨_,rfl⟩;obtain ⟨s,p⟩:∃ s,s=f.str:=⟨_,rfl⟩;have u:Hid (uB f o z m=bits .or .u64 (bits .or .u64 o (Uz.wrap (z*4096))) (Uz.wrap (m*2^t))):=by show _=_;rw [uB,l]
 rw [<- p,<- d,<- l] at r;rw [<- p];have B:t<64:=by rw [l];cases f<;>decide
 by_cases b:y=98
 ·subst b;have g:Hid (iX 98 f=bits .or .u64 M 3968):=(by show _=_;rw [iX,if_pos rfl,d]);clear d l p;go_enter func223,ntmps223;go_wp2_with fail;refine (r _).mono ?_;rintro e A ⟨rfl,rfl⟩;go_wp2_with fail;go_region;all_goals go_wp2_with fail
  all_goals go_ret2
  all_goals exact ⟨by rw [g.out,u.out];rfl,(bal _ _).drew⟩
 ·have q:(y==98)=false:=i6;by_cases c:y=63
  ·subst c;have g:Hid (iX 63 f=bits .or .u64 M 32505856):=(by show _=_;rw [iX,if_neg a6,if_pos a6,d]);clear d l p b q;go_enter func223,ntmps223;go_wp2_with fail;refine (r _).mono ?_;rintro e A ⟨rfl,rfl⟩;go_wp2_with fail;go_region;all_goals go_wp2_with fail
   all_goals go_ret2
   all_goals exact ⟨by rw [g.out,u.out];rfl,(bal _ _).drew⟩
  ·have op:(y==63)=false:=ta;by_cases j:y=74
   ·subst j;have g:Hid (iX 74 f=bits .or .u64 M 32505856):=(by show _=_;rw [iX,if_neg a6,if_pos a6,d]);clear d l p b q c op;go_enter func223,ntmps223;go_wp2_with fail;refine (r _).mono ?_;rintro e A ⟨rfl,rfl⟩;go_wp2_with fail;go_region;all_goals go_wp2_with fail
    all_goals go_ret2
    all_goals exact ⟨by rw [g.out,u.out];rfl,(bal _ _).drew⟩
   ·have C:(y==74)=false:=(by simpa using j);have g:Hid (iX y f=M):=(by show _=_;rw [iX,if_neg b,if_neg ab,d]);clear d l p b c j;go_enter func223,ntmps223;go_wp2_with fail;refine (r _).mono ?_;rintro e A ⟨rfl,rfl⟩;go_wp2_with fail;go_region;all_goals go_wp2_with fail
    all_goals go_ret2
    all_goals exact ⟨by rw [g.out,u.out];rfl,(bal _ _).drew⟩
theorem He (l:Option Addr) (j g:Nat) (u:Int) (xs ys:List Int) (B A:Nat) (w:World) (hx:xs.length=q) (hy:ys.length=j) (hn0:1<=q) (hn1:q<=16) (hc1:q<=P) (hc2:P<=9223372036854775807) (I:B<=A) (J:A<=w.heap.size) (W:aZ B A w (fC (some ⟨s,t,none⟩) q P xs l j g ys)) (hw:0<=xs.getD 0 0/\xs.getD 0 0<=255): Calls prog 138 #[.agg #[.u y,.u E,.bool m,.slice (some ⟨s,t,none⟩) q P,.slice l j g,.i u],.u 268435456,.i 1] w λe G=>∃ (c:Option Addr) (d:Nat),e=.returned (.tuple #[.u (xs.getD 0 0),.agg #[.u y,.u E,.bool m,.slice c (q-1) d,.slice l j g,.i u],.bool true])/\G.ownsRow w.heap.size 5 1 (.slice c (q-1) d) (q-1) ((xs.drop 1).map (Value.int .u8))/\Bw w G:=by
 have Z:=W.in_;obtain ⟨b',off',e,X,hc⟩:=Z 0 ab;simp only [Option.some.injEq,Addr.mk.injEq,and_true] at e;obtain ⟨rfl,rfl⟩:=e;have C:∀ D F,Bw w ((w.alloc D).alloc F):=λD F=>dU;have k0:∀ D F,((w.alloc D).alloc F).cell? ⟨s,t,none⟩=some (.int .u8 (xs.getD 0 0)):=λD F=>((C D F).cell (by exact X)).trans hc;have t0:((q:Int)==0)=false:=by simp;omega
 have i0:(0:Int)<(q:Int):=ab
 have i1:(1:Int)<=(q:Int):=ab
 have HS:Hid (∀ G,Bw w G->Sl .u8 G (some ⟨s,t+1,none⟩) (xs.drop 1)):=λG hb=>(Z.below hb).next
 have O:Hid ((xs.drop 1).length=q-1/\q-1<=1048576):=⟨by rw [List.length_drop,hx],ab⟩;have HF:Hid (aZ B A w (fC (some ⟨s,t,none⟩) q P xs l j g ys)):=W;have HE2:Hid (B<=A/\A<=w.heap.size):=⟨I,J⟩;have J:=jL ((w.alloc (.cells #[.u y,.u E,.bool m,.slice (some ⟨s,t,none⟩) q P,.slice l j g,.i u] 30)).alloc (.cells #[.u 0,.u 0,.bool false,.slice none 0 0,.slice none 0 0,.i 0] 30)) (w.heap.size+1+1) bc (.cells #[] 5 (0,0)) rfl;rw [World.size_alloc,World.size_alloc] at J;have L:Uz.wrap (xs.getD 0 0)=xs.getD 0 0:=by rw [IntKind.wrap_u64];omega
 have H:=ak L;clear Z hc W I L hw hx hy;generalize xs.getD 0 0=x0 at *;by_cases V:P=1;·have Y:q=1:=ab;subst V Y;have K:xs.drop 1=[]:=List.length_eq_zero_iff.1 (by have:=O.out.1;simpa using this);rw [K];clear K HS O;go_enter func138,ntmps138;go_wp2_with (first | (at_builtin;refine io rfl (.tmp 58) (.tmp 61) rfl (w.heap.size+1+1) _ rfl J _ 0 _ [] rfl rfl ab (λi hi=>absurd hi (Nat.not_lt_zero _)) bc ?_;intro c d M r o;obtain ⟨cm,z,f,N⟩:=MU o;have R0:=ak cm;have R1:=ak z;have Q:=ak f;have U:=ak N;have S:=ak r;obtain ⟨p0,p1,p2,p3,p4,p5⟩:=aH cm;obtain ⟨s0,s1,s2,s3,s4,s5⟩:=aH z;obtain ⟨y0,y1,y2,y3,y4,y5⟩:=kY z;have f3:=dh cm 3;clear cm z f N r o));go_region;go_wp2_with fail;rw [H.out];have T:=eH (dS R1.out ⟨w.heap.size,3,none⟩ (.slice c 0 d) a9) (.u y) (.u E) (.bool m) (.slice c 0 d) (.slice l j g) (.i u);have b:=(((aZ.nil (w.heap.size+1+1) (w.heap.size+1+1) M).snoc (aw c 0 d []) _ M.heap.size S.out (Nat.le_refl _) (Nat.le_refl _) (Nat.le_refl _) (by have:=U.out;omega)).set ⟨w.heap.size,3,none⟩ (.slice c 0 d) (.inl a9)).put6 (w.heap.size+1) (.inl ab) (.u y) (.u E) (.bool m) (.slice c 0 d) (.slice l j g) (.i u);have R:=cK (Q.out.setCell (p:=⟨w.heap.size,3,none⟩) (Nat.le_refl _) (.slice c 0 d)) (g:=w.heap.size+1) ab (.u y) (.u E) (.bool m) (.slice c 0 d) (.slice l j g) (.i u);exact bodyPost_ret (bF results138 _ _ _ _ _ _ _ rfl (Av T) underlying30 rfl aT) rfl ⟨c,d,rfl,dG (du (b.own _ (List.mem_singleton.2 rfl)) (Below.refl _ _).drew) ab,R.drew⟩
 ·have hcc2:¬ (P-1=0):=ab;go_enter func138,ntmps138;go_wp2_with (first | (at_builtin;refine io rfl (.tmp 58) (.tmp 61) rfl (w.heap.size+1+1) _ rfl J (some ⟨s,t+1,none⟩) (q-1) (P-1) (xs.drop 1) rfl O.out.1 O.out.2 (HS.out _ ((C _ _).alloc (C _ _).size _)) bc ?_;intro c d M r o;obtain ⟨cm,z,f,N⟩:=MU o;have R0:=ak cm;have R1:=ak z;have Q:=ak f;have U:=ak N;have S:=ak r;obtain ⟨p0,p1,p2,p3,p4,p5⟩:=aH cm;obtain ⟨s0,s1,s2,s3,s4,s5⟩:=aH z;obtain ⟨y0,y1,y2,y3,y4,y5⟩:=kY z;have f3:=dh cm 3;clear cm z f N r o));go_region;go_wp2_with fail;rw [H.out];have T:=eH (dS R1.out ⟨w.heap.size,3,none⟩ (.slice c (q-1) d) a9) (.u y) (.u E) (.bool m) (.slice c (q-1) d) (.slice l j g) (.i u);have b:=(((aZ.nil (w.heap.size+1+1) (w.heap.size+1+1) M).snoc (aw c (q-1) d (xs.drop 1)) _ M.heap.size S.out (Nat.le_refl _) (Nat.le_refl _) (Nat.le_refl _) (by have:=U.out;omega)).set ⟨w.heap.size,3,none⟩ (.slice c (q-1) d) (.inl a9)).put6 (w.heap.size+1) (.inl ab) (.u y) (.u E) (.bool m) (.slice c (q-1) d) (.slice l j g) (.i u);have R:=cK (Q.out.setCell (p:=⟨w.heap.size,3,none⟩) (Nat.le_refl _) (.slice c (q-1) d)) (g:=w.heap.size+1) ab (.u y) (.u E) (.bool m) (.slice c (q-1) d) (.slice l j g) (.i u);exact bodyPost_ret (bF results138 _ _ _ _ _ _ _ rfl (Av T) underlying30 rfl aT) rfl ⟨c,d,rfl,dG (du (b.own _ (List.mem_singleton.2 rfl)) (Below.refl _ _).drew) ab,R.drew⟩
theorem Du (xs ys:List Int) (B cm:Nat) (w:World) (hy:ys.length=q) (K:q<4096) (H:B<=cm) (I:cm<=w.heap.size) (N:aZ B cm w (fC o s t xs z q P ys)): Calls prog 139 #[.agg #[.u y,.u E,.bool m,.slice o s t,.slice z q P,.i r],.u 268435456,.i 1,.u C] w λe A=>∃ (c:Option Addr) (d:Nat),e=.returned (.tuple #[.agg #[.u y,.u E,.bool m,.slice o s t,.slice c (q+1) d,.i r],.bool true])/\A.ownsRow w.heap.size 5 1 (.slice c (q+1) d) (q+1) ((ys++[IntKind.u8.wrap C]).map (Value.int .u8))/\Bw w A:=by
 have V:=N.out_
 have G:∀ W X,Bw w ((w.alloc W).alloc X):=λW X=>dU
 have dd:decide ((q:Int)<4096)=true:=by simp;omega
 have HS:Hid (∀ A,Bw w A->Sl .u8 A z ys):=λA hb=>V.below hb
 have M:Hid (ys.length=q/\q<4096):=⟨hy,K⟩
 have HF:Hid (aZ B cm w (fC o s t xs z q P ys)):=N
 have HE2:Hid (B<=cm/\cm<=w.heap.size):=⟨H,I⟩
 have U:=jL ((w.alloc (.cells #[.u y,.u E,.bool m,.slice o s t,.slice z q P,.i r] 30)).alloc (.cells #[.u 0,.u 0,.bool false,.slice none 0 0,.slice none 0 0,.i 0] 30)) (w.heap.size+1+1) bc (.cells #[] 5 (0,0)) rfl
 rw [World.size_alloc,World.size_alloc] at U
 obtain ⟨i0,hi,O,b,Q⟩:=info_parts info5
 clear V N H I hy K
 rw [show IntKind.u8.wrap C=C%256 from IntKind.wrap_u8 C]
 go_enter func139,ntmps139
 go_wp2_with (first
  | (at_builtin;refine io rfl (.tmp 51) (.tmp 53) rfl (w.heap.size+1+1) _ rfl U z q P ys rfl M.out.1 (by have:=M.out.2;omega) (HS.out _ ((G _ _).alloc (G _ _).size _)) bc ?_;intro b1 d1 w1 L D;obtain ⟨Y,Z,J,z1⟩:=MU D;have R0:=ak Y;have R1:=ak Z;have B1:=ak J;have T:=ak z1;have S:=ak L;clear Y Z J z1 L D)
  | (at_builtin;refine wpList_append_own _ rfl (.tmp 54) (.tmp 57) 24 rfl (w.heap.size+1+1) 5 i0 (.int .u8 0) 1 1 underlying24 hi O b Q rfl a6 _ q (ys.map (Value.int .u8)) rfl (du S.out (bal _ _)) ⟨w1.heap.size,0,none⟩ 1 1 [.int .u8 (C%256)] rfl rfl (MX _ _) i3 (by have:=M.out.2;unfold maxLen;omega) (by have:=M.out.2;omega) (by have:=T.out;rw [World.size_alloc];omega) ?_;intro v' R l F x;obtain ⟨c,d,rfl⟩:=JG l;obtain ⟨f,j,u⟩:=Sq R0.out R1.out S.out F;have S0:=ak f;have S1:=ak j;have B2:=ak (B1.out.trans (u.mono ab));have Z2:=ak u.size;have O2:=ak l;obtain ⟨p0,p1,p2,p3,p4,p5⟩:=aH f;obtain ⟨s0,s1,s2,s3,s4,s5⟩:=aH j;obtain ⟨y0,y1,y2,y3,y4,y5⟩:=kY j;have f4:=dh f 4;clear f j u l F x))
 have T1:=eH (dS S1.out ⟨w.heap.size,4,none⟩ (.slice c (q+1) d) a9) (.u y) (.u E) (.bool m) (.slice o s t) (.slice c (q+1) d) (.i r)
 have O3:R.ownsRow (w.heap.size+1+1) 5 1 (.slice c (q+1) d) (q+1) ((ys++[C%256]).map (Value.int .u8)):=by rw [List.map_append];exact O2.out
 have A2:=(((aZ.nil (w.heap.size+1+1) (w.heap.size+1+1) R).snoc (aw c (q+1) d (ys++[C%256])) _ R.heap.size O3 (Nat.le_refl _) (Nat.le_refl _) (Nat.le_refl _) (by have:=T.out;have:=Z2.out;omega)).set ⟨w.heap.size,4,none⟩ (.slice c (q+1) d) (.inl a9)).put6 (w.heap.size+1) (.inl ab) (.u y) (.u E) (.bool m) (.slice o s t) (.slice c (q+1) d) (.i r)
 have B4:=cK (B2.out.setCell (p:=⟨w.heap.size,4,none⟩) (Nat.le_refl _) (.slice c (q+1) d)) (g:=w.heap.size+1) ab (.u y) (.u E) (.bool m) (.slice o s t) (.slice c (q+1) d) (.i r)
 exact bodyPost_ret (dq results139 _ _ _ _ _ _ _ rfl T1 underlying30 rfl aT) rfl ⟨c,d,rfl,dG (A2.own _ (List.mem_singleton.2 rfl)) ab,B4⟩
def fo (w w':World) (e:Option Addr) (g:Nat) (xs:List Int) (f:Option Addr) (h:Nat) (ys:List Int) (a:Option Addr) (c:Nat) (zs:List Int) (b:Option Addr) (d:Nat) (us:List Int):Prop :=
 ((a=e/\c=g/\zs=xs)/\b=f/\d=h/\us=ys) \/
 (w'.ownsRow w.heap.size 5 1 (.slice a zs.length c) zs.length (zs.map (Value.int .u8))/\b=f/\d=h/\us=ys) \/
 ((a=e/\c=g/\zs=xs)/\w'.ownsRow w.heap.size 5 1 (.slice b us.length d) us.length (us.map (Value.int .u8))) \/
 aZ w.heap.size w'.heap.size w' (fC a zs.length c zs b us.length d us)
theorem fo.same (w':World) (a:Option Addr) (c:Nat) (xs:List Int) (b:Option Addr) (d:Nat) (ys:List Int):fo A w' a c xs b d ys a c xs b d ys:=.inl ⟨⟨rfl,rfl,rfl⟩,rfl,rfl,rfl⟩
theorem fo.below {w':World} {c:Option Addr} {d:Option Addr} {ys:List Int} {e:Option Addr} {zs:List Int} {f:Option Addr} {us:List Int} (h:fo w a c g n d x ys e b zs f l us) (hb:Bw a w'):fo w w' c g n d x ys e b zs f l us:=by
 rcases h with h|⟨w1,j⟩|⟨w1,j⟩|h;·exact .inl h
 ·exact .inr (.inl ⟨du w1 hb,j⟩)
 ·exact .inr (.inr (.inl ⟨w1,du j hb⟩))
 ·exact .inr (.inr (.inr ((h.below hb).low (Nat.le_refl _) hb.size)))
theorem Dx (d E:Nat) (w:World) (o:p.xs.length<=16) (hb:dp p) (D:d<=E) (y:E<=w.heap.size) (c:aZ d E w (fC B p.xs.length s p.xs z p.ys.length q p.ys)): Calls prog 138 #[.agg #[.u p.t,.u p.cm,.bool p.so,.slice B p.xs.length s,.slice z p.ys.length q,.i p.ir],.u r,.i C] w λe f=>∃ (i:Option Addr) (j:Nat) (l:Option Addr) (m:Nat),e=.returned (.tuple #[.u (jq p (gC r C)).1,.agg (il (jq p (gC r C)).2.1 i j l m),.bool (jq p (gC r C)).2.2])/\fo w f B s p.xs z q p.ys i j (jq p (gC r C)).2.1.xs l m (jq p (gC r C)).2.1.ys/\Bw w f:=by
 refine jM r C (λk=>Calls prog 138 #[.agg #[.u p.t,.u p.cm,.bool p.so,.slice B p.xs.length s,.slice z p.ys.length q,.i p.ir],.u r,.i C] w λe f=>∃ (i:Option Addr) (j:Nat) (l:Option Addr) (m:Nat),e=.returned (.tuple #[.u (jq p k).1,.agg (il (jq p k).2.1 i j l m),.bool (jq p k).2.2])/\fo w f B s p.xs z q p.ys i j (jq p k).2.1.xs l m (jq p k).2.1.ys/\Bw w f) ?_ ?_ ?_ ?_ ?_ ?_ ?_;·rintro rfl rfl;exact (JA p.t p.cm p.so B _ s z _ q p.ir w).mono λe f h=>⟨B,s,z,q,h.1,fo.same _ _ _ _ _ _ _ _,h.2⟩
 ·rintro rfl rfl;exact (JB p.t p.cm p.so B _ s z _ q p.ir w).mono λe f h=>⟨B,s,z,q,h.1,fo.same _ _ _ _ _ _ _ _,h.2⟩
 ·rintro rfl rfl;exact (JC p.t p.cm p.so B _ s z _ q p.ir w).mono λe f h=>⟨B,s,z,q,h.1,fo.same _ _ _ _ _ _ _ _,h.2⟩
 ·rintro rfl rfl;rcases Nat.eq_zero_or_pos p.xs.length with n|n
  ·have t:p.xs=[]:=List.length_eq_zero_iff.1 n;have h:=GJ p.t p.cm p.so B s z p.ys.length q p.ir w;rw [n];refine h.mono λe f h=>⟨B,s,z,q,?_,?_,h.2⟩;·rw [h.1];simp only [jq,il,t];rfl
   ·simp only [jq,t];exact fo.same _ _ _ _ _ _ _ _
  ·obtain ⟨g,rfl,b,addr⟩:=GK c n;unfold maxLen at addr;have a:=ja hb.1 0;refine (He p.t p.cm p.so g 0 p.xs.length s z p.ys.length q p.ir p.xs p.ys d E w rfl rfl n o b ab D y c a).mono λe f h=>?_;obtain ⟨i,j,u,v,x⟩:=h;refine ⟨i,j,z,q,?_,.inr (.inl ⟨?_,rfl,rfl,?_⟩),x⟩;·rw [u];simp only [jq,il,List.length_drop]
   ·simp only [jq,List.length_drop];exact v
   ·simp only [jq]
 ·rintro rfl rfl;exact (JD p.t p.cm p.so B _ s z _ q p.ir w).mono λe f h=>⟨B,s,z,q,h.1,fo.same _ _ _ _ _ _ _ _,h.2⟩
 ·rintro rfl rfl;exact (JE p.t p.cm p.so B _ s z _ q p.ir ab w).mono λe f h=>⟨B,s,z,q,h.1,fo.same _ _ _ _ _ _ _ _,h.2⟩
 ·intro A size F G H I;exact (JF p.t p.cm p.so B _ s z _ q p.ir r C A size F G H I w).mono λe f h=>⟨none,0,none,0,h.1,.inr (.inr (.inr (gO _ _ _))),h.2⟩
theorem Dy (m:wrap64 (bits .and .u64 r 1)=C):Calls prog 139 #[.agg #[.u p.t,.u p.cm,.bool p.so,.slice B p.xs.length s,.slice z p.ys.length q,.i p.ir],.u 268435457,.i 1,.u r] A λe f=>∃ (g:Option Addr) (j:Nat) (i:Option Addr) (k:Nat),e=.returned (.tuple #[.agg (il ((⟨p.t,p.cm,p.so,p.xs,p.ys,C⟩,true):DV × Bool).1 g j i k),.bool ((⟨p.t,p.cm,p.so,p.xs,p.ys,C⟩,true):DV × Bool).2])/\fo A f B s p.xs z q p.ys g j ((⟨p.t,p.cm,p.so,p.xs,p.ys,C⟩,true):DV × Bool).1.xs i k ((⟨p.t,p.cm,p.so,p.xs,p.ys,C⟩,true):DV × Bool).1.ys/\Bw A f:=by have l:=GO p.t p.cm p.so B p.xs.length s z p.ys.length q p.ir r A;rw [m] at l;exact l.mono λe f h=>⟨B,s,z,q,h.1,fo.same _ _ _ _ _ _ _ _,h.2⟩
theorem AU (x:Int) (a E:Nat) (w:World) (n:p.ys.length<=4096) (o:a<=E) (u:E<=w.heap.size) (v:aZ a E w (fC B p.xs.length s p.xs z p.ys.length q p.ys)): Calls prog 139 #[.agg #[.u p.t,.u p.cm,.bool p.so,.slice B p.xs.length s,.slice z p.ys.length q,.i p.ir],.u r,.i C,.u x] w λe f=>∃ (g:Option Addr) (j:Nat) (i:Option Addr) (l:Nat),e=.returned (.tuple #[.agg (il (fL p x (gC r C)).1 g j i l),.bool (fL p x (gC r C)).2])/\fo w f B s p.xs z q p.ys g j (fL p x (gC r C)).1.xs i l (fL p x (gC r C)).1.ys/\Bw w f:=by
 refine jM r C (λk=>Calls prog 139 #[.agg #[.u p.t,.u p.cm,.bool p.so,.slice B p.xs.length s,.slice z p.ys.length q,.i p.ir],.u r,.i C,.u x] w λe f=>∃ (g:Option Addr) (j:Nat) (i:Option Addr) (l:Nat),e=.returned (.tuple #[.agg (il (fL p x k).1 g j i l),.bool (fL p x k).2])/\fo w f B s p.xs z q p.ys g j (fL p x k).1.xs i l (fL p x k).1.ys/\Bw w f) ?_ ?_ ?_ ?_ ?_ ?_ ?_;·rintro rfl rfl;rw [EZ];exact (GL p.t p.cm p.so B _ s z _ q p.ir x w).mono λe f h=>⟨B,s,z,q,h.1,fo.same _ _ _ _ _ _ _ _,h.2⟩
 ·rintro rfl rfl;rw [E4];exact (GM p.t p.cm p.so B _ s z _ q p.ir x w).mono λe f h=>⟨B,s,z,q,h.1,fo.same _ _ _ _ _ _ _ _,h.2⟩
 ·rintro rfl rfl;rw [E5];exact (GN p.t p.cm p.so B _ s z _ q p.ir x w).mono λe f h=>⟨B,s,z,q,h.1,fo.same _ _ _ _ _ _ _ _,h.2⟩
 ·rintro rfl rfl;by_cases m:p.ys.length<4096
  ·rw [yA p x m];refine (Du p.t p.cm p.so B _ s z _ q p.ir x p.xs p.ys a E w rfl m o u v).mono λe f h=>?_;obtain ⟨d,addr,b,n,t⟩:=h;have D:(p.ys++[IntKind.u8.wrap x]).length=p.ys.length+1:=(by rw [List.length_append];rfl);refine ⟨B,s,d,addr,?_,.inr (.inr (.inl ⟨⟨rfl,rfl,rfl⟩,?_⟩)),t⟩;·rw [b];dsimp only [il];rw [D]
   ·dsimp only;rw [D];exact n
  ·rw [yB p x m];exact (C5 p.t p.cm p.so B _ s z _ q p.ir x m n w).mono λe f h=>⟨B,s,z,q,h.1,fo.same _ _ _ _ _ _ _ _,h.2⟩
 ·rintro rfl rfl;rw [E6];exact Dy p B s z q x w _ rfl
 ·rintro rfl rfl;rw [E7];exact (GP p.t p.cm p.so B _ s z _ q p.ir x w).mono λe f h=>⟨B,s,z,q,h.1,fo.same _ _ _ _ _ _ _ _,h.2⟩
 ·intro y c A size F G;rw [E8];exact (GQ p.t p.cm p.so B _ s z _ q p.ir x r C y c A size F G w).mono λe f h=>⟨none,0,none,0,h.1,.inr (.inr (.inr (gO _ _ _))),h.2⟩
theorem qe (h:Below x a w) (n:Nat):Below x a (w.drewN n):=⟨h.os,h.tape,h.output,h.size,h.block⟩
theorem bj (h:Calls c f k w λe a=>e=.returned d/\a=w):Calls c f k w λe a=>e=.returned d/\∃ m,a=w.drewN m :=
 h.mono λ_ _ h=>⟨h.1,0,h.2⟩
theorem na (h:Calls c f k w λe a=>e=.returned d/\a=w.drew):Calls c f k w λe a=>e=.returned d/\∃ m,a=w.drewN m :=
 h.mono λ_ _ h=>⟨h.1,1,h.2⟩
theorem mH (h:(prog.funcs[x]?).map (λa=>(a.name == "runtime.NumGoroutine",a.body.isSome))=some (false,true)) (args:Array Value) (w:World):(callFunc x args).run prog w=.ok (.enter x args) w:=by
 cases b:prog.funcs[x]? with
 | none=>rw [b] at h;cases h
 | some a =>rw [b] at h;simp only [Option.map_some,Option.some.injEq,Prod.mk.injEq] at h;have d:a.name≠ "runtime.NumGoroutine":=(by simpa using h.1);obtain ⟨c,e⟩:=Option.isSome_iff_exists.mp h.2;simp [callFunc,b,d,e,mark]
theorem Dz (h:(Lit.int .i64 D).wf=true): -9223372036854775808<=D/\D<=9223372036854775807:=by have b:IntKind.i64.min=-9223372036854775808:=rfl;have a:IntKind.i64.max=9223372036854775807:=rfl;simp only [Lit.wf,Bool.and_eq_true,decide_eq_true_eq] at h;omega
theorem JP (a:0<=y) (b:y<18446744073709551616) (w:World):Calls prog 76 #[.u y,.i 0,.i 6] w λe c=>e=.returned (.u (sh y))/\c=w.drew:=by
 have h:=bA y 0 6 a b ab ab w;have e:cQ y 0 6=sh y:=by rw [<- OV];simp [cQ]
 rw [e] at h;exact h
theorem AV (c:0<=y) (d:y<18446744073709551616) (w:World):Calls prog 286 #[.u y] w λe b=>e=.returned (.u (y%32))/\b=w.drew:=by
 have h:∀ w,Calls prog 76 #[.u y,.i 0,.i 5] w λe b=>e=.returned (.u (cQ y 0 5))/\b=w.drew:=λw=>bA y 0 5 c d ab ab w;have e:cQ y 0 5=y%32:=by simp [cQ]
 rw [e] at h;go_enter func286,ntmps286;go_wp2_with fail;refine (h _).mono ?_;exact a0e
theorem Hf (b:0<=y) (w:World):CE 250 #[.u y,.i 4] w (.u (y%4294967296)):=by have F:Hid (Uz.wrap (y*2^32)/2^32=y%4294967296):=xd y 4 ab ab b;go_enter func250,ntmps250;go_wp2_with fail;go_ret;exact ⟨by rw [<- F.out];rfl,rfl⟩
theorem sf (b:0<=y) (w:World):CE 265 #[.u y] w (.u (y%4294967296)):=by go_enter func265,ntmps265;go_wp2_with fail;refine (Hf y b _).mono ?_;rintro e d ⟨rfl,rfl⟩;exact a01
theorem po:CE 264 #[.u y] A (.u (av 32 y)):=by go_enter func264,ntmps264;go_wp2_with fail;refine (iW y 32 ab ab _).mono ?_;rintro e d ⟨rfl,b⟩;subst b;exact a01
theorem xo:CE 277 #[.u y,.u E] A (.u (Uz.wrap (y+E))):=by go_enter func277,ntmps277;exact a01
theorem rk:CE 287 #[.u y,.u E] A (.u (Uz.wrap (y-E))):=by go_enter func287,ntmps287;exact a01
theorem wu:CE 288 #[.u y,.u E] A (.u (Uz.wrap (y*E))):=by go_enter func288,ntmps288;exact a01
theorem xp:CE 280 #[.u y,.u E] A (.u (bits .xor .u64 y E)):=by go_enter func280,ntmps280;exact a01
theorem AW:CE 281 #[.u y,.u E] A (.u (bits .or .u64 y E)):=by go_enter func281,ntmps281;exact a01
theorem xq:CE 282 #[.u y,.u E] A (.u (bits .and .u64 y E)):=by go_enter func282,ntmps282;exact a01
theorem yF:CE 299 #[.u y,.u E] A (.u E):=by go_enter func299,ntmps299;exact a01
theorem wv (c:0<=E) (d:E<18446744073709551616) (w:World):Calls prog 283 #[.u y,.u E] w λe g=>e=.returned (.u (Uz.wrap (y*2^sh E)))/\g=w.drew:=by have f:=EY E;go_enter func283,ntmps283;go_wp2_with fail;refine (JP E c d _).mono ?_;exact a0f
theorem uD (c:0<=E) (d:E<18446744073709551616) (w:World):Calls prog 284 #[.u y,.u E] w λe g=>e=.returned (.u (y/2^sh E))/\g=w.drew:=by have f:=EY E;go_enter func284,ntmps284;go_wp2_with fail;refine (JP E c d _).mono ?_;exact a0f
theorem oc (c:0<=E) (d:E<18446744073709551616) (w:World):Calls prog 285 #[.u y,.u E] w λe g=>e=.returned (.u (Uz.wrap (wrap64 y/2^sh E)))/\g=w.drew:=by have f:=EY E;go_enter func285,ntmps285;go_wp2_with fail;refine (JP E c d _).mono ?_;exact a0f
theorem sg:CE 296 #[.u y,.u E] A (.bool (y==E)):=by go_enter func296,ntmps296;exact a01
theorem jP:CE 297 #[.u y,.u E] A (.bool (decide (wrap64 y<wrap64 E))):=by go_enter func297,ntmps297;exact a01
theorem ls:CE 298 #[.u y,.u E] A (.bool (decide (y<E))):=by go_enter func298,ntmps298;exact a01
theorem xr:CE 310 #[.bool m] A (.u (Do m)):=by
 cases m;all_goals go_enter func310,ntmps310
 all_goals go_wp2_with fail
 all_goals go_ret
 all_goals exact ⟨rfl,rfl⟩
theorem JQ:CE 120 #[.bool m] A (.u (Do m)):=by
 cases m;all_goals go_enter func120,ntmps120
 all_goals go_wp2_with fail
 all_goals go_ret
 all_goals exact ⟨rfl,rfl⟩
theorem uE:CE 278 #[.u y,.u E] A (.u (Do (decide (wrap64 y<wrap64 E)))):=by go_enter func278,ntmps278;go_wp2_with fail;refine (jP y E _).mono ?_;rintro e d ⟨rfl,rfl⟩;go_wp2_with fail;refine (xr _ _).mono ?_;exact a0e
theorem yG:CE 279 #[.u y,.u E] A (.u (Do (decide (y<E)))):=by go_enter func279,ntmps279;go_wp2_with fail;refine (ls y E _).mono ?_;rintro e d ⟨rfl,rfl⟩;go_wp2_with fail;refine (xr _ _).mono ?_;exact a0e
theorem Hg (c:0<=y) (d:y<18446744073709551616) (f:0<=E) (g:E<18446744073709551616) (w:World): CE 311 #[.u y,.u E] w (.tuple #[.u (kF y E),.u (Uz.wrap (y*E))]):=by obtain ⟨D,C,B,A,t,u,v,l,m,o,p,q,r,s,a,z⟩:=uz y E c d f g;have m1:=lm y c d;have m2:=lm E f g;go_enter func311,ntmps311;go_wp2;go_ret2;exact a0g
theorem nb (c:0<=y) (d:y<18446744073709551616) (f:0<=E) (g:E<18446744073709551616) (w:World): CE 291 #[.u y,.u E] w (.u (kF y E)):=by go_enter func291,ntmps291;go_wp2_with fail;refine (Hg y E c d f g _).mono ?_;rintro e l ⟨rfl,rfl⟩;exact a01
theorem qf (c:0<=y) (d:y<18446744073709551616) (f:0<=E) (g:E<18446744073709551616) (w:World): CE 201 #[.u y,.u E] w (.u (kF y E)):=by
 obtain ⟨b,D,C,B,t,u,v,l,m,o,p,a,z,q,A,r⟩:=uz E y f g c d;have j:kF E y=kF y E:=by simp only [kF,Int.mul_comm]
 rw [Int.mul_comm] at l m o p;rw [Int.add_comm] at q;rw [j] at r;clear j;have m1:=lm y c d;have m2:=lm E f g;go_enter func201,ntmps201;exact z0
theorem jh (c:0<=y) (f:y<18446744073709551616) (g:0<=E) (j:E<18446744073709551616) (w:World): CE 290 #[.u y,.u E] w (.u (gq y E)):=by
 by_cases h:wrap64 y<0;·have F:Hid (gq y E=Uz.wrap (kF y E-E)):=(by show _=_;unfold gq;rw [if_pos h]);have d:decide (wrap64 y<0)=true:=cp;clear h;go_enter func290,ntmps290;go_wp2_with fail;refine (nb y E c f g j _).mono ?_;exact a0h
 ·have F:Hid (gq y E=kF y E):=(by show _=_;unfold gq;rw [if_neg h]);have d:decide (wrap64 y<0)=false:=cp;clear h;go_enter func290,ntmps290;go_wp2_with fail;refine (nb y E c f g j _).mono ?_;exact a0h
theorem uF (c:0<=y) (f:y<18446744073709551616) (g:0<=E) (j:E<18446744073709551616) (w:World): CE 289 #[.u y,.u E] w (.u (mj y E)):=by
 by_cases h:wrap64 E<0;·have F:Hid (mj y E=Uz.wrap (gq y E-y)):=(by show _=_;unfold mj;rw [if_pos h]);have d:decide (wrap64 E<0)=true:=cp;clear h;go_enter func289,ntmps289;go_wp2_with fail;refine (jh y E c f g j _).mono ?_;exact a0h
 ·have F:Hid (mj y E=gq y E):=(by show _=_;unfold mj;rw [if_neg h]);have d:decide (wrap64 E<0)=false:=cp;clear h;go_enter func289,ntmps289;go_wp2_with fail;refine (jh y E c f g j _).mono ?_;exact a0h
theorem pJ (c:0<=E) (f:E<18446744073709551616) (w:World): CE 292 #[.u y,.u E] w (.u (AF.div.v y E)):=by
 by_cases h:E=0;·have F:Hid (AF.div.v y E=18446744073709551615):=dn;have d:(E==0)=true:=cp;clear h;go_enter func292,ntmps292;exact a09
 ·have F:Hid (AF.div.v y E=Uz.wrap (wrap64 ((wrap64 y).tdiv (wrap64 E)))):=dn;have d:(E==0)=false:=cp;have j:¬ wrap64 E=0:=(by rw [fl c f];exact h);clear h;go_enter func292,ntmps292;exact a09
theorem uG (c:0<=E) (f:E<18446744073709551616) (w:World): CE 294 #[.u y,.u E] w (.u (AF.rem.v y E)):=by
 by_cases h:E=0;·have F:Hid (AF.rem.v y E=y):=dn;have d:(E==0)=true:=cp;clear h;go_enter func294,ntmps294;exact a09
 ·have F:Hid (AF.rem.v y E=Uz.wrap ((wrap64 y).tmod (wrap64 E))):=dn;have d:(E==0)=false:=cp;have j:¬ wrap64 E=0:=(by rw [fl c f];exact h);clear h;go_enter func294,ntmps294;exact a09
theorem rl: CE 293 #[.u y,.u E] A (.u (AF.divu.v y E)):=by
 by_cases h:E=0;·have F:Hid (AF.divu.v y E=18446744073709551615):=dn;have d:(E==0)=true:=cp;clear h;go_enter func293,ntmps293;exact a09
 ·have F:Hid (AF.divu.v y E=Uz.wrap (y.tdiv E)):=dn;have d:(E==0)=false:=cp;go_enter func293,ntmps293;exact a09
theorem yH: CE 295 #[.u y,.u E] A (.u (AF.remu.v y E)):=by
 by_cases h:E=0;·have F:Hid (AF.remu.v y E=y):=dn;have d:(E==0)=true:=cp;clear h;go_enter func295,ntmps295;exact a09
 ·have F:Hid (AF.remu.v y E=y.tmod E):=dn;have d:(E==0)=false:=cp;go_enter func295,ntmps295;exact a09
def MG (op:Int):Bool:=decide (5<=op/\op<=10)
def I9 (op a b:Int):Bool :=
 if op=5 then (a==b) else if op=6 then !(a==b) else if op=7 then decide (wrap64 a<wrap64 b) else if op=8 then !decide (wrap64 a<wrap64 b)
 else if op=9 then decide (a<b) else if op=10 then !decide (a<b) else false
theorem AX (h:MG D=true):D=5\/D=6\/D=7\/D=8\/D=9\/D=10:=by
 have:5<=D/\D<=10:=by simpa [MG] using h
 omega
theorem Nd (h:MG D=false) (a b:Int):I9 D a b=false:=by
 have:¬ (5<=D/\D<=10):=by simpa [MG] using h
 unfold I9;rw [if_neg ab,if_neg ab,if_neg ab,if_neg ab,if_neg ab,if_neg ab]
theorem ky:(prog.info? 301).map (·.size)=some 3:=by kernel_rfl
theorem od:(#[Value.func (.func 296) #[] #[],.func (.func 297) #[] #[],.func (.func 298) #[] #[]]:Array Value).all (·.oneCell')=true:=by kernel_rfl
theorem uH:CB 262 #[] A (.agg #[.func (.func 296) #[] #[],.func (.func 297) #[] #[],.func (.func 298) #[] #[]]):=by have b:(A.alloc (.cells #[.nilFunc,.nilFunc,.nilFunc] 301)).heap[A.heap.size]?=some (.cells #[.nilFunc,.nilFunc,.nilFunc] 301 (0,0)):=heap_alloc_new _ _;go_enter func262,ntmps262;go_wp2_with (refine wpList_store_rowTo rfl 301 (.tmp 0) (.tmp 4) rfl rfl A.heap.size #[.func (.func 296) #[] #[],.func (.func 297) #[] #[],.func (.func 298) #[] #[]] rfl rfl 301 _ b ky rfl od ?_);refine bodyPost_ret (results_cell_row results262 _ _ _ _ _ _ _ rfl (setRow_heap _ _ _ _ _ _ b) underlying301 rfl ky) rfl ⟨rfl,?_⟩;exact aF (bal _ _) (Nat.le_refl _) _
theorem kz (b:Int) (h:MG y=true) (w:World): CB 229 #[.i y,.u E,.u b] w (.tuple #[.bool (I9 y E b),.bool true]):=by
 have G:=sg E b
 have H:=jP E b
 have I:=ls E b
 obtain ⟨p,s⟩:∃ c,c=(E==b):=⟨_,rfl⟩
 obtain ⟨q,t⟩:∃ c,c=decide (wrap64 E<wrap64 b):=⟨_,rfl⟩
 obtain ⟨r,u⟩:∃ c,c=decide (E<b):=⟨_,rfl⟩
 have F:Hid (∀ y,I9 y E b=if y=5 then p else if y=6 then !p else if y=7 then q else if y=8 then !q else if y=9 then r else if y=10 then !r else false):=by
  intro y;rw [s,t,u];rfl
 have B:Hid (∀ w:World,CE 296 #[.u E,.u b] w (.bool p)):=by rw [s];exact sg E b
 have C:Hid (∀ w:World,CE 297 #[.u E,.u b] w (.bool q)):=by rw [t];exact jP E b
 have D:Hid (∀ w:World,CE 298 #[.u E,.u b] w (.bool r)):=by rw [u];exact ls E b
 clear s t u G H I
 rcases AX h with rfl|rfl|rfl|rfl|rfl|rfl
 all_goals
  go_enter func229,ntmps229
  go_wp2_with fail
  refine (uH _).mono ?_
  rintro e f ⟨rfl,op⟩
  have z:(f.alloc (.cells #[.nilFunc,.nilFunc,.nilFunc] 301)).heap[f.heap.size]?=some (.cells #[.nilFunc,.nilFunc,.nilFunc] 301 (0,0)):=heap_alloc_new _ _
  obtain ⟨j,g⟩:∃ j,j=(f.alloc (.cells #[.nilFunc,.nilFunc,.nilFunc] 301)).setRow f.heap.size #[.func (.func 296) #[] #[],.func (.func 297) #[] #[],.func (.func 298) #[] #[]]:=⟨_,rfl⟩
  have m:j.heap[f.heap.size]?=some (.cells #[.func (.func 296) #[] #[],.func (.func 297) #[] #[],.func (.func 298) #[] #[]] 301 (0,0)):=by rw [g];exact setRow_heap _ _ _ _ _ _ z
  have J:j.cell? ⟨f.heap.size,0,none⟩=some (.func (.func 296) #[] #[]):=cell_of_row _ _ _ _ _ _ m
  have K:j.cell? ⟨f.heap.size,1,none⟩=some (.func (.func 297) #[] #[]):=cell_of_row _ _ _ _ _ _ m
  have L:j.cell? ⟨f.heap.size,2,none⟩=some (.func (.func 298) #[] #[]):=cell_of_row _ _ _ _ _ _ m
  have a:Hid (Bw w j):=by rw [g];exact aF (op.alloc op.size _) op.size _
  have o:Hid (j=(f.alloc (.cells #[.nilFunc,.nilFunc,.nilFunc] 301)).setRow f.heap.size #[.func (.func 296) #[] #[],.func (.func 297) #[] #[],.func (.func 298) #[] #[]]):=g
  clear g m
  go_wp2_with (first
   | (refine wpList_store_rowTo rfl 301 (.tmp 8) (.tmp 12) rfl rfl f.heap.size #[.func (.func 296) #[] #[],.func (.func 297) #[] #[],.func (.func 298) #[] #[]] rfl rfl 301 _ z ky rfl od ?_;rw [<- o.out])
   | (go_at_call 296;with_reducible refine (B.out _).mono ?_;rintro e A ⟨rfl,d⟩;subst d)
   | (go_at_call 297;with_reducible refine (C.out _).mono ?_;rintro e A ⟨rfl,d⟩;subst d)
   | (go_at_call 298;with_reducible refine (D.out _).mono ?_;rintro e A ⟨rfl,d⟩;subst d))
  go_ret2
  exact ⟨a7,a.out⟩
theorem xt:decide (E<=y)=!decide (y<E):=by
 by_cases h:y<E;·simp [h]
 ·simp [h];omega
theorem uI (b:Int) (w:World): CE 143 #[.i y,.u E,.u b] w (.tuple #[.bool (I9 y E b),.bool (MG y)]):=by
 cases h:MG y with
 | false =>rw [Nd h];have s:¬ (5<=y/\y<=10):=(by simpa [MG] using h);have u:(y==5)=false:=a8;have op:(y==6)=false:=a8;have z:(y==7)=false:=a8;have A:(y==8)=false:=a8;have B:(y==9)=false:=a8;have o:(y==10)=false:=a8;clear h s;go_enter func143,ntmps143;go_wp2_with fail;go_ret2;exact a0g
 | true =>
   have p:=xt (wrap64 E) (wrap64 b);have q:=xt E b;have r:(E != b)=!(E==b):=rfl;obtain ⟨j,d⟩:∃ c,c=(E==b):=⟨_,rfl⟩;obtain ⟨l,f⟩:∃ c,c=decide (wrap64 E<wrap64 b):=⟨_,rfl⟩;obtain ⟨m,g⟩:∃ c,c=decide (E<b):=⟨_,rfl⟩;have F:Hid (∀ y,I9 y E b=if y=5 then j else if y=6 then !j else if y=7 then l else if y=8 then !l else if y=9 then m else if y=10 then !m else false):=(by intro y;rw [d,f,g];rfl);rw [<- d] at r;rw [<- f] at p;rw [<- g] at q;have C:=d.symm;have D:=f.symm;have a:=g.symm;clear d f g;rcases AX h with rfl|rfl|rfl|rfl|rfl|rfl;all_goals
    go_enter func143,ntmps143
    go_wp2_with fail
    go_ret2
    exact ⟨a7,rfl⟩
end Go.Proofs.YtfagphfjfhpmjaaGreatDoor
