/- Own lemmas. -/
import Derived.Test.YtjifdmoehfbihaaGreatDoorAut
import Derived.Test.YtjifdmoehfbihaaGreatDoorK08
import Derived.BigQuiet
set_option maxRecDepth 100000
set_option maxHeartbeats 3200000
namespace Go.Proofs.YtjifdmoehfbihaaGreatDoor
open Go.RowKit Tryz
open IntKind renaming u64->Uz
set_option linter.unusedVariables false
theorem DM (D:DV) (x:Int):fy D x 0=(⟨D.t,D.cm,bits .and .u64 x 1==1,D.xs,D.ys,D.ir⟩,true):=by rw [fy]
theorem DN (D:DV) (x:Int):fy D x 1=(⟨D.t,x,D.so,D.xs,D.ys,D.ir⟩,true):=by rw [fy]
theorem DO (D:DV) (x:Int):fy D x 2=(⟨x,D.cm,D.so,D.xs,D.ys,D.ir⟩,true):=by rw [fy]
theorem xv (D:DV) (x:Int) (h:D.ys.length<4096):fy D x 3=(⟨D.t,D.cm,D.so,D.xs,D.ys++[IntKind.u8.wrap x],D.ir⟩,true):=by rw [fy,if_pos h]
theorem xw (D:DV) (x:Int) (h:¬ D.ys.length<4096):fy D x 3=(D,true):=by rw [fy,if_neg h]
theorem DP (D:DV) (x:Int):fy D x 4=(⟨D.t,D.cm,D.so,D.xs,D.ys,wrap64 (bits .and .u64 x 1)⟩,true):=by rw [fy]
theorem DQ (D:DV) (x:Int):fy D x 5=(D,true):=by rw [fy]
theorem DR (D:DV) (x:Int):fy D x 6=(zeroD,false):=by rw [fy]<;>omega
theorem rg (t cm:Int) (p:Bool) (q:Option Addr) (f s:Nat) (r:Option Addr) (z u:Nat) (d:Int) (w:World) (c:f<=1048576):CB 61 #[.agg #[.u t,.u cm,.bool p,.slice q f s,.slice r z u,.i d]] w (.u (Uz.wrap (Uz.wrap (Uz.wrap (8*fd p)+Uz.wrap (128*fd (decide (cm<=t))))+Uz.wrap (2048*fd ((d==1)&&decide (0<f)))))):=by
 have j:Hid (∀ (b:Bool) w,Calls prog 104 #[.bool b] w λe g=>e=.returned (.u (fd b))/\∃ m,g=w.drewN m):=λb w=>(tf b w).mono λ_ _ h=>⟨h.1,0,h.2⟩;have l:∀ o m,Bw w ((w.alloc o).drewN m):=λo m=>⟨rfl,rfl,rfl,bc,λk y=>Below.heap_alloc w o k y⟩;clear c;cases A:(d==1) with
 | true =>
   go_enter func61,ntmps61;go_wp2_with fail;go_quiet (first | (go_at_call 104;with_reducible refine Calls.quiet_of (j.out _ _)))
   go_wp2_with fail;go_ret;exact ⟨rfl,l _ _⟩
 | false =>
   go_enter func61,ntmps61;go_wp2_with fail;go_quiet (first | (go_at_call 104;with_reducible refine Calls.quiet_of (j.out _ _)))
   go_wp2_with fail;go_ret;exact ⟨rfl,l _ _⟩
theorem kv (a:Option Addr) (cap:Nat) (l:List Int) (i:Nat) (o:i<4) (w:World) (hz:l.length=22) (hs:Sl .u64 w a l):CE 180 #[.slice a 22 cap,.i i] w (.u (de l i)):=by
 obtain ⟨b,f,rfl,j,m⟩:=hs 16 al;have p:wrap64 (8*(i:Int))=((8*i:Nat):Int):=by unfold wrap64;omega
 have c:Uz.wrap ((8*i:Nat):Int)=((8*i:Nat):Int):=by rw [IntKind.wrap_u64];omega
 have d:8*i<64:=al
 have F:Hid (de l i=bits .and .u64 (l.getD 16 0/2^(8*i)) 255):=(rfl:de l i=_);generalize l.getD 16 0=x at *;go_enter func180,ntmps180;exact a0a
theorem j6 (a:Option Addr) (cap:Nat) (l:List Int) (i:Nat) (u:i<4) (w:World) (hz:l.length=22) (hs:Sl .u64 w a l):CE 184 #[.slice a 22 cap,.i i] w (.bool (eR l i)):=by
 have p:Hid (CE 180 #[.slice a 22 cap,.i i] w (.u (de l i))):=kv a cap l i u w hz hs;have d:eR l i=((de l i/128==1)||(decide (i<3)&&(de l (i+1)/128==1)&&(bits .and .u64 (de l (i+1)/8) 3==1))):=rfl;cases r:(de l i/128==1) with
 | true =>have F:Hid (eR l i=true):=(by show _=_;rw [d,r];rfl);clear d;generalize de l i=y at *;go_enter func184,ntmps184;go_wp2_with fail;refine p.out.mono ?_;rintro e o ⟨rfl,b⟩;exact a0d
 | false =>
   rw [r,Bool.false_or] at d;by_cases g:i<3
   ·have q:decide (i<3)=true:=x9;have s:decide ((i:Int)<3)=true:=a7;rw [q,Bool.true_and] at d;have A:wrap64 ((i:Int)+1)=((i+1:Nat):Int):=la;have f:Hid (CE 180 #[.slice a 22 cap,.i ((i+1:Nat):Int)] w (.u (de l (i+1)))):=kv a cap l (i+1) al w hz hs;clear hs;generalize de l i=y at *;generalize de l (i+1)=z at *;cases j:(z/128==1) with
    | true =>obtain ⟨c,t⟩:∃ c,(bits .and .u64 (z/8) 3==1)=c:=⟨_,rfl⟩;have F:Hid (eR l i=c):=(by show _=_;rw [d,j,t,Bool.true_and]);clear d;go_enter func184,ntmps184;go_wp2_with fail;refine p.out.mono ?_;rintro e o ⟨rfl,b⟩;subst b;go_wp2_with (go_at_call 180;refine f.out.mono ?_;rintro e o ⟨rfl,b⟩;subst b);go_ret;exact ⟨a6,rfl⟩
    | false =>have F:Hid (eR l i=false):=(by show _=_;rw [d,j,Bool.false_and]);clear d;go_enter func184,ntmps184;go_wp2_with fail;refine p.out.mono ?_;rintro e o ⟨rfl,b⟩;subst b;go_wp2_with (go_at_call 180;refine f.out.mono ?_;rintro e o ⟨rfl,b⟩;subst b);go_ret;exact ⟨a6,rfl⟩
   ·have q:decide (i<3)=false:=x9;have s:decide ((i:Int)<3)=false:=a7;have F:Hid (eR l i=false):=(by show _=_;rw [d,q];rfl);clear d q;generalize de l i=y at *;go_enter func184,ntmps184;go_wp2_with fail;refine p.out.mono ?_;rintro e o ⟨rfl,b⟩;exact a0d
def iD (l:List Int) (i:Nat):Int:=bits .and .u64 (de l i/8) 3
def ey (a:Int):Nat->Nat->Nat
 | 0,k=>k
 | n+1,k=>if (bits .and .u64 (a/2^k) 1==1)=true then ey a n (k+1) else k
theorem In (a:Int) (k:Nat) (hk:k<53) (h:(bits .and .u64 (a/2^k) 1==1)=true):ey a (53-k) k=ey a (53-(k+1)) (k+1):=by rw [show 53-k=(53-(k+1))+1 from al,ey,if_pos h]
theorem BP (a:Int) (k:Nat) (hk:k<53) (h:(bits .and .u64 (a/2^k) 1==1)=false):ey a (53-k) k=k:=by rw [show 53-k=(53-(k+1))+1 from al,ey,if_neg (by rw [h];decide)]
def rh (a:Int) (k:Nat):Int:=Uz.wrap (bits .andNot .u64 a (Uz.wrap (Uz.wrap (2^(k+1))-1))*4)
def vO (a:Int) (k:Nat):Int:=Uz.wrap (Uz.wrap (rh a k+Uz.wrap (2^(k+3)))-1)
def j7 (l:List Int) (i:Nat):Int:=if 0<i then Uz.wrap (l.getD (16+i) 0*4) else 0
def cG (l:List Int) (i:Nat):Int × Int × Bool :=
 if (iD l i==1)=true then (if Uz.wrap (l.getD (17+i) 0*4)<=j7 l i then (0,0,false) else (j7 l i,Uz.wrap (Uz.wrap (l.getD (17+i) 0*4)-1),true))
 else if (iD l i==2)=true then (Uz.wrap (l.getD (17+i) 0*4),Uz.wrap (Uz.wrap (l.getD (17+i) 0*4)+3),true)
 else if (iD l i==3)=true then (rh (l.getD (17+i) 0) (ey (l.getD (17+i) 0) 53 0),vO (l.getD (17+i) 0) (ey (l.getD (17+i) 0) 53 0),true)
 else (0,0,false)
theorem xx (a:Option Addr) (cap:Nat) (l:List Int) (i:Nat) (Y:i<4) (w:World) (hz:l.length=22) (hs:Sl .u64 w a l):CE 179 #[.slice a 22 cap,.i i] w (.tuple #[.u (cG l i).1,.u (cG l i).2.1,.bool (cG l i).2.2]):=by
 obtain ⟨b,I,rfl,hb,Q⟩:=hs (17+i) al;obtain ⟨b',R,K,_,P⟩:=hs (16+i) al;simp only [Option.some.injEq,Addr.mk.injEq,and_true] at K;obtain ⟨rfl,rfl⟩:=K;have u:Hid (CE 180 #[.slice (some ⟨b,I,none⟩) 22 cap,.i i] w (.u (de l i))):=kv _ cap l i Y w hz hs;have Z:bits .and .u64 (de l i/8) 3=iD l i:=rfl;have c:cG l i=if (iD l i==1)=true then (if Uz.wrap (l.getD (17+i) 0*4)<=j7 l i then (0,0,false) else (j7 l i,Uz.wrap (Uz.wrap (l.getD (17+i) 0*4)-1),true))
  else if (iD l i==2)=true then (Uz.wrap (l.getD (17+i) 0*4),Uz.wrap (Uz.wrap (l.getD (17+i) 0*4)+3),true)
  else if (iD l i==3)=true then (rh (l.getD (17+i) 0) (ey (l.getD (17+i) 0) 53 0),vO (l.getD (17+i) 0) (ey (l.getD (17+i) 0) 53 0),true)
  else (0,0,false):=rfl
 have m:j7 l i=if 0<i then Uz.wrap (l.getD (16+i) 0*4) else 0:=rfl
 have X:wrap64 (17+(i:Int))=((17+i:Nat):Int):=by unfold wrap64;omega
 have W:wrap64 (16+(i:Int))=((16+i:Nat):Int):=by unfold wrap64;omega
 have T:0<=((17+i:Nat):Int)/\((17+i:Nat):Int)<((22:Nat):Int):=al
 have S:0<=((16+i:Nat):Int)/\((16+i:Nat):Int)<((22:Nat):Int):=al
 generalize cG l i=r at *;generalize iD l i=H at *;generalize de l i=cf at *;generalize j7 l i=L at *;generalize l.getD (17+i) 0=x at *;generalize l.getD (16+i) 0=y at *;clear hs;cases M:(H==1) with
 | true =>
   rw [if_pos M] at c;have D:(decide (0<i)=true/\L=Uz.wrap (y*4))\/(decide (0<i)=false/\L=0):=by
    by_cases p:0<i;·rw [if_pos p] at m;exact Or.inl ⟨by simpa using p,m⟩
    ·rw [if_neg p] at m;exact Or.inr ⟨by simpa using p,m⟩
   obtain ⟨t,ht⟩:∃ t,Uz.wrap (x*4)=t:=⟨_,rfl⟩;rw [ht] at c;clear m;rcases D with ⟨D,o⟩|⟨D,o⟩
   ·rw [o] at c;obtain ⟨C,G⟩:∃ t,Uz.wrap (y*4)=t:=⟨_,rfl⟩;rw [G] at c;clear o;by_cases f:t<=C;·have d:decide (t<=C)=true:=et;rw [if_pos f] at c;have F:Hid (r=(0,0,false)):=c;clear c f;go_enter func179,ntmps179;go_wp2_with fail;refine u.out.mono ?_;rintro e z ⟨rfl,g⟩;have j:=g.symm;subst j;go_wp2_with fail;go_ret3;exact ⟨a6,rfl⟩
    ·have d:decide (t<=C)=false:=et;rw [if_neg f] at c;have F:Hid (r=(C,Uz.wrap (t-1),true)):=c;clear c f;go_enter func179,ntmps179;go_wp2_with fail;refine u.out.mono ?_;rintro e z ⟨rfl,g⟩;have j:=g.symm;subst j;go_wp2_with fail;go_ret3;exact ⟨a6,rfl⟩
   ·subst o;by_cases f:t<=0;·have d:decide (t<=0)=true:=et;rw [if_pos f] at c;have F:Hid (r=(0,0,false)):=c;clear c f;go_enter func179,ntmps179;go_wp2_with fail;refine u.out.mono ?_;rintro e z ⟨rfl,g⟩;have j:=g.symm;subst j;go_wp2_with fail;go_ret3;exact ⟨a6,rfl⟩
    ·have d:decide (t<=0)=false:=et;rw [if_neg f] at c;have F:Hid (r=(0,Uz.wrap (t-1),true)):=c;clear c f;go_enter func179,ntmps179;go_wp2_with fail;refine u.out.mono ?_;rintro e z ⟨rfl,g⟩;have j:=g.symm;subst j;go_wp2_with fail;go_ret3;exact ⟨a6,rfl⟩
 | false =>
   rw [if_neg (by rw [M];decide)] at c;cases N:(H==2) with
   | true =>rw [if_pos N] at c;have F:Hid (r=(Uz.wrap (x*4),Uz.wrap (Uz.wrap (x*4)+3),true)):=c;clear c m;go_enter func179,ntmps179;go_wp2_with fail;refine u.out.mono ?_;rintro e z ⟨rfl,g⟩;have j:=g.symm;subst j;go_wp2_with fail;go_ret3;exact ⟨a6,rfl⟩
   | false =>
     rw [if_neg (by rw [N];decide)] at c;cases O:(H==3) with
     | true =>
       rw [if_pos O] at c;have F:Hid (r=(rh x (ey x 53 0),vO x (ey x 53 0),true)):=c;clear c m;go_enter func179,ntmps179;go_wp2_with fail;refine u.out.mono ?_;rintro e z ⟨rfl,g⟩;have j:=g.symm;subst j;go_wp2_with fail;go_loopw [9] (λv wr=>∃ k:Nat,k<=53/\v=.u k/\Hid (ey x (53-k) k=ey x 53 0)/\wr=w)
        (λv _=>53-(intOf v).toNat)
       case atStart=>exact ⟨0,al,rfl,(rfl:ey x (53-0) 0=ey x 53 0),rfl⟩
       case round =>
        obtain ⟨k,hk,rfl,E,rfl⟩:=hrel;have fin:Hid (ey x 53 0=k)->Hid (r=(rh x k,vO x k,true)):=λh=>by show r=_;rw [F.out,h.out]
        have U:((k:Int)+1)=((k+1:Nat):Int):=al;have u1:Uz.wrap ((k:Int)+1)=((k+1:Nat):Int):=bv;have u3:Uz.wrap ((k:Int)+3)=((k+3:Nat):Int):=bv;clear U;by_cases B:k<53
        ·have V:decide ((k:Int)<53)=true:=a7;cases q:(bits .and .u64 (x/2^k) 1==1) with
         | true =>
           have A:Hid (ey x (53-(k+1)) (k+1)=ey x 53 0):=(In x k B q).symm.trans E.out;clear fin u1 u3;go_wp2_with fail;go_roundw;case rel=>exact ⟨k+1,al,by go_num,A,trivial⟩
           case measure=>simp [intOf];omega
         | false =>have A:=fin (E.out.symm.trans (BP x k B q));clear fin;go_wp2_with fail;go_ret3;exact ⟨by rw [A.out];rfl,rfl⟩
        ·have s:k=53:=al;have A:=fin (E.out.symm.trans (by rw [s];rfl));have V:decide ((k:Int)<53)=false:=a7;clear fin s;go_wp2_with fail;go_ret3;exact ⟨by rw [A.out];rfl,rfl⟩
     | false =>rw [if_neg (by rw [O];decide)] at c;have F:Hid (r=(0,0,false)):=c;clear c m;go_enter func179,ntmps179;go_wp2_with fail;refine u.out.mono ?_;rintro e z ⟨rfl,g⟩;have j:=g.symm;subst j;go_wp2_with fail;go_ret3;exact ⟨a6,rfl⟩
def Pm (r:Int × Int × Bool) (x:Int):Bool:=r.2.2&&decide (r.1<=x)&&decide (x<=r.2.1)
def tj (l:List Int) (x:Int):Nat->Nat->Bool
 | 0,_=>false
 | n+1,k=>if Pm (cG l k) x=true then ((de l k/128==1)&&(bits .and .u64 (de l k/2) 1==0)) else tj l x n (k+1)
theorem Lg (l:List Int) (x:Int) (k:Nat) (hk:k<4) (h:Pm (cG l k) x=true):tj l x (4-k) k=((de l k/128==1)&&(bits .and .u64 (de l k/2) 1==0)):=by rw [show 4-k=(4-(k+1))+1 from al,tj,if_pos h]
def aM (x s:Int):Int:=Uz.wrap (Uz.wrap (x+Uz.wrap s)-1)
def pg (r:Int × Int × Bool) (x y:Int):Bool:=!r.2.2||decide (y<r.1)||decide (r.2.1<x)
def Lh (r:Int × Int × Bool) (x y:Int):Bool:=decide (x<r.1)||decide (r.2.1<y)
def u7 (b p kind:Int):Bool :=
 if ((p==3)&&(b/128==0))=true then true else if (kind==1)=true then (bits .and .u64 (b/4) 1==1) else if (kind==2)=true then (bits .and .u64 b 1==1) else (bits .and .u64 (b/2) 1==1)
def ay (l:List Int) (p x y kind:Int):Nat->Nat->Bool
 | 0,_=>(p==3)
 | n+1,k=>if pg (cG l k) x y=true then ay l p x y kind n (k+1) else !Lh (cG l k) x y&&u7 (de l k) p kind
theorem Fv (l:List Int) (p x y kind:Int) (k:Nat) (hk:k<4) (h:pg (cG l k) x y=true):ay l p x y kind (4-k) k=ay l p x y kind (4-(k+1)) (k+1):=by rw [show 4-k=(4-(k+1))+1 from al,ay,if_pos h]
theorem Io (l:List Int) (p x y kind:Int) (k:Nat) (hk:k<4) (h:pg (cG l k) x y=false):ay l p x y kind (4-k) k=(!Lh (cG l k) x y&&u7 (de l k) p kind):=by rw [show 4-k=(4-(k+1))+1 from al,ay,if_neg (by rw [h];decide)]
theorem ls (a:Option Addr) (cap:Nat) (l:List Int) (p x s kind:Int) (w:World) (hz:l.length=22) (hs:Sl .u64 w a l):CE 115 #[.slice a 22 cap,.i p,.u x,.i s,.i kind] w (.bool (ay l p x (aM x s) kind 4 0)):=by
 have M:Uz.wrap (Uz.wrap (x+Uz.wrap s)-1)=aM x s:=rfl;generalize aM x s=y at *;have O:Hid (Sl .u64 w a l):=hs;have P:Hid (l.length=22):=hz;have V:Hid (True/\ay l p x y kind 4 0=ay l p x y kind 4 0):=⟨trivial,rfl⟩;clear hs hz V;go_enter func115,ntmps115;go_wp2_with fail;go_loopw [12] (λv wr=>∃ k:Nat,k<=4/\v=.i k/\Hid (ay l p x y kind (4-k) k=ay l p x y kind 4 0)/\wr=w)
  (λv _=>4-(intOf v).toNat)
 case atStart=>exact ⟨0,al,rfl,(rfl:ay l p x y kind (4-0) 0=ay l p x y kind 4 0),rfl⟩
 case round =>
  obtain ⟨k,hk,rfl,K,rfl⟩:=hrel;clear M;by_cases m:k<4
  ·have dk:decide ((k:Int)<4)=true:=a7;have HR:Hid (CE 179 #[.slice a 22 cap,.i k] wr (.tuple #[.u (cG l k).1,.u (cG l k).2.1,.bool (cG l k).2.2])):=xx a cap l k m wr P.out O.out;have W:Hid (CE 180 #[.slice a 22 cap,.i k] wr (.u (de l k))):=kv a cap l k m wr P.out O.out;have d:pg (cG l k) x y=false->Hid (ay l p x y kind 4 0=(!Lh (cG l k) x y&&u7 (de l k) p kind)):=λh=>K.out.symm.trans (Io l p x y kind k m h);have b:pg (cG l k) x y=true->Hid (ay l p x y kind (4-(k+1)) (k+1)=ay l p x y kind 4 0):=λh=>(Fv l p x y kind k m h).symm.trans K.out;generalize cG l k=r at *;generalize de l k=c at *;obtain ⟨B,C,H⟩:=r;simp only at HR;have S:pg (B,C,H) x y=(!H||decide (y<B)||decide (C<x)):=rfl;have T:Lh (B,C,H) x y=(decide (x<B)||decide (C<y)):=rfl;rw [S] at d b;rw [T] at d;clear S T;go_wp2_with fail;refine HR.out.mono ?_;rintro e w1 ⟨rfl,u⟩;have z:=u.symm;subst z;cases H with
   | false =>
     have g:=b (rfl);clear d b;go_wp2_with fail;go_roundw;case rel=>exact ⟨k+1,al,by go_num,g,trivial⟩
     case measure=>simp [intOf];omega
   | true =>
     cases I:decide (y<B) with
     | true =>
       have g:=b (by rw [I];rfl);clear d b;go_wp2_with fail;go_roundw;case rel=>exact ⟨k+1,al,by go_num,g,trivial⟩
       case measure=>simp [intOf];omega
     | false =>
       cases Q:decide (C<x) with
       | true =>
         have g:=b (by rw [I,Q];rfl);clear d b;go_wp2_with fail;go_roundw;case rel=>exact ⟨k+1,al,by go_num,g,trivial⟩
         case measure=>simp [intOf];omega
       | false =>
         have g:=d (by rw [I,Q];rfl);clear d b;cases J:decide (x<B) with
         | true =>go_wp2_with fail;go_ret;exact ⟨by rw [g.out,J];rfl,rfl⟩
         | false =>
           cases R:decide (C<y) with
           | true =>go_wp2_with fail;go_ret;exact ⟨by rw [g.out,J,R];rfl,rfl⟩
           | false =>
             have G:Hid (ay l p x y kind 4 0=u7 c p kind):=(by show _=_;rw [g.out,J,R];rfl);clear g;have D:u7 c p kind=if ((p==3)&&(c/128==0))=true then true else if (kind==1)=true then (bits .and .u64 (c/4) 1==1) else if (kind==2)=true then (bits .and .u64 c 1==1) else (bits .and .u64 (c/2) 1==1):=rfl
             go_wp2_with fail;refine W.out.mono ?_;rintro e w1 ⟨rfl,u⟩;have z:=u.symm;subst z;have f:((p==3)=true/\(c/128==0)=true)\/((p==3)=true/\(c/128==0)=false)\/(p==3)=false:=(by cases (p==3)<;>cases (c/128==0)<;>simp);generalize u7 c p kind=E at *;rcases f with ⟨j,A⟩|f;·have o:Hid (E=true):=(by show _=_;rw [D,j,A];rfl);clear D;go_wp2_with fail;go_ret;exact ⟨by rw [G.out,o.out];rfl,rfl⟩
             ·have t:E=if (kind==1)=true then (bits .and .u64 (c/4) 1==1) else if (kind==2)=true then (bits .and .u64 c 1==1) else (bits .and .u64 (c/2) 1==1):=by
               rcases f with ⟨j,A⟩|j;·rw [D,j,A];rfl
               ·rw [D,j];rfl
              clear D;obtain ⟨X,e1⟩:∃ q,(bits .and .u64 (c/4) 1==1)=q:=⟨_,rfl⟩;obtain ⟨Y,e2⟩:∃ q,(bits .and .u64 c 1==1)=q:=⟨_,rfl⟩;obtain ⟨Z,e3⟩:∃ q,(bits .and .u64 (c/2) 1==1)=q:=⟨_,rfl⟩;rw [e1,e2,e3] at t;cases N:(kind==1) with
              | true =>
                have o:Hid (E=X):=(by show _=_;rw [t,N];rfl);clear t;rcases f with ⟨j,A⟩|j;all_goals
                 go_wp2_with fail
                 go_ret
                 exact ⟨by rw [G.out,o.out];rfl,rfl⟩
              | false =>
                cases U:(kind==2) with
                | true =>
                  have o:Hid (E=Y):=(by show _=_;rw [t,N,U];rfl);clear t;rcases f with ⟨j,A⟩|j;all_goals
                   go_wp2_with fail
                   go_ret
                   exact ⟨by rw [G.out,o.out];rfl,rfl⟩
                | false =>
                  have o:Hid (E=Z):=(by show _=_;rw [t,N,U];rfl);clear t;rcases f with ⟨j,A⟩|j;all_goals
                   go_wp2_with fail
                   go_ret
                   exact ⟨by rw [G.out,o.out];rfl,rfl⟩
  ·have L:k=4:=al;subst L;obtain ⟨q,hq⟩:∃ q,(p==3)=q:=⟨_,rfl⟩;have g:Hid (ay l p x y kind 4 0=q):=K.out.symm.trans hq;go_wp2_with fail;go_ret;exact ⟨d8,rfl⟩
def rj (n:Nat) (l:List Int) (p x s kind:Int):Bool:=aQ n l p&&ic s&&decide (1<=kind/\kind<=3)&&!decide (aM x s<x)&&ay l p x (aM x s) kind 4 0
theorem Fw (t cm:Int) (A:Bool) (g f:Nat) (b s:Nat) (l:Option Addr) (j m:Nat) (u:Int) (xs ys:List Int) (B E:Nat) (w:World) (hx:xs.length=b) (hy:ys.length=j) (hn0:1<=b) (hn1:b<=16) (hc1:b<=s) (hc2:s<=9223372036854775807) (I:B<=E) (J:E<=w.heap.size) (X:bp B E w (iB (some ⟨g,f,none⟩) b s xs l j m ys)) (hw:0<=xs.getD 0 0/\xs.getD 0 0<=255):Calls prog 120 #[.agg #[.u t,.u cm,.bool A,.slice (some ⟨g,f,none⟩) b s,.slice l j m,.i u],.u 268435456,.i 1] w λe G=>∃ (c:Option Addr) (d:Nat),e=.returned (.tuple #[.u (xs.getD 0 0),.agg #[.u t,.u cm,.bool A,.slice c (b-1) d,.slice l j m,.i u],.bool true])/\G.ownsRow w.heap.size 5 1 (.slice c (b-1) d) (b-1) ((xs.drop 1).map (Value.int .u8))/\Bw w G:=by
 have hs:=X.in_;obtain ⟨b',off',e,Y,hc⟩:=hs 0 al;simp only [Option.some.injEq,Addr.mk.injEq,and_true] at e;obtain ⟨rfl,rfl⟩:=e;have C:∀ D F,Bw w ((w.alloc D).alloc F):=λD F=>dP;have k0:∀ D F,((w.alloc D).alloc F).cell? ⟨g,f,none⟩=some (.int .u8 (xs.getD 0 0)):=λD F=>((C D F).cell (by exact Y)).trans hc;have t0:((b:Int)==0)=false:=by simp;omega
 have i0:(0:Int)<(b:Int):=al
 have i1:(1:Int)<=(b:Int):=al
 have HS:Hid (∀ G,Bw w G->Sl .u8 G (some ⟨g,f+1,none⟩) (xs.drop 1)):=λG hb=>(hs.below hb).next
 have O:Hid ((xs.drop 1).length=b-1/\b-1<=1048576):=⟨by rw [List.length_drop,hx],al⟩;have HF:Hid (bp B E w (iB (some ⟨g,f,none⟩) b s xs l j m ys)):=X;have HE2:Hid (B<=E/\E<=w.heap.size):=⟨I,J⟩;have J:=ji ((w.alloc (.cells #[.u t,.u cm,.bool A,.slice (some ⟨g,f,none⟩) b s,.slice l j m,.i u] 30)).alloc (.cells #[.u 0,.u 0,.bool false,.slice none 0 0,.slice none 0 0,.i 0] 30)) (w.heap.size+1+1) bc (.cells #[] 5 (0,0)) rfl;rw [World.size_alloc,World.size_alloc] at J;have L:Uz.wrap (xs.getD 0 0)=xs.getD 0 0:=by rw [IntKind.wrap_u64];omega
 have H:=ak L;clear hs hc X I L hw hx hy;generalize xs.getD 0 0=x0 at *;by_cases W:s=1;·have Z:b=1:=al;subst W Z;have K:xs.drop 1=[]:=List.length_eq_zero_iff.1 (by have:=O.out.1;simpa using this);rw [K];clear K HS O;go_enter func120,ntmps120;go_wp2_with (first | (at_builtin;refine gD rfl (.tmp 58) (.tmp 61) rfl (w.heap.size+1+1) _ rfl J _ 0 _ [] rfl rfl al (λi hi=>absurd hi (Nat.not_lt_zero _)) bc ?_;intro c d M r o;obtain ⟨y,z,q,N⟩:=Le o;have R0:=ak y;have T:=ak z;have Q:=ak q;have V:=ak N;have S:=ak r;obtain ⟨p0,p1,p2,p3,p4,p5⟩:=cH y;obtain ⟨s0,s1,s2,s3,s4,s5⟩:=cH z;obtain ⟨y0,y1,y2,y3,y4,y5⟩:=vI z;have f3:=gO y 3;clear y z q N r o));go_region;go_wp2_with fail;rw [H.out];have U:=lL (eg T.out ⟨w.heap.size,3,none⟩ (.slice c 0 d) a9) (.u t) (.u cm) (.bool A) (.slice c 0 d) (.slice l j m) (.i u);have P:=(((bp.nil (w.heap.size+1+1) (w.heap.size+1+1) M).snoc (aB c 0 d []) _ M.heap.size S.out (Nat.le_refl _) (Nat.le_refl _) (Nat.le_refl _) (by have:=V.out;omega)).set ⟨w.heap.size,3,none⟩ (.slice c 0 d) (.inl a9)).put6 (w.heap.size+1) (.inl al) (.u t) (.u cm) (.bool A) (.slice c 0 d) (.slice l j m) (.i u);have R:=jh (Q.out.setCell (p:=⟨w.heap.size,3,none⟩) (Nat.le_refl _) (.slice c 0 d)) (g:=w.heap.size+1) al (.u t) (.u cm) (.bool A) (.slice c 0 d) (.slice l j m) (.i u);exact bodyPost_ret (bE results120 _ _ _ _ _ _ _ rfl (za U) underlying30 rfl bu) rfl ⟨c,d,rfl,dp (dF (P.own _ (List.mem_singleton.2 rfl)) (Below.refl _ _).drew) al,R.drew⟩
 ·have hcc2:¬ (s-1=0):=al;go_enter func120,ntmps120;go_wp2_with (first | (at_builtin;refine gD rfl (.tmp 58) (.tmp 61) rfl (w.heap.size+1+1) _ rfl J (some ⟨g,f+1,none⟩) (b-1) (s-1) (xs.drop 1) rfl O.out.1 O.out.2 (HS.out _ ((C _ _).alloc (C _ _).size _)) bc ?_;intro c d M r o;obtain ⟨y,z,q,N⟩:=Le o;have R0:=ak y;have T:=ak z;have Q:=ak q;have V:=ak N;have S:=ak r;obtain ⟨p0,p1,p2,p3,p4,p5⟩:=cH y;obtain ⟨s0,s1,s2,s3,s4,s5⟩:=cH z;obtain ⟨y0,y1,y2,y3,y4,y5⟩:=vI z;have f3:=gO y 3;clear y z q N r o));go_region;go_wp2_with fail;rw [H.out];have U:=lL (eg T.out ⟨w.heap.size,3,none⟩ (.slice c (b-1) d) a9) (.u t) (.u cm) (.bool A) (.slice c (b-1) d) (.slice l j m) (.i u);have P:=(((bp.nil (w.heap.size+1+1) (w.heap.size+1+1) M).snoc (aB c (b-1) d (xs.drop 1)) _ M.heap.size S.out (Nat.le_refl _) (Nat.le_refl _) (Nat.le_refl _) (by have:=V.out;omega)).set ⟨w.heap.size,3,none⟩ (.slice c (b-1) d) (.inl a9)).put6 (w.heap.size+1) (.inl al) (.u t) (.u cm) (.bool A) (.slice c (b-1) d) (.slice l j m) (.i u);have R:=jh (Q.out.setCell (p:=⟨w.heap.size,3,none⟩) (Nat.le_refl _) (.slice c (b-1) d)) (g:=w.heap.size+1) al (.u t) (.u cm) (.bool A) (.slice c (b-1) d) (.slice l j m) (.i u);exact bodyPost_ret (bE results120 _ _ _ _ _ _ _ rfl (za U) underlying30 rfl bu) rfl ⟨c,d,rfl,dp (dF (P.own _ (List.mem_singleton.2 rfl)) (Below.refl _ _).drew) al,R.drew⟩
theorem BT (t cm:Int) (z:Bool) (l:Option Addr) (o m:Nat) (u:Option Addr) (b C:Nat) (y:Int) (x:Int) (xs ys:List Int) (B E:Nat) (w:World) (hy:ys.length=b) (K:b<4096) (H:B<=E) (I:E<=w.heap.size) (N:bp B E w (iB l o m xs u b C ys)):Calls prog 122 #[.agg #[.u t,.u cm,.bool z,.slice l o m,.slice u b C,.i y],.u 268435456,.i 1,.u x] w λe A=>∃ (c:Option Addr) (d:Nat),e=.returned (.tuple #[.agg #[.u t,.u cm,.bool z,.slice l o m,.slice c (b+1) d,.i y],.bool true])/\A.ownsRow w.heap.size 5 1 (.slice c (b+1) d) (b+1) ((ys++[IntKind.u8.wrap x]).map (Value.int .u8))/\Bw w A:=by
 have V:=N.out_
 have G:∀ W X,Bw w ((w.alloc W).alloc X):=λW X=>dP
 have dd:decide ((b:Int)<4096)=true:=by simp;omega
 have HS:Hid (∀ A,Bw w A->Sl .u8 A u ys):=λA hb=>V.below hb
 have M:Hid (ys.length=b/\b<4096):=⟨hy,K⟩
 have HF:Hid (bp B E w (iB l o m xs u b C ys)):=N
 have HE2:Hid (B<=E/\E<=w.heap.size):=⟨H,I⟩
 have U:=ji ((w.alloc (.cells #[.u t,.u cm,.bool z,.slice l o m,.slice u b C,.i y] 30)).alloc (.cells #[.u 0,.u 0,.bool false,.slice none 0 0,.slice none 0 0,.i 0] 30)) (w.heap.size+1+1) bc (.cells #[] 5 (0,0)) rfl
 rw [World.size_alloc,World.size_alloc] at U
 obtain ⟨i0,hi,O,P,Q⟩:=info_parts info5
 clear V N H I hy K
 rw [show IntKind.u8.wrap x=x%256 from IntKind.wrap_u8 x]
 go_enter func122,ntmps122
 go_wp2_with (first
  | (at_builtin;refine gD rfl (.tmp 51) (.tmp 53) rfl (w.heap.size+1+1) _ rfl U u b C ys rfl M.out.1 (by have:=M.out.2;omega) (HS.out _ ((G _ _).alloc (G _ _).size _)) bc ?_;intro b1 d1 w1 L D;obtain ⟨Y,Z,J,z1⟩:=Le D;have R0:=ak Y;have R1:=ak Z;have B1:=ak J;have T:=ak z1;have S:=ak L;clear Y Z J z1 L D)
  | (at_builtin;refine wpList_append_own _ rfl (.tmp 54) (.tmp 57) 24 rfl (w.heap.size+1+1) 5 i0 (.int .u8 0) 1 1 underlying24 hi O P Q rfl a5 _ b (ys.map (Value.int .u8)) rfl (dF S.out (bal _ _)) ⟨w1.heap.size,0,none⟩ 1 1 [.int .u8 (x%256)] rfl rfl (Lf _ _) (by simp [Value.oneCell']) (by have:=M.out.2;unfold maxLen;omega) (by have:=M.out.2;omega) (by have:=T.out;rw [World.size_alloc];omega) ?_;intro v' R s F r;obtain ⟨c,d,rfl⟩:=Il s;obtain ⟨f,j,q⟩:=Qh R0.out R1.out S.out F;have S0:=ak f;have S1:=ak j;have B2:=ak (B1.out.trans (q.mono al));have Z2:=ak q.size;have O2:=ak s;obtain ⟨p0,p1,p2,p3,p4,p5⟩:=cH f;obtain ⟨s0,s1,s2,s3,s4,s5⟩:=cH j;obtain ⟨y0,y1,y2,y3,y4,y5⟩:=vI j;have f4:=gO f 4;clear f j q s F r))
 have T1:=lL (eg S1.out ⟨w.heap.size,4,none⟩ (.slice c (b+1) d) a9) (.u t) (.u cm) (.bool z) (.slice l o m) (.slice c (b+1) d) (.i y)
 have O3:R.ownsRow (w.heap.size+1+1) 5 1 (.slice c (b+1) d) (b+1) ((ys++[x%256]).map (Value.int .u8)):=by rw [List.map_append];exact O2.out
 have A2:=(((bp.nil (w.heap.size+1+1) (w.heap.size+1+1) R).snoc (aB c (b+1) d (ys++[x%256])) _ R.heap.size O3 (Nat.le_refl _) (Nat.le_refl _) (Nat.le_refl _) (by have:=T.out;have:=Z2.out;omega)).set ⟨w.heap.size,4,none⟩ (.slice c (b+1) d) (.inl a9)).put6 (w.heap.size+1) (.inl al) (.u t) (.u cm) (.bool z) (.slice l o m) (.slice c (b+1) d) (.i y)
 have B4:=jh (B2.out.setCell (p:=⟨w.heap.size,4,none⟩) (Nat.le_refl _) (.slice c (b+1) d)) (g:=w.heap.size+1) al (.u t) (.u cm) (.bool z) (.slice l o m) (.slice c (b+1) d) (.i y)
 exact bodyPost_ret (db results122 _ _ _ _ _ _ _ rfl T1 underlying30 rfl bu) rfl ⟨c,d,rfl,dp (A2.own _ (List.mem_singleton.2 rfl)) al,B4⟩
def eX (w w':World) (e:Option Addr) (g:Nat) (xs:List Int) (f:Option Addr) (h:Nat) (ys:List Int) (a:Option Addr) (c:Nat) (zs:List Int) (b:Option Addr) (d:Nat) (us:List Int):Prop :=
 ((a=e/\c=g/\zs=xs)/\b=f/\d=h/\us=ys) \/
 (w'.ownsRow w.heap.size 5 1 (.slice a zs.length c) zs.length (zs.map (Value.int .u8))/\b=f/\d=h/\us=ys) \/
 ((a=e/\c=g/\zs=xs)/\w'.ownsRow w.heap.size 5 1 (.slice b us.length d) us.length (us.map (Value.int .u8))) \/
 bp w.heap.size w'.heap.size w' (iB a zs.length c zs b us.length d us)
theorem eX.same (w w':World) (a:Option Addr) (c:Nat) (xs:List Int) (b:Option Addr) (d:Nat) (ys:List Int):eX w w' a c xs b d ys a c xs b d ys:=.inl ⟨⟨rfl,rfl,rfl⟩,rfl,rfl,rfl⟩
theorem eX.below {w w1 w':World} {c:Option Addr} {g:Nat} {xs:List Int} {d:Option Addr} {i:Nat} {ys:List Int} {e:Option Addr} {j:Nat} {zs:List Int} {f:Option Addr} {k:Nat} {us:List Int} (h:eX w w1 c g xs d i ys e j zs f k us) (hb:Bw w1 w'):eX w w' c g xs d i ys e j zs f k us:=by
 rcases h with h|⟨a,b⟩|⟨a,b⟩|h;·exact .inl h
 ·exact .inr (.inl ⟨dF a hb,b⟩)
 ·exact .inr (.inr (.inl ⟨a,dF b hb⟩))
 ·exact .inr (.inr (.inr ((h.below hb).low (Nat.le_refl _) hb.size)))
theorem BU (D:DV) (d:Option Addr) (c:Nat) (a:Option Addr) (b:Nat) (addr size:Int) (B E:Nat) (w:World) (o:D.xs.length<=16) (hb:dO D) (p:B<=E) (y:E<=w.heap.size) (s:bp B E w (iB d D.xs.length c D.xs a D.ys.length b D.ys)):Calls prog 120 #[.agg #[.u D.t,.u D.cm,.bool D.so,.slice d D.xs.length c,.slice a D.ys.length b,.i D.ir],.u addr,.i size] w λe f=>∃ (i:Option Addr) (j:Nat) (l:Option Addr) (m:Nat),e=.returned (.tuple #[.u (jc D (gg addr size)).1,.agg (jd (jc D (gg addr size)).2.1 i j l m),.bool (jc D (gg addr size)).2.2])/\eX w f d c D.xs a b D.ys i j (jc D (gg addr size)).2.1.xs l m (jc D (gg addr size)).2.1.ys/\Bw w f:=by
 refine jj addr size (λk=>Calls prog 120 #[.agg #[.u D.t,.u D.cm,.bool D.so,.slice d D.xs.length c,.slice a D.ys.length b,.i D.ir],.u addr,.i size] w λe f=>∃ (i:Option Addr) (j:Nat) (l:Option Addr) (m:Nat),e=.returned (.tuple #[.u (jc D k).1,.agg (jd (jc D k).2.1 i j l m),.bool (jc D k).2.2])/\eX w f d c D.xs a b D.ys i j (jc D k).2.1.xs l m (jc D k).2.1.ys/\Bw w f) ?_ ?_ ?_ ?_ ?_ ?_ ?_;·rintro rfl rfl;exact (If D.t D.cm D.so d _ c a _ b D.ir w).mono λe f h=>⟨d,c,a,b,h.1,eX.same _ _ _ _ _ _ _ _,h.2⟩
 ·rintro rfl rfl;exact (Ig D.t D.cm D.so d _ c a _ b D.ir w).mono λe f h=>⟨d,c,a,b,h.1,eX.same _ _ _ _ _ _ _ _,h.2⟩
 ·rintro rfl rfl;exact (Ih D.t D.cm D.so d _ c a _ b D.ir w).mono λe f h=>⟨d,c,a,b,h.1,eX.same _ _ _ _ _ _ _ _,h.2⟩
 ·rintro rfl rfl;rcases Nat.eq_zero_or_pos D.xs.length with n|n
  ·have t:D.xs=[]:=List.length_eq_zero_iff.1 n;have h:=Fa D.t D.cm D.so d c a D.ys.length b D.ir w;rw [n];refine h.mono λe f h=>⟨d,c,a,b,?_,?_,h.2⟩;·rw [h.1];simp only [jc,jd,t];rfl
   ·simp only [jc,t];exact eX.same _ _ _ _ _ _ _ _
  ·obtain ⟨g,rfl,q,r⟩:=Fb s n;unfold maxLen at r;have z:=iy hb.1 0;refine (Fw D.t D.cm D.so g 0 D.xs.length c a D.ys.length b D.ir D.xs D.ys B E w rfl rfl n o q al p y s z).mono λe f h=>?_;obtain ⟨i,j,u,v,x⟩:=h;refine ⟨i,j,a,b,?_,.inr (.inl ⟨?_,rfl,rfl,?_⟩),x⟩;·rw [u];simp only [jc,jd,List.length_drop]
   ·simp only [jc,List.length_drop];exact v
   ·simp only [jc]
 ·rintro rfl rfl;exact (Ii D.t D.cm D.so d _ c a _ b D.ir w).mono λe f h=>⟨d,c,a,b,h.1,eX.same _ _ _ _ _ _ _ _,h.2⟩
 ·rintro rfl rfl;exact (Ij D.t D.cm D.so d _ c a _ b D.ir al w).mono λe f h=>⟨d,c,a,b,h.1,eX.same _ _ _ _ _ _ _ _,h.2⟩
 ·intro A C F G H I;exact (Ik D.t D.cm D.so d _ c a _ b D.ir addr size A C F G H I w).mono λe f h=>⟨none,0,none,0,h.1,.inr (.inr (.inr (lM _ _ _))),h.2⟩
theorem BV (D:DV) (a:Option Addr) (c:Nat) (b:Option Addr) (d:Nat) (x:Int) (w:World) (q:Int) (m:wrap64 (bits .and .u64 x 1)=q):Calls prog 122 #[.agg #[.u D.t,.u D.cm,.bool D.so,.slice a D.xs.length c,.slice b D.ys.length d,.i D.ir],.u 268435457,.i 1,.u x] w λe f=>∃ (g:Option Addr) (j:Nat) (i:Option Addr) (k:Nat),e=.returned (.tuple #[.agg (jd ((⟨D.t,D.cm,D.so,D.xs,D.ys,q⟩,true):DV × Bool).1 g j i k),.bool ((⟨D.t,D.cm,D.so,D.xs,D.ys,q⟩,true):DV × Bool).2])/\eX w f a c D.xs b d D.ys g j ((⟨D.t,D.cm,D.so,D.xs,D.ys,q⟩,true):DV × Bool).1.xs i k ((⟨D.t,D.cm,D.so,D.xs,D.ys,q⟩,true):DV × Bool).1.ys/\Bw w f:=by have l:=Fg D.t D.cm D.so a D.xs.length c b D.ys.length d D.ir x w;rw [m] at l;exact l.mono λe f h=>⟨a,c,b,d,h.1,eX.same _ _ _ _ _ _ _ _,h.2⟩
theorem zg (D:DV) (a:Option Addr) (b:Nat) (c:Option Addr) (d:Nat) (addr size x:Int) (B E:Nat) (w:World) (n:D.ys.length<=4096) (o:B<=E) (u:E<=w.heap.size) (v:bp B E w (iB a D.xs.length b D.xs c D.ys.length d D.ys)):Calls prog 122 #[.agg #[.u D.t,.u D.cm,.bool D.so,.slice a D.xs.length b,.slice c D.ys.length d,.i D.ir],.u addr,.i size,.u x] w λe f=>∃ (g:Option Addr) (j:Nat) (i:Option Addr) (l:Nat),e=.returned (.tuple #[.agg (jd (fy D x (gg addr size)).1 g j i l),.bool (fy D x (gg addr size)).2])/\eX w f a b D.xs c d D.ys g j (fy D x (gg addr size)).1.xs i l (fy D x (gg addr size)).1.ys/\Bw w f:=by
 refine jj addr size (λk=>Calls prog 122 #[.agg #[.u D.t,.u D.cm,.bool D.so,.slice a D.xs.length b,.slice c D.ys.length d,.i D.ir],.u addr,.i size,.u x] w λe f=>∃ (g:Option Addr) (j:Nat) (i:Option Addr) (l:Nat),e=.returned (.tuple #[.agg (jd (fy D x k).1 g j i l),.bool (fy D x k).2])/\eX w f a b D.xs c d D.ys g j (fy D x k).1.xs i l (fy D x k).1.ys/\Bw w f) ?_ ?_ ?_ ?_ ?_ ?_ ?_;·rintro rfl rfl;rw [DM];exact (Fc D.t D.cm D.so a _ b c _ d D.ir x w).mono λe f h=>⟨a,b,c,d,h.1,eX.same _ _ _ _ _ _ _ _,h.2⟩
 ·rintro rfl rfl;rw [DN];exact (Fe D.t D.cm D.so a _ b c _ d D.ir x w).mono λe f h=>⟨a,b,c,d,h.1,eX.same _ _ _ _ _ _ _ _,h.2⟩
 ·rintro rfl rfl;rw [DO];exact (Ff D.t D.cm D.so a _ b c _ d D.ir x w).mono λe f h=>⟨a,b,c,d,h.1,eX.same _ _ _ _ _ _ _ _,h.2⟩
 ·rintro rfl rfl;by_cases m:D.ys.length<4096
  ·rw [xv D x m];refine (BT D.t D.cm D.so a _ b c _ d D.ir x D.xs D.ys B E w rfl m o u v).mono λe f h=>?_;obtain ⟨q,r,s,n,t⟩:=h;have p:(D.ys++[IntKind.u8.wrap x]).length=D.ys.length+1:=(by rw [List.length_append];rfl);refine ⟨a,b,q,r,?_,.inr (.inr (.inl ⟨⟨rfl,rfl,rfl⟩,?_⟩)),t⟩;·rw [s];dsimp only [jd];rw [p]
   ·dsimp only;rw [p];exact n
  ·rw [xw D x m];exact (BG D.t D.cm D.so a _ b c _ d D.ir x m n w).mono λe f h=>⟨a,b,c,d,h.1,eX.same _ _ _ _ _ _ _ _,h.2⟩
 ·rintro rfl rfl;rw [DP];exact BV D a b c d x w _ rfl
 ·rintro rfl rfl;rw [DQ];exact (Fh D.t D.cm D.so a _ b c _ d D.ir x w).mono λe f h=>⟨a,b,c,d,h.1,eX.same _ _ _ _ _ _ _ _,h.2⟩
 ·intro y z A C F G;rw [DR];exact (Fi D.t D.cm D.so a _ b c _ d D.ir x addr size y z A C F G w).mono λe f h=>⟨none,0,none,0,h.1,.inr (.inr (.inr (lM _ _ _))),h.2⟩
end Go.Proofs.YtjifdmoehfbihaaGreatDoor
