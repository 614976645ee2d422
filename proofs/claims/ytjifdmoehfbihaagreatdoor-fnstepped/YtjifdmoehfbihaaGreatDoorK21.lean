/- Own lemmas. -/
import Derived.Test.YtjifdmoehfbihaaGreatDoorAut
import Derived.Test.YtjifdmoehfbihaaGreatDoorK20
import Derived.Test.YtjifdmoehfbihaaGreatDoorK21H
set_option maxRecDepth 100000
set_option maxHeartbeats 3200000
namespace Go.Proofs.YtjifdmoehfbihaaGreatDoor
open Go.RowKit Tryz
open IntKind renaming u64->Uz
set_option linter.unusedVariables false
theorem qA (x:Int) (h:U x) (i:Nat):ak x i=if bt x i=true then 1 else 0:=by
 have b:∀ i,i<64->∀ (p o:Bool),((if i=0 then p else o)&&bt 1 i)=bt (if p=true then 1 else 0) i:=bv
 unfold ak;have e:∀ y:Int,bits .and .u64 y 1=if bt y 0=true then 1 else 0:=by
  intro y;refine br _ _ (af _ _ _) (by split<;>(constructor<;>decide)) λj c=>?_;rw [au,<- b j c (bt y 0) (bt y j)];by_cases a:j=0;·subst a;rfl
  ·rw [if_neg a]
 rw [e,jl x h,Nat.zero_add]
theorem Qj:∀ i,i<64->bt 64 i=decide (i=6):=by decide +kernel
theorem Rn:∀ i,i<64->bt 128 i=decide (i=7):=by decide +kernel
theorem tL (e kind:Int) (i:Nat) (a:i<64):bt (cq e kind) i=(bt e i||decide (i=6)||((kind==3)&&decide (i=7))):=by
 unfold cq;cases (kind==3) with
 | true=>rw [if_pos rfl,cn,cn,Qj i a,Rn i a,Bool.true_and]
 | false=>rw [if_neg bb,cn,Qj i a,Bool.false_and,Bool.or_false]
theorem jq (e kind:Int) (h:U e) (i:Nat) (c:i<64) (a:i≠6) (b:i≠7):ak (cq e kind) i=ak e i:=by rw [qA _ (mc e kind),qA _ h,tL e kind i c];simp [a,b]
theorem Bt (e kind:Int) (h:U e) (k:Nat) (hk:8<=k):cq e kind/2^k=e/2^k:=by
 refine br _ _ (lS _ (mc e kind) k) (lS _ h k) λi d=>?_;rw [jl _ (mc e kind),jl _ h];by_cases a:i+k<64;·rw [tL e kind _ a];have b:¬ i+k=6:=ab;have c:¬ i+k=7:=ab;simp [b,c]
 ·rw [tI _ _ ab,tI _ _ ab]
theorem IQ (e kind:Int) (h:U e):cq (cq e kind) kind=cq e kind:=by refine br _ _ (mc _ _) (mc _ _) λi a=>?_;rw [tL _ kind i a,tL e kind i a];cases bt e i<;>cases decide (i=6)<;>cases ((kind==3)&&decide (i=7))<;>rfl
theorem Gf (e:Int) (h:U e):bits .and .u64 e 1=ak e 0:=by unfold ak;rw [Int.pow_zero,Int.ediv_one]
theorem Bu (e kind:Int) (h:U e):oZ (cq e kind)=oZ e:=by unfold oZ;rw [Gf _ (mc e kind),Gf _ h,jq e kind h 0 ab ab ab,jq e kind h 1 ab ab ab,jq e kind h 2 ab ab ab];have:=Bt e kind h 54 ab;rw [show ((2:Int)^54)=18014398509481984 from rfl] at this;rw [this]
theorem Bv (e kind:Int) (h:U e):l8 (cq e kind)=l8 e:=by unfold l8;rw [jq e kind h 1 ab ab ab,jq e kind h 3 ab ab ab]
theorem vj (e kind:Int) (h:U e):dQ (cq e kind)=dQ e:=by unfold dQ;have:=Bt e kind h 10 ab;rw [show ((2:Int)^10)=1024 from rfl] at this;rw [this]
theorem gF (k:Int):dP k≠0:=by unfold dP;split<;>(try split)<;>decide
theorem ig (k:Int):dy k≠0:=by unfold dy;split<;>(try split)<;>decide
theorem qB (l:List Int) (p va kind e x:Int) (lv:Nat) (h:(db l p va kind e x lv).code=0):ma e lv=false/\gA l kind e=false/\gB l p kind e=false/\(((cq e kind != e)=true/\aA l 1 x (aZ x 8) 3 4 0=true/\db l p va kind e x lv=⟨gt e va lv,0,true,x,cq e kind⟩)\/((cq e kind != e)=false/\db l p va kind e x lv=⟨gt e va lv,0,false,0,0⟩)):=by
 unfold db at h ⊢;cases a:ma e lv with
 | true=>rw [a,if_pos rfl] at h;exact absurd h (gF kind)
 | false =>
   rw [a,if_neg bb] at h;cases b:gA l kind e with
   | true=>rw [b,if_pos rfl] at h;exact absurd h (gF kind)
   | false =>
     rw [b,if_neg bb] at h;cases c:gB l p kind e with
     | true=>rw [c,if_pos rfl] at h;exact absurd h (gF kind)
     | false =>
       rw [c,if_neg bb] at h;refine ⟨rfl,rfl,rfl,?_⟩;cases d:(cq e kind != e) with
       | true =>
         rw [d,if_pos rfl] at h;cases f:aA l 1 x (aZ x 8) 3 4 0 with
         | true=>exact .inl ⟨rfl,rfl,rfl⟩
         | false=>rw [f,if_neg bb] at h;exact absurd h (ig kind)
       | false=>exact .inr ⟨rfl,rfl⟩
theorem vk (l:List Int) (p va kind e x:Int) (lv:Nat) (he:U e) (h:(db l p va kind e x lv).code=0):db l p va kind (cq e kind) x lv=⟨gt e va lv,0,false,0,0⟩:=by
 obtain ⟨a,b,c,_⟩:=qB l p va kind e x lv h;have d:ma (cq e kind) lv=false:=by unfold ma at a ⊢;rw [vj e kind he];exact a
 have e2:gA l kind (cq e kind)=false:=by unfold gA at b ⊢;rw [jq e kind he 1 ab ab ab,jq e kind he 2 ab ab ab,jq e kind he 3 ab ab ab];exact b
 have e3:gB l p kind (cq e kind)=false:=by unfold gB at c ⊢;rw [jq e kind he 4 ab ab ab];exact c
 have e4:(cq (cq e kind) kind != cq e kind)=false:=by rw [IQ e kind he];simp
 have e5:gt (cq e kind) va lv=gt e va lv:=by unfold gt;rw [vj e kind he]
 unfold db;rw [d,e2,e3,e4,e5];rfl
theorem Tl (zs:List Int) (hz:∀ i,0<=zs.getD i 0/\zs.getD i 0<=255) (x:Int):U (fs zs x):=tV zs hz 8 _ ab
theorem Tm (T va:Int) (lv:Nat) (a:T%8=0):bF T va lv%8=0:=by unfold bF;generalize bits .and .u64 (va/2^(12+9*lv)) 511=z;rw [IntKind.wrap_u64,IntKind.wrap_u64];omega
theorem Lc (z:Int):Uz.wrap (z*4096)%8=0:=by rw [IntKind.wrap_u64];omega
theorem Bz (zs:List Int) (n:Nat) (hz:zs.length=n) (x v:Int) (hx:gn n x 8=true) (hv:U v):fs (jZ zs (x-2147483648).toNat v 8) x=v:=by have h:=yY hx;unfold fs;rw [QW zs _ 8 v ab];have:=hv.1;have:=hv.2;omega
theorem OC (zs:List Int) (n:Nat) (x y v:Int) (hx:gn n x 8=true) (hy:gn n y 8=true) (b:x%8=0) (c:y%8=0) (a:x≠y):fs (jZ zs (x-2147483648).toNat v 8) y=fs zs y:=by have h:=yY hx;have d:=yY hy;unfold fs;exact DF zs _ _ 8 v ab
theorem IR (zs:List Int) (n:Nat) (hz:zs.length=n) (hb:∀ i,0<=zs.getD i 0/\zs.getD i 0<=255) (l:List Int) (p va kind:Int):∀ a T,T%8=0->(bK zs n l p va kind a T).code=0->(bK zs n l p va kind a T).marked=true -> gn n (bK zs n l p va kind a T).at_ 8=true/\(bK zs n l p va kind a T).at_%8=0/\l8 (fs zs (bK zs n l p va kind a T).at_)=false /\ bK (jZ zs ((bK zs n l p va kind a T).at_-2147483648).toNat (bK zs n l p va kind a T).entry 8) n l p va kind a T=⟨(bK zs n l p va kind a T).addr,0,false,0,0⟩:=by
 intro a;induction a with
 | zero =>
   intro T q b g;have E:=gC zs n l p va kind 0 T;have f:=Tm T va 0 q;have m:=Tl zs hb (bF T va 0);generalize w:bK zs n l p va kind 0 T=W at *;cases c:gn n (bF T va 0) 8 with
   | false=>rw [c,if_neg bb] at E;subst E;exact absurd b (ig kind)
   | true =>
     rw [c,if_pos rfl] at E;cases h:aA l 1 (bF T va 0) (aZ (bF T va 0) 8) 2 4 0 with
     | false=>rw [h,if_neg bb] at E;subst E;exact absurd b (ig kind)
     | true =>
       rw [h,if_pos rfl] at E;cases j:oZ (fs zs (bF T va 0)) with
       | true=>rw [j,if_pos rfl] at E;subst E;exact absurd b (gF kind)
       | false =>
         rw [j,if_neg bb] at E;cases d:l8 (fs zs (bF T va 0)) with
         | true =>have s:iZ (fs zs (bF T va 0)) 0=true:=rfl;rw [d,if_pos rfl,s,if_pos rfl] at E;subst E;exact absurd b (gF kind)
         | false =>
           rw [d,if_neg bb] at E;rw [E] at b g;obtain ⟨_,_,_,⟨_,_,k⟩|⟨_,k⟩⟩:=qB _ _ _ _ _ _ _ b;·rw [E,k];refine ⟨c,f,d,?_⟩;rw [gC,c,if_pos rfl,h,if_pos rfl,Bz zs n hz _ _ c (mc _ _),Bu _ kind m,j,if_neg bb,Bv _ kind m,d,if_neg bb];exact vk _ _ _ _ _ _ _ m b
           ·rw [k] at g;cases g
 | succ a y =>
   intro T q b g;have E:=gC zs n l p va kind (a+1) T;have f:=Tm T va (a+1) q;have m:=Tl zs hb (bF T va (a+1));rw [show a+1-1=a from rfl] at E;generalize w:bK zs n l p va kind (a+1) T=W at *;cases c:gn n (bF T va (a+1)) 8 with
   | false=>rw [c,if_neg bb] at E;subst E;exact absurd b (ig kind)
   | true =>
     rw [c,if_pos rfl] at E;cases h:aA l 1 (bF T va (a+1)) (aZ (bF T va (a+1)) 8) 2 4 0 with
     | false=>rw [h,if_neg bb] at E;subst E;exact absurd b (ig kind)
     | true =>
       rw [h,if_pos rfl] at E;cases j:oZ (fs zs (bF T va (a+1))) with
       | true=>rw [j,if_pos rfl] at E;subst E;exact absurd b (gF kind)
       | false =>
         rw [j,if_neg bb] at E;cases d:l8 (fs zs (bF T va (a+1))) with
         | true =>
           rw [d,if_pos rfl] at E;cases o:iZ (fs zs (bF T va (a+1))) (a+1) with
           | true=>rw [o,if_pos rfl] at E;subst E;exact absurd b (gF kind)
           | false =>rw [o,if_neg bb] at E;rw [E] at b g;obtain ⟨u,v,t,x⟩:=y _ (Lc _) b g;rw [E];refine ⟨u,v,t,?_⟩;have r:(bK zs n l p va kind a (Uz.wrap (dQ (fs zs (bF T va (a+1)))*4096))).at_≠bF T va (a+1):=(by intro e;rw [e,d] at t;cases t);rw [gC _ _ _ _ _ _ (a+1),c,if_pos rfl,h,if_pos rfl,OC zs n _ _ _ u c v f r,j,if_neg bb,d,if_pos rfl,o,if_neg bb];exact x
         | false =>
           rw [d,if_neg bb] at E;rw [E] at b g;obtain ⟨_,_,_,⟨_,_,k⟩|⟨_,k⟩⟩:=qB _ _ _ _ _ _ _ b;·rw [E,k];refine ⟨c,f,d,?_⟩;rw [gC,c,if_pos rfl,h,if_pos rfl,Bz zs n hz _ _ c (mc _ _),Bu _ kind m,j,if_neg bb,Bv _ kind m,d,if_neg bb];exact vk _ _ _ _ _ _ _ m b
           ·rw [k] at g;cases g
theorem vm (zs:List Int) (n:Nat) (l:List Int) (p va kind:Int):∀ a T,a<=2 -> ((bK zs n l p va kind a T).code=0/\(∃ e k,k<=2/\(bK zs n l p va kind a T).addr=gt e va k)/\((bK zs n l p va kind a T).marked=false->bK zs n l p va kind a T=⟨(bK zs n l p va kind a T).addr,0,false,0,0⟩)) \/ ((bK zs n l p va kind a T).code≠0/\(bK zs n l p va kind a T).addr=0/\(bK zs n l p va kind a T).marked=false):=by
 have c:∀ e x k,k<=2->((db l p va kind e x k).code=0/\(∃ j i,i<=2/\(db l p va kind e x k).addr=gt j va i)/\((db l p va kind e x k).marked=false->db l p va kind e x k=⟨(db l p va kind e x k).addr,0,false,0,0⟩))\/((db l p va kind e x k).code≠0/\(db l p va kind e x k).addr=0/\(db l p va kind e x k).marked=false):=by
  intro e x k g;by_cases b:(db l p va kind e x k).code=0
  ·obtain ⟨_,_,_,⟨_,_,f⟩ | ⟨_,f⟩⟩:=qB _ _ _ _ _ _ _ b;·rw [f];exact .inl ⟨rfl,⟨e,k,g,rfl⟩,λh=>l0⟩
   ·rw [f];exact .inl ⟨rfl,⟨e,k,g,rfl⟩,λ_=>rfl⟩
  ·refine .inr ⟨b,?_⟩;unfold db at b ⊢;split;·exact ⟨rfl,rfl⟩
   ·rename_i m;rw [if_neg m] at b;split;·exact ⟨rfl,rfl⟩
    ·rename_i o;rw [if_neg o] at b;split;·exact ⟨rfl,rfl⟩
     ·rename_i q;rw [if_neg q] at b;split
      ·rename_i d;rw [if_pos d] at b;split;·rename_i r;rw [if_pos r] at b;exact absurd rfl b
       ·exact ⟨rfl,rfl⟩
      ·rename_i d;rw [if_neg d] at b;exact absurd rfl b
 intro a;induction a with
 | zero =>
   intro T _;rw [bK];split
   ·split
    ·split;·exact .inr ⟨gF kind,rfl,rfl⟩
     ·split;·exact .inr ⟨gF kind,rfl,rfl⟩
      ·exact c _ _ _ ab
    ·exact .inr ⟨ig kind,rfl,rfl⟩
   ·exact .inr ⟨ig kind,rfl,rfl⟩
 | succ a t =>
   intro T s;rw [bK];split
   ·split
    ·split;·exact .inr ⟨gF kind,rfl,rfl⟩
     ·split
      ·split;·exact .inr ⟨gF kind,rfl,rfl⟩
       ·exact t _ ab
      ·exact c _ _ _ ab
    ·exact .inr ⟨ig kind,rfl,rfl⟩
   ·exact .inr ⟨ig kind,rfl,rfl⟩
theorem OD:∀ i,i<64->bt 4095 i=decide (i<12):=by decide +kernel
theorem Ld (e va:Int) (k:Nat) (hk:k<=2):bits .and .u64 (gt e va k) 4095=bits .and .u64 va 4095:=by
 refine br _ _ (af _ _ _) (af _ _ _) λi a=>?_;unfold gt Ij;rw [au,au,cn,aw _ _ _ a,au,Ge _ ab i a,OD i a];by_cases h:i<12;·have b:i<12+9*k:=ab;simp [h,b]
 ·simp [h]
theorem Ei (zs:List Int) (n:Nat) (hz:zs.length=n) (hb:∀ i,0<=zs.getD i 0/\zs.getD i 0<=255) (l:List Int) (p va kind:Int):((bW zs n l p va kind).code=0/\bW (bn zs (bW zs n l p va kind)) n l p va kind=⟨(bW zs n l p va kind).addr,0,false,0,0⟩/\bits .and .u64 (bW zs n l p va kind).addr 4095=bits .and .u64 va 4095) \/ ((bW zs n l p va kind).code≠0/\(bW zs n l p va kind).addr=0/\(bW zs n l p va kind).marked=false):=by
 have E:∀ c,bW c n l p va kind=if ((p==3)||(l.getD 15 0/1152921504606846976==0))=true then ⟨va,0,false,0,0⟩ else if (ap 39 va != va)=true then bO kind else bK c n l p va kind 2 (kH l):=λc=>rfl
 rw [E zs];cases f:((p==3)||(l.getD 15 0/1152921504606846976==0)) with
 | true =>rw [if_pos rfl];refine .inl ⟨rfl,?_,rfl⟩;rw [E,f,if_pos rfl]
 | false =>
   rw [if_neg bb];cases g:(ap 39 va != va) with
   | true=>rw [if_pos rfl];exact .inr ⟨gF kind,rfl,rfl⟩
   | false =>
     rw [if_neg bb];rcases vm zs n l p va kind 2 (kH l) ab with ⟨d,⟨e,k,o,m⟩,b⟩|h
     ·refine .inl ⟨d,?_,by rw [m];exact Ld e va k o⟩;rw [E,f,if_neg bb,g,if_neg bb];cases a:(bK zs n l p va kind 2 (kH l)).marked with
      | true =>have j:kH l%8=0:=Lc _;obtain ⟨_,_,_,q⟩:=IR zs n hz hb l p va kind 2 (kH l) j d a;unfold bn;rw [a,if_pos rfl];exact q
      | false =>unfold bn;rw [a,if_neg bb];exact b a
     ·exact .inr h
structure MW (M:MV):Prop where
 cs:∀ j,U (M.cs.getD j 0)
 ram:∀ y ∈ M.ram,(Lit.int .u8 y).wf=true
 xs:∀ y ∈ M.d.xs,(Lit.int .u8 y).wf=true
 ys:∀ y ∈ M.d.ys,(Lit.int .u8 y).wf=true
theorem Gg {y:Int} (h:(Lit.int .u8 y).wf=true):0<=y/\y<=255:=by simpa [Lit.wf,IntKind.min,IntKind.max,IntKind.signed,IntKind.bits] using h
theorem Le {y:Int} (h:0<=y/\y<=255):(Lit.int .u8 y).wf=true:=by simpa [Lit.wf,IntKind.min,IntKind.max,IntKind.signed,IntKind.bits] using h
theorem Lf (zs:List Int) (h:∀ y ∈ zs,(Lit.int .u8 y).wf=true) (f:Nat) (x:Int) (k:Nat):∀ y ∈ jZ zs f x k,(Lit.int .u8 y).wf=true:=λy a=>Le (JK zs (λz b=>Gg (h z b)) f x k y a)
theorem zu (zs:List Int) (h:∀ y ∈ zs,(Lit.int .u8 y).wf=true) (F:Fd):∀ y ∈ bn zs F,(Lit.int .u8 y).wf=true:=by
 unfold bn;split;·exact Lf zs h _ _ _
 ·exact h
theorem ay {M:MV} (h:ey M=true):M.cs.length=22/\bq 22 M.cs=true/\bC M.pr=true/\aU M.ram.length=true/\nD M.d.xs.length M.d.ys.length M.d.ir=true/\ls M=true:=by unfold ey at h;simp only [Bool.and_eq_true] at h;obtain ⟨⟨⟨⟨⟨⟨_,_⟩,c⟩,d⟩,e⟩,_⟩,f⟩:=h;have a:=qo c;have b:=c;unfold aX at b;rw [Bool.and_eq_true] at b;rw [a] at b;exact ⟨a,b.1,b.2,d,e,f⟩
theorem Tn (s:Int) (h:U s):s/2048%4=(if bt s 11=true then 1 else 0)+2*(if bt s 12=true then 1 else 0):=by
 have b:ak s 11=s/2^11%2^1:=by have a:=lS s h 11;exact cy (s/2^11) 1 a.1 a.2 ab
 have e2:ak s 12=s/2^12%2^1:=by have a:=lS s h 12;exact cy (s/2^12) 1 a.1 a.2 ab
 have c:=qA s h 11;have d:=qA s h 12;rw [<- c,<- d,b,e2];omega
theorem vq (s:Int) (a:U s) (c:fy 0 s=true):bC (wrap64 (bits .and .u64 (s/2048) 3))=true:=by
 have g:mst s=s:=by unfold fy bo at c;simpa using c
 have b:=((rC _ a).1 g).2;have d:=lS s a 11;have f:=cy (s/2^11) 2 d.1 d.2 ab;have e:bits .and .u64 (s/2048) 3=s/2048%4:=f;rw [e,Tn s a];revert b;cases bt s 11<;>cases bt s 12<;>intro b;·decide +kernel
 ·cases b
 ·decide +kernel
 ·decide +kernel
theorem vt {l:List Int} (c:U (l.getD 0 0)) (a:bq 22 l=true) {p:Int} (d:bC p=true) (kind:Int):bC (fR l p kind)=true:=by
 unfold fR;split;·have b:fy 0 (l.getD 0 0)=true:=(by unfold bq fl at a;simp only [Bool.and_eq_true] at a;exact a.2.1);exact vq _ c b
 ·exact d
theorem tM (zs:List Int) (n:Nat) (l:List Int) (p va kind:Int) (h:U va):U (bW zs n l p va kind).addr:=by
 unfold bW;split;·exact h
 ·split;·exact ⟨by show (0:Int)<=0;omega,by show (0:Int)<_;omega⟩
  ·rcases vm zs n l p va kind 2 (kH l) ab with ⟨_,⟨e,k,_,a⟩,_⟩|⟨_,a,_⟩;·rw [a];exact af _ _ _
   ·rw [a];exact ⟨ab,ab⟩
theorem Ek (x s:Int) (a:1<=s) (b:s<=8):aZ x s=Uz.wrap (Uz.wrap (x+s)-1):=by unfold aZ;rw [show Uz.wrap s=s by rw [IntKind.wrap_u64];omega]
theorem fh (a:Option Addr) (n cap:Nat) (l:List Int) (p:Int) (w:World) (hz:l.length=n) (hs:Sl .u64 w a l) (hl:∀ j,U (l.getD j 0)):CB 68 #[.slice a n cap,.i p] w (.bool (aX n l p)):=by
 have f:Hid (CB 62 #[.slice a n cap] w (.bool (bq n l))):=by have:=lu a n cap l w hz hs hl;rw [xU n l hl] at this;exact this
 have g:Hid (∀ w,CE 109 #[.i p] w (.bool (bC p))):=ve p;have F:Hid (aX n l p=(bq n l&&bC p)):=(rfl:aX n l p=_);clear hs hz hl;generalize bq n l=q at *;generalize bC p=r at *;cases q with
 | false =>go_enter func68,ntmps68;go_wp2_with fail;refine f.out.mono ?_;rintro e m ⟨rfl,c⟩;go_wp2_with fail;go_ret;exact ⟨bc,c⟩
 | true =>go_enter func68,ntmps68;go_wp2_with fail;refine f.out.mono ?_;rintro e m ⟨rfl,c⟩;go_wp2_with fail;refine (g.out _).mono ?_;rintro e o ⟨rfl,d⟩;subst d;go_wp2_with fail;go_ret;exact ⟨bc,c⟩
end Go.Proofs.YtjifdmoehfbihaaGreatDoor
