/- Own lemmas. -/
import Derived.Test.YtjifdmoehfbihaaGreatDoorAut
import Derived.Test.YtjifdmoehfbihaaGreatDoorK20
set_option maxRecDepth 100000
set_option maxHeartbeats 12800000
namespace Go.Proofs.YtjifdmoehfbihaaGreatDoor
open Go.RowKit Tryz
open IntKind renaming u64->Uz
set_option linter.unusedVariables false
theorem pO (x:Int) (h:U x) (i:Nat):ap x i=if bt x i=true then 1 else 0:=by
 have b:∀ i,i<64->∀ (p o:Bool),((if i=0 then p else o)&&bt 1 i)=bt (if p=true then 1 else 0) i:=a8
 unfold ap;have e:∀ y:Int,bits .and .u64 y 1=if bt y 0=true then 1 else 0:=by
  intro y;refine bg _ _ (aj _ _ _) (by split<;>(constructor<;>decide)) λj c=>?_;rw [az,<- b j c (bt y 0) (bt y j)];by_cases a:j=0;·subst a;rfl
  ·rw [if_neg a]
 rw [e,iT x h,Nat.zero_add]
theorem Nu:∀ i,i<64->bt 64 i=decide (i=6):=by decide +kernel
theorem Oq:∀ i,i<64->bt 128 i=decide (i=7):=by decide +kernel
theorem sA (e kind:Int) (i:Nat) (a:i<64):bt (cg e kind) i=(bt e i||decide (i=6)||((kind==3)&&decide (i=7))):=by
 unfold cg;cases (kind==3) with
 | true=>rw [if_pos rfl,bZ,bZ,Nu i a,Oq i a,Bool.true_and]
 | false=>rw [if_neg a5,bZ,Nu i a,Bool.false_and,Bool.or_false]
theorem iY (e kind:Int) (h:U e) (i:Nat) (c:i<64) (a:i≠6) (b:i≠7):ap (cg e kind) i=ap e i:=by rw [pO _ (lz e kind),pO _ h,sA e kind i c];simp [a,b]
theorem Af (e kind:Int) (h:U e) (k:Nat) (hk:8<=k):cg e kind/2^k=e/2^k:=by
 refine bg _ _ (kT _ (lz e kind) k) (kT _ h k) λi d=>?_;rw [iT _ (lz e kind),iT _ h];by_cases a:i+k<64;·rw [sA e kind _ a];have b:¬ i+k=6:=al;have c:¬ i+k=7:=al;simp [b,c]
 ·rw [sp _ _ al,sp _ _ al]
theorem Gl (e kind:Int) (h:U e):cg (cg e kind) kind=cg e kind:=by refine bg _ _ (lz _ _) (lz _ _) λi a=>?_;rw [sA _ kind i a,sA e kind i a];cases bt e i<;>cases decide (i=6)<;>cases ((kind==3)&&decide (i=7))<;>rfl
theorem Ej (e:Int) (h:U e):bits .and .u64 e 1=ap e 0:=by unfold ap;rw [Int.pow_zero,Int.ediv_one]
theorem Ah (e kind:Int) (h:U e):ol (cg e kind)=ol e:=by unfold ol;rw [Ej _ (lz e kind),Ej _ h,iY e kind h 0 al al al,iY e kind h 1 al al al,iY e kind h 2 al al al];have:=Af e kind h 54 al;rw [show ((2:Int)^54)=18014398509481984 from rfl] at this;rw [this]
theorem Ai (e kind:Int) (h:U e):lw (cg e kind)=lw e:=by unfold lw;rw [iY e kind h 1 al al al,iY e kind h 3 al al al]
theorem tX (e kind:Int) (h:U e):dJ (cg e kind)=dJ e:=by unfold dJ;have:=Af e kind h 10 al;rw [show ((2:Int)^10)=1024 from rfl] at this;rw [this]
theorem gm (k:Int):dI k≠0:=by unfold dI;split<;>(try split)<;>decide
theorem gR (k:Int):dg k≠0:=by unfold dg;split<;>(try split)<;>decide
theorem pP (l:List Int) (p va kind e x:Int) (lv:Nat) (h:(cL l p va kind e x lv).code=0):ly e lv=false/\fX l kind e=false/\fY l p kind e=false/\(((cg e kind != e)=true/\ay l 1 x (aM x 8) 3 4 0=true/\cL l p va kind e x lv=⟨fT e va lv,0,true,x,cg e kind⟩)\/((cg e kind != e)=false/\cL l p va kind e x lv=⟨fT e va lv,0,false,0,0⟩)):=by
 unfold cL at h ⊢;cases a:ly e lv with
 | true=>rw [a,if_pos rfl] at h;exact absurd h (gm kind)
 | false =>
   rw [a,if_neg a5] at h;cases b:fX l kind e with
   | true=>rw [b,if_pos rfl] at h;exact absurd h (gm kind)
   | false =>
     rw [b,if_neg a5] at h;cases c:fY l p kind e with
     | true=>rw [c,if_pos rfl] at h;exact absurd h (gm kind)
     | false =>
       rw [c,if_neg a5] at h;refine ⟨rfl,rfl,rfl,?_⟩;cases d:(cg e kind != e) with
       | true =>
         rw [d,if_pos rfl] at h;cases f:ay l 1 x (aM x 8) 3 4 0 with
         | true=>exact .inl ⟨rfl,rfl,rfl⟩
         | false=>rw [f,if_neg a5] at h;exact absurd h (gR kind)
       | false=>exact .inr ⟨rfl,rfl⟩
theorem tY (l:List Int) (p va kind e x:Int) (lv:Nat) (he:U e) (h:(cL l p va kind e x lv).code=0):cL l p va kind (cg e kind) x lv=⟨fT e va lv,0,false,0,0⟩:=by
 obtain ⟨a,b,c,_⟩:=pP l p va kind e x lv h;have d:ly (cg e kind) lv=false:=by unfold ly at a ⊢;rw [tX e kind he];exact a
 have f:fX l kind (cg e kind)=false:=by unfold fX at b ⊢;rw [iY e kind he 1 al al al,iY e kind he 2 al al al,iY e kind he 3 al al al];exact b
 have g:fY l p kind (cg e kind)=false:=by unfold fY at c ⊢;rw [iY e kind he 4 al al al];exact c
 have i:(cg (cg e kind) kind != cg e kind)=false:=by rw [Gl e kind he];simp
 have j:fT (cg e kind) va lv=fT e va lv:=by unfold fT;rw [tX e kind he]
 unfold cL;rw [d,f,g,i,j];rfl
theorem PL (zs:List Int) (hz:∀ i,0<=zs.getD i 0/\zs.getD i 0<=255) (x:Int):U (eY zs x):=sH zs hz 8 _ al
theorem PN (T va:Int) (lv:Nat) (a:T%8=0):bq T va lv%8=0:=by unfold bq;generalize bits .and .u64 (va/2^(12+9*lv)) 511=z;rw [IntKind.wrap_u64,IntKind.wrap_u64];omega
theorem Jl (z:Int):Uz.wrap (z*4096)%8=0:=by rw [IntKind.wrap_u64];omega
theorem Aj (zs:List Int) (n:Nat) (hz:zs.length=n) (x v:Int) (hx:fQ n x 8=true) (hv:U v):eY (jZ zs (x-2147483648).toNat v 8) x=v:=by have h:=xI hx;unfold eY;rw [N6 zs _ 8 v al];have:=hv.1;have:=hv.2;omega
theorem LY (zs:List Int) (n:Nat) (x y v:Int) (hx:fQ n x 8=true) (hy:fQ n y 8=true) (b:x%8=0) (c:y%8=0) (a:x≠y):eY (jZ zs (x-2147483648).toNat v 8) y=eY zs y:=by have h:=xI hx;have d:=xI hy;unfold eY;exact Cj zs _ _ 8 v al
theorem Gm (zs:List Int) (n:Nat) (hz:zs.length=n) (hb:∀ i,0<=zs.getD i 0/\zs.getD i 0<=255) (l:List Int) (p va kind:Int):∀ a T,T%8=0->(bA zs n l p va kind a T).code=0->(bA zs n l p va kind a T).marked=true -> fQ n (bA zs n l p va kind a T).at_ 8=true/\(bA zs n l p va kind a T).at_%8=0/\lw (eY zs (bA zs n l p va kind a T).at_)=false /\ bA (jZ zs ((bA zs n l p va kind a T).at_-2147483648).toNat (bA zs n l p va kind a T).entry 8) n l p va kind a T=⟨(bA zs n l p va kind a T).addr,0,false,0,0⟩:=by
 intro a;induction a with
 | zero =>
   intro T q b g;have E:=fZ zs n l p va kind 0 T;have f:=PN T va 0 q;have m:=PL zs hb (bq T va 0);generalize w:bA zs n l p va kind 0 T=W at *;cases c:fQ n (bq T va 0) 8 with
   | false=>rw [c,if_neg a5] at E;subst E;exact absurd b (gR kind)
   | true =>
     rw [c,if_pos rfl] at E;cases h:ay l 1 (bq T va 0) (aM (bq T va 0) 8) 2 4 0 with
     | false=>rw [h,if_neg a5] at E;subst E;exact absurd b (gR kind)
     | true =>
       rw [h,if_pos rfl] at E;cases j:ol (eY zs (bq T va 0)) with
       | true=>rw [j,if_pos rfl] at E;subst E;exact absurd b (gm kind)
       | false =>
         rw [j,if_neg a5] at E;cases d:lw (eY zs (bq T va 0)) with
         | true =>have s:iK (eY zs (bq T va 0)) 0=true:=rfl;rw [d,if_pos rfl,s,if_pos rfl] at E;subst E;exact absurd b (gm kind)
         | false =>
           rw [d,if_neg a5] at E;rw [E] at b g;obtain ⟨_,_,_,⟨_,_,k⟩|⟨_,k⟩⟩:=pP _ _ _ _ _ _ _ b;·rw [E,k];refine ⟨c,f,d,?_⟩;rw [fZ,c,if_pos rfl,h,if_pos rfl,Aj zs n hz _ _ c (lz _ _),Ah _ kind m,j,if_neg a5,Ai _ kind m,d,if_neg a5];exact tY _ _ _ _ _ _ _ m b
           ·rw [k] at g;cases g
 | succ a y =>
   intro T q b g;have E:=fZ zs n l p va kind (a+1) T;have f:=PN T va (a+1) q;have m:=PL zs hb (bq T va (a+1));rw [show a+1-1=a from rfl] at E;generalize w:bA zs n l p va kind (a+1) T=W at *;cases c:fQ n (bq T va (a+1)) 8 with
   | false=>rw [c,if_neg a5] at E;subst E;exact absurd b (gR kind)
   | true =>
     rw [c,if_pos rfl] at E;cases h:ay l 1 (bq T va (a+1)) (aM (bq T va (a+1)) 8) 2 4 0 with
     | false=>rw [h,if_neg a5] at E;subst E;exact absurd b (gR kind)
     | true =>
       rw [h,if_pos rfl] at E;cases j:ol (eY zs (bq T va (a+1))) with
       | true=>rw [j,if_pos rfl] at E;subst E;exact absurd b (gm kind)
       | false =>
         rw [j,if_neg a5] at E;cases d:lw (eY zs (bq T va (a+1))) with
         | true =>
           rw [d,if_pos rfl] at E;cases o:iK (eY zs (bq T va (a+1))) (a+1) with
           | true=>rw [o,if_pos rfl] at E;subst E;exact absurd b (gm kind)
           | false =>rw [o,if_neg a5] at E;rw [E] at b g;obtain ⟨u,v,t,x⟩:=y _ (Jl _) b g;rw [E];refine ⟨u,v,t,?_⟩;have r:(bA zs n l p va kind a (Uz.wrap (dJ (eY zs (bq T va (a+1)))*4096))).at_≠bq T va (a+1):=(by intro e;rw [e,d] at t;cases t);rw [fZ _ _ _ _ _ _ (a+1),c,if_pos rfl,h,if_pos rfl,LY zs n _ _ _ u c v f r,j,if_neg a5,d,if_pos rfl,o,if_neg a5];exact x
         | false =>
           rw [d,if_neg a5] at E;rw [E] at b g;obtain ⟨_,_,_,⟨_,_,k⟩|⟨_,k⟩⟩:=pP _ _ _ _ _ _ _ b;·rw [E,k];refine ⟨c,f,d,?_⟩;rw [fZ,c,if_pos rfl,h,if_pos rfl,Aj zs n hz _ _ c (lz _ _),Ah _ kind m,j,if_neg a5,Ai _ kind m,d,if_neg a5];exact tY _ _ _ _ _ _ _ m b
           ·rw [k] at g;cases g
theorem tZ (zs:List Int) (n:Nat) (l:List Int) (p va kind:Int):∀ a T,a<=2 -> ((bA zs n l p va kind a T).code=0/\(∃ e k,k<=2/\(bA zs n l p va kind a T).addr=fT e va k)/\((bA zs n l p va kind a T).marked=false->bA zs n l p va kind a T=⟨(bA zs n l p va kind a T).addr,0,false,0,0⟩)) \/ ((bA zs n l p va kind a T).code≠0/\(bA zs n l p va kind a T).addr=0/\(bA zs n l p va kind a T).marked=false):=by
 have c:∀ e x k,k<=2->((cL l p va kind e x k).code=0/\(∃ j i,i<=2/\(cL l p va kind e x k).addr=fT j va i)/\((cL l p va kind e x k).marked=false->cL l p va kind e x k=⟨(cL l p va kind e x k).addr,0,false,0,0⟩))\/((cL l p va kind e x k).code≠0/\(cL l p va kind e x k).addr=0/\(cL l p va kind e x k).marked=false):=by
  intro e x k g;by_cases b:(cL l p va kind e x k).code=0
  ·obtain ⟨_,_,_,⟨_,_,f⟩ | ⟨_,f⟩⟩:=pP _ _ _ _ _ _ _ b;·rw [f];exact .inl ⟨rfl,⟨e,k,g,rfl⟩,λh=>ow⟩
   ·rw [f];exact .inl ⟨rfl,⟨e,k,g,rfl⟩,λ_=>rfl⟩
  ·refine .inr ⟨b,?_⟩;unfold cL at b ⊢;split;·exact ⟨rfl,rfl⟩
   ·rename_i m;rw [if_neg m] at b;split;·exact ⟨rfl,rfl⟩
    ·rename_i o;rw [if_neg o] at b;split;·exact ⟨rfl,rfl⟩
     ·rename_i q;rw [if_neg q] at b;split
      ·rename_i d;rw [if_pos d] at b;split;·rename_i r;rw [if_pos r] at b;exact absurd rfl b
       ·exact ⟨rfl,rfl⟩
      ·rename_i d;rw [if_neg d] at b;exact absurd rfl b
 intro a;induction a with
 | zero =>
   intro T _;rw [bA];split
   ·split
    ·split;·exact .inr ⟨gm kind,rfl,rfl⟩
     ·split;·exact .inr ⟨gm kind,rfl,rfl⟩
      ·exact c _ _ _ al
    ·exact .inr ⟨gR kind,rfl,rfl⟩
   ·exact .inr ⟨gR kind,rfl,rfl⟩
 | succ a t =>
   intro T s;rw [bA];split
   ·split
    ·split;·exact .inr ⟨gm kind,rfl,rfl⟩
     ·split
      ·split;·exact .inr ⟨gm kind,rfl,rfl⟩
       ·exact t _ al
      ·exact c _ _ _ al
    ·exact .inr ⟨gR kind,rfl,rfl⟩
   ·exact .inr ⟨gR kind,rfl,rfl⟩
theorem LZ:∀ i,i<64->bt 4095 i=decide (i<12):=by decide +kernel
theorem Jm (e va:Int) (k:Nat) (hk:k<=2):bits .and .u64 (fT e va k) 4095=bits .and .u64 va 4095:=by
 refine bg _ _ (aj _ _ _) (aj _ _ _) λi a=>?_;unfold fT FD;rw [az,az,bZ,aA _ _ _ a,az,Ei _ al i a,LZ i a];by_cases h:i<12;·have b:i<12+9*k:=al;simp [h,b]
 ·simp [h]
theorem CT (zs:List Int) (n:Nat) (hz:zs.length=n) (hb:∀ i,0<=zs.getD i 0/\zs.getD i 0<=255) (l:List Int) (p va kind:Int):((bO zs n l p va kind).code=0/\bO (aN zs (bO zs n l p va kind)) n l p va kind=⟨(bO zs n l p va kind).addr,0,false,0,0⟩/\bits .and .u64 (bO zs n l p va kind).addr 4095=bits .and .u64 va 4095) \/ ((bO zs n l p va kind).code≠0/\(bO zs n l p va kind).addr=0/\(bO zs n l p va kind).marked=false):=by
 have E:∀ c,bO c n l p va kind=if ((p==3)||(l.getD 15 0/1152921504606846976==0))=true then ⟨va,0,false,0,0⟩ else if (aq 39 va != va)=true then bH kind else bA c n l p va kind 2 (j8 l):=λc=>rfl
 rw [E zs];cases f:((p==3)||(l.getD 15 0/1152921504606846976==0)) with
 | true =>rw [if_pos rfl];refine .inl ⟨rfl,?_,rfl⟩;rw [E,f,if_pos rfl]
 | false =>
   rw [if_neg a5];cases g:(aq 39 va != va) with
   | true=>rw [if_pos rfl];exact .inr ⟨gm kind,rfl,rfl⟩
   | false =>
     rw [if_neg a5];rcases tZ zs n l p va kind 2 (j8 l) al with ⟨d,⟨e,k,o,m⟩,b⟩|h
     ·refine .inl ⟨d,?_,by rw [m];exact Jm e va k o⟩;rw [E,f,if_neg a5,g,if_neg a5];cases a:(bA zs n l p va kind 2 (j8 l)).marked with
      | true =>have j:j8 l%8=0:=Jl _;obtain ⟨_,_,_,q⟩:=Gm zs n hz hb l p va kind 2 (j8 l) j d a;unfold aN;rw [a,if_pos rfl];exact q
      | false =>unfold aN;rw [a,if_neg a5];exact b a
     ·exact .inr h
structure MW (M:MV):Prop where
 cs:∀ j,U (M.cs.getD j 0)
 ram:∀ y ∈ M.ram,(Lit.int .u8 y).wf=true
 xs:∀ y ∈ M.d.xs,(Lit.int .u8 y).wf=true
 ys:∀ y ∈ M.d.ys,(Lit.int .u8 y).wf=true
theorem Pj.mw {w:World} {M:MV} {A:MA} (h:Pj w M A):MW M:=⟨λj=>yW h.wcs j,h.wram,h.wxs,h.wys⟩
theorem Ek {y:Int} (h:(Lit.int .u8 y).wf=true):0<=y/\y<=255:=by simpa [Lit.wf,IntKind.min,IntKind.max,IntKind.signed,IntKind.bits] using h
theorem Jn {y:Int} (h:0<=y/\y<=255):(Lit.int .u8 y).wf=true:=by simpa [Lit.wf,IntKind.min,IntKind.max,IntKind.signed,IntKind.bits] using h
theorem Jo (zs:List Int) (h:∀ y ∈ zs,(Lit.int .u8 y).wf=true) (f:Nat) (x:Int) (k:Nat):∀ y ∈ jZ zs f x k,(Lit.int .u8 y).wf=true:=λy a=>Jn (NC zs (λz b=>Ek (h z b)) f x k y a)
theorem yc (zs:List Int) (h:∀ y ∈ zs,(Lit.int .u8 y).wf=true) (F:Fd):∀ y ∈ aN zs F,(Lit.int .u8 y).wf=true:=by
 unfold aN;split;·exact Jo zs h _ _ _
 ·exact h
theorem aF {M:MV} (h:gY M=true):M.cs.length=22/\bf 22 M.cs=true/\bI M.pr=true/\be M.ram.length=true/\kq M.d.xs.length M.d.ys.length M.d.ir=true/\kB M=true:=by unfold gY at h;simp only [Bool.and_eq_true] at h;obtain ⟨⟨⟨⟨⟨⟨_,_⟩,c⟩,d⟩,e⟩,_⟩,f⟩:=h;have a:=pE c;have b:=c;unfold aQ at b;rw [Bool.and_eq_true] at b;rw [a] at b;exact ⟨a,b.1,b.2,d,e,f⟩
theorem PO (s:Int) (h:U s):s/2048%4=(if bt s 11=true then 1 else 0)+2*(if bt s 12=true then 1 else 0):=by
 have b:ap s 11=s/2^11%2^1:=by have a:=kT s h 11;exact cj (s/2^11) 1 a.1 a.2 al
 have c:ap s 12=s/2^12%2^1:=by have a:=kT s h 12;exact cj (s/2^12) 1 a.1 a.2 al
 have d:=pO s h 11;have e:=pO s h 12;rw [<- d,<- e,b,c];omega
theorem Ak (s:Int) (a:U s) (c:eZ 0 s=true):bI (wrap64 (bits .and .u64 (s/2048) 3))=true:=by
 have g:mst s=s:=by unfold eZ aX at c;simpa using c
 have b:=((qz _ a).1 g).2;have d:=kT s a 11;have f:=cj (s/2^11) 2 d.1 d.2 al;have e:bits .and .u64 (s/2048) 3=s/2048%4:=f;rw [e,PO s a];revert b;cases bt s 11<;>cases bt s 12<;>intro b;·decide +kernel
 ·cases b
 ·decide +kernel
 ·decide +kernel
theorem t9 {l:List Int} (c:U (l.getD 0 0)) (a:bf 22 l=true) {p:Int} (d:bI p=true) (kind:Int):bI (eC l p kind)=true:=by
 unfold eC;split;·have b:eZ 0 (l.getD 0 0)=true:=(by unfold bf eO at a;simp only [Bool.and_eq_true] at a;exact a.2.1);exact Ak _ c b
 ·exact d
theorem sB (zs:List Int) (n:Nat) (l:List Int) (p va kind:Int) (h:U va):U (bO zs n l p va kind).addr:=by
 unfold bO;split;·exact h
 ·split;·exact ⟨by show (0:Int)<=0;omega,by show (0:Int)<_;omega⟩
  ·rcases tZ zs n l p va kind 2 (j8 l) al with ⟨_,⟨e,k,_,a⟩,_⟩|⟨_,a,_⟩;·rw [a];exact aj _ _ _
   ·rw [a];exact ⟨al,al⟩
theorem CU (x s:Int) (a:1<=s) (b:s<=8):aM x s=Uz.wrap (Uz.wrap (x+s)-1):=by unfold aM;rw [show Uz.wrap s=s by rw [IntKind.wrap_u64];omega]
theorem eI (a:Option Addr) (n cap:Nat) (l:List Int) (p:Int) (w:World) (hz:l.length=n) (hs:Sl .u64 w a l) (hl:∀ j,U (l.getD j 0)):CB 68 #[.slice a n cap,.i p] w (.bool (aQ n l p)):=by
 have f:Hid (CB 62 #[.slice a n cap] w (.bool (bf n l))):=by have:=kC a n cap l w hz hs hl;rw [wo n l hl] at this;exact this
 have g:Hid (∀ w,CE 109 #[.i p] w (.bool (bI p))):=tU p;have F:Hid (aQ n l p=(bf n l&&bI p)):=(rfl:aQ n l p=_);clear hs hz hl;generalize bf n l=q at *;generalize bI p=r at *;cases q with
 | false =>go_enter func68,ntmps68;go_wp2_with fail;refine f.out.mono ?_;rintro e m ⟨rfl,c⟩;go_wp2_with fail;go_ret;exact ⟨a6,c⟩
 | true =>go_enter func68,ntmps68;go_wp2_with fail;refine f.out.mono ?_;rintro e m ⟨rfl,c⟩;go_wp2_with fail;refine (g.out _).mono ?_;rintro e o ⟨rfl,d⟩;subst d;go_wp2_with fail;go_ret;exact ⟨a6,c⟩
theorem kj (w:World) (n:Nat):Bw w (w.drewN n):=⟨rfl,rfl,rfl,Nat.le_refl _,λ_ _=>rfl⟩
theorem CV (M c:MV) (A:MA) (B r:Nat) (addr size x p q Y:Int) (G cd wr Z u:Bool) (yl:Int) (V:Int × MV × Int) (w:World) (hm:Mp B r M A w) (hs1:1<=size) (hs8:size<=8) (ha:0<=addr/\addr<18446744073709551616) (hcr:(addr%size != 0)=G) (hfc:(Y != 0)=cd)
 (S:∀ d,Mp B r M A d->Calls prog 114 #[.p r 0,.slice none 0 0,.u addr,.i 1] d λe b=>e=.returned (.tuple #[.u q,.i Y])/\Mp B r c A b/\Kx r (aH M A) (aH c A) d b)
 (hwr:decide (Uz.wrap (Uz.wrap (q+size)-1)<q)=wr)
 (Q:∀ d,Mp B r c A d->CE 116 #[.slice A.ac c.cs.length A.cc,.i c.pr,.i 1] d (.i p))
 (T:∀ d,Mp B r c A d->CE 115 #[.slice A.ac c.cs.length A.cc,.i p,.u q,.i size,.i 1] d (.bool Z))
 (R:∀ d,Mp B r c A d->CE 117 #[.slice A.ar c.ram.length A.cr,.u q,.i size] d (.bool u))
 (P:u=true->∀ d,Mp B r c A d->CE 118 #[.slice A.ar c.ram.length A.cr,.u q,.i size] d (.u yl))
 (hV:V=(if G=true then (0,M,16) else if cd=true then (0,c,wrap64 (Y+16)) else if (wr||!Z)=true then (0,c,17) else if u=true then (yl,c,0) else (0,c,17):Int × MV × Int)) :
 Calls prog 76 #[.p r 0,.slice none 0 0,.u addr,.i size,.i 1,.u x] w λe d=>e=.returned (.tuple #[.u V.1,.i V.2.2])/\∃ A',Mp B r V.2.1 A' d/\Kx r (aH M A) (aH V.2.1 A') w d:=by
 have HM:=ak hm
 have H:=ak hV
 have HLX:=ak S
 have y:=ak Q
 have z:=ak T
 have HIX:=ak R
 have HDX:=ak P
 clear hm hV S Q T R P
 cases G with
 | true =>
   have F:Hid (V=(0,M,16)):=by show _=_;rw [H.out];rfl
   go_enter func76,ntmps76
   go_wp2_with fail
   go_region
   all_goals go_wp2_with fail
   all_goals refine bodyPost_ret (results_tmp2 rfl _ _ _) rfl ?_
   all_goals exact ⟨a6,bb⟩
 | false =>
   go_enter func76,ntmps76
   go_wp2_with fail
   refine (HLX.out _ HM.out).mono ?_
   rintro e w1 ⟨rfl,X,U⟩
   have D:=ak X
   have C:=ak U
   clear X U
   cases cd with
   | true =>
     have F:Hid (V=(0,c,wrap64 (Y+16))):=by show _=_;rw [H.out];rfl
     go_wp2_with fail
     refine bodyPost_ret (results_tmp2 rfl _ _ _) rfl ?_
     exact ⟨a6,by rw [F.out];exact ⟨A,D.out,C.out⟩⟩
   | false =>
     go_wp2_with fail
     obtain ⟨g,s⟩:∃ W,W=w1.alloc (.cells #[.i 0,.i 17,.i 21,.i 23] 2 (0,0)):=⟨_,rfl⟩
     rw [<- s]
     have E:Hid (Mp B r c A g):=by show Mp _ _ _ _ _;rw [s];exact D.out.below (bal _ _)
     have I:Hid (Kx r (aH M A) (aH c A) w g):=by show Kx _ _ _ _ _;rw [s];exact C.out.trans (Kx.of_below (bal _ _))
     clear s D C
     have f:Hid (∀ n,Mp B r c A (g.drewN n)):=λn=>E.out.below (kj g n)
     have o:Hid (∀ n,Kx r (aH M A) (aH c A) w (g.drewN n)):=λn=>I.out.trans (Kx.of_below (kj g n))
     obtain ⟨c0,c1,c2,c3,c4,c5,c6,c7,c8,c9,K,L,N,O⟩:=ae E.out.row
     cases wr with
     | true =>
       have F:Hid (V=(0,c,17)):=by show _=_;rw [H.out];rfl
       have j:Hid (∀ n,Calls prog 116 #[.slice A.ac c.cs.length A.cc,.i c.pr,.i 1] (g.drewN n) λe b=>e=.returned (.i p)/\b=g.drewN n):=λn=>y.out _ (f.out n)
       have l:Hid (∀ n,Calls prog 115 #[.slice A.ac c.cs.length A.cc,.i p,.u q,.i size,.i 1] (g.drewN n) λe b=>e=.returned (.bool Z)/\b=g.drewN n):=λn=>z.out _ (f.out n)
       go_quiet (first | (go_at_call 116;with_reducible refine Calls.quiet_of_same (j.out _)) | (go_at_call 115;with_reducible refine Calls.quiet_of_same (l.out _)))
       all_goals go_wp2_with fail
       all_goals refine bodyPost_ret (results_tmp2 rfl _ _ _) rfl ?_
       all_goals exact ⟨a6,by rw [F.out];exact ⟨A,f.out _,o.out _⟩⟩
     | false =>
       cases Z with
       | false =>
         have F:Hid (V=(0,c,17)):=by show _=_;rw [H.out];rfl
         have j:Hid (∀ n,Calls prog 116 #[.slice A.ac c.cs.length A.cc,.i c.pr,.i 1] (g.drewN n) λe b=>e=.returned (.i p)/\b=g.drewN n):=λn=>y.out _ (f.out n)
         have l:Hid (∀ n,Calls prog 115 #[.slice A.ac c.cs.length A.cc,.i p,.u q,.i size,.i 1] (g.drewN n) λe b=>e=.returned (.bool false)/\b=g.drewN n):=λn=>z.out _ (f.out n)
         go_quiet (first | (go_at_call 116;with_reducible refine Calls.quiet_of_same (j.out _)) | (go_at_call 115;with_reducible refine Calls.quiet_of_same (l.out _)))
         all_goals go_wp2_with fail
         all_goals refine bodyPost_ret (results_tmp2 rfl _ _ _) rfl ?_
         all_goals exact ⟨a6,by rw [F.out];exact ⟨A,f.out _,o.out _⟩⟩
       | true =>
         have j:Hid (∀ n,Calls prog 116 #[.slice A.ac c.cs.length A.cc,.i c.pr,.i 1] (g.drewN n) λe b=>e=.returned (.i p)/\b=g.drewN n):=λn=>y.out _ (f.out n)
         have l:Hid (∀ n,Calls prog 115 #[.slice A.ac c.cs.length A.cc,.i p,.u q,.i size,.i 1] (g.drewN n) λe b=>e=.returned (.bool true)/\b=g.drewN n):=λn=>z.out _ (f.out n)
         go_quiet (first | (go_at_call 116;with_reducible refine Calls.quiet_of_same (j.out _)) | (go_at_call 115;with_reducible refine Calls.quiet_of_same (l.out _)))
         obtain ⟨w3,t⟩:∃ W,W=g.drewN nq:=⟨_,rfl⟩
         rw [<- t]
         have m:Hid (Mp B r c A w3):=by show Mp _ _ _ _ _;rw [t];exact f.out _
         have J:Hid (Kx r (aH M A) (aH c A) w w3):=by show Kx _ _ _ _ _;rw [t];exact o.out _
         clear t E I f o j l
         clear c0 c1 c2 c3 c4 c5 c6 c7 c8 c9 K L N O
         obtain ⟨c0,c1,c2,c3,c4,c5,c6,c7,c8,c9,K,L,N,O⟩:=ae m.out.row
         go_wp2_with fail
         refine (HIX.out _ m.out).mono ?_
         rintro e w4 ⟨rfl,hw4⟩
         subst hw4
         cases u with
         | true =>
           have F:Hid (V=(yl,c,0)):=by show _=_;rw [H.out];rfl
           go_wp2_with fail
           refine (HDX.out (by trivial) _ m.out).mono ?_
           rintro e w5 ⟨rfl,hw5⟩
           subst hw5
           go_wp2_with fail
           refine bodyPost_ret (results_tmp2 rfl _ _ _) rfl ?_
           exact ⟨a6,by rw [F.out];exact ⟨A,m.out,J.out⟩⟩
         | false =>
           have F:Hid (V=(0,c,17)):=by show _=_;rw [H.out];rfl
           go_wp2_with fail
           refine bodyPost_ret (results_tmp2 rfl _ _ _) rfl ?_
           exact ⟨a6,by rw [F.out];exact ⟨A,m.out,J.out⟩⟩
theorem CY (M d:MV) (A:MA) (B r:Nat) (addr size x p s fc:Int) (U cd wr pm I:Bool) (yl:Int) (yd:Int) (D:DV) (is:Bool) (V:Int × MV × Int) (w:World) (hm:Mp B r M A w) (hs1:1<=size) (hs8:size<=8) (ha:0<=addr/\addr<18446744073709551616) (hcr:(addr%size != 0)=U) (hfc:(fc != 0)=cd)
 (hL0:∀ f,Mp B r M A f->Calls prog 114 #[.p r 0,.slice none 0 0,.u addr,.i 2] f λe c=>e=.returned (.tuple #[.u s,.i fc])/\Mp B r d A c/\Kx r (aH M A) (aH d A) f c)
 (hwr:decide (Uz.wrap (Uz.wrap (s+size)-1)<s)=wr)
 (hE0:∀ f,Mp B r d A f->CE 116 #[.slice A.ac d.cs.length A.cc,.i d.pr,.i 2] f (.i p))
 (hP0:∀ f,Mp B r d A f->CE 115 #[.slice A.ac d.cs.length A.cc,.i p,.u s,.i size,.i 2] f (.bool pm))
 (hI0:∀ f,Mp B r d A f->CE 117 #[.slice A.ar d.ram.length A.cr,.u s,.i size] f (.bool I))
 (hD0:I=true->∀ f,Mp B r d A f->CE 118 #[.slice A.ar d.ram.length A.cr,.u s,.i size] f (.u yl))
 (h80:∀ f,Mp B r d A f->Calls prog 120 #[.agg #[.u d.d.t,.u d.d.cm,.bool d.d.so,.slice A.ai d.d.xs.length A.ci,.slice A.ao d.d.ys.length A.co,.i d.d.ir],.u s,.i size] f λe c=>∃ (S:Option Addr) (X:Nat) (T:Option Addr) (Y:Nat),e=.returned (.tuple #[.u yd,.agg #[.u D.t,.u D.cm,.bool D.so,.slice S D.xs.length X,.slice T D.ys.length Y,.i D.ir],.bool is])/\eX f c A.ai A.ci d.d.xs A.ao A.co d.d.ys S X D.xs T Y D.ys/\Bw f c)
 (hN0:∀ (J:MA) f,Mp B r (dy d D) J f->Calls prog 121 #[.p r 0] f λe c=>e=.returned (.tuple #[])/\Mp B r (dH (dy d D)) J c/\Kx r (aH (dy d D) J) (aH (dH (dy d D)) J) f c)
 (hV:V=(if U=true then (0,M,20) else if cd=true then (0,d,wrap64 (fc+16)) else if (wr||!pm)=true then (0,d,21) else if I=true then (yl,d,0) else (if is=true then (yd,dH (dy d D),0) else (0,d,21)):Int × MV × Int)) :
 Calls prog 76 #[.p r 0,.slice none 0 0,.u addr,.i size,.i 2,.u x] w λe f=>e=.returned (.tuple #[.u V.1,.i V.2.2])/\∃ J,Mp B r V.2.1 J f/\Kx r (aH M A) (aH V.2.1 J) w f:=by
 have HM:=ak hm
 have N:=ak hV
 have HLX:=ak hL0
 have K:=ak hE0
 have L:=ak hP0
 have HIX:=ak hI0
 have HDX:=ak hD0
 have H8X:=ak h80
 have HNX:=ak hN0
 clear hm hV hL0 hE0 hP0 hI0 hD0 h80 hN0
 cases U with
 | true =>
   have F:Hid (V=(0,M,20)):=by show _=_;rw [N.out];rfl
   go_enter func76,ntmps76
   go_wp2_with fail
   go_region
   all_goals go_wp2_with fail
   all_goals refine bodyPost_ret (results_tmp2 rfl _ _ _) rfl ?_
   all_goals exact ⟨a6,bb⟩
 | false =>
   go_enter func76,ntmps76
   go_wp2_with fail
   refine (HLX.out _ HM.out).mono ?_
   rintro e w1 ⟨rfl,mp1,kx1⟩
   have Q:=ak mp1
   have O:=ak kx1
   clear mp1 kx1
   cases cd with
   | true =>
     have F:Hid (V=(0,d,wrap64 (fc+16))):=by show _=_;rw [N.out];rfl
     go_wp2_with fail
     refine bodyPost_ret (results_tmp2 rfl _ _ _) rfl ?_
     exact ⟨a6,by rw [F.out];exact ⟨A,Q.out,O.out⟩⟩
   | false =>
     go_wp2_with fail
     obtain ⟨l,G⟩:∃ W,W=w1.alloc (.cells #[.i 0,.i 17,.i 21,.i 23] 2 (0,0)):=⟨_,rfl⟩
     rw [<- G]
     have R:Hid (Mp B r d A l):=by show Mp _ _ _ _ _;rw [G];exact Q.out.below (bal _ _)
     have Z:Hid (Kx r (aH M A) (aH d A) w l):=by show Kx _ _ _ _ _;rw [G];exact O.out.trans (Kx.of_below (bal _ _))
     clear G Q O
     have g:Hid (∀ n,Mp B r d A (l.drewN n)):=λn=>R.out.below (kj l n)
     have t:Hid (∀ n,Kx r (aH M A) (aH d A) w (l.drewN n)):=λn=>Z.out.trans (Kx.of_below (kj l n))
     obtain ⟨c0,c1,c2,c3,c4,c5,c6,c7,c8,c9,u,y,z,C⟩:=ae R.out.row
     cases wr with
     | true =>
       have F:Hid (V=(0,d,21)):=by show _=_;rw [N.out];rfl
       have m:Hid (∀ n,Calls prog 116 #[.slice A.ac d.cs.length A.cc,.i d.pr,.i 2] (l.drewN n) λe c=>e=.returned (.i p)/\c=l.drewN n):=λn=>K.out _ (g.out n)
       have q:Hid (∀ n,Calls prog 115 #[.slice A.ac d.cs.length A.cc,.i p,.u s,.i size,.i 2] (l.drewN n) λe c=>e=.returned (.bool pm)/\c=l.drewN n):=λn=>L.out _ (g.out n)
       go_quiet (first | (go_at_call 116;with_reducible refine Calls.quiet_of_same (m.out _)) | (go_at_call 115;with_reducible refine Calls.quiet_of_same (q.out _)))
       all_goals go_wp2_with fail
       all_goals refine bodyPost_ret (results_tmp2 rfl _ _ _) rfl ?_
       all_goals exact ⟨a6,by rw [F.out];exact ⟨A,g.out _,t.out _⟩⟩
     | false =>
       cases pm with
       | false =>
         have F:Hid (V=(0,d,21)):=by show _=_;rw [N.out];rfl
         have m:Hid (∀ n,Calls prog 116 #[.slice A.ac d.cs.length A.cc,.i d.pr,.i 2] (l.drewN n) λe c=>e=.returned (.i p)/\c=l.drewN n):=λn=>K.out _ (g.out n)
         have q:Hid (∀ n,Calls prog 115 #[.slice A.ac d.cs.length A.cc,.i p,.u s,.i size,.i 2] (l.drewN n) λe c=>e=.returned (.bool false)/\c=l.drewN n):=λn=>L.out _ (g.out n)
         go_quiet (first | (go_at_call 116;with_reducible refine Calls.quiet_of_same (m.out _)) | (go_at_call 115;with_reducible refine Calls.quiet_of_same (q.out _)))
         all_goals go_wp2_with fail
         all_goals refine bodyPost_ret (results_tmp2 rfl _ _ _) rfl ?_
         all_goals exact ⟨a6,by rw [F.out];exact ⟨A,g.out _,t.out _⟩⟩
       | true =>
         have m:Hid (∀ n,Calls prog 116 #[.slice A.ac d.cs.length A.cc,.i d.pr,.i 2] (l.drewN n) λe c=>e=.returned (.i p)/\c=l.drewN n):=λn=>K.out _ (g.out n)
         have q:Hid (∀ n,Calls prog 115 #[.slice A.ac d.cs.length A.cc,.i p,.u s,.i size,.i 2] (l.drewN n) λe c=>e=.returned (.bool true)/\c=l.drewN n):=λn=>L.out _ (g.out n)
         go_quiet (first | (go_at_call 116;with_reducible refine Calls.quiet_of_same (m.out _)) | (go_at_call 115;with_reducible refine Calls.quiet_of_same (q.out _)))
         obtain ⟨w3,H⟩:∃ W,W=l.drewN nq:=⟨_,rfl⟩
         rw [<- H]
         have j:Hid (Mp B r d A w3):=by show Mp _ _ _ _ _;rw [H];exact g.out _
         have P:Hid (Kx r (aH M A) (aH d A) w w3):=by show Kx _ _ _ _ _;rw [H];exact t.out _
         clear H R Z g t m q
         clear c0 c1 c2 c3 c4 c5 c6 c7 c8 c9 u y z C
         obtain ⟨c0,c1,c2,c3,c4,c5,c6,c7,c8,c9,u,y,z,C⟩:=ae j.out.row
         go_wp2_with fail
         refine (HIX.out _ j.out).mono ?_
         rintro e w4 ⟨rfl,hw4⟩
         subst hw4
         cases I with
         | true =>
           have F:Hid (V=(yl,d,0)):=by show _=_;rw [N.out];rfl
           go_wp2_with fail
           refine (HDX.out (by trivial) _ j.out).mono ?_
           rintro e w5 ⟨rfl,hw5⟩
           subst hw5
           go_wp2_with fail
           refine bodyPost_ret (results_tmp2 rfl _ _ _) rfl ?_
           exact ⟨a6,by rw [F.out];exact ⟨A,j.out,P.out⟩⟩
         | false =>
           go_wp2_with fail
           refine (H8X.out _ j.out).mono ?_
           rintro e w5 ⟨S,X,T,Y,rfl,rn5,E⟩
           have BB:=ak (aa E ((Below.refl _ _).alloc (Nat.le_refl _) (.cells #[.u D.t,.u D.cm,.bool D.so,.slice S D.xs.length X,.slice T D.ys.length Y,.i D.ir] 30 (0,0))))
           have RN:=ak (rn5.below ((Below.refl _ _).alloc (Nat.le_refl _) (.cells #[.u D.t,.u D.cm,.bool D.so,.slice S D.xs.length X,.slice T D.ys.length Y,.i D.ir] 30 (0,0))))
           have b:=an E j.out.row
           unfold aO at b
           have MP6:=ak (j.out.below BB.out)
           have KX6:=ak (P.out.trans (Kx.of_below BB.out))
           have nb1:¬ r=w5.heap.size:=by have h1:=j.out.lt;have h2:=E.size;omega
           have nb2:¬ w5.heap.size=r:=λh=>nb1 h.symm
           clear c0 c1 c2 c3 c4 c5 c6 c7 c8 c9 u y z C
           have c0:=λo=>(ae (ah b o)).1
           have c1:=λo=>(ae (ah b o)).2.1
           have c2:=λo=>(ae (ah b o)).2.2.1
           have c3:=λo=>(ae (ah b o)).2.2.2.1
           have c4:=λo=>(ae (ah b o)).2.2.2.2.1
           have c5:=λo=>(ae (ah b o)).2.2.2.2.2.1
           have c6:=λo=>(ae (ah b o)).2.2.2.2.2.2.1
           have c7:=λo=>(ae (ah b o)).2.2.2.2.2.2.2.1
           have c8:=λo=>(ae (ah b o)).2.2.2.2.2.2.2.2.1
           have c9:=λo=>(ae (ah b o)).2.2.2.2.2.2.2.2.2.1
           have u:=λo=>(ae (ah b o)).2.2.2.2.2.2.2.2.2.2.1
           have y:=λo=>(ae (ah b o)).2.2.2.2.2.2.2.2.2.2.2.1
           have z:=λo=>(ae (ah b o)).2.2.2.2.2.2.2.2.2.2.2.2.1
           have C:=λo=>(ae (ah b o)).2.2.2.2.2.2.2.2.2.2.2.2.2
           have f5:=λo=>(bK (ah b o)).2.2.2.2.2.1
           have f6:=λo=>(bK (ah b o)).2.2.2.2.2.2.1
           have f7:=λo=>(bK (ah b o)).2.2.2.2.2.2.2.1
           have f8:=λo=>(bK (ah b o)).2.2.2.2.2.2.2.2.1
           have f9:=λo=>(bK (ah b o)).2.2.2.2.2.2.2.2.2.1
           have f10:=λo=>(bK (ah b o)).2.2.2.2.2.2.2.2.2.2.1
           clear E rn5 b
           cases is with
           | false =>
             have F:Hid (V=(0,d,21)):=by show _=_;rw [N.out];rfl
             go_wp2_with fail
             refine bodyPost_ret (results_tmp2 rfl _ _ _) rfl ?_
             exact ⟨a6,by rw [F.out];exact ⟨A,MP6.out,KX6.out⟩⟩
           | true =>
             obtain ⟨MPD,KXD⟩:=j.out.dev BB.out D RN.out
             have MP7:=ak MPD
             have KX7:=ak (P.out.trans KXD)
             clear MPD KXD
             go_wp2_with fail
             refine (HNX.out (mY A S X T Y) _ MP7.out).mono ?_
             rintro e w8 ⟨rfl,mp8,kx8⟩
             have MP8:=ak mp8
             have KX8:=ak (KX7.out.trans kx8)
             clear mp8 kx8 MP7 KX7
             have F:Hid (V=(yd,dH (dy d D),0)):=by show _=_;rw [N.out];rfl
             go_wp2_with fail
             refine bodyPost_ret (results_tmp2 rfl _ _ _) rfl ?_
             exact ⟨a6,by rw [F.out];exact ⟨(mY A S X T Y),MP8.out,KX8.out⟩⟩
theorem C0 (M d:MV) (A:MA) (B r:Nat) (addr size x p J fc:Int) (crk cd wr pm X:Bool) (R:List Int) (D:DV) (is hit:Bool) (V:Int × MV × Int) (w:World) (hm:Mp B r M A w) (hs1:1<=size) (hs8:size<=8) (ha:0<=addr/\addr<18446744073709551616) (hcr:(addr%size != 0)=crk) (hfc:(fc != 0)=cd)
 (hL0:∀ g,Mp B r M A g->Calls prog 114 #[.p r 0,.slice none 0 0,.u addr,.i 3] g λe f=>e=.returned (.tuple #[.u J,.i fc])/\Mp B r d A f/\Kx r (aH M A) (aH d A) g f)
 (hwr:decide (Uz.wrap (Uz.wrap (J+size)-1)<J)=wr)
 (hE0:∀ g,Mp B r d A g->CE 116 #[.slice A.ac d.cs.length A.cc,.i d.pr,.i 3] g (.i p))
 (hP0:∀ g,Mp B r d A g->CE 115 #[.slice A.ac d.cs.length A.cc,.i p,.u J,.i size,.i 3] g (.bool pm))
 (hI0:∀ g,Mp B r d A g->CE 117 #[.slice A.ar d.ram.length A.cr,.u J,.i size] g (.bool X))
 (hp0:X=true->∀ g,Mp B r d A g->Calls prog 119 #[.slice A.ar d.ram.length A.cr,.u J,.i size,.u x] g λe f=>e=.returned (.tuple #[])/\Mp B r (bz d R) A f/\Kx r (aH d A) (aH (bz d R) A) g f) (hRl:R.length=d.ram.length) (q:nG d J=hit)
 (h80:∀ g,Mp B r d A g->Calls prog 122 #[.agg #[.u d.d.t,.u d.d.cm,.bool d.d.so,.slice A.ai d.d.xs.length A.ci,.slice A.ao d.d.ys.length A.co,.i d.d.ir],.u J,.i size,.u x] g λe f=>∃ (N:Option Addr) (P:Nat) (O:Option Addr) (Q:Nat),e=.returned (.tuple #[.agg #[.u D.t,.u D.cm,.bool D.so,.slice N D.xs.length P,.slice O D.ys.length Q,.i D.ir],.bool is])/\eX g f A.ai A.ci d.d.xs A.ao A.co d.d.ys N P D.xs O Q D.ys/\Bw g f)
 (hN0:∀ (A':MA) g,Mp B r (dy d D) A' g->Calls prog 121 #[.p r 0] g λe f=>e=.returned (.tuple #[])/\Mp B r (dH (dy d D)) A' f/\Kx r (aH (dy d D) A') (aH (dH (dy d D)) A') g f)
 (hV:V=(if crk=true then (0,M,22) else if cd=true then (0,d,wrap64 (fc+16)) else if (wr||!pm)=true then (0,d,23) else if X=true then (0,if hit=true then lT (bz d R) else bz d R,0) else (if is=true then (0,if hit=true then lT (dH (dy d D)) else dH (dy d D),0) else (0,d,23)):Int × MV × Int)) :
 Calls prog 76 #[.p r 0,.slice none 0 0,.u addr,.i size,.i 3,.u x] w λe g=>e=.returned (.tuple #[.u V.1,.i V.2.2])/\∃ A',Mp B r V.2.1 A' g/\Kx r (aH M A) (aH V.2.1 A') w g:=by
 have HM:=ak hm
 have G:=ak hV
 have HLX:=ak hL0
 have HEX:=ak hE0
 have HPX:=ak hP0
 have HIX:=ak hI0
 have HpX:=ak hp0
 have H8X:=ak h80
 have HNX:=ak hN0
 clear hm hV hL0 hE0 hP0 hI0 hp0 h80 hN0
 cases crk with
 | true =>
   have F:Hid (V=(0,M,22)):=by show _=_;rw [G.out];rfl
   go_enter func76,ntmps76
   go_wp2_with fail
   go_region
   all_goals go_wp2_with fail
   all_goals refine bodyPost_ret (results_tmp2 rfl _ _ _) rfl ?_
   all_goals exact ⟨a6,bb⟩
 | false =>
   go_enter func76,ntmps76
   go_wp2_with fail
   refine (HLX.out _ HM.out).mono ?_
   rintro e w1 ⟨rfl,mp1,kx1⟩
   have MP1:=ak mp1
   have KX1:=ak kx1
   clear mp1 kx1
   cases cd with
   | true =>
     have F:Hid (V=(0,d,wrap64 (fc+16))):=by show _=_;rw [G.out];rfl
     go_wp2_with fail
     refine bodyPost_ret (results_tmp2 rfl _ _ _) rfl ?_
     exact ⟨a6,by rw [F.out];exact ⟨A,MP1.out,KX1.out⟩⟩
   | false =>
     go_wp2_with fail
     obtain ⟨s,T⟩:∃ W,W=w1.alloc (.cells #[.i 0,.i 17,.i 21,.i 23] 2 (0,0)):=⟨_,rfl⟩
     rw [<- T]
     have MP2:Hid (Mp B r d A s):=by show Mp _ _ _ _ _;rw [T];exact MP1.out.below (bal _ _)
     have KX2:Hid (Kx r (aH M A) (aH d A) w s):=by show Kx _ _ _ _ _;rw [T];exact KX1.out.trans (Kx.of_below (bal _ _))
     clear T MP1 KX1
     have l:Hid (∀ n,Mp B r d A (s.drewN n)):=λn=>MP2.out.below (kj s n)
     have L:Hid (∀ n,Kx r (aH M A) (aH d A) w (s.drewN n)):=λn=>KX2.out.trans (Kx.of_below (kj s n))
     obtain ⟨Y,Z,c2,c3,c4,c5,c6,c7,c8,c9,u,m,j,y⟩:=ae MP2.out.row
     cases wr with
     | true =>
       have F:Hid (V=(0,d,23)):=by show _=_;rw [G.out];rfl
       have z:Hid (∀ n,Calls prog 116 #[.slice A.ac d.cs.length A.cc,.i d.pr,.i 3] (s.drewN n) λe f=>e=.returned (.i p)/\f=s.drewN n):=λn=>HEX.out _ (l.out n)
       have C:Hid (∀ n,Calls prog 115 #[.slice A.ac d.cs.length A.cc,.i p,.u J,.i size,.i 3] (s.drewN n) λe f=>e=.returned (.bool pm)/\f=s.drewN n):=λn=>HPX.out _ (l.out n)
       go_quiet (first | (go_at_call 116;with_reducible refine Calls.quiet_of_same (z.out _)) | (go_at_call 115;with_reducible refine Calls.quiet_of_same (C.out _)))
       all_goals go_wp2_with fail
       all_goals refine bodyPost_ret (results_tmp2 rfl _ _ _) rfl ?_
       all_goals exact ⟨a6,by rw [F.out];exact ⟨A,l.out _,L.out _⟩⟩
     | false =>
       cases pm with
       | false =>
         have F:Hid (V=(0,d,23)):=by show _=_;rw [G.out];rfl
         have z:Hid (∀ n,Calls prog 116 #[.slice A.ac d.cs.length A.cc,.i d.pr,.i 3] (s.drewN n) λe f=>e=.returned (.i p)/\f=s.drewN n):=λn=>HEX.out _ (l.out n)
         have C:Hid (∀ n,Calls prog 115 #[.slice A.ac d.cs.length A.cc,.i p,.u J,.i size,.i 3] (s.drewN n) λe f=>e=.returned (.bool false)/\f=s.drewN n):=λn=>HPX.out _ (l.out n)
         go_quiet (first | (go_at_call 116;with_reducible refine Calls.quiet_of_same (z.out _)) | (go_at_call 115;with_reducible refine Calls.quiet_of_same (C.out _)))
         all_goals go_wp2_with fail
         all_goals refine bodyPost_ret (results_tmp2 rfl _ _ _) rfl ?_
         all_goals exact ⟨a6,by rw [F.out];exact ⟨A,l.out _,L.out _⟩⟩
       | true =>
         have z:Hid (∀ n,Calls prog 116 #[.slice A.ac d.cs.length A.cc,.i d.pr,.i 3] (s.drewN n) λe f=>e=.returned (.i p)/\f=s.drewN n):=λn=>HEX.out _ (l.out n)
         have C:Hid (∀ n,Calls prog 115 #[.slice A.ac d.cs.length A.cc,.i p,.u J,.i size,.i 3] (s.drewN n) λe f=>e=.returned (.bool true)/\f=s.drewN n):=λn=>HPX.out _ (l.out n)
         go_quiet (first | (go_at_call 116;with_reducible refine Calls.quiet_of_same (z.out _)) | (go_at_call 115;with_reducible refine Calls.quiet_of_same (C.out _)))
         obtain ⟨w3,U⟩:∃ W,W=s.drewN nq:=⟨_,rfl⟩
         rw [<- U]
         have t:Hid (Mp B r d A w3):=by show Mp _ _ _ _ _;rw [U];exact l.out _
         have KX3:Hid (Kx r (aH M A) (aH d A) w w3):=by show Kx _ _ _ _ _;rw [U];exact L.out _
         clear U MP2 KX2 l L z C
         clear Y Z c2 c3 c4 c5 c6 c7 c8 c9 u m j y
         obtain ⟨Y,Z,c2,c3,c4,c5,c6,c7,c8,c9,u,m,j,y⟩:=ae t.out.row
         go_wp2_with fail
         refine (HIX.out _ t.out).mono ?_
         rintro e w4 ⟨rfl,hw4⟩
         subst hw4
         cases X with
         | true =>
           go_wp2_with fail
           refine (HpX.out (by trivial) _ t.out).mono ?_
           rintro e w5 ⟨rfl,mp5,kx5⟩
           have E:=ak mp5
           have KX5:=ak (KX3.out.trans kx5)
           clear mp5 kx5
           clear Y Z c2 c3 c4 c5 c6 c7 c8 c9 u m j y
           obtain ⟨Y,Z,c2,c3,c4,c5,c6,c7,c8,c9,u,m,j,y⟩:=ae E.out.row
           obtain ⟨f0,f1,f2,f3,f4,f5,f6,f7,f8,f9,f10,f11,f12,f13⟩:=bK E.out.row
           obtain ⟨bh,K⟩:∃ b,b=d.hl:=⟨_,rfl⟩
           unfold nG at q
           change _=some (Value.bool d.hl) at j
           change _=some (Value.int .u64 d.hd) at m
           rw [<- K] at j q
           clear K
           cases bh with
           | false =>
             rw [Bool.false_and] at q
             subst q
             have F:Hid (V=(0,bz d R,0)):=by show _=_;rw [G.out];rfl
             go_wp2_with fail
             refine bodyPost_ret (results_tmp2 rfl _ _ _) rfl ?_
             exact ⟨a6,by rw [F.out];exact ⟨A,E.out,KX5.out⟩⟩
           | true =>
             rw [Bool.true_and] at q
             cases hit with
             | false =>
               have F:Hid (V=(0,bz d R,0)):=by show _=_;rw [G.out];rfl
               go_wp2_with fail
               refine bodyPost_ret (results_tmp2 rfl _ _ _) rfl ?_
               exact ⟨a6,by rw [F.out];exact ⟨A,E.out,KX5.out⟩⟩
             | true =>
               have F:Hid (V=(0,lT (bz d R),0)):=by show _=_;rw [G.out];rfl
               go_wp2_with fail
               refine bodyPost_ret (results_tmp2 rfl _ _ _) rfl ?_
               exact ⟨a6,by rw [F.out];exact ⟨A,(E.out).free.1,(KX5.out).trans (E.out).free.2⟩⟩
         | false =>
           go_wp2_with fail
           refine (H8X.out _ t.out).mono ?_
           rintro e w5 ⟨N,P,O,Q,rfl,rn5,S⟩
           have BB:=ak (aa S ((Below.refl _ _).alloc (Nat.le_refl _) (.cells #[.u D.t,.u D.cm,.bool D.so,.slice N D.xs.length P,.slice O D.ys.length Q,.i D.ir] 30 (0,0))))
           have RN:=ak (rn5.below ((Below.refl _ _).alloc (Nat.le_refl _) (.cells #[.u D.t,.u D.cm,.bool D.so,.slice N D.xs.length P,.slice O D.ys.length Q,.i D.ir] 30 (0,0))))
           have c:=an S t.out.row
           unfold aO at c
           have MP6:=ak (t.out.below BB.out)
           have KX6:=ak (KX3.out.trans (Kx.of_below BB.out))
           have nb1:¬ r=w5.heap.size:=by have h1:=t.out.lt;have h2:=S.size;omega
           have nb2:¬ w5.heap.size=r:=λh=>nb1 h.symm
           clear Y Z c2 c3 c4 c5 c6 c7 c8 c9 u m j y
           have Y:=λo=>(ae (ah c o)).1
           have Z:=λo=>(ae (ah c o)).2.1
           have c2:=λo=>(ae (ah c o)).2.2.1
           have c3:=λo=>(ae (ah c o)).2.2.2.1
           have c4:=λo=>(ae (ah c o)).2.2.2.2.1
           have c5:=λo=>(ae (ah c o)).2.2.2.2.2.1
           have c6:=λo=>(ae (ah c o)).2.2.2.2.2.2.1
           have c7:=λo=>(ae (ah c o)).2.2.2.2.2.2.2.1
           have c8:=λo=>(ae (ah c o)).2.2.2.2.2.2.2.2.1
           have c9:=λo=>(ae (ah c o)).2.2.2.2.2.2.2.2.2.1
           have u:=λo=>(ae (ah c o)).2.2.2.2.2.2.2.2.2.2.1
           have m:=λo=>(ae (ah c o)).2.2.2.2.2.2.2.2.2.2.2.1
           have j:=λo=>(ae (ah c o)).2.2.2.2.2.2.2.2.2.2.2.2.1
           have y:=λo=>(ae (ah c o)).2.2.2.2.2.2.2.2.2.2.2.2.2
           have f5:=λo=>(bK (ah c o)).2.2.2.2.2.1
           have f6:=λo=>(bK (ah c o)).2.2.2.2.2.2.1
           have f7:=λo=>(bK (ah c o)).2.2.2.2.2.2.2.1
           have f8:=λo=>(bK (ah c o)).2.2.2.2.2.2.2.2.1
           have f9:=λo=>(bK (ah c o)).2.2.2.2.2.2.2.2.2.1
           have f10:=λo=>(bK (ah c o)).2.2.2.2.2.2.2.2.2.2.1
           clear S rn5 c
           cases is with
           | false =>
             have F:Hid (V=(0,d,23)):=by show _=_;rw [G.out];rfl
             go_wp2_with fail
             refine bodyPost_ret (results_tmp2 rfl _ _ _) rfl ?_
             exact ⟨a6,by rw [F.out];exact ⟨A,MP6.out,KX6.out⟩⟩
           | true =>
             obtain ⟨MPD,KXD⟩:=t.out.dev BB.out D RN.out
             have MP7:=ak MPD
             have KX7:=ak (KX3.out.trans KXD)
             clear MPD KXD
             go_wp2_with fail
             refine (HNX.out (mY A N P O Q) _ MP7.out).mono ?_
             rintro e w8 ⟨rfl,mp8,kx8⟩
             have H:=ak mp8
             have KX8:=ak (KX7.out.trans kx8)
             clear mp8 kx8 MP7 KX7
             clear Y Z c2 c3 c4 c5 c6 c7 c8 c9 u m j y
             clear f5 f6 f7 f8 f9 f10
             have I:=H.out.row
             rw [zh] at I
             obtain ⟨Y,Z,c2,c3,c4,c5,c6,c7,c8,c9,u,m,j,y⟩:=ae I
             obtain ⟨f0,f1,f2,f3,f4,f5,f6,f7,f8,f9,f10,f11,f12,f13⟩:=bK I
             obtain ⟨bh,K⟩:∃ b,b=d.hl:=⟨_,rfl⟩
             unfold nG at q
             change _=some (Value.bool d.hl) at j
             change _=some (Value.int .u64 d.hd) at m
             rw [<- K] at j q
             clear K
             cases bh with
             | false =>
               rw [Bool.false_and] at q
               subst q
               have F:Hid (V=(0,dH (dy d D),0)):=by show _=_;rw [G.out];rfl
               go_wp2_with fail
               refine bodyPost_ret (results_tmp2 rfl _ _ _) rfl ?_
               exact ⟨a6,by rw [F.out];exact ⟨(mY A N P O Q),H.out,KX8.out⟩⟩
             | true =>
               rw [Bool.true_and] at q
               cases hit with
               | false =>
                 have F:Hid (V=(0,dH (dy d D),0)):=by show _=_;rw [G.out];rfl
                 go_wp2_with fail
                 refine bodyPost_ret (results_tmp2 rfl _ _ _) rfl ?_
                 exact ⟨a6,by rw [F.out];exact ⟨(mY A N P O Q),H.out,KX8.out⟩⟩
               | true =>
                 have F:Hid (V=(0,lT (dH (dy d D)),0)):=by show _=_;rw [G.out];rfl
                 go_wp2_with fail
                 refine bodyPost_ret (results_tmp2 rfl _ _ _) rfl ?_
                 exact ⟨a6,by rw [F.out];exact ⟨(mY A N P O Q),(H.out).free.1,(KX8.out).trans (H.out).free.2⟩⟩
end Go.Proofs.YtjifdmoehfbihaaGreatDoor
