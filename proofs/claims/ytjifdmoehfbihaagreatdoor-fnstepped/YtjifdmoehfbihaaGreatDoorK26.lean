/- Own lemmas. -/
import Derived.Test.YtjifdmoehfbihaaGreatDoorAut
import Derived.Test.YtjifdmoehfbihaaGreatDoorK26H
import Derived.Test.YtjifdmoehfbihaaGreatDoorK21
set_option maxRecDepth 100000
set_option maxHeartbeats 3200000
namespace Go.Proofs.YtjifdmoehfbihaaGreatDoor
open Go.RowKit Tryz
open IntKind renaming u64->Uz
set_option linter.unusedVariables false
theorem lB {fn:Func} {t u v x:Tmp} (h:fn.results=#[.tmp t,.tmp u,.tmp v,.tmp x]) (tmps:Array Value) (P:Program) (w:World):(results fn tmps).run P w=.ok (.tuple #[tmps.getD t undef,tmps.getD u undef,tmps.getD v undef,tmps.getD x undef]) w:=by simp [results,h]
def cW (s:Int) (m:Bool):Int:=match m with | true=>wrap64 (bits .and .u64 (s/2048) 3) | false=>wrap64 (ak s 8)
def iy (s:Int):Int:=bits .or .u64 (bits .or .u64 (bits .andNot .u64 s 6152) (Uz.wrap (ak s 7*8))) 128
def cL (s:Int) (m:Bool):Int:=match m with
 | true=>if (cW s true != 3)=true then bits .andNot .u64 (iy s) 131072 else iy s
 | false=>bits .or .u64 (bits .or .u64 (bits .andNot .u64 s 131330) (Uz.wrap (ak s 5*2))) 32
def eg (l:List Int) (m:Bool):Int:=match m with | true=>l.getD 6 0 | false=>l.getD 12 0
theorem BN (base g cap:Nat) (l:List Int) (m:Bool) (w:World) (h:dh w base g cap l):Calls prog 135 #[.slice (some ⟨g,0,none⟩) 22 cap,.bool m] w λe L => e=.returned (.tuple #[.i (cW (l.getD 0 0) m),.u (eg l m)])/\dh L base g cap (l.set 0 (cL (l.getD 0 0) m))/\w.grownBy L (some g):=by
 have H:Hid (dh w base g cap l):=h;have I:=h.cell 0 ab;clear h;cases m with
 | true =>
   have G:Hid (l.getD 6 0=eg l true):=(rfl:l.getD 6 0=eg l true);generalize eg l true=K at *;have b:cL (l.getD 0 0) true=if (cW (l.getD 0 0) true != 3)=true then bits .andNot .u64 (iy (l.getD 0 0)) 131072 else iy (l.getD 0 0):=rfl
   have u:iy (l.getD 0 0)=bits .or .u64 (bits .or .u64 (bits .andNot .u64 (l.getD 0 0) 6152) (Uz.wrap (ak (l.getD 0 0) 7*8))) 128:=rfl;have o:wrap64 (bits .and .u64 (l.getD 0 0/2048) 3)=cW (l.getD 0 0) true:=rfl;rw [u] at b;clear u;generalize cW (l.getD 0 0) true=M at *;generalize cL (l.getD 0 0) true=A at *;obtain ⟨s,z⟩:∃ y,l.getD 0 0=y:=⟨_,rfl⟩;rw [z] at I b o;clear z;cases J:(M != 3) with
   | true =>
     rw [if_pos J] at b;have F:Hid (A=bits .andNot .u64 (bits .or .u64 (bits .or .u64 (bits .andNot .u64 s 6152) (Uz.wrap (ak s 7*8))) 128) 131072):=b;clear b;go_enter func135,ntmps135;go_wp2_with (first | (refine pu rfl (.tmp 30) (.tmp 29) rfl rfl H.out 0 ab _ rfl rfl ?_;intro j r q;have p:Hid (dh j _ _ _ _):=r;have t:Hid (w.grownBy j (some g)):=q;clear r q;have c:j.cell? ⟨g,6,none⟩=some (.u K):=l6) | (go_at_call 111;with_reducible refine (Ki _ _).mono ?_;rintro e E ⟨rfl,d⟩;have f:=d.symm;subst f));go_quiet (fail)
     go_wp2_with fail;exact a0c
   | false =>
     rw [if_neg (by rw [J];decide)] at b;have F:Hid (A=bits .or .u64 (bits .or .u64 (bits .andNot .u64 s 6152) (Uz.wrap (ak s 7*8))) 128):=b;clear b;go_enter func135,ntmps135;go_wp2_with (first | (refine pu rfl (.tmp 30) (.tmp 29) rfl rfl H.out 0 ab _ rfl rfl ?_;intro j r q;have p:Hid (dh j _ _ _ _):=r;have t:Hid (w.grownBy j (some g)):=q;clear r q;have c:j.cell? ⟨g,6,none⟩=some (.u K):=l6) | (go_at_call 111;with_reducible refine (Ki _ _).mono ?_;rintro e E ⟨rfl,d⟩;have f:=d.symm;subst f));go_quiet (fail)
     go_wp2_with fail;exact a0c
 | false =>
   have C:Hid (l.getD 12 0=eg l false):=(rfl:l.getD 12 0=eg l false);generalize eg l false=D at *;have B:cL (l.getD 0 0) false=bits .or .u64 (bits .or .u64 (bits .andNot .u64 (l.getD 0 0) 131330) (Uz.wrap (ak (l.getD 0 0) 5*2))) 32:=rfl;have o:cW (l.getD 0 0) false=wrap64 (ak (l.getD 0 0) 8):=rfl;rw [o];clear o;generalize cL (l.getD 0 0) false=A at *;obtain ⟨s,z⟩:∃ y,l.getD 0 0=y:=⟨_,rfl⟩;rw [z] at I B ⊢;have F:Hid (A=bits .or .u64 (bits .or .u64 (bits .andNot .u64 s 131330) (Uz.wrap (ak s 5*2))) 32):=B;clear B z;go_enter func135,ntmps135;go_wp2_with (first | (refine pu rfl (.tmp 46) (.tmp 45) rfl rfl H.out 0 ab _ rfl rfl ?_;intro j r q;have p:Hid (dh j _ _ _ _):=r;have t:Hid (w.grownBy j (some g)):=q;clear r q;have c:j.cell? ⟨g,12,none⟩=some (.u D):=by (have e:=p.out.cell 12 ab;rw [dC _ _ _ _ ab,C.out] at e;exact e)) | (go_at_call 111;with_reducible refine (QY _ _).mono ?_;rintro e E ⟨rfl,d⟩;have f:=d.symm;subst f) | (go_at_call 111;with_reducible refine (QX _ _).mono ?_;rintro e E ⟨rfl,d⟩;have f:=d.symm;subst f));go_quiet (fail)
   go_wp2_with fail;exact a0c
def TS (k:Int):Bool:=decide (0<=k/\k<=15)
def zy (n:Nat) (l:List Int) (p k:Int):Bool:=aX n l p&&TS k
def rK (n:Nat) (l:List Int) (p pc k:Int) (i:Bool) (v:Int):List Int:=match zy n l p k with
 | true=>gW l (cE l p k.toNat i) p (gq k i) pc v | false=>[]
def Ex (n:Nat) (l:List Int) (p k:Int) (i:Bool):Int:=match zy n l p k with
 | true=>pH (cE l p k.toNat i) | false=>0
def Ey (n:Nat) (l:List Int) (p k:Int) (i:Bool):Int:=match zy n l p k with
 | true=>dO (nG l (cE l p k.toNat i)) k (mz l (cE l p k.toNat i) i) | false=>0
theorem lC (l:List Int) (d:Bool) (p t pc v:Int):(gW l d p t pc v).length=l.length:=by cases d<;>simp [gW]
def lD (n:Nat) (l:List Int) (p:Int) (m:Bool):Bool:=aX n l p&&!(m&&(p != 3))&&!(p==0)
def jz (n:Nat) (l:List Int) (p:Int) (m:Bool):List Int:=match lD n l p m with
 | true=>l.set 0 (cL (l.getD 0 0) m) | false=>[]
def qH (n:Nat) (l:List Int) (p:Int) (m:Bool):Int:=match lD n l p m with
 | true=>cW (l.getD 0 0) m | false=>0
def qI (n:Nat) (l:List Int) (p:Int) (m:Bool):Int:=match lD n l p m with
 | true=>eg l m | false=>0
theorem dG (x:Int) (i:Nat) (h:U x):ak x i=cQ x i 1:=by have a:=lS x h i;have:=cy (x/2^i) 1 a.1 a.2 ab;unfold ak cQ;exact this
theorem OU (s p:Int) (h:U s):lP s p=bits .or .u64 (bits .or .u64 (bits .andNot .u64 s 6280) (Uz.wrap (cQ s 3 1*128))) (Uz.wrap (p*2048)):=by unfold lP;rw [dG s 3 h]
theorem LU:∀ i,i<64->bt 0 i=false:=by decide +kernel
theorem LV (s:Int) (h:U s):kR s ((0:Int)==1)=bits .or .u64 (bits .or .u64 (bits .andNot .u64 s 290) (Uz.wrap (cQ s 1 1*32))) 0:=by show bits .or .u64 (bits .andNot .u64 s 290) (Uz.wrap (ak s 1*32))=_;rw [dG s 1 h];exact br _ _ (af _ _ _) (af _ _ _) λi a=>by rw [cn _ 0,LU i a,Bool.or_false]
theorem LW (s:Int) (h:U s):kR s ((1:Int)==1)=bits .or .u64 (bits .or .u64 (bits .andNot .u64 s 290) (Uz.wrap (cQ s 1 1*32))) 256:=by show bits .or .u64 (bits .or .u64 (bits .andNot .u64 s 290) (Uz.wrap (ak s 1*32))) 256=_;rw [dG s 1 h]
theorem BO (s:Int) (h:U s):iy s=bits .or .u64 (bits .or .u64 (bits .andNot .u64 s 6280) (Uz.wrap (cQ s 7 1*8))) 128:=by
 have e:∀ i,i<64->∀ a c:Bool,((a&&!bt 6152 i||c)||bt 128 i)=((a&&!bt 6280 i||c)||bt 128 i):=bv
 unfold iy;rw [dG s 7 h];exact br _ _ (af _ _ _) (af _ _ _) λi b=>by rw [cn,cn,cn,cn,aw _ _ _ b,aw _ _ _ b,e i b]
theorem LX (s:Int) (h:U s):cW s true=wrap64 (cQ s 11 2):=by have a:=lS s h 11;have:=cy (s/2^11) 2 a.1 a.2 ab;show wrap64 (bits .and .u64 (s/2048) 3)=_;exact congrArg wrap64 this
theorem BP (s:Int) (h:U s):cW s false=wrap64 (cQ s 8 1):=by show wrap64 (ak s 8)=_;rw [dG s 8 h]
theorem oz (s:Int) (h:U s) (i j k:Nat):bt (Uz.wrap (cQ s k 1*2^j)) i=(decide (i=j)&&decide (i<64)&&bt s k):=by
 rw [mU _ (pV _ _ _ ab),ks _ h _ _ _ ab];by_cases a:i=j;·subst a;simp
 ·by_cases b:j<=i
  ·have:¬ (i-j<1):=by omega
   simp [a,this]
  ·simp [a,b]
theorem LY (s:Int) (h:U s):cL s false=bits .andNot .u64 (bits .or .u64 (bits .or .u64 (bits .andNot .u64 s 290) (Uz.wrap (cQ s 5 1*2))) 32) 131072:=by
 have e:∀ i,i<64->∀ a c:Bool,((a&&!bt 131330 i||(decide (i=1)&&decide (i<64)&&c))||bt 32 i)=(((a&&!bt 290 i||(decide (i=1)&&decide (i<64)&&c))||bt 32 i)&&!bt 131072 i):=bv
 show bits .or .u64 (bits .or .u64 (bits .andNot .u64 s 131330) (Uz.wrap (ak s 5*2))) 32=_;rw [dG s 5 h];have f:∀ i,bt (Uz.wrap (cQ s 5 1*2)) i=(decide (i=1)&&decide (i<64)&&bt s 5):=λi=>oz s h i 1 5;exact br _ _ (af _ _ _) (af _ _ _) λi b=>by rw [aw _ 131072 _ b,cn,cn,cn,cn,aw _ _ _ b,aw _ _ _ b,f i,e i b]
theorem I8 (s:Int) (h:U s) (d:(cW s true != 3)=true):cL s true=bits .andNot .u64 (bits .or .u64 (bits .or .u64 (bits .andNot .u64 s 6280) (Uz.wrap (cQ s 7 1*8))) 128) 131072:=by show (if (cW s true != 3)=true then bits .andNot .u64 (iy s) 131072 else iy s)=_;rw [if_pos d,BO s h]
theorem I9 (s:Int) (h:U s) (d:(cW s true != 3)=false):cL s true=bits .or .u64 (bits .or .u64 (bits .andNot .u64 s 6280) (Uz.wrap (cQ s 7 1*8))) 128:=by show (if (cW s true != 3)=true then bits .andNot .u64 (iy s) 131072 else iy s)=_;rw [if_neg (by rw [d];decide),BO s h]
theorem EA (s:Int) (h:U s):cW s false=0\/cW s false=1:=by
 rw [BP s h];have:=kq s 8 1;have e:(2:Int)^1=2:=bb
 unfold wrap64;omega
theorem Ja (s:Int) (h:U s):(cW s false != 3)=true:=by rcases EA s h with e|e<;>rw [e]<;>rfl
theorem Gs (x:Int):(bits .and .u64 x 1 != 0)=(bits .and .u64 x 1==1):=by rw [Rj];cases bt x 0<;>rfl
def vE (l:List Int) (p:Int):Bool:=decide (p<3)||((p==3)&&(cQ (l.getD 0 0) 3 1==1))
def vF (l:List Int) (p:Int):Bool:=decide (p<1)||((p==1)&&(cQ (l.getD 0 0) 1 1==1))
def Gt (l:List Int) (p:Int):Int :=
 match (decide (dc (bits .andNot .u64 (j4 l) (l.getD 2 0))>=0)&&vE l p) with
 | true=>dc (bits .andNot .u64 (j4 l) (l.getD 2 0))
 | false=>match (decide (dc (bits .and .u64 (j4 l) (l.getD 2 0))>=0)&&vF l p) with
   | true=>dc (bits .and .u64 (j4 l) (l.getD 2 0))
   | false=>-1
theorem Jb (x:Int) (h:decide (dc x>=0)=false):dc x=-1:=by
 rcases ug x ei with e|⟨n,_,e,_⟩;·exact e
 ·have:dc x=(n:Int):=e;rw [this] at h;simp at h
theorem LZ (l:List Int) (p:Int) (b:bC p=true) (h:U (l.getD 0 0)):vE l p=Ai l p:=by
 have a:p=0\/p=1\/p=3:=by simpa [bC,or_assoc] using b
 unfold vE Ai;rw [dG _ 3 h];rcases a with rfl|rfl|rfl<;>rfl
theorem L4 (l:List Int) (p:Int) (b:bC p=true) (h:U (l.getD 0 0)):vF l p=Aj l p:=by
 have a:p=0\/p=1\/p=3:=by simpa [bC,or_assoc] using b
 unfold vF Aj;rw [dG _ 1 h];rcases a with rfl|rfl|rfl<;>rfl
theorem OV (l:List Int) (p:Int) (a:bC p=true) (h:U (l.getD 0 0)):Gt l p=fG l p:=by
 unfold Gt fG Ff;rw [LZ l p a h,L4 l p a h,Bool.and_comm];have e:=Jb (bits .and .u64 (j4 l) (l.getD 2 0));generalize dc (bits .and .u64 (j4 l) (l.getD 2 0))=c at *;generalize dc (bits .andNot .u64 (j4 l) (l.getD 2 0))=b at *;cases Ai l p&&decide (b>=0)
 ·cases Aj l p;·rw [Bool.and_false]
  ·rw [Bool.and_true];cases d:decide (c>=0);·exact (e d).symm
   ·rfl
 ·rfl
theorem OX {x m:Int} (h:bits .and .u64 x m=x) (i:Nat) (e:bt x i=true):bt m i=true:=by rw [<- h,au,Bool.and_eq_true] at e;exact e.2
theorem OY {x m:Int} (hx:U x) (h:∀ i,i<64->bt x i=true->bt m i=true):bits .and .u64 x m=x :=
 br _ _ (af _ _ _) hx λi a=>by
  rw [au]
  cases e:bt x i with
  | false=>rfl
  | true=>rw [h i a e];rfl
theorem rL (x:Int) (i:Nat) (h:U x):ak x i=if bt x i=true then 1 else 0:=by unfold ak;rw [Rj,jl x h,Nat.zero_add]
theorem OZ (x:Int) (i:Nat) (h:U x):cQ x i 1=if bt x i=true then 1 else 0:=by rw [<- dG x i h,rL x i h]
theorem TT (x:Int) (h:U x):cQ x 11 2=(if bt x 11=true then 1 else 0)+(if bt x 12=true then 2 else 0):=by
 have e:∀ i,i<64->∀ p q o:Bool,(decide (i<2)&&(if i=0 then p else if i=1 then q else o))=bt ((if p=true then 1 else 0)+(if q=true then 2 else 0)) i:=bv
 refine br _ _ (pV _ _ _ ab) i3 λi c=>?_;rw [ks x h _ _ _ ab,<- e i c (bt x 11) (bt x 12) (bt x (i+11))];by_cases a:i=0;·subst a;rfl
 ·by_cases b:i=1;·subst b;rfl
  ·rw [if_neg a,if_neg b]
theorem zz (x:Int) (hx:U x) (a:∀ i,i<64->bt x i=true->bt 924074 i=true) (b:(!bt x 11&&bt x 12)=false):fy 0 x=true:=by have e:mst x=x:=(rC x hx).mpr ⟨OY hx a,b⟩;show (mst x==x)=true;rw [e];exact beq_self_eq_true _
theorem EB (x:Int) (hx:U x) (h:fy 0 x=true):(∀ i,bt x i=true->bt 924074 i=true)/\(!bt x 11&&bt x 12)=false:=by
 have e:mst x=x:=by have:(mst x==x)=true:=h;simpa using this
 obtain ⟨a,b⟩:=(rC x hx).mp e;exact ⟨OX a,b⟩
theorem rM (s:Int) (h:U s) (i:Nat) (a:i<64):bt (iy s) i=((bt s i&&!bt 6152 i||(decide (i=3)&&decide (i<64)&&bt s 7))||bt 128 i):=by have f:bt (Uz.wrap (cQ s 7 1*8)) i=(decide (i=3)&&decide (i<64)&&bt s 7):=oz s h i 3 7;unfold iy;rw [dG s 7 h,cn,cn,aw _ _ _ a,f]
theorem rN (s:Int) (h:U s) (i:Nat) (a:i<64):bt (cL s false) i=((bt s i&&!bt 131330 i||(decide (i=1)&&decide (i<64)&&bt s 5))||bt 32 i):=by have f:bt (Uz.wrap (cQ s 5 1*2)) i=(decide (i=1)&&decide (i<64)&&bt s 5):=oz s h i 1 5;show bt (bits .or .u64 (bits .or .u64 (bits .andNot .u64 s 131330) (Uz.wrap (ak s 5*2))) 32) i=_;rw [dG s 5 h,cn,cn,aw _ _ _ a,f]
theorem vG (s p:Int) (h:U s) (i:Nat) (a:i<64):bt (lP s p) i=((bt s i&&!bt 6280 i||(decide (i=7)&&decide (i<64)&&bt s 3))||bt (Uz.wrap (p*2048)) i):=by have f:bt (Uz.wrap (cQ s 3 1*128)) i=(decide (i=7)&&decide (i<64)&&bt s 3):=oz s h i 7 3;unfold lP;rw [dG s 3 h,cn,cn,aw _ _ _ a,f]
theorem vH (s:Int) (b:Bool) (h:U s) (i:Nat) (a:i<64):bt (kR s b) i=((bt s i&&!bt 290 i||(decide (i=5)&&decide (i<64)&&bt s 1))||(b&&decide (i=8))):=by
 have f:bt (Uz.wrap (cQ s 1 1*32)) i=(decide (i=5)&&decide (i<64)&&bt s 1):=oz s h i 5 1;have e:∀ i,i<64->bt 256 i=decide (i=8):=bv
 cases b with
 | true =>show bt (bits .or .u64 (bits .or .u64 (bits .andNot .u64 s 290) (Uz.wrap (ak s 1*32))) 256) i=_;rw [dG s 1 h,cn,cn,aw _ _ _ a,f,e i a,Bool.true_and]
 | false =>show bt (bits .or .u64 (bits .andNot .u64 s 290) (Uz.wrap (ak s 1*32))) i=_;rw [dG s 1 h,cn,aw _ _ _ a,f,Bool.false_and,Bool.or_false]
theorem qJ (s:Int) (m:Bool):U (cL s m):=by
 cases m with
 | true=>unfold cL;show U (if _ then _ else _);split<;>exact af _ _ _
 | false=>unfold cL;exact af _ _ _
theorem Gu (s p:Int):U (lP s p):=af _ _ _
theorem Gv (s:Int) (b:Bool):U (kR s b):=by cases b<;>(unfold kR;exact af _ _ _)
theorem RQ (k:Nat) (hk:k<16) (i:Bool):U (gq k i):=by
 cases i with
 | true=>unfold gq;exact af _ _ _
 | false=>show U (k:Int);exact ⟨ab,ab⟩
theorem UJ:Uz.wrap ((0:Int)*2048)=0:=by decide
theorem UK:Uz.wrap ((1:Int)*2048)=2048:=by decide
theorem UL:Uz.wrap ((3:Int)*2048)=6144:=by decide
theorem sN (s:Int):cL s true=if (cW s true != 3)=true then bits .andNot .u64 (iy s) 131072 else iy s:=rfl
theorem BT (s:Int) (h:U s) (m:Bool) (j:fy 0 s=true):fy 0 (cL s m)=true:=by
 obtain ⟨k,l⟩:=EB s h j;cases m with
 | false =>
   have e:∀ i,i<64->∀ a c:Bool,(a=true->bt 924074 i=true)->((a&&!bt 131330 i||(decide (i=1)&&decide (i<64)&&c))||bt 32 i)=true->bt 924074 i=true:=bv;refine zz _ (qJ s false) (λi f d=>?_) ?_;·rw [rN s h i f] at d;exact e i f _ _ (k i) d
   ·have n:∀ a c:Bool,((a&&!bt 131330 11||(decide (11=1)&&decide (11<64)&&c))||bt 32 11)=a:=bv;have g:∀ a c:Bool,((a&&!bt 131330 12||(decide (12=1)&&decide (12<64)&&c))||bt 32 12)=a:=bv;rw [rN s h 11 ab,rN s h 12 ab,n,g];exact l
 | true =>
   have e:∀ i,i<64->∀ a c:Bool,(a=true->bt 924074 i=true)->((a&&!bt 6152 i||(decide (i=3)&&decide (i<64)&&c))||bt 128 i)=true->bt 924074 i=true:=bv;have g:∀ a c:Bool,((a&&!bt 6152 12||(decide (12=3)&&decide (12<64)&&c))||bt 128 12)=false:=bv;refine zz _ (qJ s true) (λi f d=>?_) ?_
   ·have b:bt (iy s) i=true:=by
     revert d;rw [sN];split;·rw [aw _ _ _ f];intro d;exact (Bool.and_eq_true _ _ ▸ d).1
     ·exact id
    rw [rM s h i f] at b;exact e i f _ _ (k i) b
   ·have b:bt (cL s true) 12=false:=by
     rw [sN];split;·rw [aw _ _ _ ab,rM s h 12 ab,g];rfl
     ·rw [rM s h 12 ab,g]
    rw [b,Bool.and_false]
theorem L5 (s p:Int) (h:U s) (m:bC p=true) (g:fy 0 s=true):fy 0 (lP s p)=true:=by
 obtain ⟨l,n⟩:=EB s h g;have f:p=0\/p=1\/p=3:=by simpa [bC,or_assoc] using m
 refine zz _ (Gu s p) (λi j b=>?_) ?_
 ·rw [vG s p h i j] at b;have e:∀ i,i<64->∀ a c:Bool,(a=true->bt 924074 i=true)->(((a&&!bt 6280 i||(decide (i=7)&&decide (i<64)&&c))||bt 0 i)=true->bt 924074 i=true)/\(((a&&!bt 6280 i||(decide (i=7)&&decide (i<64)&&c))||bt 2048 i)=true->bt 924074 i=true)/\(((a&&!bt 6280 i||(decide (i=7)&&decide (i<64)&&c))||bt 6144 i)=true->bt 924074 i=true):=bv;have e:=e i j _ (bt s 3) (l i);rcases f with rfl|rfl|rfl;·rw [UJ] at b;exact e.1 b
  ·rw [UK] at b;exact e.2.1 b
  ·rw [UL] at b;exact e.2.2 b
 ·rw [vG s p h 11 ab,vG s p h 12 ab];have k:∀ a c d:Bool,(!((a&&!bt 6280 11||(decide (11=7)&&decide (11<64)&&c))||bt 0 11)&&((d&&!bt 6280 12||(decide (12=7)&&decide (12<64)&&c))||bt 0 12))=false/\(!((a&&!bt 6280 11||(decide (11=7)&&decide (11<64)&&c))||bt 2048 11)&&((d&&!bt 6280 12||(decide (12=7)&&decide (12<64)&&c))||bt 2048 12))=false/\(!((a&&!bt 6280 11||(decide (11=7)&&decide (11<64)&&c))||bt 6144 11)&&((d&&!bt 6280 12||(decide (12=7)&&decide (12<64)&&c))||bt 6144 12))=false:=bv;have k:=k (bt s 11) (bt s 3) (bt s 12);rcases f with rfl|rfl|rfl;·rw [UJ];exact k.1
  ·rw [UK];exact k.2.1
  ·rw [UL];exact k.2.2
theorem L7 (s:Int) (b:Bool) (h:U s) (d:fy 0 s=true):fy 0 (kR s b)=true:=by
 obtain ⟨j,k⟩:=EB s h d;refine zz _ (Gv s b) (λi g f=>?_) ?_;·rw [vH s b h i g] at f;have e:∀ i,i<64->∀ a c b:Bool,(a=true->bt 924074 i=true)->((a&&!bt 290 i||(decide (i=5)&&decide (i<64)&&c))||(b&&decide (i=8)))=true->bt 924074 i=true:=bv;exact e i g _ _ _ (j i) f
 ·have l:∀ a c b:Bool,((a&&!bt 290 11||(decide (11=5)&&decide (11<64)&&c))||(b&&decide (11=8)))=a:=bv;have m:∀ a c b:Bool,((a&&!bt 290 12||(decide (12=5)&&decide (12<64)&&c))||(b&&decide (12=8)))=a:=bv;rw [vH s b h 11 ab,vH s b h 12 ab,l,m];exact k
theorem Gx:∀ k,k<16->∀ i:Bool,fy 7 (gq (k:Nat) i)=true/\fy 13 (gq (k:Nat) i)=true:=by decide +kernel
theorem Gy (v:Int):fy 8 v=true/\fy 14 v=true:=⟨beq_self_eq_true v,beq_self_eq_true v⟩
theorem Ql (x:Int) (h:U x):fy 6 (bits .andNot .u64 x 3)=true/\fy 12 (bits .andNot .u64 x 3)=true:=⟨oq x h 6 ab ab ab,oq x h 12 ab ab ab⟩
theorem L8 (l:List Int) (hz:l.length=22) (hl:∀ j,U (l.getD j 0)) (a:bq 22 l=true) (d:Bool) (p pc v:Int) (e:bC p=true) (b:U pc) (k:Nat) (hk:k<16) (i:Bool):bq 22 (gW l d p (gq k i) pc v)=true:=by
 have c:fy 0 (l.getD 0 0)=true:=dR a 0 ab;cases d with
 | true =>refine cH _ tt ?_ 0 ab _ (L7 _ _ (hl 0) c);refine cH _ tt ?_ 14 ab _ (Gy v).2;refine cH _ tt ?_ 12 ab _ (Ql pc b).2;exact cH _ hz a 13 ab _ (Gx k hk i).2
 | false =>refine cH _ tt ?_ 0 ab _ (L5 _ p (hl 0) e c);refine cH _ tt ?_ 8 ab _ (Gy v).1;refine cH _ tt ?_ 6 ab _ (Ql pc b).1;exact cH _ hz a 7 ab _ (Gx k hk i).1
theorem O0 (l:List Int) (hl:∀ j,U (l.getD j 0)) (d:Bool) (p pc v:Int) (hv:U v) (k:Nat) (hk:k<16) (i:Bool):∀ j,U ((gW l d p (gq k i) pc v).getD j 0):=by
 have a:=RQ k hk i;cases d with
 | true=>exact jp _ (jp _ (jp _ (jp _ hl 13 _ a) 12 _ (af _ _ _)) 14 _ hv) 0 _ (Gv _ _)
 | false=>exact jp _ (jp _ (jp _ (jp _ hl 7 _ a) 6 _ (af _ _ _)) 8 _ hv) 0 _ (Gu _ _)
theorem O4 (x:Int) (h:U x):bits .and .u64 x 3=x%4:=cy x 2 h.1 h.2 ab
theorem UM (x:Int) (h:fy 6 x=true\/fy 12 x=true):bits .and .u64 x 3=0:=by
 have e:bits .andNot .u64 x 3=x:=by
  rcases h with h|h;·have:(bits .andNot .u64 x 3==x)=true:=h;simpa using this
  ·have:(bits .andNot .u64 x 3==x)=true:=h;simpa using this
 refine br _ _ (af _ _ _) ⟨bb,bb⟩ λi c=>?_;have k:∀ a b:Bool,((a&&!b)&&b)=false:=bb
 rw [au,<- e,aw _ _ _ c,k,LU i c]
theorem Ve (x:Int) (k:Nat) (j:Bool) (h:fy 4 x=true\/fy 10 x=true):bits .and .u64 (dO x k j) 3=0:=by
 have e:bits .andNot .u64 x 2=x:=by
  rcases h with h|h;·have:(bits .andNot .u64 x 2==x)=true:=h;simpa using this
  ·have:(bits .andNot .u64 x 2==x)=true:=h;simpa using this
 have f:bits .and .u64 (bits .andNot .u64 x 1) 3=0:=by refine br _ _ (af _ _ _) ⟨bb,bb⟩ λi b=>?_;have k:∀ i,i<64->∀ a:Bool,(((a&&!bt 2 i)&&!bt 1 i)&&bt 3 i)=bt 0 i:=bv;rw [au,<- e,aw _ _ _ b,aw _ _ _ b,k i b]
 cases j with
 | false=>exact f
 | true =>show bits .and .u64 (Uz.wrap (bits .andNot .u64 x 1+Uz.wrap (4*k))) 3=0;rw [O4 _ (af _ _ _)] at f;rw [O4 _ (aP _),IntKind.wrap_u64,IntKind.wrap_u64];omega
end Go.Proofs.YtjifdmoehfbihaaGreatDoor
