/- Own lemmas. -/
import Derived.Test.YtfagphfjfhpmjaaGreatDoorAuj
import Derived.Test.YtfagphfjfhpmjaaGreatDoorJ10
import Derived.Test.YtfagphfjfhpmjaaGreatDoorJ11
import Derived.Test.YtfagphfjfhpmjaaGreatDoorJ15
set_option maxRecDepth 100000
set_option maxHeartbeats 4000000
namespace Go.Proofs.YtfagphfjfhpmjaaGreatDoor
open Go.RowKit Tryz
open IntKind renaming u64->Uz
set_option linter.unusedVariables false
variable {s x w:World} {p g:Nat} {b:List Int} {k dr:Bool} {l:Int} {P:Program} {Rs:Ending->World->Prop} (a:Option Addr) (c:List Int) (W:Int) (m n:Nat) (d:Bool) (r o:Int) (t:World) (f:Nat) (j:List Int) (y A:Int) (e:Bool) (q:World)
theorem lJ {fn:Func} {t u v x:Tmp} (h:fn.results=#[.tmp t,.tmp u,.tmp v,.tmp x]) (tmps:Array Value) (P:Program) (w:World):(results fn tmps).run P w=.ok (.tuple #[tmps.getD t undef,tmps.getD u undef,tmps.getD v undef,tmps.getD x undef]) w:=by simp [results,h]
def cW (s:Int) (m:Bool):Int:=match m with | true=>wrap64 (bits .and .u64 (s/2048) 3) | false=>wrap64 (aq s 8)
def iO (s:Int):Int:=bits .or .u64 (bits .or .u64 (bits .andNot .u64 s 6152) (Uz.wrap (aq s 7*8))) 128
def cH (s:Int) (m:Bool):Int:=match m with
 | true=>if (cW s true != 3)=true then bits .andNot .u64 (iO s) 131072 else iO s
 | false=>bits .or .u64 (bits .or .u64 (bits .andNot .u64 s 131330) (Uz.wrap (aq s 5*2))) 32
def dV (l:List Int) (m:Bool):Int:=match m with | true=>l.getD 6 0 | false=>l.getD 12 0
theorem Cf (base g cap:Nat) (l:List Int) (m:Bool) (w:World) (h:ei w base g cap l):Calls prog 152 #[.slice (some ⟨g,0,none⟩) 22 cap,.bool m] w λe L => e=.returned (.tuple #[.i (cW (l.getD 0 0) m),.u (dV l m)])/\ei L base g cap (l.set 0 (cH (l.getD 0 0) m))/\w.grownBy L (some g):=by
 have H:Hid (ei w base g cap l):=h;have I:=h.cell 0 ab;clear h;cases m with
 | true =>
   have G:Hid (l.getD 6 0=dV l true):=(rfl:l.getD 6 0=dV l true);generalize dV l true=K at *;have b:cH (l.getD 0 0) true=if (cW (l.getD 0 0) true != 3)=true then bits .andNot .u64 (iO (l.getD 0 0)) 131072 else iO (l.getD 0 0):=rfl
   have u:iO (l.getD 0 0)=bits .or .u64 (bits .or .u64 (bits .andNot .u64 (l.getD 0 0) 6152) (Uz.wrap (aq (l.getD 0 0) 7*8))) 128:=rfl;have o:wrap64 (bits .and .u64 (l.getD 0 0/2048) 3)=cW (l.getD 0 0) true:=rfl;rw [u] at b;clear u;generalize cW (l.getD 0 0) true=M at *;generalize cH (l.getD 0 0) true=A at *;obtain ⟨s,z⟩:∃ y,l.getD 0 0=y:=⟨_,rfl⟩;rw [z] at I b o;clear z;cases J:(M != 3) with
   | true =>
     rw [if_pos J] at b;have F:Hid (A=bits .andNot .u64 (bits .or .u64 (bits .or .u64 (bits .andNot .u64 s 6152) (Uz.wrap (aq s 7*8))) 128) 131072):=b;clear b;go_enter func152,ntmps152;go_wp2_with (first | (refine pI rfl (.tmp 30) (.tmp 29) rfl rfl H.out 0 ab _ rfl rfl ?_;intro j r q;have p:Hid (ei j _ _ _ _):=r;have t:Hid (w.grownBy j (some g)):=q;clear r q;have c:j.cell? ⟨g,6,none⟩=some (.u K):=m5) | (go_at_call 129;with_reducible refine (JT _ _).mono ?_;rintro e E ⟨rfl,d⟩;have f:=d.symm;subst f));go_quiet (fail)
     go_wp2_with fail;exact a0t
   | false =>
     rw [if_neg (by rw [J];decide)] at b;have F:Hid (A=bits .or .u64 (bits .or .u64 (bits .andNot .u64 s 6152) (Uz.wrap (aq s 7*8))) 128):=b;clear b;go_enter func152,ntmps152;go_wp2_with (first | (refine pI rfl (.tmp 30) (.tmp 29) rfl rfl H.out 0 ab _ rfl rfl ?_;intro j r q;have p:Hid (ei j _ _ _ _):=r;have t:Hid (w.grownBy j (some g)):=q;clear r q;have c:j.cell? ⟨g,6,none⟩=some (.u K):=m5) | (go_at_call 129;with_reducible refine (JT _ _).mono ?_;rintro e E ⟨rfl,d⟩;have f:=d.symm;subst f));go_quiet (fail)
     go_wp2_with fail;exact a0t
 | false =>
   have C:Hid (l.getD 12 0=dV l false):=(rfl:l.getD 12 0=dV l false);generalize dV l false=D at *;have B:cH (l.getD 0 0) false=bits .or .u64 (bits .or .u64 (bits .andNot .u64 (l.getD 0 0) 131330) (Uz.wrap (aq (l.getD 0 0) 5*2))) 32:=rfl;have o:cW (l.getD 0 0) false=wrap64 (aq (l.getD 0 0) 8):=rfl;rw [o];clear o;generalize cH (l.getD 0 0) false=A at *;obtain ⟨s,z⟩:∃ y,l.getD 0 0=y:=⟨_,rfl⟩;rw [z] at I B ⊢;have F:Hid (A=bits .or .u64 (bits .or .u64 (bits .andNot .u64 s 131330) (Uz.wrap (aq s 5*2))) 32):=B;clear B z;go_enter func152,ntmps152;go_wp2_with (first | (refine pI rfl (.tmp 46) (.tmp 45) rfl rfl H.out 0 ab _ rfl rfl ?_;intro j r q;have p:Hid (ei j _ _ _ _):=r;have t:Hid (w.grownBy j (some g)):=q;clear r q;have c:j.cell? ⟨g,12,none⟩=some (.u D):=by (have e:=p.out.cell 12 ab;rw [gt _ _ _ _ ab,C.out] at e;exact e)) | (go_at_call 129;with_reducible refine (PP _ _).mono ?_;rintro e E ⟨rfl,d⟩;have f:=d.symm;subst f) | (go_at_call 129;with_reducible refine (PO _ _).mono ?_;rintro e E ⟨rfl,d⟩;have f:=d.symm;subst f));go_quiet (fail)
   go_wp2_with fail;exact a0t
def Si (k:Int):Bool:=decide (0<=k/\k<=15)
def zI (n:Nat) (l:List Int) (p k:Int):Bool:=be n l p&&Si k
def rN (n:Nat) (l:List Int) (p pc k:Int) (i:Bool) (v:Int):List Int:=match zI n l p k with
 | true=>iM l (cJ l p k.toNat i) p (gD k i) pc v | false=>[]
def Eo (n:Nat) (l:List Int) (p k:Int) (i:Bool):Int:=match zI n l p k with
 | true=>rT (cJ l p k.toNat i) | false=>0
def Ep (n:Nat) (l:List Int) (p k:Int) (i:Bool):Int:=match zI n l p k with
 | true=>dL (nP l (cJ l p k.toNat i)) k (mI l (cJ l p k.toNat i) i) | false=>0
theorem lK:(iM c d r o y A).length=c.length:=by cases d<;>simp [iM]
def lL (n:Nat) (l:List Int) (p:Int) (m:Bool):Bool:=be n l p&&!(m&&(p != 3))&&!(p==0)
def jK (n:Nat) (l:List Int) (p:Int) (m:Bool):List Int:=match lL n l p m with
 | true=>l.set 0 (cH (l.getD 0 0) m) | false=>[]
def qM (n:Nat) (l:List Int) (p:Int) (m:Bool):Int:=match lL n l p m with
 | true=>cW (l.getD 0 0) m | false=>0
def qN (n:Nat) (l:List Int) (p:Int) (m:Bool):Int:=match lL n l p m with
 | true=>dV l m | false=>0
theorem dF (h:U W):aq W m=cQ W m 1:=by have a:=lW W h m;have:=cn (W/2^m) 1 a.1 a.2 ab;unfold aq cQ;exact this
theorem Ol (h:U W):mB W r=bits .or .u64 (bits .or .u64 (bits .andNot .u64 W 6280) (Uz.wrap (cQ W 3 1*128))) (Uz.wrap (r*2048)):=by unfold mB;rw [dF W 3 h]
theorem LO:∀ i,i<64->bt 0 i=false:=by decide +kernel
theorem LP (h:U W):lS W ((0:Int)==1)=bits .or .u64 (bits .or .u64 (bits .andNot .u64 W 290) (Uz.wrap (cQ W 1 1*32))) 0:=by show bits .or .u64 (bits .andNot .u64 W 290) (Uz.wrap (aq W 1*32))=_;rw [dF W 1 h];exact bu _ _ (aj _ _ _) (aj _ _ _) λi a=>by rw [cg _ 0,LO i a,Bool.or_false]
theorem LQ (h:U W):lS W ((1:Int)==1)=bits .or .u64 (bits .or .u64 (bits .andNot .u64 W 290) (Uz.wrap (cQ W 1 1*32))) 256:=by show bits .or .u64 (bits .or .u64 (bits .andNot .u64 W 290) (Uz.wrap (aq W 1*32))) 256=_;rw [dF W 1 h]
theorem Cg (h:U W):iO W=bits .or .u64 (bits .or .u64 (bits .andNot .u64 W 6280) (Uz.wrap (cQ W 7 1*8))) 128:=by
 have e:∀ i,i<64->∀ a c:Bool,((a&&!bt 6152 i||c)||bt 128 i)=((a&&!bt 6280 i||c)||bt 128 i):=bb
 unfold iO;rw [dF W 7 h];exact bu _ _ (aj _ _ _) (aj _ _ _) λi b=>by rw [cg,cg,cg,cg,aA _ _ _ b,aA _ _ _ b,e i b]
theorem LS (h:U W):cW W true=wrap64 (cQ W 11 2):=by have a:=lW W h 11;have:=cn (W/2^11) 2 a.1 a.2 ab;show wrap64 (bits .and .u64 (W/2048) 3)=_;exact congrArg wrap64 this
theorem Ch (h:U W):cW W false=wrap64 (cQ W 8 1):=by show wrap64 (aq W 8)=_;rw [dF W 8 h]
theorem oI (h:U W) (i j k:Nat):bt (Uz.wrap (cQ W k 1*2^j)) i=(decide (i=j)&&decide (i<64)&&bt W k):=by
 rw [m0 _ (rZ _ _ _ ab),lj _ h _ _ _ ab];by_cases a:i=j;·subst a;simp
 ·by_cases b:j<=i
  ·have:¬ (i-j<1):=by omega
   simp [a,this]
  ·simp [a,b]
theorem LT (h:U W):cH W false=bits .andNot .u64 (bits .or .u64 (bits .or .u64 (bits .andNot .u64 W 290) (Uz.wrap (cQ W 5 1*2))) 32) 131072:=by
 have e:∀ i,i<64->∀ a c:Bool,((a&&!bt 131330 i||(decide (i=1)&&decide (i<64)&&c))||bt 32 i)=(((a&&!bt 290 i||(decide (i=1)&&decide (i<64)&&c))||bt 32 i)&&!bt 131072 i):=bb
 show bits .or .u64 (bits .or .u64 (bits .andNot .u64 W 131330) (Uz.wrap (aq W 5*2))) 32=_;rw [dF W 5 h];have f:∀ i,bt (Uz.wrap (cQ W 5 1*2)) i=(decide (i=1)&&decide (i<64)&&bt W 5):=λi=>oI W h i 1 5;exact bu _ _ (aj _ _ _) (aj _ _ _) λi b=>by rw [aA _ 131072 _ b,cg,cg,cg,cg,aA _ _ _ b,aA _ _ _ b,f i,e i b]
theorem IJ (h:U W) (d:(cW W true != 3)=true):cH W true=bits .andNot .u64 (bits .or .u64 (bits .or .u64 (bits .andNot .u64 W 6280) (Uz.wrap (cQ W 7 1*8))) 128) 131072:=by show (if (cW W true != 3)=true then bits .andNot .u64 (iO W) 131072 else iO W)=_;rw [if_pos d,Cg W h]
theorem IK (h:U W) (d:(cW W true != 3)=false):cH W true=bits .or .u64 (bits .or .u64 (bits .andNot .u64 W 6280) (Uz.wrap (cQ W 7 1*8))) 128:=by show (if (cW W true != 3)=true then bits .andNot .u64 (iO W) 131072 else iO W)=_;rw [if_neg (by rw [d];decide),Cg W h]
theorem Er (h:U W):cW W false=0\/cW W false=1:=by
 rw [Ch W h];have:=kv W 8 1;have e:(2:Int)^1=2:=a6
 unfold wrap64;omega
theorem IL (h:U W):(cW W false != 3)=true:=by rcases Er W h with e|e<;>rw [e]<;>rfl
theorem F8:(bits .and .u64 W 1 != 0)=(bits .and .u64 W 1==1):=by rw [PY];cases bt W 0<;>rfl
def vz (l:List Int) (p:Int):Bool:=decide (p<3)||((p==3)&&(cQ (l.getD 0 0) 3 1==1))
def vA (l:List Int) (p:Int):Bool:=decide (p<1)||((p==1)&&(cQ (l.getD 0 0) 1 1==1))
def F9 (l:List Int) (p:Int):Int :=
 match (decide (cS (bits .andNot .u64 (j9 l) (l.getD 2 0))>=0)&&vz l p) with
 | true=>cS (bits .andNot .u64 (j9 l) (l.getD 2 0))
 | false=>match (decide (cS (bits .and .u64 (j9 l) (l.getD 2 0))>=0)&&vA l p) with
   | true=>cS (bits .and .u64 (j9 l) (l.getD 2 0))
   | false=>-1
theorem IN (h:decide (cS W>=0)=false):cS W=-1:=by
 rcases tX W dW with e|⟨n,_,e,_⟩;·exact e
 ·have:cS W=(n:Int):=e;rw [this] at h;simp at h
theorem LU (b:bN W=true) (h:U (c.getD 0 0)):vz c W=Ai c W:=by
 have a:W=0\/W=1\/W=3:=by simpa [bN,or_assoc] using b
 unfold vz Ai;rw [dF _ 3 h];rcases a with rfl|rfl|rfl<;>rfl
theorem LV (b:bN W=true) (h:U (c.getD 0 0)):vA c W=Aj c W:=by
 have a:W=0\/W=1\/W=3:=by simpa [bN,or_assoc] using b
 unfold vA Aj;rw [dF _ 1 h];rcases a with rfl|rfl|rfl<;>rfl
theorem Om (l:List Int) (p:Int) (a:bN p=true) (h:U (l.getD 0 0)):F9 l p=fJ l p:=by
 unfold F9 fJ EN;rw [LU l p a h,LV l p a h,Bool.and_comm];have e:=IN (bits .and .u64 (j9 l) (l.getD 2 0));generalize cS (bits .and .u64 (j9 l) (l.getD 2 0))=c at *;generalize cS (bits .andNot .u64 (j9 l) (l.getD 2 0))=b at *;cases Ai l p&&decide (b>=0)
 ·cases Aj l p;·rw [Bool.and_false]
  ·rw [Bool.and_true];cases d:decide (c>=0);·exact (e d).symm
   ·rfl
 ·rfl
theorem On {m:Int} (h:bits .and .u64 l m=l) (i:Nat) (e:bt l i=true):bt m i=true:=by rw [<- h,az,Bool.and_eq_true] at e;exact e.2
theorem Oo {m:Int} (hx:U l) (h:∀ i,i<64->bt l i=true->bt m i=true):bits .and .u64 l m=l :=
 bu _ _ (aj _ _ _) hx λi a=>by
  rw [az]
  cases e:bt l i with
  | false=>rfl
  | true=>rw [h i a e];rfl
theorem xQ (h:U W):aq W m=if bt W m=true then 1 else 0:=by unfold aq;rw [PY,jw W h,Nat.zero_add]
theorem Oq (h:U W):cQ W m 1=if bt W m=true then 1 else 0:=by rw [<- dF W m h,xQ W m h]
theorem zJ (hx:U W) (a:∀ i,i<64->bt W i=true->bt 924074 i=true) (b:(!bt W 11&&bt W 12)=false):fy 0 W=true:=by have e:mst W=W:=(rv W hx).mpr ⟨Oo hx a,b⟩;show (mst W==W)=true;rw [e];exact beq_self_eq_true _
theorem Et (hx:U W) (h:fy 0 W=true):(∀ i,bt W i=true->bt 924074 i=true)/\(!bt W 11&&bt W 12)=false:=by
 have e:mst W=W:=by have:(mst W==W)=true:=h;simpa using this
 obtain ⟨a,b⟩:=(rv W hx).mp e;exact ⟨On a,b⟩
theorem rO (h:U W) (i:Nat) (a:i<64):bt (iO W) i=((bt W i&&!bt 6152 i||(decide (i=3)&&decide (i<64)&&bt W 7))||bt 128 i):=by have f:bt (Uz.wrap (cQ W 7 1*8)) i=(decide (i=3)&&decide (i<64)&&bt W 7):=oI W h i 3 7;unfold iO;rw [dF W 7 h,cg,cg,aA _ _ _ a,f]
theorem rP (h:U W) (i:Nat) (a:i<64):bt (cH W false) i=((bt W i&&!bt 131330 i||(decide (i=1)&&decide (i<64)&&bt W 5))||bt 32 i):=by have f:bt (Uz.wrap (cQ W 5 1*2)) i=(decide (i=1)&&decide (i<64)&&bt W 5):=oI W h i 1 5;show bt (bits .or .u64 (bits .or .u64 (bits .andNot .u64 W 131330) (Uz.wrap (aq W 5*2))) 32) i=_;rw [dF W 5 h,cg,cg,aA _ _ _ a,f]
theorem vB (h:U W) (i:Nat) (a:i<64):bt (mB W r) i=((bt W i&&!bt 6280 i||(decide (i=7)&&decide (i<64)&&bt W 3))||bt (Uz.wrap (r*2048)) i):=by have f:bt (Uz.wrap (cQ W 3 1*128)) i=(decide (i=7)&&decide (i<64)&&bt W 3):=oI W h i 7 3;unfold mB;rw [dF W 3 h,cg,cg,aA _ _ _ a,f]
theorem vC (h:U W) (i:Nat) (a:i<64):bt (lS W d) i=((bt W i&&!bt 290 i||(decide (i=5)&&decide (i<64)&&bt W 1))||(d&&decide (i=8))):=by
 have f:bt (Uz.wrap (cQ W 1 1*32)) i=(decide (i=5)&&decide (i<64)&&bt W 1):=oI W h i 5 1;have e:∀ i,i<64->bt 256 i=decide (i=8):=bb
 cases d with
 | true =>show bt (bits .or .u64 (bits .or .u64 (bits .andNot .u64 W 290) (Uz.wrap (aq W 1*32))) 256) i=_;rw [dF W 1 h,cg,cg,aA _ _ _ a,f,e i a,Bool.true_and]
 | false =>show bt (bits .or .u64 (bits .andNot .u64 W 290) (Uz.wrap (aq W 1*32))) i=_;rw [dF W 1 h,cg,aA _ _ _ a,f,Bool.false_and,Bool.or_false]
theorem qO:U (cH W d):=by
 cases d with
 | true=>unfold cH;show U (if _ then _ else _);split<;>exact aj _ _ _
 | false=>unfold cH;exact aj _ _ _
theorem Ga:U (mB W r):=aj _ _ _
theorem Gb:U (lS W d):=by cases d<;>(unfold lS;exact aj _ _ _)
theorem Qu (hk:m<16) (i:Bool):U (gD m i):=by
 cases i with
 | true=>unfold gD;exact aj _ _ _
 | false=>show U (m:Int);exact ⟨ab,ab⟩
theorem S8:Uz.wrap ((0:Int)*2048)=0:=by decide
theorem S9:Uz.wrap ((1:Int)*2048)=2048:=by decide
theorem Ta:Uz.wrap ((3:Int)*2048)=6144:=by decide
theorem sQ:cH W true=if (cW W true != 3)=true then bits .andNot .u64 (iO W) 131072 else iO W:=rfl
theorem Ci (h:U W) (m:Bool) (j:fy 0 W=true):fy 0 (cH W m)=true:=by
 obtain ⟨k,l⟩:=Et W h j;cases m with
 | false =>
   have e:∀ i,i<64->∀ a c:Bool,(a=true->bt 924074 i=true)->((a&&!bt 131330 i||(decide (i=1)&&decide (i<64)&&c))||bt 32 i)=true->bt 924074 i=true:=bb;refine zJ _ (qO W false) (λi f d=>?_) ?_;·rw [rP W h i f] at d;exact e i f _ _ (k i) d
   ·have n:∀ a c:Bool,((a&&!bt 131330 11||(decide (11=1)&&decide (11<64)&&c))||bt 32 11)=a:=bb;have g:∀ a c:Bool,((a&&!bt 131330 12||(decide (12=1)&&decide (12<64)&&c))||bt 32 12)=a:=bb;rw [rP W h 11 ab,rP W h 12 ab,n,g];exact l
 | true =>
   have e:∀ i,i<64->∀ a c:Bool,(a=true->bt 924074 i=true)->((a&&!bt 6152 i||(decide (i=3)&&decide (i<64)&&c))||bt 128 i)=true->bt 924074 i=true:=bb;have g:∀ a c:Bool,((a&&!bt 6152 12||(decide (12=3)&&decide (12<64)&&c))||bt 128 12)=false:=bb;refine zJ _ (qO W true) (λi f d=>?_) ?_
   ·have b:bt (iO W) i=true:=by
     revert d;rw [sQ];split;·rw [aA _ _ _ f];intro d;exact (Bool.and_eq_true _ _ ▸ d).1
     ·exact id
    rw [rO W h i f] at b;exact e i f _ _ (k i) b
   ·have b:bt (cH W true) 12=false:=by
     rw [sQ];split;·rw [aA _ _ _ ab,rO W h 12 ab,g];rfl
     ·rw [rO W h 12 ab,g]
    rw [b,Bool.and_false]
theorem LW (p:Int) (h:U W) (m:bN p=true) (g:fy 0 W=true):fy 0 (mB W p)=true:=by
 obtain ⟨l,n⟩:=Et W h g;have f:p=0\/p=1\/p=3:=by simpa [bN,or_assoc] using m
 refine zJ _ (Ga W p) (λi j b=>?_) ?_
 ·rw [vB W p h i j] at b;have e:∀ i,i<64->∀ a c:Bool,(a=true->bt 924074 i=true)->(((a&&!bt 6280 i||(decide (i=7)&&decide (i<64)&&c))||bt 0 i)=true->bt 924074 i=true)/\(((a&&!bt 6280 i||(decide (i=7)&&decide (i<64)&&c))||bt 2048 i)=true->bt 924074 i=true)/\(((a&&!bt 6280 i||(decide (i=7)&&decide (i<64)&&c))||bt 6144 i)=true->bt 924074 i=true):=bb;have e:=e i j _ (bt W 3) (l i);rcases f with rfl|rfl|rfl;·rw [S8] at b;exact e.1 b
  ·rw [S9] at b;exact e.2.1 b
  ·rw [Ta] at b;exact e.2.2 b
 ·rw [vB W p h 11 ab,vB W p h 12 ab];have k:∀ a c d:Bool,(!((a&&!bt 6280 11||(decide (11=7)&&decide (11<64)&&c))||bt 0 11)&&((d&&!bt 6280 12||(decide (12=7)&&decide (12<64)&&c))||bt 0 12))=false/\(!((a&&!bt 6280 11||(decide (11=7)&&decide (11<64)&&c))||bt 2048 11)&&((d&&!bt 6280 12||(decide (12=7)&&decide (12<64)&&c))||bt 2048 12))=false/\(!((a&&!bt 6280 11||(decide (11=7)&&decide (11<64)&&c))||bt 6144 11)&&((d&&!bt 6280 12||(decide (12=7)&&decide (12<64)&&c))||bt 6144 12))=false:=bb;have k:=k (bt W 11) (bt W 3) (bt W 12);rcases f with rfl|rfl|rfl;·rw [S8];exact k.1
  ·rw [S9];exact k.2.1
  ·rw [Ta];exact k.2.2
theorem LX (h:U W) (b:fy 0 W=true):fy 0 (lS W d)=true:=by
 obtain ⟨j,k⟩:=Et W h b;refine zJ _ (Gb W d) (λi g f=>?_) ?_;·rw [vC W d h i g] at f;have e:∀ i,i<64->∀ a c d:Bool,(a=true->bt 924074 i=true)->((a&&!bt 290 i||(decide (i=5)&&decide (i<64)&&c))||(d&&decide (i=8)))=true->bt 924074 i=true:=bb;exact e i g _ _ _ (j i) f
 ·have l:∀ a c d:Bool,((a&&!bt 290 11||(decide (11=5)&&decide (11<64)&&c))||(d&&decide (11=8)))=a:=bb;have m:∀ a c d:Bool,((a&&!bt 290 12||(decide (12=5)&&decide (12<64)&&c))||(d&&decide (12=8)))=a:=bb;rw [vC W d h 11 ab,vC W d h 12 ab,l,m];exact k
theorem Gc:∀ k,k<16->∀ i:Bool,fy 7 (gD (k:Nat) i)=true/\fy 13 (gD (k:Nat) i)=true:=by decide +kernel
theorem Ge:fy 8 W=true/\fy 14 W=true:=⟨beq_self_eq_true W,beq_self_eq_true W⟩
theorem Pb (h:U W):fy 6 (bits .andNot .u64 W 3)=true/\fy 12 (bits .andNot .u64 W 3)=true:=⟨oq W h 6 ab ab ab,oq W h 12 ab ab ab⟩
theorem LY (hz:c.length=22) (hl:∀ j,U (c.getD j 0)) (a:br 22 c=true) (d:Bool) (p pc v:Int) (e:bN p=true) (b:U pc) (k:Nat) (hk:k<16) (i:Bool):br 22 (iM c d p (gD k i) pc v)=true:=by
 have l:fy 0 (c.getD 0 0)=true:=dX a 0 ab;cases d with
 | true =>refine cE _ ww ?_ 0 ab _ (LX _ _ (hl 0) l);refine cE _ ww ?_ 14 ab _ (Ge v).2;refine cE _ ww ?_ 12 ab _ (Pb pc b).2;exact cE _ hz a 13 ab _ (Gc k hk i).2
 | false =>refine cE _ ww ?_ 0 ab _ (LW _ p (hl 0) e l);refine cE _ ww ?_ 8 ab _ (Ge v).1;refine cE _ ww ?_ 6 ab _ (Pb pc b).1;exact cE _ hz a 7 ab _ (Gc k hk i).1
theorem Ot (hl:∀ j,U (c.getD j 0)) (d:Bool) (p pc v:Int) (hv:U v) (k:Nat) (hk:k<16) (i:Bool):∀ j,U ((iM c d p (gD k i) pc v).getD j 0):=by
 have a:=Qu k hk i;cases d with
 | true=>exact jz _ (jz _ (jz _ (jz _ hl 13 _ a) 12 _ (aj _ _ _)) 14 _ hv) 0 _ (Gb _ _)
 | false=>exact jz _ (jz _ (jz _ (jz _ hl 7 _ a) 6 _ (aj _ _ _)) 8 _ hv) 0 _ (Ga _ _)
theorem Ou (h:U W):bits .and .u64 W 3=W%4:=cn W 2 h.1 h.2 ab
theorem Tb (h:fy 6 W=true\/fy 12 W=true):bits .and .u64 W 3=0:=by
 have e:bits .andNot .u64 W 3=W:=by
  rcases h with h|h;·have:(bits .andNot .u64 W 3==W)=true:=h;simpa using this
  ·have:(bits .andNot .u64 W 3==W)=true:=h;simpa using this
 refine bu _ _ (aj _ _ _) ⟨a6,a6⟩ λi c=>?_;have k:∀ a b:Bool,((a&&!b)&&b)=false:=a6
 rw [az,<- e,aA _ _ _ c,k,LO i c]
theorem Tu (h:fy 4 W=true\/fy 10 W=true):bits .and .u64 (dL W m d) 3=0:=by
 have e:bits .andNot .u64 W 2=W:=by
  rcases h with h|h;·have:(bits .andNot .u64 W 2==W)=true:=h;simpa using this
  ·have:(bits .andNot .u64 W 2==W)=true:=h;simpa using this
 have f:bits .and .u64 (bits .andNot .u64 W 1) 3=0:=by refine bu _ _ (aj _ _ _) ⟨a6,a6⟩ λi b=>?_;have m:∀ i,i<64->∀ a:Bool,(((a&&!bt 2 i)&&!bt 1 i)&&bt 3 i)=bt 0 i:=bb;rw [az,<- e,aA _ _ _ b,aA _ _ _ b,m i b]
 cases d with
 | false=>exact f
 | true =>show bits .and .u64 (Uz.wrap (bits .andNot .u64 W 1+Uz.wrap (4*m))) 3=0;rw [Ou _ (aj _ _ _)] at f;rw [Ou _ (bI _),IntKind.wrap_u64,IntKind.wrap_u64];omega
theorem rQ (c:0<=W) (d:W<18446744073709551616) (f:0<=r) (g:r<18446744073709551616) (w:World):CE 300 #[.u W,.u r] w (.u (MF.smin.v W r)):=by
 have l:=kq c d;have m:=kq f g;go_enter func300,ntmps300;go_wp2_with fail;·go_ret;exact ⟨ow,rfl⟩
 ·go_ret;exact ⟨la,rfl⟩
theorem qP (c:0<=W) (d:W<18446744073709551616) (f:0<=r) (g:r<18446744073709551616) (w:World):CE 301 #[.u W,.u r] w (.u (MF.smax.v W r)):=by
 have l:=kq c d;have m:=kq f g;go_enter func301,ntmps301;go_wp2_with fail;·go_ret;exact ⟨ow,rfl⟩
 ·go_ret;exact ⟨la,rfl⟩
theorem vD (c:0<=W) (d:W<18446744073709551616) (f:0<=r) (g:r<18446744073709551616) (w:World):CE 302 #[.u W,.u r] w (.u (MF.umin.v W r)):=by
 have l:=kq c d;have m:=kq f g;go_enter func302,ntmps302;go_wp2_with fail;·go_ret;exact ⟨ow,rfl⟩
 ·go_ret;exact ⟨la,rfl⟩
theorem tq (c:0<=W) (d:W<18446744073709551616) (f:0<=r) (g:r<18446744073709551616) (w:World):CE 303 #[.u W,.u r] w (.u (MF.umax.v W r)):=by
 have l:=kq c d;have m:=kq f g;go_enter func303,ntmps303;go_wp2_with fail;·go_ret;exact ⟨ow,rfl⟩
 ·go_ret;exact ⟨la,rfl⟩
def MF.fn:MF->Nat
 | .second=>299
 | .sum=>277
 | .xor=>280
 | .and=>282
 | .or=>281
 | .smin=>300
 | .smax=>301
 | .umin=>302
 | .umax=>303
theorem MF.calls (f:MF) (a b:Int) (c:0<=a) (d:a<18446744073709551616) (g:0<=b) (h:b<18446744073709551616) (w:World):Calls prog f.fn #[.u a,.u b] w λe i=>e=.returned (.u (f.v a b))/\∃ m,i=w.drewN m:=by
 cases f;·exact bj (yF a b w)
 ·exact bj (xo a b w)
 ·exact bj (xp a b w)
 ·exact bj (xq a b w)
 ·exact bj (AW a b w)
 ·exact bj (rQ a b c d g h w)
 ·exact bj (qP a b c d g h w)
 ·exact bj (vD a b c d g h w)
 ·exact bj (tq a b c d g h w)
theorem MF.enters (f:MF):(prog.funcs[f.fn]?).map (λa=>(a.name == "runtime.NumGoroutine",a.body.isSome))=some (false,true):=by cases f<;>kernel_rfl
def amoCells:Array Value:=(NF.map λf=>Value.func (.func f.fn) #[] #[]).toArray
def dH:Array Value:=(List.replicate 9 Value.nilFunc).toArray
theorem iH:dH.size=9:=by kernel_rfl
theorem cF:amoCells.size=9:=by kernel_rfl
theorem iI:(prog.info? 305).bind (·.zero)=some (.agg dH):=by kernel_rfl
theorem iJ:amoCells.all (·.oneCell')=true:=by kernel_rfl
theorem gL:(prog.info? 305).map (·.size)=some 9:=by kernel_rfl
theorem sR (h:m<9):amoCells[m]?=some (.func (.func (mu m).fn) #[] #[]):=by
 match m,h with
 | 0,_=>rfl
 | 1,_=>rfl
 | 2,_=>rfl
 | 3,_=>rfl
 | 4,_=>rfl
 | 5,_=>rfl
 | 6,_=>rfl
 | 7,_=>rfl
 | 8,_=>rfl
 | m+9,h=>exact absurd h ab
theorem Cj:CB 263 #[] t (.agg amoCells):=by go_enter func263,ntmps263;apply wp_seq_k;intro c b;apply wp_region_list;refine cD rfl 305 rfl (some 0) rfl _ iI ?_;apply wpList_nil;refine b _ _ ?_;clear b c;apply wp_seq_k;intro c b;apply wp_region_lit;refine ku 10 0 10 (.p t.heap.size 0) (.agg amoCells) a4 ?_;intro m f d j;have g:(t.alloc (.cells (Value.agg dH).cells 305)).heap[t.heap.size]?=some (.cells dH 305 (0,0)):=heap_alloc_new _ _;refine wpList_store_rowTo rfl 305 (.tmp 0) (.tmp 10) rfl rfl t.heap.size amoCells f d 305 dH g (by rw [gL,cF]) (by rw [iH,cF]) iJ ?_;apply wpList_nil;refine b _ _ ?_;clear b c;apply wp_ret;refine bodyPost_ret (results_cell_row results263 _ _ _ _ _ _ _ f (setRow_heap _ _ _ _ _ _ g) underlying305 rfl (by rw [gL,cF])) j ⟨rfl,?_⟩;exact aF (bal _ _) (Nat.le_refl _) _
theorem mO:Calls prog 263 #[] t λe a=>∃ T,e=.returned T/\Hid (T=.agg amoCells)/\Bw t a :=
 (Cj t).mono λe a h=>⟨.agg amoCells,h.1,(rfl:Value.agg amoCells=.agg amoCells),h.2⟩
theorem zK (hk:m<9) (a b:Int) (r:0<=a) (s:a<18446744073709551616) (t:0<=b) (u:b<18446744073709551616) (f:MF) (z:Hid (mu m=f)) (w:World): CB 234 #[.i ((m:Int)+76),.u a,.u b] w (.tuple #[.u (f.v a b),.bool true]):=by
 have A:wrap64 ((m:Int)+76-76)=m:=by unfold wrap64;omega
 have D:decide (76<=(m:Int)+76)=true:=by simp;omega
 have E:decide ((m:Int)<9)=true:=by simp;omega
 have y:=mH f.enters;go_enter func234,ntmps234;go_wp2_with fail;refine (mO _).mono ?_;rintro e d ⟨T,rfl,q,l⟩;have o:(d.alloc (.cells (Value.agg dH).cells 305)).heap[d.heap.size]?=some (.cells dH 305 (0,0)):=heap_alloc_new _ _;obtain ⟨g,c⟩:∃ g,g=(d.alloc (.cells (Value.agg dH).cells 305)).setRow d.heap.size amoCells:=⟨_,rfl⟩;have HR:Hid (g.heap[d.heap.size]?=some (.cells amoCells 305 (0,0))):=by show _=_;rw [c];exact setRow_heap _ _ _ _ _ _ o
 have p:Hid (Bw w g):=by show Below _ _ _;rw [c];exact aF (l.alloc l.size _) l.size _
 have j:Hid (g=(d.alloc (.cells (Value.agg dH).cells 305)).setRow d.heap.size amoCells):=c;clear c;have C:g.cell? ⟨d.heap.size,m,none⟩=some (.func (.func f.fn) #[] #[]):=by rw [cell_of_row _ _ _ _ _ _ HR.out,sR m hk,z.out]
 go_wp2_with (first | refine cD rfl 305 rfl (some 8) rfl _ iI ?_ | (refine wpList_store_rowTo rfl 305 (.tmp 8) (.tmp 10) rfl rfl d.heap.size amoCells rfl q.out 305 dH o (by rw [gL,cF]) (by rw [iH,cF]) iJ ?_;rw [<- j.out]));refine (MF.calls f a b r s t u _).mono ?_;rintro e F ⟨rfl,nq,k⟩;subst k;go_wp2_with fail;go_ret2;exact ⟨rfl,qe p.out _⟩
theorem Ck (hk:m<9) (a b:Int) (C:0<=a) (D:a<18446744073709551616) (E:0<=b) (F:b<18446744073709551616) (f:MF) (A:Hid (mu m=f)) (w:World): CB 234 #[.i ((m:Int)+65),.u a,.u b] w (.tuple #[.u (f.v (av 32 a) (av 32 b)%4294967296),.bool true]):=by
 have B:wrap64 ((m:Int)+65-65)=m:=by unfold wrap64;omega
 have H:decide (76<=(m:Int)+65)=false:=by simp;omega
 have I:decide (65<=(m:Int)+65)=true:=by simp;omega
 have J:decide ((m:Int)<9)=true:=by simp;omega
 have K:0<=(m:Int)/\(m:Int)<((9:Nat):Int):=ab
 have z:=mH f.enters;go_enter func234,ntmps234;go_wp2_with fail;refine (mO _).mono ?_;rintro e d ⟨T,rfl,u,o⟩;have q:(d.alloc (.cells (Value.agg dH).cells 305)).heap[d.heap.size]?=some (.cells dH 305 (0,0)):=heap_alloc_new _ _;obtain ⟨g,c⟩:∃ g,g=(d.alloc (.cells (Value.agg dH).cells 305)).setRow d.heap.size amoCells:=⟨_,rfl⟩;have HR:Hid (g.heap[d.heap.size]?=some (.cells amoCells 305 (0,0))):=by show _=_;rw [c];exact setRow_heap _ _ _ _ _ _ q
 have r:Hid (Bw w g):=by show Below _ _ _;rw [c];exact aF (o.alloc o.size _) o.size _
 have l:Hid (g=(d.alloc (.cells (Value.agg dH).cells 305)).setRow d.heap.size amoCells):=c;clear c;have G:g.cell? ⟨d.heap.size,m,none⟩=some (.func (.func f.fn) #[] #[]):=by rw [cell_of_row _ _ _ _ _ _ HR.out,sR m hk,A.out]
 go_wp2_with (first | refine cD rfl 305 rfl (some 8) rfl _ iI ?_ | (refine wpList_store_rowTo rfl 305 (.tmp 8) (.tmp 10) rfl rfl d.heap.size amoCells rfl u.out 305 dH q (by rw [gL,cF]) (by rw [iH,cF]) iJ ?_;rw [<- l.out]));have y:0<=f.v (av 32 a) (av 32 b):=f.pos (bg a).1 (bg a).2 (bg b).1 (bg b).2;have t:Hid (∀ (x:Int) (w:World),Calls prog 264 #[.u x] w λe j=>e=.returned (.u (av 32 x))/\∃ k,j=w.drewN k):=λx w=>bj (po x w);have s:Hid (∀ w:World,Calls prog f.fn #[.u (av 32 a),.u (av 32 b)] w λe j=>e=.returned (.u (f.v (av 32 a) (av 32 b)))/\∃ k,j=w.drewN k):=MF.calls f _ _ (bg a).1 (bg a).2 (bg b).1 (bg b).2;go_quiet (first | with_reducible refine Calls.quiet_of (t.out _ _) | with_reducible refine Calls.quiet_of (s.out _))
 go_wp2_with fail;refine (sf _ y _).mono ?_;rintro e L ⟨rfl,p⟩;subst p;go_wp2_with fail;go_ret2;exact ⟨rfl,qe r.out _⟩
theorem zL (a b:Int) (p:(Lit.int .i64 W).wf=true) (h:rA W=false) (w:World): CB 234 #[.i W,.u a,.u b] w (.tuple #[.u 0,.bool false]):=by
 have l:¬ (65<=W/\W<=73)/\¬ (76<=W/\W<=84):=by simpa [rA] using h
 have r:=Dz p;clear p h;by_cases j:W<65;·have m:decide (76<=W)=false:=a8;have u:decide (65<=W)=false:=a8;clear j l;go_enter func234,ntmps234;go_wp2_with fail;refine (mO _).mono ?_;rintro e d ⟨T,rfl,f,c⟩;have g:(d.alloc (.cells (Value.agg dH).cells 305)).heap[d.heap.size]?=some (.cells dH 305 (0,0)):=heap_alloc_new _ _;go_wp2_with (first | refine cD rfl 305 rfl (some 8) rfl _ iI ?_ | (refine wpList_store_rowTo rfl 305 (.tmp 8) (.tmp 10) rfl rfl d.heap.size amoCells rfl f.out 305 dH g (by rw [gL,cF]) (by rw [iH,cF]) iJ ?_));go_ret2;exact ⟨rfl,aF (c.alloc c.size _) c.size _⟩
 ·have t:decide (65<=W)=true:=a8;have A:wrap64 (W-65)=W-65:=lg;have y:decide (W-65<9)=false:=a8;by_cases o:W<76;·have m:decide (76<=W)=false:=a8;clear j l o;go_enter func234,ntmps234;go_wp2_with fail;refine (mO _).mono ?_;rintro e d ⟨T,rfl,f,c⟩;have g:(d.alloc (.cells (Value.agg dH).cells 305)).heap[d.heap.size]?=some (.cells dH 305 (0,0)):=heap_alloc_new _ _;go_wp2_with (first | refine cD rfl 305 rfl (some 8) rfl _ iI ?_ | (refine wpList_store_rowTo rfl 305 (.tmp 8) (.tmp 10) rfl rfl d.heap.size amoCells rfl f.out 305 dH g (by rw [gL,cF]) (by rw [iH,cF]) iJ ?_));go_ret2;exact ⟨rfl,aF (c.alloc c.size _) c.size _⟩
  ·have m:decide (76<=W)=true:=a8;have q:wrap64 (W-76)=W-76:=lg;have z:decide (W-76<9)=false:=a8;clear j l o;go_enter func234,ntmps234;go_wp2_with fail;refine (mO _).mono ?_;rintro e d ⟨T,rfl,f,c⟩;have g:(d.alloc (.cells (Value.agg dH).cells 305)).heap[d.heap.size]?=some (.cells dH 305 (0,0)):=heap_alloc_new _ _;go_wp2_with (first | refine cD rfl 305 rfl (some 8) rfl _ iI ?_ | (refine wpList_store_rowTo rfl 305 (.tmp 8) (.tmp 10) rfl rfl d.heap.size amoCells rfl f.out 305 dH g (by rw [gL,cF]) (by rw [iH,cF]) iJ ?_));go_ret2;exact ⟨rfl,aF (c.alloc c.size _) c.size _⟩
theorem Cl (a b:Int) (j:(Lit.int .i64 W).wf=true) (d:0<=a) (f:a<18446744073709551616) (g:0<=b) (i:b<18446744073709551616) (w:World): CB 234 #[.i W,.u a,.u b] w (.tuple #[.u (i7 W a b),.bool (rA W)]):=by
 cases h:rA W with
 | false=>rw [BG h];exact zL W a b j h w
 | true =>
   obtain ⟨k,c,rfl|rfl⟩:=xH h;·rw [BF c];exact zK k c a b d f g i _ (rfl:mu k=mu k) w
   ·rw [FF c];exact Ck k c a b d f g i _ (rfl:mu k=mu k) w
def vE (A B s:Int) (a b:Bool):Nat->Int
 | 0=>B | 1=>s | 2=>bits .xor .u64 A B | 3=>bits .and .u64 A B | 4=>bits .or .u64 A B
 | 5=>if a=true then A else B | 6=>if a=true then B else A | 7=>if b=true then A else B | _=>if b=true then B else A
theorem xR (o d a b A B s x y:Int) (g h:Bool) (hn:m=64/\o=76/\d=18446744073709551615\/m=32/\o=65/\d=4294967295) (t:bits .and .u64 a d=A) (u:bits .and .u64 b d=B) (hs:bits .and .u64 (Uz.wrap (A+B)) d=s) (hx:av m A=x) (hy:av m B=y) (hl:decide (IntKind.i64.wrap x<IntKind.i64.wrap y)=g) (j:decide (A<B)=h) (k:Nat) (hk:k<9) (w:World): CE 147 #[.i ((k:Int)+o),.u a,.u b] w (.tuple #[.u (vE A B s g h k),.bool true]):=by
 have l:=λW (_:W=w)=>iV ((k:Int)+o) 76 84 W;have n:=λW (_:W=w)=>iV ((k:Int)+o) 65 73 W;obtain ⟨V,i⟩:∃ V,V=vE A B s g h k:=⟨_,rfl⟩;rw [<- i];have p:∀ W,W=w->CE 144 #[.u A,.u m] W (.u x):=λW _=>hx ▸ dO A m ab ab W;have q:∀ W,W=w->CE 144 #[.u B,.u m] W (.u y):=λW _=>hy ▸ dO B m ab ab W;clear hx hy;have r:k=0\/k=1\/k=2\/k=3\/k=4\/k=5\/k=6\/k=7\/k=8:=ab
 refine bf (S:=λx=>x=w) (args:=[.i ((k:Int)+o),.u a,.u b]) [] func147 ?_;show Wg _ _ _ _ _ _ w;rcases hn with ⟨rfl,rfl,rfl⟩ | ⟨rfl,rfl,rfl⟩<;>rcases r with rfl | rfl | rfl | rfl | rfl | rfl | rfl | rfl | rfl<;>cases g<;>cases h <;>
  exact jv (R:=[]) trivial {eq:=[(29,cZ .u64 t),(32,cZ .u64 u),(41,af hl),(52,cZ .u64 hs),(82,af j),(87,af j)],cv:=[(14,jY l),(19,jY n),(35,jY p),(39,jY q)]} 300 λc hk=>⟨_,results_tmp2 rfl _ _ _,by rw [hk.slot (v:=.u V) (by rw [i];kernel_rfl),hk.slot (v:=.bool true) a4],rfl⟩
theorem Cm (a b:Int) (d:0<=a) (f:a<18446744073709551616) (g:0<=b) (j:b<18446744073709551616) (w:World): CE 147 #[.i W,.u a,.u b] w (.tuple #[.u (i7 W a b),.bool (rA W)]):=by
 cases h:rA W with
 | false =>rw [BG h];have m:¬ (65<=W/\W<=73)/\¬ (76<=W/\W<=84):=(by simpa [rA] using h);have r:decide (76<=W/\W<=84)=false:=(by simpa using m.2);have s:decide (65<=W/\W<=73)=false:=(by simpa using m.1);clear h m;go_enter func147,ntmps147;go_wp2_with (go_at_call 61;with_reducible refine (iV _ _ _ _).mono ?_;rintro e t ⟨rfl,rfl⟩);go_ret2;exact a0g
 | true =>
   obtain ⟨k,c,rfl | rfl⟩:=xH h;all_goals have l:∀ z,IntKind.i64.wrap z=wrap64 z:=λz=>by rw [IntKind.wrap_i64];unfold wrap64;omega
   ·rw [BF c];have e:(mu k).v a b=vE a b (Uz.wrap (a+b)) (decide (wrap64 a<wrap64 b)) (decide (a<b)) k:=by
     match k,c with
     | 0,_ | 1,_ | 2,_ | 3,_ | 4,_=>rfl
     | 5,_=>simpa [vE,mu,NF] using FG d f g j
     | 6,_ | 8,_=>simp [vE,mu,NF,MF.v]
     | 7,_=>simpa [vE,mu,NF] using FH a b
    rw [e];have o:0<=Uz.wrap (a+b)/\Uz.wrap (a+b)<18446744073709551616:=bh;exact xR 64 76 18446744073709551615 a b a b _ a b _ _ (.inl ⟨rfl,rfl,rfl⟩) (ve d f) (ve g j) (ve o.1 o.2) (vd d f) (vd g j) (by rw [l,l]) rfl k c w
   ·rw [FF c];have e:(mu k).v (av 32 a) (av 32 b)%4294967296=vE (a%4294967296) (b%4294967296) ((a+b)%4294967296) (decide (wrap64 (av 32 a)<wrap64 (av 32 b))) (decide (a%4294967296<b%4294967296)) k:=by
     match k,c with
     | 0,_=>exact D5 a b
     | 1,_=>exact ((NI a b).trans (jO _)).trans (by show _=(a+b)%4294967296;omega)
     | 2,_=>exact KH a b
     | 3,_=>exact KJ a b
     | 4,_=>exact NJ a b
     | 5,_=>simpa [vE,mu,NF] using KK a b
     | 6,_=>simpa [vE,mu,NF] using KL a b
     | 7,_=>simpa [vE,mu,NF] using KM a b
     | 8,_=>simpa [vE,mu,NF] using KN a b
    rw [e];have p:=lm ((a%4294967296)+(b%4294967296)) ab ab;exact xR 32 65 4294967295 a b _ _ _ _ _ _ _ (.inr ⟨rfl,rfl,rfl⟩) (lm a d f) (lm b g j) (by rw [IntKind.wrap_u64,Int.emod_eq_of_lt ab ab,p];omega) (ox a) (ox b) (by rw [l,l]) rfl k c w
theorem vF (h:m<6):dW.drop m=dW.getD m 0::dW.drop (m+1):=by
 have e:m=0\/m=1\/m=2\/m=3\/m=4\/m=5:=ab
 rcases e with rfl|rfl|rfl|rfl|rfl|rfl<;>rfl
theorem Cn:dW.getD m 0<64:=by
 by_cases h:m<6;·have e:m=0\/m=1\/m=2\/m=3\/m=4\/m=5:=ab;rcases e with rfl|rfl|rfl|rfl|rfl|rfl<;>decide
 ·have:dW.getD m 0=0:=by simp [dW,List.getD,List.getElem?_eq_none (show [11,3,7,9,1,5].length<=m by simp;omega)]
  omega
theorem xS (h:m<6) (a:gh W (dW.drop m)=cS W) (hb:(aq W (dW.getD m 0)==1)=true):cS W=(dW.getD m 0:Nat):=by rw [<- a,vF m h,gh,hb]
theorem Co (h:m<6) (a:gh W (dW.drop m)=cS W) (hb:(aq W (dW.getD m 0)==1)=false):gh W (dW.drop (m+1))=cS W:=by rw [<- a,vF m h,gh,hb]
def hC:Array Value:=#[.i 11,.i 3,.i 7,.i 9,.i 1,.i 5]
theorem IP (h:m<6):hC[m]?=some (.i (dW.getD m 0:Nat)):=by
 have e:m=0\/m=1\/m=2\/m=3\/m=4\/m=5:=ab
 rcases e with rfl|rfl|rfl|rfl|rfl|rfl<;>rfl
theorem Cp (w:World):CB 130 #[.u W] w (.i (cS W)):=by
 go_enter func130,ntmps130;go_wp2_with fail;have p:Bw w (w.alloc (Obj.cells #[.i 11,.i 3,.i 7,.i 9,.i 1,.i 5] 2)):=bal _ _;have u:Hid (∀ k,k<6->(w.alloc (Obj.cells #[.i 11,.i 3,.i 7,.i 9,.i 1,.i 5] 2)).cell? ⟨w.heap.size,k,none⟩=some (.i (dW.getD k 0:Nat))):=λk s=>(cell_of_row _ _ _ _ _ _ (heap_alloc_new _ _)).trans (IP k s);generalize w.alloc (Obj.cells #[.i 11,.i 3,.i 7,.i 9,.i 1,.i 5] 2)=B at *;go_loopw [4] (λi wr=>∃ k:Nat,k<=6/\i=.i k/\Hid (gh W (dW.drop k)=cS W)/\wr=B)
  (λi _=>6-(intOf i).toNat)
 case atStart=>exact ⟨0,ab,rfl,(rfl:gh W (dW.drop 0)=cS W),rfl⟩
 case round =>
  obtain ⟨k,s,rfl,j,rfl⟩:=hrel;by_cases c:k<6
  ·have E:=u.out k c;have b:Hid ((aq W (dW.getD k 0)==1)=true->Hid (cS W=(dW.getD k 0:Nat))):=λh=>xS W k c j.out h;have l:Hid ((aq W (dW.getD k 0)==1)=false->Hid (gh W (dW.drop (k+1))=cS W)):=λh=>Co W k c j.out h;have t:=Cn k;generalize dW.getD k 0=r at *;have q:Hid (∀ w,CE 129 #[.u W,.u r] w (.u (aq W r))):=λw=>gW W r t w;have G:Uz.wrap (r:Int)=r:=bh;have D:decide ((k:Int)<6)=true:=a8;have z:(0:Int)<=(k:Int):=ab;have A:(k:Int)<6:=ab;clear t j;generalize aq W r=y at *;cases d:(y==1) with
   | true =>have F:=b.out d;clear b l;go_wp2_with fail;refine (q.out _).mono ?_;rintro e C ⟨rfl,f⟩;have g:=f.symm;subst g;go_wp2_with fail;go_ret;exact ⟨a7,p⟩
   | false =>
     have F:=l.out d;clear b l;go_wp2_with fail;refine (q.out _).mono ?_;rintro e C ⟨rfl,f⟩;have g:=f.symm;subst g;go_wp2_with fail;go_roundw;case rel=>exact ⟨k+1,ab,by go_num,F,trivial⟩
     case measure=>simp [intOf];omega
  ·have m:k=6:=ab;subst m;have F:Hid (cS W=-1):=j.out.symm;go_wp2_with fail;go_ret;exact ⟨a7,p⟩
theorem xU {a:Nat} (h:Sl .u64 w (some ⟨p,a,none⟩) b) (k:Nat) (hk:k<b.length):p<w.heap.size/\w.cell? ⟨p,a+k,none⟩=some (.u (b.getD k 0)):=by obtain ⟨g,c,e,d,f⟩:=h k hk;simp only [Option.some.injEq,Addr.mk.injEq,and_true] at e;obtain ⟨rfl,rfl⟩:=e;exact ⟨d,f⟩
theorem wU (b a cap:Nat) (l:List Int) (p:Int) (s:bN p=true) (w:World) (hz:l.length=22) (hs:Sl .u64 w (some ⟨b,a,none⟩) l):CB 89 #[.slice (some ⟨b,a,none⟩) 22 cap,.i p] w (.i (fJ l p)):=by
 obtain ⟨V,d⟩:∃ V,V=fJ l p:=⟨_,rfl⟩;rw [<- d];unfold fJ EN Ai Aj j9 at d;have c:∀ j,j<22->∀ W,Bs w [] W->W.cell? ⟨b,a+j,none⟩=some (.u (l.getD j 0)):=λj u W h=>(h.2.cell (by exact (xU hs 0 ab).1)).trans (xU hs j ab).2;have g:=λx W (_:Bw w W)=>Cp x W;have k:=λ(i:Nat) (r:i<64) W (_:Bw w W)=>gW (l.getD 0 0) i r W;refine bf (S:=Bs w []) (args:=[.slice (some ⟨b,a,none⟩) 22 cap,.i p]) [] func89 ?_;have f:p=0\/p=1\/p=3:=by simpa [bN,or_assoc] using s
 cases m:decide (cS (bits .andNot .u64 (bits .and .u64 (l.getD 9 0) (l.getD 3 0)) (l.getD 2 0))>=0)<;>cases n:(aq (l.getD 0 0) 1==1)<;>cases o:(aq (l.getD 0 0) 3==1)<;>rw [m,n,o] at d<;>rcases f with rfl|rfl|rfl <;>
  exact aU (t:=4) (v:=.i V) Bs.eng {eq:=[(21,af o),(30,af m),(42,af n)],ov:=[(9,jk ⟨b,a+9,none⟩ _ underlying22 rfl (c 9 ab)),(12,jk ⟨b,a+3,none⟩ _ underlying22 rfl (c 3 ab)),(19,jk ⟨b,a+0,none⟩ _ underlying22 rfl (c 0 ab)),(40,jk ⟨b,a+0,none⟩ _ underlying22 rfl (c 0 ab)),(26,jk ⟨b,a+2,none⟩ _ underlying22 rfl (c 2 ab)),(48,jk ⟨b,a+2,none⟩ _ underlying22 rfl (c 2 ab))],cv:=[(20,jX (k 3 ab)),(41,jX (k 1 ab)),(28,eY (g (bits .andNot .u64 (bits .and .u64 (l.getD 9 0) (l.getD 3 0)) (l.getD 2 0)))),(50,eY (g (bits .and .u64 (bits .and .u64 (l.getD 9 0) (l.getD 3 0)) (l.getD 2 0))))]} 120 (Bs.start _ _) (hv:=by subst d;kernel_rfl) (he:=by subst d;kernel_rfl) (λq h=>⟨rfl,h.2⟩)
def cq:Bool->Array Value
 | true=>#[.i 3,.i 4,.i 6,.i 7,.i 8,.i 3,.i 7,.i 11,.i 2]
 | false=>#[.i 1,.i 10,.i 12,.i 13,.i 14,.i 1,.i 5,.i 8,.i 1]
theorem xV:(prog.info? 195).map (·.size)=some 9:=by kernel_rfl
theorem kB:CB 162 #[] t (.agg (cq true)):=by go_enter func162,ntmps162;go_wp2_with fail;exact bodyPost_ret (results_cell_row results162 _ _ _ _ _ _ _ rfl (heap_alloc_new _ _) underlying195 rfl xV) rfl ⟨rfl,bal _ _⟩
theorem jj:CB 164 #[] t (.agg (cq false)):=by go_enter func164,ntmps164;go_wp2_with fail;exact bodyPost_ret (results_cell_row results164 _ _ _ _ _ _ _ rfl (heap_alloc_new _ _) underlying195 rfl xV) rfl ⟨rfl,bal _ _⟩
theorem LZ:IntKind.i64.wrap W=wrap64 W:=by rw [IntKind.wrap_i64];unfold wrap64;omega
theorem zM (h:U W) (k n:Nat) (hk:k<64) (hn:n<64) (s:World):CB 76 #[.u W,.i k,.i n] s (.u (cQ W k n)):=(bA W k n h.1 h.2 hk hn s).mono λe a k=>⟨k.1,k.2 ▸ (Below.refl _ _).drew⟩
theorem Cq (h:U r) (hr:IntKind.i64.wrap (cQ r (if d=true then 11 else 8) (if d=true then 2 else 1))=o) (w:World):CB 274 #[.agg (cq d),.u r] w (.i o):=by have a:=λW (_:Bw w W)=>zM r h (if d=true then 11 else 8) (if d=true then 2 else 1) (by cases d<;>decide) (by cases d<;>decide) W;refine bf (S:=Bs w [(cq d,195)]) (args:=[.agg (cq d),.u r]) [(cq d,195)] func274 ?_;cases d<;>exact aU (t:=4) (v:=.i o) Bs.eng {cv:=[(10,eY a)],eq:=[(11,cZ .i64 hr)]} 60 (Bs.start _ _) λW h=>⟨rfl,h.2⟩
theorem xW (w:World):CB 255 #[.agg (cq d),.u r] w (.u (bits .andNot .u64 r (if d=true then 6280 else 290))):=by refine bf (S:=Bs w [(cq d,195)]) (args:=[.agg (cq d),.u r]) [(cq d,195)] func255 ?_;cases d<;>exact aU (t:=4) (v:=.u (bits .andNot .u64 r _)) Bs.eng {} 60 (Bs.start _ _) λW h=>⟨rfl,h.2⟩
theorem vG (h:U W) (w:World):CB 274 #[.agg (cq true),.u W] w (.i (cW W true)):=Cq true W _ h (by rw [LS W h];exact LZ _) w
theorem Cr (h:U W) (w:World):CB 274 #[.agg (cq false),.u W] w (.i (cW W false)):=Cq false W _ h (by rw [Ch W h];exact LZ _) w
theorem rR (s:Int) (h:U r) (c:Uz.wrap o=o) (hr:bits .or .u64 (bits .or .u64 (bits .andNot .u64 r (if d=true then 6280 else 290)) (Uz.wrap (cQ r (if d=true then 3 else 1) 1*(if d=true then 128 else 32)))) (Uz.wrap (o*(if d=true then 2048 else 256)))=s) (w:World):CB 218 #[.agg (cq d),.u r,.i o] w (.u s):=by have a:=λW (_:Bw w W)=>zM r h (if d=true then 3 else 1) 1 (by cases d<;>decide) a6 W;have b:=λW (_:Bw w W)=>xW d r W;refine bf (S:=Bs w [(cq d,195)]) (args:=[.agg (cq d),.u r,.i o]) [(cq d,195)] func218 ?_;generalize cQ r (if d=true then 3 else 1) 1=y at *;cases d<;>exact aU (t:=6) (v:=.u s) Bs.eng {cv:=[(11,eY a),(14,eY b)],eq:=[(21,cZ .u64 c),(25,cZ .u64 hr)]} 90 (Bs.start _ _) λW h=>⟨rfl,h.2⟩
theorem IQ (a:bN r=true) (h:U W) (w:World):CB 218 #[.agg (cq true),.u W,.i r] w (.u (mB W r)):=by
 have b:r=0\/r=1\/r=3:=by simpa [bN,or_assoc] using a
 exact rR true W r _ h bh (Ol W r h).symm w
theorem Eu (h:U W) (w:World):CB 218 #[.agg (cq false),.u W,.i 0] w (.u (lS W ((0:Int)==1))):=rR false W 0 _ h a6 (LP W h).symm w
theorem Ev (h:U W) (w:World):CB 218 #[.agg (cq false),.u W,.i 1] w (.u (lS W ((1:Int)==1))):=rR false W 1 _ h a6 (LQ W h).symm w
theorem Ew (s o x r:Int) (h:U s) (g:∀ W,CB 274 #[.agg (cq d),.u s] W (.i o)) (hd:(o != 3)=e) (hx:bits .or .u64 (bits .or .u64 (bits .andNot .u64 s (if d=true then 6280 else 290)) (Uz.wrap (cQ s (if d=true then 7 else 5) 1*(if d=true then 8 else 2)))) (if d=true then 128 else 32)=x) (hr:(if e=true then bits .andNot .u64 x 131072 else x)=r) (w:World):CB 304 #[.agg (cq d),.u s] w (.u r):=by
 have b:=λW (_:Bw w W)=>zM s h (if d=true then 7 else 5) 1 (by cases d<;>decide) a6 W
 have f:=λW (_:Bw w W)=>xW d s W
 refine bf (S:=Bs w [(cq d,195)]) (args:=[.agg (cq d),.u s]) [(cq d,195)] func304 ?_
 generalize cQ s (if d=true then 7 else 5) 1=y at *
 cases d<;>cases e<;>(
  subst hr
  exact aU (t:=4) (v:=.u (if _=true then bits .andNot .u64 x 131072 else x)) Bs.eng {cv:=[(10,eY b),(13,eY f),(25,eY λW _=>g W)],eq:=[(22,cZ .u64 hx),(26,af hd)]} 120 (Bs.start _ _) λW h=>⟨rfl,h.2⟩)
theorem Qv (h:U W) (w:World):CB 304 #[.agg (cq true),.u W] w (.u (cH W true)):=by
 cases d:(cW W true != 3) with
 | true=>exact Ew true true W _ _ _ h (vG W h) d rfl (IJ W h d).symm w
 | false=>exact Ew true false W _ _ _ h (vG W h) d rfl (IK W h d).symm w
theorem Qw (h:U W) (w:World):CB 304 #[.agg (cq false),.u W] w (.u (cH W false)):=Ew false true W _ _ _ h (Cr W h) (IL W h) rfl (LT W h).symm w
theorem Ex:(prog.info? 251).map (·.size)=some 6:=by kernel_rfl
theorem Ey:CB 215 #[] t (.agg hC):=by go_enter func215,ntmps215;go_wp2_with fail;exact bodyPost_ret (results_cell_row results215 _ _ _ _ _ _ _ rfl (heap_alloc_new _ _) underlying251 rfl Ex) rfl ⟨rfl,bal _ _⟩
theorem EA (hk:f<6):(Instr.index 251 (.agg hC) (.i (f:Int))).run prog t=.ok (.i (dW.getD f 0:Nat)) t:=by
 have a:(Instr.index 251 (.agg hC) (.i 0)).run prog t=.ok (.i 11) t:=a4
 have b:(Instr.index 251 (.agg hC) (.i 1)).run prog t=.ok (.i 3) t:=a4
 have c:(Instr.index 251 (.agg hC) (.i 2)).run prog t=.ok (.i 7) t:=a4
 have d:(Instr.index 251 (.agg hC) (.i 3)).run prog t=.ok (.i 9) t:=a4
 have k:(Instr.index 251 (.agg hC) (.i 4)).run prog t=.ok (.i 1) t:=a4
 have g:(Instr.index 251 (.agg hC) (.i 5)).run prog t=.ok (.i 5) t:=a4
 have e:f=0\/f=1\/f=2\/f=3\/f=4\/f=5:=ab
 rcases e with rfl|rfl|rfl|rfl|rfl|rfl;·exact a
 ·exact b
 ·exact c
 ·exact d
 ·exact k
 ·exact g
theorem Cs (h:U W) (w:World):CB 161 #[.u W] w (.i (cS W)):=by
 have m:Hid (U W):=h;clear h;go_enter func161,ntmps161;go_wp2_with fail;refine (Ey _).mono ?_;rintro e D ⟨rfl,u⟩;go_wp2_with fail;have s:=EA;generalize Value.agg hC=T at *;go_loopw [6] (λi wr=>∃ k:Nat,k<=6/\i=.i k/\Hid (gh W (dW.drop k)=cS W)/\Bw w wr)
  (λi _=>6-(intOf i).toNat)
 case atStart=>exact ⟨0,ab,rfl,(rfl:gh W (dW.drop 0)=cS W),u⟩
 case round =>
  obtain ⟨k,B,rfl,l,b⟩:=hrel;by_cases f:k<6
  ·have C:∀ w,_:=λw=>s w k f;have c:Hid ((aq W (dW.getD k 0)==1)=true->Hid (cS W=(dW.getD k 0:Nat))):=λh=>xS W k f l.out h;have j:Hid ((aq W (dW.getD k 0)==1)=false->Hid (gh W (dW.drop (k+1))=cS W)):=λh=>Co W k f l.out h;have t:=Cn k;rw [dF _ _ m.out] at c j;have q:Hid (∀ w,Calls prog 76 #[.u W,.i (dW.getD k 0:Nat),.i 1] w λe p=>e=.returned (.u (cQ W (dW.getD k 0) 1))/\p=w.drew):=λw=>bA W (dW.getD k 0) 1 m.out.1 m.out.2 t ab w;generalize cQ W (dW.getD k 0) 1=y at *;generalize dW.getD k 0=r at *;have A:decide ((k:Int)<6)=true:=a8;clear t l s;cases d:(y==1) with
   | true =>have F:=c.out d;clear c j;go_wp2_with fail;refine (q.out _).mono ?_;rintro e z ⟨rfl,g⟩;subst g;go_wp2_with fail;go_ret;exact ⟨a7,b.drew⟩
   | false =>
     have F:=j.out d;clear c j;go_wp2_with fail;refine (q.out _).mono ?_;rintro e z ⟨rfl,g⟩;subst g;go_wp2_with fail;go_roundw;case rel=>exact ⟨k+1,ab,by go_num,F,b.drew⟩
     case measure=>simp [intOf];omega
  ·have o:k=6:=ab;subst o;have F:Hid (cS W=-1):=l.out.symm;go_wp2_with fail;go_ret;exact ⟨a7,b⟩
def L4 (m:Bool) (s p:Int):Bool:=match m with
 | true=>decide (p<3)||((p==3)&&(cQ s 3 1==1))
 | false=>decide (p<1)||((p==1)&&(cQ s 1 1==1))
theorem Gf (c:Bool) (s p:Int) (h:U s) (w:World):CB 163 #[.agg (cq c),.u s,.i p] w (.bool (decide (p<if c=true then 3 else 1)||((p==if c=true then 3 else 1)&&(cQ s (if c=true then 3 else 1) 1==1)))):=by have a:=λW (_:Bw w W)=>zM s h (if c=true then 3 else 1) 1 (by cases c<;>decide) a6 W;refine bf (S:=Bs w [(cq c,195)]) (args:=[.agg (cq c),.u s,.i p]) [(cq c,195)] func163 ?_;generalize cQ s (if c=true then 3 else 1) 1=y at *;cases b:decide (p<if c=true then 3 else 1)<;>cases d:(p==if c=true then 3 else 1)<;>cases f:(y==1)<;>cases c<;>exact aU (t:=6) (v:=.bool (_||(_&&_))) Bs.eng {cv:=[(20,eY a)],eq:=[(10,af b),(15,af d),(21,af f)]} 90 (Bs.start _ _) λW h=>⟨rfl,h.2⟩
theorem Ow (h:U W) (w:World):CB 163 #[.agg (cq true),.u W,.i r] w (.bool (L4 true W r)):=Gf true W r h w
theorem Ox (h:U W) (w:World):CB 163 #[.agg (cq false),.u W,.i r] w (.bool (L4 false W r)):=Gf false W r h w
theorem wV (hk:m<16) (i:Bool) (w:World):CE 217 #[.i m,.bool i] w (.u (gD m i)):=by
 have c:Uz.wrap (m:Int)=m:=by rw [IntKind.wrap_u64];omega
 clear hk;cases i with
 | true =>have F:Hid (gD m true=bits .or .u64 m 9223372036854775808):=(rfl:gD m true=_);generalize gD m true=r at *;go_enter func217,ntmps217;exact a09
 | false =>have F:Hid (gD m false=m):=(rfl:gD m false=_);generalize gD m false=r at *;go_enter func217,ntmps217;exact a09
theorem wX (hk:m<16) (i:Bool) (w:World):CE 219 #[.u W,.i m,.bool i] w (.u (dL W m (i&&(bits .and .u64 W 1==1)))):=by
 have c:Uz.wrap (m:Int)=m:=by rw [IntKind.wrap_u64];omega
 clear hk;cases i with
 | true =>
   cases d:(bits .and .u64 W 1 != 0) with
   | true =>have F:Hid (dL W m (true&&(bits .and .u64 W 1==1))=Uz.wrap (bits .andNot .u64 W 1+Uz.wrap (4*m))):=(by show _=_;rw [<- F8,d];rfl);generalize dL W m (true&&(bits .and .u64 W 1==1))=r at *;exact a0u
   | false =>have F:Hid (dL W m (true&&(bits .and .u64 W 1==1))=bits .andNot .u64 W 1):=(by show _=_;rw [<- F8,d];rfl);generalize dL W m (true&&(bits .and .u64 W 1==1))=r at *;exact a0u
 | false =>have F:Hid (dL W m (false&&(bits .and .u64 W 1==1))=bits .andNot .u64 W 1):=(rfl:dL W m false=_);generalize dL W m (false&&(bits .and .u64 W 1==1))=r at *;exact a0u
theorem wY (cap:Nat) (l:List Int) (p:Int) (k:Nat) (hk:k<16) (i:Bool) (w:World) (A:w.cell? ⟨m,n+1,none⟩=some (.u (l.getD 1 0))) (B:w.cell? ⟨m,n+2,none⟩=some (.u (l.getD 2 0))) (o:U (l.getD 1 0)) (q:U (l.getD 2 0)): CB 216 #[.slice (some ⟨m,n,none⟩) 22 cap,.i p,.i k,.bool i] w (.bool (cJ l p k i)):=by
 have F:Hid (cJ l p k i=(!(p==3)&&(aq (match i with | true=>l.getD 2 0 | false=>l.getD 1 0) k==1))):=(rfl:cJ l p k i=_);cases d:(p==3) with
 | true =>
   have g:Hid (cJ l p k i=false):=(by show _=_;rw [F.out,d];rfl);have u:(p != 3)=false:=(by simp [bne,d]);clear F;generalize cJ l p k i=r at *;generalize l.getD 1 0=s at *;generalize l.getD 2 0=t at *;cases i <;>
   ·go_enter func216,ntmps216;go_wp2_with fail;go_ret;exact ⟨by rw [g.out];rfl,Below.refl _ _⟩
 | false =>
   have u:(p != 3)=true:=(by simp [bne,d]);rw [d] at F;cases i with
   | true =>have g:Hid (cJ l p k true=(cQ (l.getD 2 0) k 1==1)):=(by show _=_;rw [F.out];show (aq (l.getD 2 0) k==1)=_;rw [dF _ _ q]);have b:Hid (∀ w,Calls prog 76 #[.u (l.getD 2 0),.i k,.i 1] w λe j=>e=.returned (.u (cQ (l.getD 2 0) k 1))/\j=w.drew):=λw=>bA _ k 1 q.1 q.2 ab ab w;clear F;generalize cJ l p k true=r at *;generalize cQ (l.getD 2 0) k 1=y at *;generalize l.getD 1 0=s at *;generalize l.getD 2 0=t at *;go_enter func216,ntmps216;go_wp2_with fail;refine (b.out _).mono ?_;rintro e z ⟨rfl,c⟩;subst c;go_wp2_with fail;go_ret;exact ⟨by rw [g.out];rfl,(Below.refl _ _).drew⟩
   | false =>have g:Hid (cJ l p k false=(cQ (l.getD 1 0) k 1==1)):=(by show _=_;rw [F.out];show (aq (l.getD 1 0) k==1)=_;rw [dF _ _ o]);have b:Hid (∀ w,Calls prog 76 #[.u (l.getD 1 0),.i k,.i 1] w λe j=>e=.returned (.u (cQ (l.getD 1 0) k 1))/\j=w.drew):=λw=>bA _ k 1 o.1 o.2 ab ab w;clear F;generalize cJ l p k false=r at *;generalize cQ (l.getD 1 0) k 1=y at *;generalize l.getD 1 0=s at *;generalize l.getD 2 0=t at *;go_enter func216,ntmps216;go_wp2_with fail;refine (b.out _).mono ?_;rintro e z ⟨rfl,c⟩;subst c;go_wp2_with fail;go_ret;exact ⟨by rw [g.out];rfl,(Below.refl _ _).drew⟩
structure Lq (w:World) (g:Nat) (c:Bool) (W:World):Prop where
 row:W.heap[g]?=some (.cells (cq c) 195 (0,0))
 bel:Bw w W
 lo:w.heap.size<=g
structure Lv (w:World) (g h:Nat) (c:Bool) (vs:List Int) (W:World):Prop where
 q:Lq w g c W
 own:W.ownsRow h 22 1 (.slice (some ⟨h,0,none⟩) 22 22) 22 (vs.map (Value.int .u64))
 lo:g<h
theorem Lq.below (p:Lq w g k s) (c:Bw s x):Lq w g k x:=⟨aB c p.row,aa p.bel c,p.lo⟩
theorem Lv.below {h:Nat} (p:Lv w g h k b s) (c:Bw s x):Lv w g h k b x:=⟨p.q.below c,du p.own c,p.lo⟩
theorem Lq.eng {fn:Func}:oM P (Lq w p k) (Lq w p k) [⟨p,cq k,[]⟩] dr (bodyPost P fn Rs):=
 ⟨λ_ g=>g,λW g r a=>by rw [List.mem_singleton.1 a];exact ⟨_,_,g.row⟩,λ_ W g=>g.below (Below.refl _ _).drew,cL⟩
theorem Lv.eng {h:Nat} {fn:Func}:oM P (Lq w p k) (Lv w p h k b) [⟨p,cq k,[]⟩] dr (bodyPost P fn Rs):=
 ⟨λ_ g=>g.q,(Lq.eng (P:=P) (fn:=fn) (dr:=dr) (Rs:=Rs)).rows,λ_ W g=>g.below (Below.refl _ _).drew,cL⟩
theorem Lv.put {h:Nat} (g:Lv w p h k b s) (j:Nat) (x:Int):Lv w p h k (b.set j x) (s.setCell ⟨h,j,none⟩ (.u x)):=by have d:=g.lo;have vs:=g.q.lo;have a:=(g.own.stored j (.u x)).1;rw [kf] at a;exact ⟨⟨(Below.heap_setCell s ⟨h,j,none⟩ _ p a9).trans g.q.row,g.q.bel.setCell (p:=⟨h,j,none⟩) a9 _,g.q.lo⟩,a,g.lo⟩
theorem Lv.run {w:World} {h:Nat} {vs:List Int} (g:Lv w p h k vs s) (j:Nat) (b:j<22) (x:Int):(do Instr.storeAt 22 (.p h j) (.u x);pure Next.skip:Sem Next).run prog s=.ok .skip (s.setCell ⟨h,j,none⟩ (.u x)):=by have a:=g.own.1;exact lV ⟨(g.own.cellAt j ab).trans (List.getElem?_eq_getElem ab),g.own.frozenAt j⟩ a4 rfl
theorem L7:∃ W',(do pure (.value (<- Instr.makeSlice 23 (.i 22) (.i 22))):Sem Next).run prog t=.ok (.value (.slice (some ⟨t.heap.size,0,none⟩) 22 22)) W'/\(∃ l,W'.ownsRow t.heap.size 22 1 (.slice (some ⟨t.heap.size,0,none⟩) 22 22) 22 l)/\Bw t W':=by obtain ⟨j,f,c,d,e⟩:=info_parts EQ;obtain ⟨W',i,h,a⟩:=run_make_full (P:=prog) t t.heap.size 23 22 j (.u 0) 1 underlying23 f c d .i64 .i64 22 (by rw [e];omega) fb (Nat.le_refl _);have b:(Instr.makeSlice 23 (.i 22) (.i 22)).run prog t=.ok (.slice (some ⟨t.heap.size,0,none⟩) 22 22) W':=i;exact ⟨W',by simp [b],⟨_,h⟩,a.os,a.tape,a.output,a.size,λk g=>a.block k g bc⟩
def RM (T t:TypeId) (v u:Value):Sem Next:=execOp (λx=>match x with | .tmp 0=>v | _=>u) {dst:=none,op:=.call {callee:=.builtin .copy,args:=#[.tmp 0,.tmp 1],argTypes:=#[T,T]},type:=t,pos:= "",after:=#[],guard:=none}
theorem L8 {h:Nat} {a cap:Nat} {ys:List Value} (x:s.ownsRow h 22 1 (.slice (some ⟨h,0,none⟩) 22 22) 22 ys) (hs:Sl .u64 s (some ⟨p,a,none⟩) b) (hz:b.length=22) (ty:TypeId): ∃ W',(RM 23 ty (.slice (some ⟨h,0,none⟩) 22 22) (.slice (some ⟨p,a,none⟩) 22 cap)).run prog s=.ok (.value (.i 22)) W'/\W'.ownsRow h 22 1 (.slice (some ⟨h,0,none⟩) 22 22) 22 (b.map (Value.int .u64))/\s.grownBy W' (some h):=by
 obtain ⟨D,W,z,q,A⟩:=info_parts EQ
 have c:(b.map (Value.int .u64)).length=22:=by rw [List.length_map,hz]
 rcases x.2 with ⟨v,_⟩|⟨C,B,e,y,f,r,m,g,w,o⟩
 ·cases v
 ·cases y
  have t:=run_copy_row (P:=prog) s 23 23 ty 22 h 0 22 22 ⟨p,a,none⟩ 22 cap e 22 (b.map (Value.int .u64)) underlying23 (by rw [W];simp [q]) r (by rw [c];rfl) (λj u d=>by
   have k:j<b.length:=by
    rcases Nat.lt_or_ge j b.length with h|h
    ·exact h
    ·rw [List.getElem?_eq_none cp] at d;cases d
   have l:u=.u (b.getD j 0):=by
    simp [List.getElem?_eq_getElem k] at d
    simp [List.getD,List.getElem?_eq_getElem k,d]
   rw [Al,l];exact (xU hs j k).2) (by rw [c];omega) (ints_oneCell _ _)
  rw [c] at t
  refine ⟨_,by unfold RM execOp;simp only [resolve,invoke,builtin,Sem.run_bind,Sem.run_pure,Result.andThen_ok,List.map_toArray,List.map_cons,List.map_nil,t];rfl,⟨by rw [c],.inr ⟨h,22,_,rfl,f,setRow_heap s h _ _ _ _ r,m,g,?_,?_⟩⟩,⟨rfl,rfl,rfl,by simp [World.setRow],λi W n=>setRow_other s h i _ (by intro h;apply n;rw [h])⟩⟩
  ·simp [hz];omega
  ·simp [hz]
theorem Pc {W3:World} (q:Lq w p k x) (a:p<s.heap.size) (c:x.grownBy W3 (some s.heap.size)) (o:W3.ownsRow s.heap.size 22 1 (.slice (some ⟨s.heap.size,0,none⟩) 22 22) 22 (b.map (Value.int .u64))) (l:w.heap.size<=s.heap.size):Lv w p s.heap.size k b W3 :=
 ⟨⟨(c.block p (Array.getElem?_eq_some_iff.1 q.row).1 a8).trans q.row,Below.grown q.bel c q.bel.size (λj e=>by cases e;exact l),q.lo⟩,o,a⟩
abbrev sS:Array Value:=#[.i 0,.i 0,.i 0,.i 0,.i 0,.i 0,.i 0,.i 0,.i 0]
theorem wZ (hz:j.length=m) (hs:Sl .u64 q a j) (hl:∀ cap,U (j.getD cap 0)): Calls prog 271 #[.slice a m n,.i y,.bool e] q λp r=>∃ (u:Option Addr) (c:Nat), p=.returned (.tuple #[.slice u (jK m j y e).length c,.i (qM m j y e),.u (qN m j y e),.bool (lL m j y e)]) /\ r.ownsRow q.heap.size 22 1 (.slice u (jK m j y e).length c) (jK m j y e).length ((jK m j y e).map (Value.int .u64))/\Bw q r:=by
 have l:=λ(g:Nat) W (w:Lq q g e W)=>fp a m n j y W hz (hs.below w.bel) hl
 have fin:∀ (g:Nat) (W:World),Lq q g e W->Wg prog (Lq q g e) (bodyPost prog Tryz.f271 λp r=>∃ (u:Option Addr) (c:Nat),p=.returned (.tuple #[.slice u (jK m j y e).length c,.i (qM m j y e),.u (qN m j y e),.bool (lL m j y e)])/\r.ownsRow q.heap.size 22 1 (.slice u (jK m j y e).length c) (jK m j y e).length ((jK m j y e).map (Value.int .u64))/\Bw q r) Tryz.f271.ntmps [.code (ay 3 (aW Tryz.f271))] [(0,.slice a m n,0),(1,.i y,0),(10,.p g 0,1)] W:=λg W w=>by
  have l:=l g
  have no:lL m j y e=false->∀ W,Lq q g e W->∃ (u:Option Addr) (c:Nat),Ending.returned (.tuple #[.slice none 0 0,.i 0,.u 0,.bool false])=.returned (.tuple #[.slice u (jK m j y e).length c,.i (qM m j y e),.u (qN m j y e),.bool (lL m j y e)])/\W.ownsRow q.heap.size 22 1 (.slice u (jK m j y e).length c) (jK m j y e).length ((jK m j y e).map (Value.int .u64))/\Bw q W:=λp W w=>by
   unfold jK qM qN
   rw [p]
   exact ⟨none,0,rfl,qp _ _,w.bel⟩
  cases i:be m j y with
  | false =>
    rw [i] at l
    exact kt Lq.eng {cv:=[(18,jb (λw k=>w.below k) l)]} 60 (dr:=true) w λW b w f=>⟨_,lJ rfl _ _ _,by rw [f.slot (v:=.slice none 0 0) a4,f.slot (v:=.i 0) a4,f.slot (v:=.u 0) a4,f.slot (v:=.bool false) a4];exact no (by simp [lL,i]) W w⟩
  | true =>
    obtain ⟨rfl,hp⟩:=gF i
    have I:y=0\/y=1\/y=3:=by simpa [bN,or_assoc] using hp
    obtain ⟨b,o,rfl,C,_⟩:=hs 0 ab
    have H:∀ cap,cap<22->∀ W,Lq q g e W->W.cell? ⟨b,o+cap,none⟩=some (.u (j.getD cap 0)):=λcap hj W w=>(w.bel.cell (by exact C)).trans (xU hs cap ab).2
    rw [i] at l
    have B:lL 22 j y e=!decide (y<if e=true then 3 else 1):=by
     unfold lL
     rw [i]
     rcases I with rfl|rfl|rfl<;>cases e<;>rfl
    cases x:lL 22 j y e with
    | false =>
      have d:decide (y<if e=true then 3 else 1)=true:=by rw [x] at B;simpa using B.symm
      cases e<;>exact kt Lq.eng {cv:=[(18,jb (λw k=>w.below k) l)],eq:=[(24,af d)]} 60 (dr:=true) w λW b w f=>⟨_,lJ rfl _ _ _,by rw [f.slot (v:=.slice none 0 0) a4,f.slot (v:=.i 0) a4,f.slot (v:=.u 0) a4,f.slot (v:=.bool false) a4];have:=no x W w;rw [x] at this;exact this⟩
    | true =>
      have d:decide (y<if e=true then 3 else 1)=false:=by rw [x] at B;simpa using B.symm
      have X:jK 22 j y e=j.set 0 (cH (j.getD 0 0) e):=by unfold jK;rw [x]
      have Y:qM 22 j y e=cW (j.getD 0 0) e:=by unfold qM;rw [x]
      have V:qN 22 j y e=dV j e:=by unfold qN;rw [x]
      have ez:(j.set 0 (cH (j.getD 0 0) e)).length=22:=ww
      rw [X,Y,V,ez]
      have N:∀ W,CB 274 #[.agg (cq e),.u (j.getD 0 0)] W (.i (cW (j.getD 0 0) e)):=λW=>by cases e;exact Cr _ (hl 0) W;exact vG _ (hl 0) W
      have O:∀ W,CB 304 #[.agg (cq e),.u (j.getD 0 0)] W (.u (cH (j.getD 0 0) e)):=λW=>by cases e;exact Qw _ (hl 0) W;exact Qv _ (hl 0) W
      have P:=H 0 ab
      have Q:∀ W,Lq q g e W->W.cell? ⟨b,o+(if e=true then 6 else 12),none⟩=some (.u (dV j e)):=λW w=>by cases e;exact H 12 ab W w;exact H 6 ab W w
      generalize cW (j.getD 0 0) e=vp at N ⊢
      generalize cH (j.getD 0 0) e=vs at O ⊢
      generalize dV j e=va at Q ⊢
      clear no X Y V B x
      cases e<;>(
       refine ae Lq.eng {cv:=[(18,jb (λw k=>w.below k) l)],eq:=[(24,af d)]} 60 (dr:=true) w λG L=>?_
       obtain ⟨s,J,⟨ys,o2⟩,A⟩:=L7 G
       refine fz 0 J ?_
       have Z:=L.below A
       have g1:=(Array.getElem?_eq_some_iff.1 L.row).1
       refine aP (R:=[]) trivial {} 6 ?_
       obtain ⟨W3,K,o3,g3⟩:=L8 (cap:=n) o2 (hs.below Z.bel) hz 3
       refine fz 0 K ?_
       have v3:=Pc Z g1 g3 o3 L.bel.size
       generalize G.heap.size=h at v3 ⊢
       refine ae Lv.eng {cv:=[(34,jb (λw k=>w.below k) λW _=>N W),(40,jb (λw k=>w.below k) λW _=>O W)],ov:=[(33,jk ⟨b,o+0,none⟩ _ underlying22 rfl P),(39,jk ⟨b,o+0,none⟩ _ underlying22 rfl P)]} 99 (dr:=true) v3 λW4 M=>?_
       refine bx (M.run 0 ab vs) (hS:=λ_=>(M.put 0 vs).q) ?_
       exact kt Lv.eng {ov:=[(48,jk _ _ underlying22 rfl Q)]} 99 (dr:=true) (M.put 0 vs) λW c v f=>⟨_,lJ rfl _ _ _,some ⟨h,0,none⟩,22,by rw [f.slot (v:=.slice (some ⟨h,0,none⟩) 22 22) a4,f.slot (v:=.i vp) a4,f.slot (v:=.u va) a4,f.slot (v:=.bool true) a4],dG v.own (by have:=v.lo;have:=v.q.lo;omega),v.q.bel⟩)
 refine bf (S:=Bs q []) (args:=[.slice a m n,.i y,.bool e]) [] func271 ?_
 refine aN Bs.eng {} 9 (Bs.start q []) (λW _=>jj W) ?_
 rintro G p s E ⟨rfl,A⟩
 refine ⟨_,0,rfl,fi a4,?_⟩
 refine fz 1 (cT (T:=195) (z:=.agg sS) a4 s) ?_
 refine bx (aD (g:=s.heap.size) (t:=195) (ty:=195) (old:=sS) (cells:=cq false) (heap_alloc_new _ _) a4 rfl a4) ?_
 have F:Lq q s.heap.size false ((s.alloc (.cells (Value.agg sS).cells 195)).setRow s.heap.size (cq false)):=⟨setRow_heap _ _ _ _ _ _ (heap_alloc_new _ _),aF ((E.below A).2.alloc (E.below A).2.size _) (E.below A).2.size _,(E.below A).2.size⟩
 generalize s.heap.size=g at F ⊢
 generalize (s.alloc (.cells (Value.agg sS).cells 195)).setRow g (cq false)=W3 at F ⊢
 refine aK (Lq q g false) ?_
 cases e with
 | false =>
   refine ae Lq.eng {} 8 (dr:=false) F λW w=>?_
   exact an _ _ (fin g W w)
 | true =>
   refine aN Lq.eng {} 20 (dr:=false) F (λW _=>kB W) ?_
   rintro W4 p W5 q4 ⟨rfl,b5⟩
   refine ⟨_,0,rfl,fi a4,?_⟩
   have D:=q4.below b5
   refine bx (aD (g:=g) (t:=195) (ty:=195) (old:=cq false) (cells:=cq true) D.row a4 rfl a4) ?_
   have q6:Lq q g true (W5.setRow g (cq true)):=⟨setRow_heap _ _ _ _ _ _ D.row,aF D.bel D.lo _,D.lo⟩
   refine aK (Lq q g true) ?_
   refine ae Lq.eng {} 1 (dr:=false) q6 λW w=>?_
   exact an _ _ (fin g W w)
theorem xa (p pc k:Int) (i:Bool) (v:Int) (w:World) (hz:j.length=m) (hs:Sl .u64 w a j) (hl:∀ l,U (j.getD l 0)): Calls prog 165 #[.slice a m n,.i p,.u pc,.i k,.bool i,.u v] w λe A=>∃ (s:Option Addr) (c:Nat), e=.returned (.tuple #[.slice s (rN m j p pc k i v).length c,.i (Eo m j p k i),.u (Ep m j p k i),.bool (zI m j p k)]) /\ A.ownsRow w.heap.size 22 1 (.slice s (rN m j p pc k i v).length c) (rN m j p pc k i v).length ((rN m j p pc k i v).map (Value.int .u64))/\Bw w A:=by
 have J:=λW (hb:Bw w W)=>fp a m n j p W hz (hs.below hb) hl
 refine bf (S:=Bs w []) (args:=[.slice a m n,.i p,.u pc,.i k,.bool i,.u v]) [] func165 ?_
 cases y:zI m j p k with
 | false =>
   have no:∀ W,Bs w [] W->∃ (s:Option Addr) (c:Nat),Ending.returned (.tuple #[.slice none 0 0,.i 0,.u 0,.bool false])=.returned (.tuple #[.slice s (rN m j p pc k i v).length c,.i (Eo m j p k i),.u (Ep m j p k i),.bool false])/\W.ownsRow w.heap.size 22 1 (.slice s (rN m j p pc k i v).length c) (rN m j p pc k i v).length ((rN m j p pc k i v).map (Value.int .u64))/\Bw w W:=λW q=>by
    unfold rN Eo Ep
    rw [y]
    exact ⟨none,0,rfl,qp _ _,q.2⟩
   cases f:be m j p<;>cases d:decide (k<0)<;>cases L:decide (k>=16)<;>(
    first
    | (exfalso;revert y;unfold zI Si;rw [f];simp at d L ⊢;omega)
    | (rw [f] at J
       exact kt Bs.eng {cv:=[(20,eY J)],eq:=[(24,af d),(28,af L)]} 60 (Bs.start w []) λW b q o=>⟨_,lJ rfl _ _ _,by rw [o.slot (v:=.slice none 0 0) a4,o.slot (v:=.i 0) a4,o.slot (v:=.u 0) a4,o.slot (v:=.bool false) a4];exact no W q⟩))
 | true =>
   have Q:=y
   unfold zI Si at Q
   rw [Bool.and_eq_true,decide_eq_true_eq] at Q
   obtain ⟨f,hk0⟩:=Q
   rw [f] at J
   obtain ⟨rfl,hp⟩:=gF f
   have d:decide (k<0)=false:=by rw [decide_eq_false_iff_not];omega
   have L:decide (k>=16)=false:=by rw [decide_eq_false_iff_not];omega
   obtain ⟨l,rfl⟩:∃ l:Nat,k=(l:Int):=⟨k.toNat,ab⟩
   have V:l<16:=ab
   obtain ⟨b,cap,rfl,F,_⟩:=hs 0 ab
   have E:∀ x,x<22->∀ W,Bw w W->W.cell? ⟨b,cap+x,none⟩=some (.u (j.getD x 0)):=λx hx W q=>(q.cell (by exact F)).trans (xU hs x ab).2
   have eL:rN 22 j p pc l i v=iM j (cJ j p l i) p (gD l i) pc v:=by unfold rN;rw [y,Int.toNat_natCast]
   have eP:Eo 22 j p l i=rT (cJ j p l i):=by unfold Eo;rw [y,Int.toNat_natCast]
   have eA:Ep 22 j p l i=dL (nP j (cJ j p l i)) l (mI j (cJ j p l i) i):=by unfold Ep;rw [y,Int.toNat_natCast]
   have ez:(iM j (cJ j p l i) p (gD l i) pc v).length=22:=by rw [lK,hz]
   rw [eL,eP,eA,ez]
   clear eL eP eA ez y
   have C:=λW (q:Bw w W)=>wY b cap n j p l V i W (E 1 ab W q) (E 2 ab W q) (hl 1) (hl 2)
   have hp3:p=0\/p=1\/p=3:=by simpa [bN,or_assoc] using hp
   have hD:cJ j p l i=true->p=0\/p=1:=λe=>by
    rcases hp3 with h|h|h
    ·exact .inl h
    ·exact .inr h
    ·rw [h] at e;cases e
   generalize cJ j p l i=D at C hD ⊢
   have HE:∀ W,CB 218 #[.agg (cq !D),.u (j.getD 0 0),.i p] W (.u (if D=true then lS (j.getD 0 0) (p==1) else mB (j.getD 0 0) p)):=λW=>by
    cases D with
    | false=>exact IQ _ p hp (hl 0) W
    | true =>
      rcases hD rfl with rfl|rfl
      ·exact Eu _ (hl 0) W
      ·exact Ev _ (hl 0) W
   have HC:=λW=>wV l V i W
   have fin:∀ (g:Nat) (W:World),Lq w g (!D) W->Wg prog (Lq w g !D) (bodyPost prog Tryz.f165 λe A=>∃ (s:Option Addr) (c:Nat),e=.returned (.tuple #[.slice s 22 c,.i (rT D),.u (dL (nP j D) l (mI j D i)),.bool true])/\A.ownsRow w.heap.size 22 1 (.slice s 22 c) 22 ((iM j D p (gD l i) pc v).map (Value.int .u64))/\Bw w A) Tryz.f165.ntmps [.code (ay 4 (aW Tryz.f165))] [(0,.slice (some ⟨b,cap,none⟩) 22 n,0),(1,.i p,0),(2,.u pc,0),(3,.i l,0),(4,.bool i,0),(5,.u v,0),(16,.p g 0,1)] W:=λg P N=>by
    have c0:=λW (q:Lq w g (!D) W)=>E 0 ab W q.bel
    have cV:∀ W,Lq w g (!D) W->W.cell? ⟨b,cap+(if D=true then 10 else 4),none⟩=some (.u (nP j D)):=λW q=>by cases D;exact E 4 ab W q.bel;exact E 10 ab W q.bel
    have K:=λW=>wX (nP j D) l V i W
    have eT:iM j D p (gD l i) pc v=(((j.set (if D=true then 13 else 7) (gD l i)).set (if D=true then 12 else 6) (bits .andNot .u64 pc 3)).set (if D=true then 14 else 8) v).set 0 (if D=true then lS (j.getD 0 0) (p==1) else mB (j.getD 0 0) p):=by cases D<;>rfl
    rw [eT]
    clear eT
    have B:(if D=true then 13 else 7)<22/\(if D=true then 12 else 6)<22/\(if D=true then 14 else 8)<22:=by cases D<;>decide
    generalize X:(if D=true then 13 else 7)=k1 at B ⊢
    generalize Y:(if D=true then 12 else 6)=k2 at B ⊢
    generalize Z:(if D=true then 14 else 8)=k3 at B ⊢
    have eJ:dL (nP j D) l (i&&(bits .and .u64 (nP j D) 1==1))=dL (nP j D) l (mI j D i):=rfl
    rw [eJ] at K
    generalize (if D=true then lS (j.getD 0 0) (p==1) else mB (j.getD 0 0) p)=st at HE ⊢
    generalize dL (nP j D) l (mI j D i)=ea at K ⊢
    generalize nP j D=vv at K cV
    generalize gD l i=tv at HC ⊢
    obtain ⟨r,G,⟨ys,o2⟩,u⟩:=L7 P
    refine jI (R:=[]) trivial {} 9 0 G ?_
    have q2:=N.below u
    refine aP (R:=[]) trivial {} 6 ?_
    obtain ⟨W3,H,o3,g3⟩:=L8 (cap:=n) o2 (hs.below q2.bel) hz 3
    refine fz 0 H ?_
    have v3:=Pc q2 (Array.getElem?_eq_some_iff.1 N.row).1 g3 o3 N.bel.size
    generalize P.heap.size=h at v3 ⊢
    clear q2 o2 u N g3 o3 G H
    cases D<;>(
     refine ae Lv.eng {cv:=[(46,jY λW _=>HC W)]} 60 (dr:=true) v3 λW4 v4=>?_
     refine bx (v4.run k1 B.1 tv) (hx:=by subst X;kernel_rfl) (hS:=λ_=>(v4.put k1 tv).q) ?_
     refine ae Lv.eng {eq:=[(52,cZ .u64 (PR pc))]} 60 (dr:=true) (v4.put k1 tv) λW5 v5=>?_
     refine bx (v5.run k2 B.2.1 (bits .andNot .u64 pc 3)) (hx:=by subst Y;kernel_rfl) ?_
     refine ae Lv.eng {} 60 (dr:=true) (v5.put k2 (bits .andNot .u64 pc 3)) λW6 v6=>?_
     refine bx (v6.run k3 B.2.2 v) (hx:=by subst Z;kernel_rfl) ?_
     refine ae Lv.eng {cv:=[(65,jb (λq k=>q.below k) λW _=>HE W)],ov:=[(63,jk ⟨b,cap+0,none⟩ _ underlying22 rfl c0)]} 60 (dr:=true) (v6.put k3 v) λW7 v7=>?_
     refine bx (v7.run 0 a6 st) (hS:=λ_=>(v7.put 0 st).q) ?_
     exact kt Lv.eng {cv:=[(77,jY λW _=>K W)],ov:=[(74,jk _ _ underlying22 rfl cV)]} 99 (dr:=true) (v7.put 0 st) λW c v o=>⟨_,lJ rfl _ _ _,some ⟨h,0,none⟩,22,by rw [o.slot (v:=.slice (some ⟨h,0,none⟩) 22 22) a4,o.slot (v:=.i (rT _)) a4,o.slot (v:=.u ea) a4,o.slot (v:=.bool true) a4],dG v.own (by have:=v.lo;have:=v.q.lo;omega),v.q.bel⟩)
   refine aN Bs.eng {cv:=[(20,eY J)],eq:=[(24,af d),(28,af L)]} 60 (Bs.start w []) (λW _=>kB W) ?_
   rintro P e r M ⟨rfl,u⟩
   refine ⟨_,0,rfl,fi a4,?_⟩
   refine fz 1 (cT (T:=195) (z:=.agg sS) a4 r) ?_
   refine bx (aD (g:=r.heap.size) (t:=195) (ty:=195) (old:=sS) (cells:=cq true) (heap_alloc_new _ _) a4 rfl a4) ?_
   have O:Lq w r.heap.size true ((r.alloc (.cells (Value.agg sS).cells 195)).setRow r.heap.size (cq true)):=⟨setRow_heap _ _ _ _ _ _ (heap_alloc_new _ _),aF ((M.below u).2.alloc (M.below u).2.size _) (M.below u).2.size _,(M.below u).2.size⟩
   generalize r.heap.size=g at O ⊢
   generalize (r.alloc (.cells (Value.agg sS).cells 195)).setRow g (cq true)=W3 at O ⊢
   refine aK (Lq w g true) ?_
   have C:=λW (q:Lq w g true W)=>C W q.bel
   cases D with
   | false =>
     refine ae Lq.eng {cv:=[(35,jb (λq k=>q.below k) C)]} 12 (dr:=false) O λW q=>?_
     exact an _ _ (fin g W q)
   | true =>
     refine aN Lq.eng {cv:=[(35,jb (λq k=>q.below k) C)]} 30 (dr:=false) O (λW _=>jj W) ?_
     rintro W4 e W5 q4 ⟨rfl,b5⟩
     refine ⟨_,0,rfl,fi a4,?_⟩
     have I:=q4.below b5
     refine bx (aD (g:=g) (t:=195) (ty:=195) (old:=cq true) (cells:=cq false) I.row a4 rfl a4) ?_
     have q6:Lq w g false (W5.setRow g (cq false)):=⟨setRow_heap _ _ _ _ _ _ I.row,aF I.bel I.lo _,I.lo⟩
     refine aK (Lq w g false) ?_
     refine ae Lq.eng {} 1 (dr:=false) q6 λW q=>?_
     exact an _ _ (fin g W q)
theorem tu (p:Int) (w:World) (hz:j.length=m) (hs:Sl .u64 w a j) (hl:∀ l,U (j.getD l 0)): CB 111 #[.slice a m n,.i p] w (.i (tW m j p)):=by
 have k:∀ W,Bw w W->CB 78 #[.slice a m n,.i p] W (.bool (be m j p)):=λW B=>fp a m n j p W hz (hs.below B) hl
 refine bf (S:=Bs w []) (args:=[.slice a m n,.i p]) [] func111 ?_
 cases c:be m j p with
 | false =>
   rw [c] at k
   exact aU (t:=4) (v:=.i (-1)) Bs.eng {cv:=[(12,eY k)]} 40 (Bs.start _ _) (λf h=>⟨by simp [tW,c],h.2⟩)
 | true =>
   rw [c] at k
   obtain ⟨rfl,o⟩:=gF c
   obtain ⟨V,g⟩:∃ V,V=tW 22 j p:=⟨_,rfl⟩
   rw [<- g]
   have F:tW 22 j p=F9 j p:=by rw [Om j p o (hl 0)];simp [tW,c]
   rw [F] at g
   unfold F9 j9 at g
   obtain ⟨b,d,rfl,i,C⟩:=hs 0 ab
   have cap:∀ l,l<22->∀ W,Bs w [] W->W.cell? ⟨b,d+l,none⟩=some (.u (j.getD l 0)):=λl E W h=>(h.2.cell (by exact i)).trans (xU hs l ab).2
   have q:=λx (D:U x) W (_:Bw w W)=>Cs x D W
   have r:∀ W,Bw w W->CB 163 #[.agg (cq true),.u (j.getD 0 0),.i p] W (.bool (vz j p)):=λW _=>Ow _ p (hl 0) W
   have s:∀ W,Bw w W->CB 163 #[.agg (cq false),.u (j.getD 0 0),.i p] W (.bool (vA j p)):=λW _=>Ox _ p (hl 0) W
   cases u:decide (cS (bits .andNot .u64 (bits .and .u64 (j.getD 9 0) (j.getD 3 0)) (j.getD 2 0))>=0)<;>cases y:decide (cS (bits .and .u64 (bits .and .u64 (j.getD 9 0) (j.getD 3 0)) (j.getD 2 0))>=0)<;>cases z:vz j p<;>cases A:vA j p<;>(
    rw [z] at r
    rw [A] at s
    rw [u,y,z,A] at g
    exact aU (t:=4) (v:=.i V) Bs.eng {eq:=[(32,af u),(45,af y)],ov:=[(16,jk ⟨b,d+9,none⟩ _ underlying22 rfl (cap 9 ab)),(19,jk ⟨b,d+3,none⟩ _ underlying22 rfl (cap 3 ab)),(23,jk ⟨b,d+0,none⟩ _ underlying22 rfl (cap 0 ab)),(26,jk ⟨b,d+2,none⟩ _ underlying22 rfl (cap 2 ab))],cv:=[(12,eY k),(30,eY (q (bits .andNot .u64 (bits .and .u64 (j.getD 9 0) (j.getD 3 0)) (j.getD 2 0)) (aj _ _ _))),(34,eY λW _=>kB W),(37,eY r),(43,eY (q (bits .and .u64 (bits .and .u64 (j.getD 9 0) (j.getD 3 0)) (j.getD 2 0)) (aj _ _ _))),(47,eY λW _=>jj W),(50,eY s)]} 120 (Bs.start _ _) (hv:=by subst g;kernel_rfl) (he:=by subst g;kernel_rfl) (λf h=>⟨rfl,h.2⟩))
end Go.Proofs.YtfagphfjfhpmjaaGreatDoor
