/- Own lemmas. -/
import Derived.Test.YtjifdmoehfbihaaGreatDoorAut
import Derived.Test.YtjifdmoehfbihaaGreatDoorK25H
import Derived.Test.YtjifdmoehfbihaaGreatDoorK21
set_option maxRecDepth 100000
set_option maxHeartbeats 3200000
namespace Go.Proofs.YtjifdmoehfbihaaGreatDoor
open Go.RowKit Tryz
open IntKind renaming u64->Uz
set_option linter.unusedVariables false
theorem um (k:Int) (w:World):CE 90 #[.i k] w (.bool (decide (1<=k/\k<=3))):=by
 by_cases b:k=1;·subst b;go_enter func90,ntmps90;exact a02
 ·have g:(k==1)=false:=i3;by_cases c:k=2;·subst c;go_enter func90,ntmps90;go_wp2_with fail;go_ret;exact ⟨rfl,rfl⟩
  ·have j:(k==2)=false:=tk;by_cases d:k=3;·subst d;go_enter func90,ntmps90;go_wp2_with fail;go_ret;exact ⟨rfl,rfl⟩
   ·have l:(k==3)=false:=py;have F:Hid (decide (1<=k/\k<=3)=false):=(by show _=_;simp;omega);clear b c d;generalize decide (1<=k/\k<=3)=v at *;go_enter func90,ntmps90;exact a0a
theorem Mj:(prog.info? 168).map (·.size)=some 9:=by kernel_rfl
theorem vq (w:World):CB 145 #[] w (.agg #[.i 3,.i 4,.i 6,.i 7,.i 8,.i 3,.i 7,.i 11,.i 2]):=by go_enter func145,ntmps145;go_wp2_with fail;exact bodyPost_ret (results_cell_row results145 _ _ _ _ _ _ _ rfl (heap_alloc_new _ _) underlying168 rfl Mj) rfl ⟨rfl,bal _ _⟩
theorem JW (s:Int) (h:U s) (w:World):CB 251 #[.agg #[.i 3,.i 4,.i 6,.i 7,.i 8,.i 3,.i 7,.i 11,.i 2],.u s] w (.i (wrap64 (cI s 11 2))):=by have d:Hid (∀ w,Calls prog 66 #[.u s,.i 11,.i 2] w λe c=>e=.returned (.u (cI s 11 2))/\c=w.drew):=λw=>bn s 11 2 h.1 h.2 al al w;clear h;generalize cI s 11 2=y at *;go_enter func251,ntmps251;go_wp2_with fail;refine (d.out _).mono ?_;rintro e f ⟨rfl,b⟩;subst b;go_wp2_with fail;go_ret;exact ⟨rfl,(bal _ _).drew⟩
theorem kW (a:Option Addr) (n cap:Nat) (l:List Int) (p kind:Int) (w:World) (hz:l.length=n) (hs:Sl .u64 w a l) (hl:∀ j,U (l.getD j 0)):CB 234 #[.slice a n cap,.i p,.i kind] w (.i (zI n l p kind)):=by
 have r:Hid (CB 68 #[.slice a n cap,.i p] w (.bool (aQ n l p))):=eI a n cap l p w hz hs hl;have y:Hid (∀ w,CE 90 #[.i kind] w (.bool (decide (1<=kind/\kind<=3)))):=um kind;have F:zI n l p kind=if (aQ n l p&&decide (1<=kind/\kind<=3))=true then eC l p kind else -1:=rfl
 cases s:aQ n l p with
 | false =>rw [s] at r F;have g:Hid (zI n l p kind=-1):=F;generalize zI n l p kind=v at *;clear hs hz F hl;go_enter func234,ntmps234;go_wp2_with fail;refine r.out.mono ?_;rintro e t ⟨rfl,c⟩;go_wp2_with fail;go_ret;exact ⟨d8,c⟩
 | true =>
   obtain ⟨rfl,P⟩:=fU s;rw [s] at r F;obtain ⟨b,m,rfl,B,E⟩:=hs 0 al;have z:=hl 0;have N:Hid (∀ w,CB 251 #[.agg #[.i 3,.i 4,.i 6,.i 7,.i 8,.i 3,.i 7,.i 11,.i 2],.u (l.getD 0 0)] w (.i (wrap64 (cI (l.getD 0 0) 11 2)))):=JW (l.getD 0 0) z;have M:Hid (∀ w,CB 145 #[] w (.agg #[.i 3,.i 4,.i 6,.i 7,.i 8,.i 3,.i 7,.i 11,.i 2])):=vq;have q:eC l p kind=if ((kind != 1)&&!(bits .and .u64 (l.getD 0 0) 131072==0))=true then wrap64 (cI (l.getD 0 0) 11 2) else p:=by unfold eC;rw [D1 _ z,QX,Bool.not_not];have O:=gQ (l.getD 0 0) 11 2 z.1 z.2 al;rw [<- O];rfl
   have A:Hid (w.cell? ⟨b,m,none⟩=some (.u (l.getD 0 0))):=E;generalize zI 22 l p kind=v at *;generalize eC l p kind=u at *;generalize l.getD 0 0=x at *;cases G:decide (1<=kind/\kind<=3) with
   | false =>rw [G] at y F;have g:Hid (v=-1):=F;clear F q hs hz hl E z;go_enter func234,ntmps234;go_wp2_with fail;refine r.out.mono ?_;rintro e t ⟨rfl,c⟩;go_wp2_with fail;refine (y.out _).mono ?_;rintro e I ⟨rfl,f⟩;have d:=f.symm;subst d;go_wp2_with fail;go_ret;exact ⟨d8,c⟩
   | true =>
     rw [G] at y F;have L:v=u:=F;subst L;clear F hs hz hl E z G;cases H:(kind==1) with
     | true =>have g:Hid (v=p):=(by show v=p;rw [q,bne,H];rfl);clear q;go_enter func234,ntmps234;go_wp2_with fail;refine r.out.mono ?_;rintro e t ⟨rfl,c⟩;go_wp2_with fail;refine (y.out _).mono ?_;rintro e I ⟨rfl,f⟩;have d:=f.symm;subst d;have J:t.cell? ⟨b,m,none⟩=some (.u x):=(c.cell (by exact B)).trans A.out;go_wp2_with fail;go_ret;exact ⟨d8,c⟩
     | false =>
       cases K:(bits .and .u64 x 131072==0) with
       | true =>have g:Hid (v=p):=(by show v=p;rw [q,bne,H,K];rfl);clear q;go_enter func234,ntmps234;go_wp2_with fail;refine r.out.mono ?_;rintro e t ⟨rfl,c⟩;go_wp2_with fail;refine (y.out _).mono ?_;rintro e I ⟨rfl,f⟩;have d:=f.symm;subst d;have J:t.cell? ⟨b,m,none⟩=some (.u x):=(c.cell (by exact B)).trans A.out;go_wp2_with fail;go_ret;exact ⟨d8,c⟩
       | false =>have g:Hid (v=wrap64 (cI x 11 2)):=(by show v=_;rw [q,bne,H,K];rfl);clear q;go_enter func234,ntmps234;go_wp2_with fail;refine r.out.mono ?_;rintro e t ⟨rfl,c⟩;go_wp2_with fail;refine (y.out _).mono ?_;rintro e I ⟨rfl,f⟩;have d:=f.symm;subst d;have J:t.cell? ⟨b,m,none⟩=some (.u x):=(c.cell (by exact B)).trans A.out;go_wp2_with fail;refine (M.out _).mono ?_;rintro e Q ⟨rfl,C⟩;go_wp2_with fail;refine (N.out _).mono ?_;rintro e R ⟨rfl,D⟩;go_wp2_with fail;go_ret;exact ⟨d8,aa (aa c C) D⟩
theorem kG {fn:Func} {t u v x:Tmp} (h:fn.results=#[.tmp t,.tmp u,.tmp v,.tmp x]) (tmps:Array Value) (P:Program) (w:World):(results fn tmps).run P w=.ok (.tuple #[tmps.getD t undef,tmps.getD u undef,tmps.getD v undef,tmps.getD x undef]) w:=by simp [results,h]
def cP (s:Int) (m:Bool):Int:=match m with | true=>wrap64 (bits .and .u64 (s/2048) 3) | false=>wrap64 (ap s 8)
def hO (s:Int):Int:=bits .or .u64 (bits .or .u64 (bits .andNot .u64 s 6152) (Uz.wrap (ap s 7*8))) 128
def cF (s:Int) (m:Bool):Int:=match m with
 | true=>if (cP s true != 3)=true then bits .andNot .u64 (hO s) 131072 else hO s
 | false=>bits .or .u64 (bits .or .u64 (bits .andNot .u64 s 131330) (Uz.wrap (ap s 5*2))) 32
def dR (l:List Int) (m:Bool):Int:=match m with | true=>l.getD 6 0 | false=>l.getD 12 0
theorem Aw (base g cap:Nat) (l:List Int) (m:Bool) (w:World) (h:dq w base g cap l):Calls prog 135 #[.slice (some ⟨g,0,none⟩) 22 cap,.bool m] w λe L => e=.returned (.tuple #[.i (cP (l.getD 0 0) m),.u (dR l m)])/\dq L base g cap (l.set 0 (cF (l.getD 0 0) m))/\w.grownBy L (some g):=by
 have H:Hid (dq w base g cap l):=h;have I:=h.cell 0 al;clear h;cases m with
 | true =>
   have G:Hid (l.getD 6 0=dR l true):=(rfl:l.getD 6 0=dR l true);generalize dR l true=K at *;have b:cF (l.getD 0 0) true=if (cP (l.getD 0 0) true != 3)=true then bits .andNot .u64 (hO (l.getD 0 0)) 131072 else hO (l.getD 0 0):=rfl
   have u:hO (l.getD 0 0)=bits .or .u64 (bits .or .u64 (bits .andNot .u64 (l.getD 0 0) 6152) (Uz.wrap (ap (l.getD 0 0) 7*8))) 128:=rfl;have o:wrap64 (bits .and .u64 (l.getD 0 0/2048) 3)=cP (l.getD 0 0) true:=rfl;rw [u] at b;clear u;generalize cP (l.getD 0 0) true=M at *;generalize cF (l.getD 0 0) true=A at *;obtain ⟨s,z⟩:∃ y,l.getD 0 0=y:=⟨_,rfl⟩;rw [z] at I b o;clear z;cases J:(M != 3) with
   | true =>
     rw [if_pos J] at b;have F:Hid (A=bits .andNot .u64 (bits .or .u64 (bits .or .u64 (bits .andNot .u64 s 6152) (Uz.wrap (ap s 7*8))) 128) 131072):=b;clear b;go_enter func135,ntmps135;go_wp2_with (first | (refine oM rfl (.tmp 30) (.tmp 29) rfl rfl H.out 0 al _ rfl rfl ?_;intro j r q;have p:Hid (dq j _ _ _ _):=r;have t:Hid (w.grownBy j (some g)):=q;clear r q;have c:j.cell? ⟨g,6,none⟩=some (.u K):=oi) | (go_at_call 111;with_reducible refine (IA _ _).mono ?_;rintro e E ⟨rfl,d⟩;have f:=d.symm;subst f));go_quiet (fail)
     go_wp2_with fail;exact a0s
   | false =>
     rw [if_neg (by rw [J];decide)] at b;have F:Hid (A=bits .or .u64 (bits .or .u64 (bits .andNot .u64 s 6152) (Uz.wrap (ap s 7*8))) 128):=b;clear b;go_enter func135,ntmps135;go_wp2_with (first | (refine oM rfl (.tmp 30) (.tmp 29) rfl rfl H.out 0 al _ rfl rfl ?_;intro j r q;have p:Hid (dq j _ _ _ _):=r;have t:Hid (w.grownBy j (some g)):=q;clear r q;have c:j.cell? ⟨g,6,none⟩=some (.u K):=oi) | (go_at_call 111;with_reducible refine (IA _ _).mono ?_;rintro e E ⟨rfl,d⟩;have f:=d.symm;subst f));go_quiet (fail)
     go_wp2_with fail;exact a0s
 | false =>
   have C:Hid (l.getD 12 0=dR l false):=(rfl:l.getD 12 0=dR l false);generalize dR l false=D at *;have B:cF (l.getD 0 0) false=bits .or .u64 (bits .or .u64 (bits .andNot .u64 (l.getD 0 0) 131330) (Uz.wrap (ap (l.getD 0 0) 5*2))) 32:=rfl;have o:cP (l.getD 0 0) false=wrap64 (ap (l.getD 0 0) 8):=rfl;rw [o];clear o;generalize cF (l.getD 0 0) false=A at *;obtain ⟨s,z⟩:∃ y,l.getD 0 0=y:=⟨_,rfl⟩;rw [z] at I B ⊢;have F:Hid (A=bits .or .u64 (bits .or .u64 (bits .andNot .u64 s 131330) (Uz.wrap (ap s 5*2))) 32):=B;clear B z;go_enter func135,ntmps135;go_wp2_with (first | (refine oM rfl (.tmp 46) (.tmp 45) rfl rfl H.out 0 al _ rfl rfl ?_;intro j r q;have p:Hid (dq j _ _ _ _):=r;have t:Hid (w.grownBy j (some g)):=q;clear r q;have c:j.cell? ⟨g,12,none⟩=some (.u D):=by (have e:=p.out.cell 12 al;rw [fJ _ _ _ _ al,C.out] at e;exact e)) | (go_at_call 111;with_reducible refine (N8 _ _).mono ?_;rintro e E ⟨rfl,d⟩;have f:=d.symm;subst f) | (go_at_call 111;with_reducible refine (N7 _ _).mono ?_;rintro e E ⟨rfl,d⟩;have f:=d.symm;subst f));go_quiet (fail)
   go_wp2_with fail;exact a0s
def Qb (k:Int):Bool:=decide (0<=k/\k<=15)
def yh (n:Nat) (l:List Int) (p k:Int):Bool:=aQ n l p&&Qb k
def qI (n:Nat) (l:List Int) (p pc k:Int) (i:Bool) (v:Int):List Int:=match yh n l p k with
 | true=>gZ l (cK l p k.toNat i) p (fS k i) pc v | false=>[]
def Dd (n:Nat) (l:List Int) (p k:Int) (i:Bool):Int:=match yh n l p k with
 | true=>qV (cK l p k.toNat i) | false=>0
def De (n:Nat) (l:List Int) (p k:Int) (i:Bool):Int:=match yh n l p k with
 | true=>dG (mZ l (cK l p k.toNat i)) k (lQ l (cK l p k.toNat i) i) | false=>0
theorem kH (l:List Int) (d:Bool) (p t pc v:Int):(gZ l d p t pc v).length=l.length:=by cases d<;>simp [gZ]
def kI (n:Nat) (l:List Int) (p:Int) (m:Bool):Bool:=aQ n l p&&!(m&&(p != 3))&&!(p==0)
def jf (n:Nat) (l:List Int) (p:Int) (m:Bool):List Int:=match kI n l p m with
 | true=>l.set 0 (cF (l.getD 0 0) m) | false=>[]
def pT (n:Nat) (l:List Int) (p:Int) (m:Bool):Int:=match kI n l p m with
 | true=>cP (l.getD 0 0) m | false=>0
def pU (n:Nat) (l:List Int) (p:Int) (m:Bool):Int:=match kI n l p m with
 | true=>dR l m | false=>0
theorem dB (x:Int) (i:Nat) (h:U x):ap x i=cI x i 1:=by have a:=kT x h i;have:=cj (x/2^i) 1 a.1 a.2 al;unfold ap cI;exact this
theorem Ml (s p:Int) (h:U s):lH s p=bits .or .u64 (bits .or .u64 (bits .andNot .u64 s 6280) (Uz.wrap (cI s 3 1*128))) (Uz.wrap (p*2048)):=by unfold lH;rw [dB s 3 h]
theorem JX:∀ i,i<64->bt 0 i=false:=by decide +kernel
theorem JY (s:Int) (h:U s):kQ s ((0:Int)==1)=bits .or .u64 (bits .or .u64 (bits .andNot .u64 s 290) (Uz.wrap (cI s 1 1*32))) 0:=by show bits .or .u64 (bits .andNot .u64 s 290) (Uz.wrap (ap s 1*32))=_;rw [dB s 1 h];exact bg _ _ (aj _ _ _) (aj _ _ _) λi a=>by rw [bZ _ 0,JX i a,Bool.or_false]
theorem JZ (s:Int) (h:U s):kQ s ((1:Int)==1)=bits .or .u64 (bits .or .u64 (bits .andNot .u64 s 290) (Uz.wrap (cI s 1 1*32))) 256:=by show bits .or .u64 (bits .or .u64 (bits .andNot .u64 s 290) (Uz.wrap (ap s 1*32))) 256=_;rw [dB s 1 h]
theorem Ax (s:Int) (h:U s):hO s=bits .or .u64 (bits .or .u64 (bits .andNot .u64 s 6280) (Uz.wrap (cI s 7 1*8))) 128:=by
 have e:∀ i,i<64->∀ a c:Bool,((a&&!bt 6152 i||c)||bt 128 i)=((a&&!bt 6280 i||c)||bt 128 i):=a8
 unfold hO;rw [dB s 7 h];exact bg _ _ (aj _ _ _) (aj _ _ _) λi b=>by rw [bZ,bZ,bZ,bZ,aA _ _ _ b,aA _ _ _ b,e i b]
theorem J0 (s:Int) (h:U s):cP s true=wrap64 (cI s 11 2):=by have a:=kT s h 11;have:=cj (s/2^11) 2 a.1 a.2 al;show wrap64 (bits .and .u64 (s/2048) 3)=_;exact congrArg wrap64 this
theorem Ay (s:Int) (h:U s):cP s false=wrap64 (cI s 8 1):=by show wrap64 (ap s 8)=_;rw [dB s 8 h]
theorem nV (s:Int) (h:U s) (i j k:Nat):bt (Uz.wrap (cI s k 1*2^j)) i=(decide (i=j)&&decide (i<64)&&bt s k):=by
 rw [mz _ (pk _ _ _ al),jO _ h _ _ _ al];by_cases a:i=j;·subst a;simp
 ·by_cases b:j<=i
  ·have:¬ (i-j<1):=by omega
   simp [a,this]
  ·simp [a,b]
theorem J1 (s:Int) (h:U s):cF s false=bits .andNot .u64 (bits .or .u64 (bits .or .u64 (bits .andNot .u64 s 290) (Uz.wrap (cI s 5 1*2))) 32) 131072:=by
 have e:∀ i,i<64->∀ a c:Bool,((a&&!bt 131330 i||(decide (i=1)&&decide (i<64)&&c))||bt 32 i)=(((a&&!bt 290 i||(decide (i=1)&&decide (i<64)&&c))||bt 32 i)&&!bt 131072 i):=a8
 show bits .or .u64 (bits .or .u64 (bits .andNot .u64 s 131330) (Uz.wrap (ap s 5*2))) 32=_;rw [dB s 5 h];have f:∀ i,bt (Uz.wrap (cI s 5 1*2)) i=(decide (i=1)&&decide (i<64)&&bt s 5):=λi=>nV s h i 1 5;exact bg _ _ (aj _ _ _) (aj _ _ _) λi b=>by rw [aA _ 131072 _ b,bZ,bZ,bZ,bZ,aA _ _ _ b,aA _ _ _ b,f i,e i b]
theorem GA (s:Int) (h:U s) (d:(cP s true != 3)=true):cF s true=bits .andNot .u64 (bits .or .u64 (bits .or .u64 (bits .andNot .u64 s 6280) (Uz.wrap (cI s 7 1*8))) 128) 131072:=by show (if (cP s true != 3)=true then bits .andNot .u64 (hO s) 131072 else hO s)=_;rw [if_pos d,Ax s h]
theorem GB (s:Int) (h:U s) (d:(cP s true != 3)=false):cF s true=bits .or .u64 (bits .or .u64 (bits .andNot .u64 s 6280) (Uz.wrap (cI s 7 1*8))) 128:=by show (if (cP s true != 3)=true then bits .andNot .u64 (hO s) 131072 else hO s)=_;rw [if_neg (by rw [d];decide),Ax s h]
theorem Df (s:Int) (h:U s):cP s false=0\/cP s false=1:=by
 rw [Ay s h];have:=jN s 8 1;have e:(2:Int)^1=2:=a5
 unfold wrap64;omega
theorem GC (s:Int) (h:U s):(cP s false != 3)=true:=by rcases Df s h with e|e<;>rw [e]<;>rfl
theorem Ex (x:Int):(bits .and .u64 x 1 != 0)=(bits .and .u64 x 1==1):=by rw [Ol];cases bt x 0<;>rfl
def uo (l:List Int) (p:Int):Bool:=decide (p<3)||((p==3)&&(cI (l.getD 0 0) 3 1==1))
def uq (l:List Int) (p:Int):Bool:=decide (p<1)||((p==1)&&(cI (l.getD 0 0) 1 1==1))
def Ey (l:List Int) (p:Int):Int :=
 match (decide (cO (bits .andNot .u64 (jC l) (l.getD 2 0))>=0)&&uo l p) with
 | true=>cO (bits .andNot .u64 (jC l) (l.getD 2 0))
 | false=>match (decide (cO (bits .and .u64 (jC l) (l.getD 2 0))>=0)&&uq l p) with
   | true=>cO (bits .and .u64 (jC l) (l.getD 2 0))
   | false=>-1
theorem GD (x:Int) (h:decide (cO x>=0)=false):cO x=-1:=by
 rcases sQ x dS with e|⟨n,_,e,_⟩;·exact e
 ·have:cO x=(n:Int):=e;rw [this] at h;simp at h
theorem J2 (l:List Int) (p:Int) (b:bI p=true) (h:U (l.getD 0 0)):uo l p=yN l p:=by
 have a:p=0\/p=1\/p=3:=by simpa [bI,or_assoc] using b
 unfold uo yN;rw [dB _ 3 h];rcases a with rfl|rfl|rfl<;>rfl
theorem J3 (l:List Int) (p:Int) (b:bI p=true) (h:U (l.getD 0 0)):uq l p=yO l p:=by
 have a:p=0\/p=1\/p=3:=by simpa [bI,or_assoc] using b
 unfold uq yO;rw [dB _ 1 h];rcases a with rfl|rfl|rfl<;>rfl
theorem Mm (l:List Int) (p:Int) (a:bI p=true) (h:U (l.getD 0 0)):Ey l p=fp l p:=by
 unfold Ey fp DE;rw [J2 l p a h,J3 l p a h,Bool.and_comm];have e:=GD (bits .and .u64 (jC l) (l.getD 2 0));generalize cO (bits .and .u64 (jC l) (l.getD 2 0))=c at *;generalize cO (bits .andNot .u64 (jC l) (l.getD 2 0))=b at *;cases yN l p&&decide (b>=0)
 ·cases yO l p;·rw [Bool.and_false]
  ·rw [Bool.and_true];cases d:decide (c>=0);·exact (e d).symm
   ·rfl
 ·rfl
theorem Mn {x m:Int} (h:bits .and .u64 x m=x) (i:Nat) (e:bt x i=true):bt m i=true:=by rw [<- h,az,Bool.and_eq_true] at e;exact e.2
theorem Mo {x m:Int} (hx:U x) (h:∀ i,i<64->bt x i=true->bt m i=true):bits .and .u64 x m=x :=
 bg _ _ (aj _ _ _) hx λi a=>by
  rw [az]
  cases e:bt x i with
  | false=>rfl
  | true=>rw [h i a e];rfl
theorem wK (x:Int) (i:Nat) (h:U x):ap x i=if bt x i=true then 1 else 0:=by unfold ap;rw [Ol,iT x h,Nat.zero_add]
theorem Mq (x:Int) (i:Nat) (h:U x):cI x i 1=if bt x i=true then 1 else 0:=by rw [<- dB x i h,wK x i h]
theorem Qc (x:Int) (h:U x):cI x 11 2=(if bt x 11=true then 1 else 0)+(if bt x 12=true then 2 else 0):=by
 have e:∀ i,i<64->∀ p q o:Bool,(decide (i<2)&&(if i=0 then p else if i=1 then q else o))=bt ((if p=true then 1 else 0)+(if q=true then 2 else 0)) i:=a8
 refine bg _ _ (pk _ _ _ al) fa λi c=>?_;rw [jO x h _ _ _ al,<- e i c (bt x 11) (bt x 12) (bt x (i+11))];by_cases a:i=0;·subst a;rfl
 ·by_cases b:i=1;·subst b;rfl
  ·rw [if_neg a,if_neg b]
theorem yi (x:Int) (hx:U x) (a:∀ i,i<64->bt x i=true->bt 924074 i=true) (b:(!bt x 11&&bt x 12)=false):eZ 0 x=true:=by have e:mst x=x:=(qz x hx).mpr ⟨Mo hx a,b⟩;show (mst x==x)=true;rw [e];exact beq_self_eq_true _
theorem Dg (x:Int) (hx:U x) (h:eZ 0 x=true):(∀ i,bt x i=true->bt 924074 i=true)/\(!bt x 11&&bt x 12)=false:=by
 have e:mst x=x:=by have:(mst x==x)=true:=h;simpa using this
 obtain ⟨a,b⟩:=(qz x hx).mp e;exact ⟨Mn a,b⟩
theorem qJ (s:Int) (h:U s) (i:Nat) (a:i<64):bt (hO s) i=((bt s i&&!bt 6152 i||(decide (i=3)&&decide (i<64)&&bt s 7))||bt 128 i):=by have f:bt (Uz.wrap (cI s 7 1*8)) i=(decide (i=3)&&decide (i<64)&&bt s 7):=nV s h i 3 7;unfold hO;rw [dB s 7 h,bZ,bZ,aA _ _ _ a,f]
theorem qK (s:Int) (h:U s) (i:Nat) (a:i<64):bt (cF s false) i=((bt s i&&!bt 131330 i||(decide (i=1)&&decide (i<64)&&bt s 5))||bt 32 i):=by have f:bt (Uz.wrap (cI s 5 1*2)) i=(decide (i=1)&&decide (i<64)&&bt s 5):=nV s h i 1 5;show bt (bits .or .u64 (bits .or .u64 (bits .andNot .u64 s 131330) (Uz.wrap (ap s 5*2))) 32) i=_;rw [dB s 5 h,bZ,bZ,aA _ _ _ a,f]
theorem ur (s p:Int) (h:U s) (i:Nat) (a:i<64):bt (lH s p) i=((bt s i&&!bt 6280 i||(decide (i=7)&&decide (i<64)&&bt s 3))||bt (Uz.wrap (p*2048)) i):=by have f:bt (Uz.wrap (cI s 3 1*128)) i=(decide (i=7)&&decide (i<64)&&bt s 3):=nV s h i 7 3;unfold lH;rw [dB s 3 h,bZ,bZ,aA _ _ _ a,f]
theorem ut (s:Int) (b:Bool) (h:U s) (i:Nat) (a:i<64):bt (kQ s b) i=((bt s i&&!bt 290 i||(decide (i=5)&&decide (i<64)&&bt s 1))||(b&&decide (i=8))):=by
 have f:bt (Uz.wrap (cI s 1 1*32)) i=(decide (i=5)&&decide (i<64)&&bt s 1):=nV s h i 5 1;have e:∀ i,i<64->bt 256 i=decide (i=8):=a8
 cases b with
 | true =>show bt (bits .or .u64 (bits .or .u64 (bits .andNot .u64 s 290) (Uz.wrap (ap s 1*32))) 256) i=_;rw [dB s 1 h,bZ,bZ,aA _ _ _ a,f,e i a,Bool.true_and]
 | false =>show bt (bits .or .u64 (bits .andNot .u64 s 290) (Uz.wrap (ap s 1*32))) i=_;rw [dB s 1 h,bZ,aA _ _ _ a,f,Bool.false_and,Bool.or_false]
theorem pV (s:Int) (m:Bool):U (cF s m):=by
 cases m with
 | true=>unfold cF;show U (if _ then _ else _);split<;>exact aj _ _ _
 | false=>unfold cF;exact aj _ _ _
theorem EA (s p:Int):U (lH s p):=aj _ _ _
theorem EB (s:Int) (b:Bool):U (kQ s b):=by cases b<;>(unfold kQ;exact aj _ _ _)
theorem OG (k:Nat) (hk:k<16) (i:Bool):U (fS k i):=by
 cases i with
 | true=>unfold fS;exact aj _ _ _
 | false=>show U (k:Int);exact ⟨al,al⟩
theorem QN:Uz.wrap ((0:Int)*2048)=0:=by decide
theorem QO:Uz.wrap ((1:Int)*2048)=2048:=by decide
theorem QP:Uz.wrap ((3:Int)*2048)=6144:=by decide
theorem rG (s:Int):cF s true=if (cP s true != 3)=true then bits .andNot .u64 (hO s) 131072 else hO s:=rfl
theorem Az (s:Int) (h:U s) (m:Bool) (j:eZ 0 s=true):eZ 0 (cF s m)=true:=by
 obtain ⟨k,l⟩:=Dg s h j;cases m with
 | false =>
   have e:∀ i,i<64->∀ a c:Bool,(a=true->bt 924074 i=true)->((a&&!bt 131330 i||(decide (i=1)&&decide (i<64)&&c))||bt 32 i)=true->bt 924074 i=true:=a8;refine yi _ (pV s false) (λi f d=>?_) ?_;·rw [qK s h i f] at d;exact e i f _ _ (k i) d
   ·have n:∀ a c:Bool,((a&&!bt 131330 11||(decide (11=1)&&decide (11<64)&&c))||bt 32 11)=a:=a8;have g:∀ a c:Bool,((a&&!bt 131330 12||(decide (12=1)&&decide (12<64)&&c))||bt 32 12)=a:=a8;rw [qK s h 11 al,qK s h 12 al,n,g];exact l
 | true =>
   have e:∀ i,i<64->∀ a c:Bool,(a=true->bt 924074 i=true)->((a&&!bt 6152 i||(decide (i=3)&&decide (i<64)&&c))||bt 128 i)=true->bt 924074 i=true:=a8;have g:∀ a c:Bool,((a&&!bt 6152 12||(decide (12=3)&&decide (12<64)&&c))||bt 128 12)=false:=a8;refine yi _ (pV s true) (λi f d=>?_) ?_
   ·have b:bt (hO s) i=true:=by
     revert d;rw [rG];split;·rw [aA _ _ _ f];intro d;exact (Bool.and_eq_true _ _ ▸ d).1
     ·exact id
    rw [qJ s h i f] at b;exact e i f _ _ (k i) b
   ·have b:bt (cF s true) 12=false:=by
     rw [rG];split;·rw [aA _ _ _ al,qJ s h 12 al,g];rfl
     ·rw [qJ s h 12 al,g]
    rw [b,Bool.and_false]
theorem J4 (s p:Int) (h:U s) (m:bI p=true) (g:eZ 0 s=true):eZ 0 (lH s p)=true:=by
 obtain ⟨l,n⟩:=Dg s h g;have f:p=0\/p=1\/p=3:=by simpa [bI,or_assoc] using m
 refine yi _ (EA s p) (λi j b=>?_) ?_
 ·rw [ur s p h i j] at b;have e:∀ i,i<64->∀ a c:Bool,(a=true->bt 924074 i=true)->(((a&&!bt 6280 i||(decide (i=7)&&decide (i<64)&&c))||bt 0 i)=true->bt 924074 i=true)/\(((a&&!bt 6280 i||(decide (i=7)&&decide (i<64)&&c))||bt 2048 i)=true->bt 924074 i=true)/\(((a&&!bt 6280 i||(decide (i=7)&&decide (i<64)&&c))||bt 6144 i)=true->bt 924074 i=true):=a8;have e:=e i j _ (bt s 3) (l i);rcases f with rfl|rfl|rfl;·rw [QN] at b;exact e.1 b
  ·rw [QO] at b;exact e.2.1 b
  ·rw [QP] at b;exact e.2.2 b
 ·rw [ur s p h 11 al,ur s p h 12 al];have k:∀ a c d:Bool,(!((a&&!bt 6280 11||(decide (11=7)&&decide (11<64)&&c))||bt 0 11)&&((d&&!bt 6280 12||(decide (12=7)&&decide (12<64)&&c))||bt 0 12))=false/\(!((a&&!bt 6280 11||(decide (11=7)&&decide (11<64)&&c))||bt 2048 11)&&((d&&!bt 6280 12||(decide (12=7)&&decide (12<64)&&c))||bt 2048 12))=false/\(!((a&&!bt 6280 11||(decide (11=7)&&decide (11<64)&&c))||bt 6144 11)&&((d&&!bt 6280 12||(decide (12=7)&&decide (12<64)&&c))||bt 6144 12))=false:=a8;have k:=k (bt s 11) (bt s 3) (bt s 12);rcases f with rfl|rfl|rfl;·rw [QN];exact k.1
  ·rw [QO];exact k.2.1
  ·rw [QP];exact k.2.2
theorem J5 (s:Int) (b:Bool) (h:U s) (d:eZ 0 s=true):eZ 0 (kQ s b)=true:=by
 obtain ⟨j,k⟩:=Dg s h d;refine yi _ (EB s b) (λi g f=>?_) ?_;·rw [ut s b h i g] at f;have e:∀ i,i<64->∀ a c b:Bool,(a=true->bt 924074 i=true)->((a&&!bt 290 i||(decide (i=5)&&decide (i<64)&&c))||(b&&decide (i=8)))=true->bt 924074 i=true:=a8;exact e i g _ _ _ (j i) f
 ·have l:∀ a c b:Bool,((a&&!bt 290 11||(decide (11=5)&&decide (11<64)&&c))||(b&&decide (11=8)))=a:=a8;have m:∀ a c b:Bool,((a&&!bt 290 12||(decide (12=5)&&decide (12<64)&&c))||(b&&decide (12=8)))=a:=a8;rw [ut s b h 11 al,ut s b h 12 al,l,m];exact k
theorem EC:∀ k,k<16->∀ i:Bool,eZ 7 (fS (k:Nat) i)=true/\eZ 13 (fS (k:Nat) i)=true:=by decide +kernel
theorem ED (v:Int):eZ 8 v=true/\eZ 14 v=true:=⟨beq_self_eq_true v,beq_self_eq_true v⟩
theorem Nv (x:Int) (h:U x):eZ 6 (bits .andNot .u64 x 3)=true/\eZ 12 (bits .andNot .u64 x 3)=true:=⟨nR x h 6 al al al,nR x h 12 al al al⟩
theorem J6 (l:List Int) (hz:l.length=22) (hl:∀ j,U (l.getD j 0)) (a:bf 22 l=true) (d:Bool) (p pc v:Int) (e:bI p=true) (b:U pc) (k:Nat) (hk:k<16) (i:Bool):bf 22 (gZ l d p (fS k i) pc v)=true:=by
 have c:eZ 0 (l.getD 0 0)=true:=dU a 0 al;cases d with
 | true =>refine cC _ (by simp [hz]) ?_ 0 al _ (J5 _ _ (hl 0) c);refine cC _ (by simp [hz]) ?_ 14 al _ (ED v).2;refine cC _ (by simp [hz]) ?_ 12 al _ (Nv pc b).2;exact cC _ hz a 13 al _ (EC k hk i).2
 | false =>refine cC _ (by simp [hz]) ?_ 0 al _ (J4 _ p (hl 0) e c);refine cC _ (by simp [hz]) ?_ 8 al _ (ED v).1;refine cC _ (by simp [hz]) ?_ 6 al _ (Nv pc b).1;exact cC _ hz a 7 al _ (EC k hk i).1
theorem Mr (l:List Int) (hl:∀ j,U (l.getD j 0)) (d:Bool) (p pc v:Int) (hv:U v) (k:Nat) (hk:k<16) (i:Bool):∀ j,U ((gZ l d p (fS k i) pc v).getD j 0):=by
 have a:=OG k hk i;cases d with
 | true=>exact iX _ (iX _ (iX _ (iX _ hl 13 _ a) 12 _ (aj _ _ _)) 14 _ hv) 0 _ (EB _ _)
 | false=>exact iX _ (iX _ (iX _ (iX _ hl 7 _ a) 6 _ (aj _ _ _)) 8 _ hv) 0 _ (EA _ _)
theorem Ms (x:Int) (h:U x):bits .and .u64 x 3=x%4:=cj x 2 h.1 h.2 al
theorem QQ (x:Int) (h:eZ 6 x=true\/eZ 12 x=true):bits .and .u64 x 3=0:=by
 have e:bits .andNot .u64 x 3=x:=by
  rcases h with h|h;·have:(bits .andNot .u64 x 3==x)=true:=h;simpa using this
  ·have:(bits .andNot .u64 x 3==x)=true:=h;simpa using this
 refine bg _ _ (aj _ _ _) ⟨a5,a5⟩ λi c=>?_;have k:∀ a b:Bool,((a&&!b)&&b)=false:=a5
 rw [az,<- e,aA _ _ _ c,k,JX i c]
theorem Q6 (x:Int) (k:Nat) (j:Bool) (h:eZ 4 x=true\/eZ 10 x=true):bits .and .u64 (dG x k j) 3=0:=by
 have e:bits .andNot .u64 x 2=x:=by
  rcases h with h|h;·have:(bits .andNot .u64 x 2==x)=true:=h;simpa using this
  ·have:(bits .andNot .u64 x 2==x)=true:=h;simpa using this
 have f:bits .and .u64 (bits .andNot .u64 x 1) 3=0:=by refine bg _ _ (aj _ _ _) ⟨a5,a5⟩ λi b=>?_;have k:∀ i,i<64->∀ a:Bool,(((a&&!bt 2 i)&&!bt 1 i)&&bt 3 i)=bt 0 i:=a8;rw [az,<- e,aA _ _ _ b,aA _ _ _ b,k i b]
 cases j with
 | false=>exact f
 | true =>show bits .and .u64 (Uz.wrap (bits .andNot .u64 x 1+Uz.wrap (4*k))) 3=0;rw [Ms _ (aj _ _ _)] at f;rw [Ms _ (bG _),IntKind.wrap_u64,IntKind.wrap_u64];omega
end Go.Proofs.YtjifdmoehfbihaaGreatDoor
