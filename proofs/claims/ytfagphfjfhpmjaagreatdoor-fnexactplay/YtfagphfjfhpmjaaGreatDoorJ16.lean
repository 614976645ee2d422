/- Own lemmas. -/
import Derived.Test.YtfagphfjfhpmjaaGreatDoorAuj
import Derived.Test.YtfagphfjfhpmjaaGreatDoorJ14
import Derived.Test.YtfagphfjfhpmjaaGreatDoorJ15
set_option maxRecDepth 100000
set_option maxHeartbeats 12800000
namespace Go.Proofs.YtfagphfjfhpmjaaGreatDoor
open Go.RowKit Tryz
open IntKind renaming u64->Uz
set_option linter.unusedVariables false
variable {n k p w:World} {l b B W e g:Nat} {A:Array Value} {c M:List Int} {a x r:Int} {V:MV} {d:MA} {j:TypeId} {m:Value} {y:Option Addr} {t:Fd} {z P:Program} {f:World->Prop} {E:Func} {q Rs:Ending->World->Prop} {s:List Value} {F:Addr} {L:List FRow} (S:List Int) (T:Int) (J:Option Addr) (R o C:Nat) (D:List Int) (G:Option Addr) (I:World) (K N O:Nat) (Q:List Int) (X Y Z:Int)
def ii (c:Int):Ending:=.panicked [{v:=.iface 189 (.i c),recovered:=false}]
def B5 (k:Int):Int:=if k=2 then 5 else if k=3 then 7 else 1
theorem F6 (b:1<=T) (c:T<=3):B5 T=dz T:=by
 have a:T=1\/T=2\/T=3:=ab
 rcases a with rfl|rfl|rfl<;>rfl
theorem Lo (h:¬ (1<=T/\T<=3)):B5 T=1:=by unfold B5;rw [if_neg ab,if_neg ab]
theorem oH:CE 107 #[.i T] I (.i (B5 T)):=by
 have F:Hid (B5 T=if T=2 then 5 else if T=3 then 7 else 1):=(rfl:B5 T=_);generalize B5 T=v at *;cases f:(T==2) with
 | true =>have c:T=2:=e9;have b:Hid (v=5):=F.out.trans (if_pos c);exact a0r
 | false =>
   have c:¬ T=2:=e9;cases g:(T==3) with
   | true =>have d:T=3:=vw;have b:Hid (v=7):=F.out.trans ((if_neg c).trans (if_pos d));exact a0r
   | false =>have d:¬ T=3:=vw;have b:Hid (v=1):=F.out.trans ((if_neg c).trans (if_neg d));exact a0r
theorem zD (d:1<=T) (f:T<=3) (w:World):CE 206 #[.i T] w (.i (eI T)):=by
 have b:T=1\/T=2\/T=3:=ab
 rcases b with rfl|rfl|rfl;·go_enter func206,ntmps206;exact a01
 ·go_enter func206,ntmps206;exact a01
 ·go_enter func206,ntmps206;exact a01
theorem nL (m:Nat) (j:Option Addr) (l:Nat) (p va k:Int) (f:1<=k) (g:k<=3) (w:World): Calls prog 210 #[.agg #[.slice J R m,.slice j 22 l,.i p,.u va,.i k]] w λe c=>e=ii (dz k)/\Bw w c:=by
 have d:Hid (∀ w,CE 107 #[.i k] w (.i (dz k))):=λw=>by have:=oH k w;rw [F6 k f g] at this;exact this
 generalize dz k=o at *;go_enter func210,ntmps210;go_wp2_with fail;refine (d.out _).mono ?_;rintro e q ⟨rfl,b⟩;subst b;go_wp2_with fail;exact ⟨rfl,rfl,bal _ _⟩
theorem j6 (m:Nat) (j:Option Addr) (l:Nat) (p va k:Int) (f:1<=k) (g:k<=3) (w:World): Calls prog 154 #[.agg #[.slice J R m,.slice j 22 l,.i p,.u va,.i k]] w λe c=>e=ii (eI k)/\Bw w c:=by have d:Hid (∀ w,CE 206 #[.i k] w (.i (eI k))):=λw=>zD k f g w;generalize eI k=o at *;go_enter func154,ntmps154;go_wp2_with fail;refine (d.out _).mono ?_;rintro e q ⟨rfl,b⟩;subst b;go_wp2_with fail;exact ⟨rfl,rfl,bal _ _⟩
structure Wk (w:World) (g n rc:Nat) (zs:List Int) (b off lc:Nat) (l:List Int) (p va k:Int):Prop where
 hz:zs.length=n
 hr:bq n=true
 hs:Sl .u8 w (some ⟨g,0,none⟩) zs
 hw:∀ y ∈ zs,(Lit.int .u8 y).wf=true
 hc:n<=rc
 hc2:rc<=9223372036854775807
 hlz:l.length=22
 hl:Sl .u64 w (some ⟨b,off,none⟩) l
 hU:∀ j,U (l.getD j 0)
 hg:be 22 l p=true
 hva:U va
 hk1:1<=k
 hk3:k<=3
 hT:ou w
theorem Wk.below (h:Wk n g l B c b W e M a x r) (hb:Bw n k):Wk k g l B c b W e M a x r :=
 ⟨h.hz,h.hr,h.hs.below hb,h.hw,h.hc,h.hc2,h.hlz,h.hl.below hb,h.hU,h.hg,h.hva,h.hk1,h.hk3,h.hT.below hb⟩
theorem Wk.at {b i:Nat} {k:Int} (h:Wk w l B W c b e i M a x k) (j:Nat) (f:j<22):w.cell? ⟨b,e+j,none⟩=some (.u (M.getD j 0)):=by obtain ⟨o,zs,m,_,d⟩:=h.hl j (by rw [h.hlz];exact f);simp only [Option.some.injEq,Addr.mk.injEq,and_true] at m;obtain ⟨rfl,rfl⟩:=m;exact d
theorem Wk.one {zs:Nat} (h:Wk n l B W c b e zs M a x r):be 22 M 1=true:=by have:=h.hg;unfold be at this ⊢;rw [Bool.and_eq_true] at this;rw [this.1];rfl
theorem mx {b c d e:Value} {f:Nat × Nat} (h:n.heap[l]?=some (.cells #[m,b,c,d,e] j f)):n.cell? ⟨l,0,none⟩=some m/\n.cell? ⟨l,1,none⟩=some b/\n.cell? ⟨l,2,none⟩=some c/\n.cell? ⟨l,3,none⟩=some d/\n.cell? ⟨l,4,none⟩=some e:=by refine ⟨?_,?_,?_,?_,?_⟩<;>simp [World.cell?,h]
theorem ge (hb:Bw n k) {g:Nat} {o:Obj} (h:n.heap[g]?=some o):k.heap[g]?=some o:=by rw [hb.block g (Array.getElem?_eq_some_iff.1 h).1];exact h
theorem sL (h:R<=2) (w:World):CE 207 #[.i (R:Int)] w (.i ((12+9*R:Nat):Int)):=by
 have:R=0\/R=1\/R=2:=ab
 rcases this with rfl|rfl|rfl;·go_enter func207,ntmps207;exact a01
 ·go_enter func207,ntmps207;exact a01
 ·go_enter func207,ntmps207;exact a01
def qK (zs:List Int) (n:Nat) (l:List Int) (k x:Int):Ending :=
 if gU n x 8=true then (if aE l 1 x (bm x 8) 2 4 0=true then (if pf (fF zs x)=true then ii (eI k) else .returned (.tuple #[.u x,.u (fF zs x)])) else ii (dz k)) else ii (dz k)
theorem Lr (a:∀ y ∈ S,(Lit.int .u8 y).wf=true) (x:Int):U (fF S x):=by have:=tN S (ja a) 8 (x-2147483648).toNat ab;exact ⟨this.1,this.2⟩
theorem sM (z:Nat) (zs:List Int) (b f y:Nat) (l:List Int) (p va k T:Int) (lv:Nat) (S:lv<=2) (w:World) (W:Wk w R o z zs b f y l p va k): Calls prog 155 #[.agg #[.slice (some ⟨R,0,none⟩) o z,.slice (some ⟨b,f,none⟩) 22 y,.i p,.u va,.i k],.u T,.i (lv:Int)] w λe c=>e=qK zs o l k (bD T va lv)/\Bw w c:=by
 have HW:Hid (Wk w R o z zs b f y l p va k):=W;have hn:o<=1048576:=by have:=gu W.hr;omega
 obtain ⟨q,V⟩:∃ q:Nat,q=12+9*lv:=⟨_,rfl⟩;have HL:Hid (∀ w,Calls prog 207 #[.i (lv:Int)] w λe c=>e=.returned (.i (q:Int))/\∃ m,c=w.drewN m):=λw=>by rw [V];exact (sL lv S w).mono λ_ _ h=>⟨h.1,0,h.2⟩
 have Z:Hid (∀ w,Calls prog 76 #[.u va,.i (q:Int),.i 9] w λe c=>e=.returned (.u (cQ va q 9))/\∃ m,c=w.drewN m):=λw=>(bA va q 9 W.hva.1 W.hva.2 ab ab w).mono λ_ _ h=>⟨h.1,1,h.2⟩;have PX:Hid (Uz.wrap (T+Uz.wrap (8*cQ va q 9))=bD T va lv):=by show _=_;rw [V];exact Qn T va W.hva lv
 clear V;have g:U (bD T va lv):=bI _;generalize bD T va lv=x at *;have I:Hid (∀ c,Bw w c->CB 208 #[.slice (some ⟨R,0,none⟩) o z,.u x,.i 8] c (.tuple #[.u (mF zs o x 8),.bool (gU o x 8)])):=λc M =>
  pS R o z zs x 8 c W.hz hn (W.hs.below M) W.hw W.hc W.hc2 g.1 (by have:=g.2;omega)
 have B:Hid (∀ c,Bw w c->CB 209 #[.slice (some ⟨b,f,none⟩) 22 y,.i 1,.u x,.i 8,.i 2] c (.bool (uA 22 l 1 x 8 2))):=λc M =>
  kA (some ⟨b,f,none⟩) 22 y l 1 x 8 2 c W.hlz (W.hl.below M) W.hU g (W.hT.below M)
 have A:Hid (∀ w,Calls prog 210 #[.agg #[.slice (some ⟨R,0,none⟩) o z,.slice (some ⟨b,f,none⟩) 22 y,.i p,.u va,.i k]] w λe c=>e=ii (dz k)/\Bw w c):=λw=>nL _ _ _ _ _ _ _ _ W.hk1 W.hk3 w;have r:Hid (∀ w,Calls prog 154 #[.agg #[.slice (some ⟨R,0,none⟩) o z,.slice (some ⟨b,f,none⟩) 22 y,.i p,.u va,.i k]] w λe c=>e=ii (eI k)/\Bw w c):=λw=>j6 _ _ _ _ _ _ _ _ W.hk1 W.hk3 w;have D:∀ n m,Bw w ((w.alloc n).drewN m):=λn m=>kU (bal _ _) m;have F:Hid (qK zs o l k x=if gU o x 8=true then (if aE l 1 x (bm x 8) 2 4 0=true then (if pf (fF zs x)=true then ii (eI k) else .returned (.tuple #[.u x,.u (fF zs x)])) else ii (dz k)) else ii (dz k)):=(rfl:qK zs o l k x=_);have K:=W.one;clear W;go_enter func155,ntmps155;go_wp2_with fail;go_quiet (first | (go_at_call 207;with_reducible refine Calls.quiet_of (HL.out _)) | (go_at_call 76;with_reducible refine Calls.quiet_of (Z.out _)))
 rw [PX.out];go_wp2_with fail;refine (I.out _ (D _ _)).mono ?_;rintro e w1 ⟨rfl,E⟩;have Q:Hid (Bw w w1):=aa (D _ _) E;have R1:Hid (w1.heap[w.heap.size]?=some (.cells #[.slice (some ⟨R,0,none⟩) o z,.slice (some ⟨b,f,none⟩) 22 y,.i p,.u va,.i k] 136 (0,0))):=ge E (heap_alloc_new w _);obtain ⟨k0,k1,k2,k3,k4⟩:=mx R1.out;clear E D I HL Z;cases u:gU o x 8 with
 | false =>rw [u] at F;have s:Hid (qK zs o l k x=ii (dz k)):=F.out.trans (if_neg a6);clear F B r;go_wp2_with fail;refine (A.out _).mono ?_;rintro e X ⟨rfl,t⟩;exact ⟨rfl,s.out.symm,aa Q.out t⟩
 | true =>
   rw [u,if_pos rfl] at F;have J:mF zs o x 8=fF zs x:=(by unfold mF fF;rw [u];rfl);rw [J];have L:=FY o l x 2 K u ab ab;go_wp2_with fail;refine (B.out _ Q.out).mono ?_;rintro e X ⟨rfl,t⟩;rw [L];have H:Hid (Bw w X):=aa Q.out t;have R2:Hid (X.heap[w.heap.size]?=some (.cells #[.slice (some ⟨R,0,none⟩) o z,.slice (some ⟨b,f,none⟩) 22 y,.i p,.u va,.i k] 136 (0,0))):=ge t R1.out;clear k0 k1 k2 k3 k4 t;obtain ⟨k0,k1,k2,k3,k4⟩:=mx R2.out;clear B J L;have UE:U (fF zs x):=Lr zs HW.out.hw x;have Y:=Ql (fF zs x) UE;rw [<- Y] at F;clear Y;generalize fF zs x=C at *;generalize aE l 1 x (bm x 8) 2 4 0=pb at *;cases pb with
   | false =>have s:Hid (qK zs o l k x=ii (dz k)):=F.out.trans (if_neg a6);clear F r;go_wp2_with fail;refine (A.out _).mono ?_;exact a0s
   | true =>
     have j:qK zs o l k x=if NR C=true then ii (eI k) else .returned (.tuple #[.u x,.u C]):=F.out.trans (if_pos rfl)
     clear F A;unfold NR at j;cases N:(bits .and .u64 C 1==0) with
     | true =>
       rw [N] at j;have s:Hid (qK zs o l k x=ii (eI k)):=j.trans (if_pos rfl);clear j;cases O:(bits .and .u64 C 6==4) with
       | true =>go_wp2_with fail;refine (r.out _).mono ?_;exact a0s
       | false =>go_wp2_with fail;refine (r.out _).mono ?_;exact a0s
     | false =>
       cases O:(bits .and .u64 C 6==4) with
       | true =>rw [N,O] at j;have s:Hid (qK zs o l k x=ii (eI k)):=j.trans (if_pos rfl);clear j;go_wp2_with fail;refine (r.out _).mono ?_;exact a0s
       | false =>
         cases t3:(bits .and .u64 C 18428729675200069632 != 0) with
         | true =>rw [N,O,t3] at j;have s:Hid (qK zs o l k x=ii (eI k)):=j.trans (if_pos rfl);clear j;go_wp2_with fail;refine (r.out _).mono ?_;exact a0s
         | false =>rw [N,O,t3] at j;have s:Hid (qK zs o l k x=.returned (.tuple #[.u x,.u C])):=j.trans (if_neg a6);clear j;go_wp2_with fail;go_ret2;exact ⟨s.out.symm,H.out⟩
theorem Ej (he:U T) (w:World):CE 156 #[.u T] w (.bool (!mm T)):=by have F:Hid ((bits .and .u64 T 10 != 0)=!mm T):=NS T he;generalize (!mm T)=v at *;go_enter func156,ntmps156;exact a09
theorem sN (he:U T) (w:World):Calls prog 211 #[.u T] w λr c=>r=.returned (.u (cQ T 10 44))/\c=w.drew:=by have d:Hid (∀ w,Calls prog 76 #[.u T,.i 10,.i 44] w λr c=>r=.returned (.u (cQ T 10 44))/\c=w.drew):=λw=>bA T 10 44 he.1 he.2 ab ab w;generalize cQ T 10 44=f at *;go_enter func211,ntmps211;go_wp2_with fail;refine (d.out _).mono ?_;rintro r g ⟨rfl,b⟩;subst b;exact a01
def N5 (k e:Int) (lv:Nat):Ending:=if kG e lv=true then ii (eI k) else .returned (.u (Uz.wrap (eZ e*4096)))
theorem B6 (e:Int) (lv:Nat) (he:U e) (B:1<=Z) (y:Z<=3) (w:World): Calls prog 157 #[.agg #[.slice (some ⟨R,0,none⟩) o C,.slice (some ⟨K,N,none⟩) 22 O,.i X,.u Y,.i Z],.u e,.i (lv:Int)] w λr q=>r=N5 Z e lv/\Bw w q:=by
 have l:Hid (∀ w,Calls prog 154 #[.agg #[.slice (some ⟨R,0,none⟩) o C,.slice (some ⟨K,N,none⟩) 22 O,.i X,.u Y,.i Z]] w λe q=>e=ii (eI Z)/\Bw w q):=λw=>j6 _ _ _ _ _ _ _ _ B y w;have A:Hid (∀ w,Calls prog 211 #[.u e] w λr q=>r=.returned (.u (eZ e))/\q=w.drew):=λw=>by have:=sN e he w;rw [vk e he] at this;exact this
 have F:N5 Z e lv=if (((lv:Int)==0)||(bits .and .u64 e 208 != 0))=true then ii (eI Z) else .returned (.u (Uz.wrap (eZ e*4096))):=by rw [NT e he lv];rfl
 have c:∀ n,Bw w (w.alloc n):=λn=>bal _ _;generalize eZ e=f at *;generalize N5 Z e lv=v at *;cases t:((lv:Int)==0) with
 | true =>rw [t] at F;have j:Hid (v=ii (eI Z)):=F.trans (if_pos rfl);clear F;go_enter func157,ntmps157;go_wp2_with fail;refine (l.out _).mono ?_;rintro r D ⟨rfl,d⟩;exact ⟨rfl,j.out.symm,aa (c _) d⟩
 | false =>
   cases z:(bits .and .u64 e 208 != 0) with
   | true =>rw [t,z] at F;have j:Hid (v=ii (eI Z)):=F.trans (if_pos rfl);clear F;go_enter func157,ntmps157;go_wp2_with fail;refine (l.out _).mono ?_;rintro r D ⟨rfl,d⟩;exact ⟨rfl,j.out.symm,aa (c _) d⟩
   | false =>rw [t,z] at F;have j:Hid (v=.returned (.u (Uz.wrap (f*4096)))):=F.trans (if_neg a6);clear F;go_enter func157,ntmps157;go_wp2_with fail;refine (A.out _).mono ?_;rintro r E ⟨rfl,s⟩;subst s;go_wp2_with fail;go_ret;exact ⟨j.out.symm,kU (c _) 1⟩
theorem B7 (e x:Int) (u:1<=Z) (y:Z<=3) (w:World) (z:∀ l,(w.alloc l).cell? ⟨C,K,none⟩=some (.u x)): CB 212 #[.agg #[.slice J R o,.slice (some ⟨C,K,none⟩) 22 N,.i X,.u Y,.i Z],.u e] w (.bool (oD x Z e)):=by
 have c:∀ l,Bw w (w.alloc l):=λl=>bal _ _;have g:Z=1\/Z=2\/Z=3:=ab
 rcases g with rfl|rfl|rfl;·have F:Hid (oD x 1 e=(bits .and .u64 e 8 != 0)):=(rfl:oD x 1 e=_);generalize oD x 1 e=v at *;go_enter func212,ntmps212;go_wp2_with fail;go_ret;exact ⟨a7,c _⟩
 ·have F:oD x 2 e=((bits .and .u64 e 2 != 0)||((bits .and .u64 x 524288 != 0)&&(bits .and .u64 e 8 != 0))):=rfl;generalize oD x 2 e=v at *;cases m:(bits .and .u64 e 2 != 0)<;>cases q:(bits .and .u64 x 524288 != 0)<;>cases s:(bits .and .u64 e 8 != 0);all_goals
   rw [m,q,s] at F
   have f:=iy F
   clear F
   go_enter func212,ntmps212
   go_wp2_with fail
   go_ret
   exact ⟨by rw [f.out];rfl,c _⟩
 ·have F:Hid (oD x 3 e=(bits .and .u64 e 4 != 0)):=(rfl:oD x 3 e=_);generalize oD x 3 e=v at *;go_enter func212,ntmps212;go_wp2_with fail;go_ret;exact ⟨a7,c _⟩
theorem B8 (e x:Int) (w:World) (u:∀ l,(w.alloc l).cell? ⟨C,K,none⟩=some (.u x)): CB 213 #[.agg #[.slice J R o,.slice (some ⟨C,K,none⟩) 22 N,.i X,.u Y,.i Z],.u e] w (.bool (BN x X Z e)):=by
 have c:∀ l,Bw w (w.alloc l):=λl=>bal _ _;have F:BN x X Z e=if (bits .and .u64 e 16==0)=true then (X==1) else ((X==0)||((Z != 1)&&(bits .and .u64 x 262144 != 0))):=rfl
 generalize BN x X Z e=v at *;cases t0:(bits .and .u64 e 16==0) with
 | true =>have g:Hid (v=(X==1)):=(by rw [t0] at F;exact F.trans (if_pos rfl));clear F;go_enter func213,ntmps213;go_wp2_with fail;go_ret;exact ⟨by rw [g.out];rfl,c _⟩
 | false =>
   have f:v=((X==0)||((Z != 1)&&(bits .and .u64 x 262144 != 0))):=(by rw [t0] at F;exact F.trans (if_neg a6));clear F;cases m:(X==0)<;>cases q:(Z != 1)<;>cases s:(bits .and .u64 x 262144 != 0);all_goals
    rw [m,q,s] at f
    have g:=iy f
    clear f
    go_enter func213,ntmps213
    go_wp2_with fail
    go_ret
    exact ⟨by rw [g.out];rfl,c _⟩
def N6 (l:List Int) (p k e:Int) (lv:Nat):Ending:=if (m9 e lv||hZ l k e||ic l p k e)=true then ii (eI k) else .returned (.tuple #[])
theorem wM (l:List Int) (p va k e:Int) (lv:Nat) (V:lv<=2) (he:U e) (hp:p=0\/p=1) (w:World) (W:Wk w R o C D K N O l p va k): Calls prog 158 #[.agg #[.slice (some ⟨R,0,none⟩) o C,.slice (some ⟨K,N,none⟩) 22 O,.i p,.u va,.i k],.u e,.i (lv:Int)] w λr d=>r=N6 l p k e lv/\Bw w d:=by
 have HW:Hid (Wk w R o C D K N O l p va k):=W;obtain ⟨q,Z⟩:∃ q:Nat,q=9*lv:=⟨_,rfl⟩;have b:Hid (9*(lv:Int)=(q:Int)):=by show _=_;omega
 have J:Hid (∀ w,Calls prog 76 #[.u e,.i 10,.i (q:Int)] w λr d=>r=.returned (.u (cQ e 10 q))/\d=w.drew):=λw=>bA e 10 q he.1 he.2 ab ab w;have zs:Hid (∀ w,Calls prog 154 #[.agg #[.slice (some ⟨R,0,none⟩) o C,.slice (some ⟨K,N,none⟩) 22 O,.i p,.u va,.i k]] w λe d=>e=ii (eI k)/\Bw w d):=λw=>j6 _ _ _ _ _ _ _ _ W.hk1 W.hk3 w;have s:∀ n m,Bw w ((w.alloc n).drewN m):=λn m=>kU (bal _ _) m;have S:Hid (∀ d,Bw w d->∀ n,(d.alloc n).cell? ⟨K,N,none⟩=some (.u (l.getD 0 0))):=λd I n=>(W.below (aa I (bal _ _))).at 0 ab;have y:Hid (∀ d,Bw w d->CB 212 #[.agg #[.slice (some ⟨R,0,none⟩) o C,.slice (some ⟨K,N,none⟩) 22 O,.i p,.u va,.i k],.u e] d (.bool (!hZ l k e))):=λd I=>by have:=B7 (some ⟨R,0,none⟩) o C K N O p va k e (l.getD 0 0) W.hk1 W.hk3 d (S.out d I);rw [Lb l k e he (W.hU 0) W.hk1 W.hk3] at this;exact this
 have H:Hid (∀ d,Bw w d->CB 213 #[.agg #[.slice (some ⟨R,0,none⟩) o C,.slice (some ⟨K,N,none⟩) 22 O,.i p,.u va,.i k],.u e] d (.bool (!ic l p k e))):=λd I=>by have:=B8 (some ⟨R,0,none⟩) o C K N O p va k e (l.getD 0 0) d (S.out d I);rw [Lc l p k e he (W.hU 0) hp] at this;exact this
 have Y:(cQ e 10 q != 0)=m9 e lv:=by rw [Z];exact La e he lv V
 have F:N6 l p k e lv=if (m9 e lv||hZ l k e||ic l p k e)=true then ii (eI k) else .returned (.tuple #[]):=rfl
 rw [<- Y] at F;generalize N6 l p k e lv=v at *;generalize cQ e 10 q=ff at *;generalize hZ l k e=nk at *;generalize ic l p k e=np at *;clear W S Z Y;cases Q:(ff != 0) with
 | true =>rw [Q] at F;have B:Hid (v=ii (eI k)):=F.trans (if_pos rfl);clear F;go_enter func158,ntmps158;go_wp2_with fail;rw [b.out];refine (J.out _).mono ?_;rintro r X ⟨rfl,t⟩;subst t;go_wp2_with fail;refine (zs.out _).mono ?_;rintro r G ⟨rfl,j⟩;exact ⟨rfl,B.out.symm,aa (s _ 1) j⟩
 | false =>
   cases nk with
   | true =>rw [Q] at F;have B:Hid (v=ii (eI k)):=F.trans (if_pos rfl);clear F;go_enter func158,ntmps158;go_wp2_with fail;rw [b.out];refine (J.out _).mono ?_;rintro r X ⟨rfl,t⟩;subst t;go_wp2_with fail;refine (y.out _ (s _ 1)).mono ?_;rintro r z ⟨rfl,f⟩;have R2:Hid (z.heap[w.heap.size]?=some (.cells #[.slice (some ⟨R,0,none⟩) o C,.slice (some ⟨K,N,none⟩) 22 O,.i p,.u va,.i k] 136 (0,0))):=ge f (heap_alloc_new w _);obtain ⟨L,M,c,u,P⟩:=mx R2.out;have A:Hid (Bw w z):=aa (s _ 1) f;clear f;go_wp2_with fail;refine (zs.out _).mono ?_;rintro r G ⟨rfl,j⟩;exact ⟨rfl,B.out.symm,aa A.out j⟩
   | false =>
     cases np with
     | true =>rw [Q] at F;have B:Hid (v=ii (eI k)):=F.trans (if_pos rfl);clear F;go_enter func158,ntmps158;go_wp2_with fail;rw [b.out];refine (J.out _).mono ?_;rintro r X ⟨rfl,t⟩;subst t;go_wp2_with fail;refine (y.out _ (s _ 1)).mono ?_;rintro r z ⟨rfl,f⟩;have R2:Hid (z.heap[w.heap.size]?=some (.cells #[.slice (some ⟨R,0,none⟩) o C,.slice (some ⟨K,N,none⟩) 22 O,.i p,.u va,.i k] 136 (0,0))):=ge f (heap_alloc_new w _);obtain ⟨L,M,c,u,P⟩:=mx R2.out;have A:Hid (Bw w z):=aa (s _ 1) f;clear f;go_wp2_with fail;refine (H.out _ A.out).mono ?_;rintro r G ⟨rfl,j⟩;have R3:Hid (G.heap[w.heap.size]?=some (.cells #[.slice (some ⟨R,0,none⟩) o C,.slice (some ⟨K,N,none⟩) 22 O,.i p,.u va,.i k] 136 (0,0))):=ge j R2.out;clear L M c u P;obtain ⟨L,M,c,u,P⟩:=mx R3.out;have g:Hid (Bw w G):=aa A.out j;clear j;go_wp2_with fail;refine (zs.out _).mono ?_;rintro r w4 ⟨rfl,T⟩;exact ⟨rfl,B.out.symm,aa g.out T⟩
     | false =>rw [Q] at F;have B:Hid (v=.returned (.tuple #[])):=F.trans (if_neg a6);clear F;go_enter func158,ntmps158;go_wp2_with fail;rw [b.out];refine (J.out _).mono ?_;rintro r X ⟨rfl,t⟩;subst t;go_wp2_with fail;refine (y.out _ (s _ 1)).mono ?_;rintro r z ⟨rfl,f⟩;have R2:Hid (z.heap[w.heap.size]?=some (.cells #[.slice (some ⟨R,0,none⟩) o C,.slice (some ⟨K,N,none⟩) 22 O,.i p,.u va,.i k] 136 (0,0))):=ge f (heap_alloc_new w _);obtain ⟨L,M,c,u,P⟩:=mx R2.out;have A:Hid (Bw w z):=aa (s _ 1) f;clear f;go_wp2_with fail;refine (H.out _ A.out).mono ?_;rintro r G ⟨rfl,j⟩;have g:Hid (Bw w G):=aa A.out j;clear j;go_wp2_with fail;go_end0;exact ⟨B.out.symm,g.out⟩
theorem N7 (e:Int) (lv:Nat) (d:lv<=2) (he:U e) (hv:U Y) (s:m9 e lv=false) (w:World): CB 159 #[.agg #[.slice (some ⟨R,0,none⟩) o C,.slice (some ⟨K,N,none⟩) 22 O,.i X,.u Y,.i Z],.u e,.i (lv:Int)] w (.u (gP e Y lv)):=by
 obtain ⟨q,j⟩:∃ q:Nat,q=12+9*lv:=⟨_,rfl⟩;have y:Hid (∀ w,Calls prog 207 #[.i (lv:Int)] w λe c=>e=.returned (.i (q:Int))/\∃ m,c=w.drewN m):=λw=>by rw [j];exact (sL lv d w).mono λ_ _ h=>⟨h.1,0,h.2⟩
 have t:Hid (∀ w,Calls prog 76 #[.u Y,.i 0,.i (q:Int)] w λe c=>e=.returned (.u (cQ Y 0 q))/\∃ m,c=w.drewN m):=λw=>(bA Y 0 q hv.1 hv.2 ab ab w).mono λ_ _ h=>⟨h.1,1,h.2⟩;have u:Hid (∀ w,Calls prog 211 #[.u e] w λr c=>r=.returned (.u (cQ e 10 44))/\∃ m,c=w.drewN m):=λw=>(sN e he w).mono λ_ _ h=>⟨h.1,1,h.2⟩;have F:Hid (bits .or .u64 (Uz.wrap (cQ e 10 44*4096)) (cQ Y 0 q)=gP e Y lv):=by show _=_;rw [j];exact NV e Y he hv lv d s
 have f:∀ n m,Bw w ((w.alloc n).drewN m):=λn m=>kU (bal _ _) m;generalize gP e Y lv=v at *;clear j s;go_enter func159,ntmps159;go_wp2_with fail;go_quiet (first | (go_at_call 207;with_reducible refine Calls.quiet_of (y.out _)) | (go_at_call 76;with_reducible refine Calls.quiet_of (t.out _)) | (go_at_call 211;with_reducible refine Calls.quiet_of (u.out _)))
 go_wp2_with fail;go_ret;exact ⟨a7,f _ _⟩
def gT (w w':World) (zs:List Int) (a:Option Addr) (n c:Nat):Prop:=w'.ownsRow w.heap.size 5 1 (.slice a n c) n (zs.map (Value.int .u8))/\Bw w w'
theorem pN (hz:D.length=o) (N:1<=o) (hn:o<=1048576) (hs:Sl .u8 I (some ⟨R,0,none⟩) D): Calls prog 49 #[.slice (some ⟨R,0,none⟩) o C] I λr Q=>∃ (zs:Option Addr) (c:Nat),r=.returned (.slice zs o c)/\gT I Q D zs o c:=by
 have g:∀ (I:World) (a:Option Addr) (o c F s:Nat),(binOp .eql 24 (.slice a o c) (.slice none F s)).run prog I=.ok (.bool a.isNone) I:=λI a o c F s=>Lib.run_eql_slice_nil I _ _ a o c F s underlying24
 obtain ⟨P,M,z,A,B⟩:=info_parts info5
 have p:Hid (∀ u ∈ D.map (Value.int .u8),u.oneCell'=true):=ints_oneCell _ _
 have t:(0+o)*1<=140737488355328:=ab
 have y:0+o<=maxLen:=by unfold maxLen;omega
 have m:(D.map (Value.int .u8)).length=o*1:=by rw [List.length_map,hz];omega
 have K:=DR I I.heap.size (Nat.le_refl _) (.cells #[] 5 (0,0)) rfl
 have f:Hid (∀ (n:Obj) (j:Nat) (u:Value),(D.map (Value.int .u8))[j]?=some u->(I.alloc n).cell? ((⟨R,0,none⟩:Addr).add j)=some u):=λn j u O=>MO hs n j u O
 clear hs
 go_enter func49,ntmps49
 go_wp2_with (first
  | (at_builtin;refine wpList_append_own _ rfl (.tmp 5) (.tmp 6) 24 rfl _ 5 P (.int .u8 0) 1 1 underlying24 M z A B rfl a6 _ 0 [] (by rfl) K ⟨R,0,none⟩ o C (D.map (Value.int .u8)) rfl m (f.out _) p.out y t bc ?_;intro S G b d l;simp only [Nat.zero_add,List.nil_append] at b;obtain ⟨J,w,E,L⟩:=oK b ab;rw [E] at b ⊢;have q:Hid (G.ownsRow I.heap.size 5 1 (.slice (some ⟨J,0,none⟩) o w) o (D.map (Value.int .u8))):=b;have H:Hid (Bw I G):=Ii d;clear l d b E L))
 go_ret
 exact ⟨_,_,rfl,q.out,H.out⟩
theorem IC (e x:Int) (he:U e) (hm:(cN e Z != e)=false) (w:World) (W:Wk w R o C D K N O Q X Y Z): Calls prog 160 #[.agg #[.slice (some ⟨R,0,none⟩) o C,.slice (some ⟨K,N,none⟩) 22 O,.i X,.u Y,.i Z],.u x,.u e] w λr m=>∃ (f:Option Addr) (c:Nat),r=.returned (.slice f o c)/\gT w m D f o c:=by
 have F:=gu W.hr;have B:Hid (∀ n,Calls prog 49 #[.slice (some ⟨R,0,none⟩) o C] (w.alloc n) λr m=>∃ (f:Option Addr) (c:Nat),r=.returned (.slice f o c)/\gT (w.alloc n) m D f o c):=λn=>pN R o C D (w.alloc n) W.hz ab ab (W.hs.below (bal _ _));have z:∀ n,Bw w (w.alloc n):=λn=>bal _ _;have y:Hid (∀ n m f c,gT (w.alloc n) m D f o c->gT w m D f o c):=λn m f c h=>⟨dG h.1 bc,aa (z n) h.2⟩;have d:=FX e Z he;rw [hm] at d;have zs:bits .or .u64 64 128=192:=bb
 clear W;cases t:(Z==3) with
 | true =>have q:Z=3:=(by simpa using t);have j:oE Z=192:=if_pos q;rw [j] at d;have s:(bits .and .u64 e 192==192)=true:=d;clear d j q;go_enter func160,ntmps160;go_wp2_with fail;refine (B.out _).mono ?_;rintro r G ⟨f,c,rfl,A⟩;go_wp2_with fail;go_ret;exact ⟨_,_,rfl,y.out _ _ _ _ A⟩
 | false =>have q:¬ Z=3:=(by simpa using t);have j:oE Z=64:=if_neg q;rw [j] at d;have s:(bits .and .u64 e 64==64)=true:=d;clear d j q;go_enter func160,ntmps160;go_wp2_with fail;refine (B.out _).mono ?_;rintro r G ⟨f,c,rfl,A⟩;go_wp2_with fail;go_ret;exact ⟨_,_,rfl,y.out _ _ _ _ A⟩
def N8 (l:List Int) (k e x:Int) (n:Nat) (zs:List Int) (w:World) (r:Ending) (w':World):Prop :=
 if aE l 1 x (bm x 8) 3 4 0=true then ∃ (a:Option Addr) (c:Nat),r=.returned (.slice a n c)/\gT w w' (lP zs (x-2147483648).toNat (cN e k) 8) a n c else r=ii (dz k)/\Bw w w'
theorem Ek (z:Nat) (l:List Int) (p va k e x:Int) (he:U e) (hx:gU o x 8=true) (hm:(cN e k != e)=true) (w:World) (W:Wk w R o C D K N z l p va k): Calls prog 160 #[.agg #[.slice (some ⟨R,0,none⟩) o C,.slice (some ⟨K,N,none⟩) 22 z,.i p,.u va,.i k],.u x,.u e] w λr s=>N8 l k e x o D w r s:=by
 have hbd:=gu W.hr;have UX:U x:=by obtain ⟨_,_,h1,h2,_,_,_,h4⟩:=j8 hx;exact ⟨ab,ab⟩
 have H:Hid (∀ w,Calls prog 210 #[.agg #[.slice (some ⟨R,0,none⟩) o C,.slice (some ⟨K,N,none⟩) 22 z,.i p,.u va,.i k]] w λe s=>e=ii (dz k)/\Bw w s):=λw=>nL _ _ _ _ _ _ _ _ W.hk1 W.hk3 w;have m:∀ n,Bw w (w.alloc n):=λn=>bal _ _;have y:Hid (∀ n,CB 209 #[.slice (some ⟨K,N,none⟩) 22 z,.i 1,.u x,.i 8,.i 3] (w.alloc n) (.bool (aE l 1 x (bm x 8) 3 4 0))):=λn=>by have:=kA (some ⟨K,N,none⟩) 22 z l 1 x 8 3 (w.alloc n) W.hlz (W.hl.below (m n)) W.hU UX (W.hT.below (m n));rw [FY o l x 3 W.one hx ab ab] at this;exact this
 have I:Hid (∀ s,Bw w s->Calls prog 214 #[.slice (some ⟨R,0,none⟩) o C,.u x,.i 8,.u (cN e k)] s λr B=>∃ (zs:Option Addr) (c:Nat),r=.returned (.tuple #[.slice zs o c,.bool true])/\gT w B (lP D (x-2147483648).toNat (cN e k) 8) zs o c):=λs P=>by obtain ⟨_,_,h1,h2,_,_,_,h4⟩:=j8 hx;obtain ⟨f,b⟩:∃ f:Nat,x=2147483648+(f:Int):=⟨(x-2147483648).toNat,ab⟩;subst b;have hu:=mt e k;have:=BO (some ⟨R,0,none⟩) o C f 8 D (cN e k) s W.hz ab (W.hs.below P) hx hu.1 (by have:=hu.2;omega);rw [show (2147483648+(f:Int)-2147483648).toNat=f from ab];exact this.mono λr B h=>⟨_,_,h.1,dG h.2.1 P.size,aa P h.2.2⟩
 have F:Hid (∀ r s,N8 l k e x o D w r s=if aE l 1 x (bm x 8) 3 4 0=true then ∃ (zs:Option Addr) (c:Nat),r=.returned (.slice zs o c)/\gT w s (lP D (x-2147483648).toNat (cN e k) 8) zs o c else r=ii (dz k)/\Bw w s):=λr s=>rfl;have q:=FX e k he;have G:=FW e k;rw [hm] at q;have Z:bits .or .u64 64 128=192:=bb
 generalize aE l 1 x (bm x 8) 3 4 0=pb at *;generalize lP D (x-2147483648).toNat (cN e k) 8=ms at *;generalize N8 l k e x o D w=Q at *;generalize cN e k=we at *;clear W hm;obtain ⟨j,M,t⟩:∃ j,oE k=j/\(((k==3)=true/\j=192)\/((k==3)=false/\j=64)):=by
  refine ⟨_,rfl,?_⟩;by_cases O:k=3;·exact .inl ⟨by simpa using O,if_pos O⟩
  ·exact .inr ⟨by simpa using O,if_neg O⟩
 rw [M] at q G;have J:Hid (bits .or .u64 e j=we):=G;clear G M;rcases t with ⟨t,rfl⟩|⟨t,rfl⟩
 ·have L:(bits .and .u64 e 192==192)=false:=q;clear q;cases pb with
  | false =>go_enter func160,ntmps160;go_wp2_with fail;refine (y.out _).mono ?_;rintro r u ⟨rfl,d⟩;have R1:Hid (u.heap[w.heap.size]?=some (.cells #[.slice (some ⟨R,0,none⟩) o C,.slice (some ⟨K,N,none⟩) 22 z,.i p,.u va,.i k] 136 (0,0))):=ge d (heap_alloc_new w _);obtain ⟨g,S,T,V,X⟩:=mx R1.out;have A:Hid (Bw w u):=aa (m _) d;clear d;go_wp2_with fail;refine (H.out _).mono ?_;rintro r Y ⟨rfl,E⟩;exact ⟨rfl,Eq.mpr ((F.out _ _).trans (if_neg a6)) ⟨rfl,aa A.out E⟩⟩
  | true =>go_enter func160,ntmps160;go_wp2_with fail;refine (y.out _).mono ?_;rintro r u ⟨rfl,d⟩;have R1:Hid (u.heap[w.heap.size]?=some (.cells #[.slice (some ⟨R,0,none⟩) o C,.slice (some ⟨K,N,none⟩) 22 z,.i p,.u va,.i k] 136 (0,0))):=ge d (heap_alloc_new w _);obtain ⟨g,S,T,V,X⟩:=mx R1.out;have A:Hid (Bw w u):=aa (m _) d;clear d;go_wp2_with fail;rw [J.out];refine (I.out _ A.out).mono ?_;rintro r Y ⟨zs,c,rfl,b⟩;go_wp2_with fail;exact Eq.mpr ((F.out _ _).trans (if_pos a6)) ⟨_,_,rfl,b⟩
 ·have L:(bits .and .u64 e 64==64)=false:=q;clear q;cases pb with
  | false =>go_enter func160,ntmps160;go_wp2_with fail;refine (y.out _).mono ?_;rintro r u ⟨rfl,d⟩;have R1:Hid (u.heap[w.heap.size]?=some (.cells #[.slice (some ⟨R,0,none⟩) o C,.slice (some ⟨K,N,none⟩) 22 z,.i p,.u va,.i k] 136 (0,0))):=ge d (heap_alloc_new w _);obtain ⟨g,S,T,V,X⟩:=mx R1.out;have A:Hid (Bw w u):=aa (m _) d;clear d;go_wp2_with fail;refine (H.out _).mono ?_;rintro r Y ⟨rfl,E⟩;exact ⟨rfl,Eq.mpr ((F.out _ _).trans (if_neg a6)) ⟨rfl,aa A.out E⟩⟩
  | true =>go_enter func160,ntmps160;go_wp2_with fail;refine (y.out _).mono ?_;rintro r u ⟨rfl,d⟩;have R1:Hid (u.heap[w.heap.size]?=some (.cells #[.slice (some ⟨R,0,none⟩) o C,.slice (some ⟨K,N,none⟩) 22 z,.i p,.u va,.i k] 136 (0,0))):=ge d (heap_alloc_new w _);obtain ⟨g,S,T,V,X⟩:=mx R1.out;have A:Hid (Bw w u):=aa (m _) d;clear d;go_wp2_with fail;rw [J.out];refine (I.out _ A.out).mono ?_;rintro r Y ⟨zs,c,rfl,b⟩;go_wp2_with fail;exact Eq.mpr ((F.out _ _).trans (if_pos a6)) ⟨_,_,rfl,b⟩
def B9 (zs:List Int) (n:Nat) (l:List Int) (p va k e x:Int) (lv:Nat):Fd :=
 if mm e=true then (if kG e lv=true then bP k else bJ zs n l p va k (lv-1) (Uz.wrap (eZ e*4096))) else db l p va k e x lv
theorem xN (T:Int) (lv:Nat): (qK S R D Z (bD T Y lv)=ii (dz Z)/\bJ S R D X Y Z lv T=fT Z)\/(qK S R D Z (bD T Y lv)=ii (eI Z)/\bJ S R D X Y Z lv T=bP Z) \/ (qK S R D Z (bD T Y lv)=.returned (.tuple #[.u (bD T Y lv),.u (fF S (bD T Y lv))])/\gU R (bD T Y lv) 8=true/\bJ S R D X Y Z lv T=B9 S R D X Y Z (fF S (bD T Y lv)) (bD T Y lv) lv):=by
 rw [gK];unfold qK B9;generalize bD T Y lv=x;by_cases a:gU R x 8=true
 ·rw [if_pos a,if_pos a];by_cases b:aE D 1 x (bm x 8) 2 4 0=true
  ·rw [if_pos b,if_pos b];by_cases c:pf (fF S x)=true;·rw [if_pos c,if_pos c];exact .inr (.inl ⟨rfl,rfl⟩)
   ·rw [if_neg c,if_neg c];exact .inr (.inr ⟨rfl,a,rfl⟩)
  ·rw [if_neg b,if_neg b];exact .inl ⟨rfl,rfl⟩
 ·rw [if_neg a,if_neg a];exact .inl ⟨rfl,rfl⟩
def Ja (V:Fd) (zs:List Int) (n:Nat) (w:World) (r:Ending) (w':World):Prop :=
 if V.code=0 then ∃ (a:Option Addr) (c:Nat),r=.returned (.tuple #[.u V.addr,.slice a n c])/\gT w w' (bo zs V) a n c else r=ii V.code/\Bw w w'
theorem N9 (h:t=bP a) (b:1<=a) (zs:a<=3) (hb:Bw n k):Ja t c l n (ii (eI a)) k:=by
 subst h;have w':a=1\/a=2\/a=3:=ab
 unfold Ja;rw [if_neg];·exact ⟨rfl,hb⟩
 ·rcases w' with rfl|rfl|rfl<;>decide
theorem Lt (h:t=fT a) (b:1<=a) (zs:a<=3) (hb:Bw n k):Ja t c l n (ii (dz a)) k:=by
 subst h;have w':a=1\/a=2\/a=3:=ab
 unfold Ja;rw [if_neg];·exact ⟨rfl,hb⟩
 ·rcases w' with rfl|rfl|rfl<;>decide
theorem Lu (h:t.code=0) (d:t.addr=a) (hm:bo c t=M) (e:gT n k M y l b):Ja t c l n (.returned (.tuple #[.u a,.slice y l b])) k:=by unfold Ja;rw [if_pos h,d,hm];exact ⟨_,_,rfl,e⟩
theorem Oa {va k e:Int} (h:(m9 e l||hZ M k e||ic M r k e)=true):db M r va k e x l=bP k:=by
 unfold db;cases a:m9 e l
 ·cases b:hZ M k e
  ·cases c:ic M r k e;·rw [a,b,c] at h;cases h
   ·rfl
  ·rfl
 ·rfl
theorem Ob {va k e x:Int} (h:(m9 e l||hZ M k e||ic M r k e)=false):m9 e l=false /\ db M r va k e x l=(if (cN e k != e)=true then (if aE M 1 x (bm x 8) 3 4 0=true then ⟨gP e va l,0,true,x,cN e k⟩ else fT k) else ⟨gP e va l,0,false,0,0⟩):=by
 unfold db;cases a:m9 e l
 ·cases b:hZ M k e
  ·cases c:ic M r k e;·exact ⟨rfl,rfl⟩
   ·rw [a,b,c] at h;cases h
  ·rw [a,b] at h;cases h
 ·rw [a] at h;cases h
theorem Lw {w:List KI} {F:Fr} {Rc:Ending->World->Prop} (fn:Calls z B A k Rc) (h:∀ e g,Rc e g->(∃ c,e=.panicked c/\q e g)\/∃ v t,e=.returned v/\(vP F w=true->f g)/\Wg z f (bodyPost z E q) b (nZ F w) (pP F w v t) g) (hx:I8 z b F w=some (B,A):=by kernel_rfl):Wg z f (bodyPost z E q) b w F k:=λa i=>by
 unfold I8 at hx;unfold nZ pP vP at h;cases l:Ae F w with
 | none=>rw [l] at hx;cases hx
 | some y =>
   obtain ⟨o,P,Rs⟩:=y;rw [l] at hx h;dsimp only at hx h;split at hx
   ·rename_i m;refine uj l i λK p=>?_;show o.upon z a K _ _;rw [oL i hx k];refine fn.mono λe g s=>?_;rcases h e g s with ⟨c,rfl,r⟩ | ⟨v,t,rfl,u,x⟩;·dsimp only;rw [kR];exact ⟨i.nod,r⟩
    ·refine p _ _ u (x _ ?_);cases j:o.dst with
     | none=>exact i
     | some d=>rw [j] at m;exact i.put m v t
   ·cases hx
theorem rM {J:World->Prop} {R:List Rw} {dr:Bool} (fn:oM z f J R dr (bodyPost z E q)) (H:Hn z f J) (m:Nat) {k:List KI} {F:Fr} {w:World} {S:Nat} {args:Array Value} {Rc:World->Ending->World->Prop} (hS:J w) (i:∀ b,J b->Calls z S args b (Rc b)) (h:∀ b e a,J b->Rc b e a->(∃ c,e=.panicked c/\q e a)\/∃ v t,e=.returned v/\(vP (aY z R H l dr m k F).1.2.2 (aY z R H l dr m k F).1.2.1=true->f a)/\Wg z f (bodyPost z E q) l (nZ (aY z R H l dr m k F).1.2.2 (aY z R H l dr m k F).1.2.1) (pP (aY z R H l dr m k F).1.2.2 (aY z R H l dr m k F).1.2.1 v t) a) (hx:((aY z R H l dr m k F).1.1,I8 z l (aY z R H l dr m k F).1.2.2 (aY z R H l dr m k F).1.2.1)=(false,some (S,args)):=by kernel_rfl) (he:(aY z R H l dr m k F).2.map Prod.fst=(aY z R H l dr m k F).2.map Prod.snd:=by kernel_rfl):Wg z f (bodyPost z E q) l k F w:=by simp only [Prod.mk.injEq] at hx;exact ae fn H m hS (hret:=hx.1) (he:=he) λb d=>Lw (i b d) (hx:=hx.2) λe a g=>h b e a d g
theorem R1.ez:Ez (R1 n l A j) [⟨l,A,[]⟩]:=⟨λW h r a=>by rw [List.mem_singleton.1 a];exact ⟨_,_,h.1⟩,λ_ h=>h.below (Below.refl _ _).drew⟩
theorem gT.dw (h:gT n k c y l b) (d:Dw k p):gT n p c y l b:=⟨by obtain ⟨j,rfl⟩:=d;exact h.1,d.below h.2⟩
theorem gT.low (h:gT k p c y l b) (d:Bw n k):gT n p c y l b:=⟨dG h.1 d.size,aa d h.2⟩
def wcs (g n d b a c:Nat) (p va k:Int):Array Value:=#[.slice (some ⟨g,0,none⟩) n d,.slice (some ⟨b,a,none⟩) 22 c,.i p,.u va,.i k]
theorem Lx (g n u:Nat) (zs:List Int) (b a z:Nat) (l:List Int) (p va k:Int) (w:World) (W:Wk w g n u zs b a z l p va k):Calls prog 110 #[.agg #[.slice (some ⟨g,0,none⟩) n u,.slice (some ⟨b,a,none⟩) 22 z,.i p,.u va,.i k]] w λr w'=>Ja (bT zs n l p va k) zs n w r w':=by
 have hbd:=gu W.hr;have us:=W.hU 15;have J:=W.hk1;have K:=W.hk3;have FT:=Qm l us;have A:bT zs n l p va k=if ((p==3)||(cQ (l.getD 15 0) 60 4==0))=true then ⟨va,0,false,0,0⟩ else if (av 39 va != va)=true then bP k else bJ zs n l p va k 2 (nN l):=by rw [NW _ us];rfl
 have hp:=(gF W.hg).2;have wb:∀ {X},R1 w w.heap.size (wcs g n u b a z p va k) 136 X->Wk X g n u zs b a z l p va k:=λh=>W.below h.2;have c15:∀ X,R1 w w.heap.size (wcs g n u b a z p va k) 136 X->X.cell? ⟨b,a+15,none⟩=some (.u (l.getD 15 0)):=λX h=>(wb h).at 15 ab;generalize bT zs n l p va k=V at A ⊢;generalize l.getD 15 0=s at us FT A c15;have HB:=λ(i j:Nat) (hi:i<64) (hj:j<64) (X:World)=>(bA s i j us.1 us.2 hi hj X).mono λe w' h=>(⟨h.1,by rw [h.2];exact (Below.refl _ _).drew⟩:_/\Bw X w');have HW:=λ(X:World)=>(iW va 39 ab ab X).mono λe w' h=>(⟨h.1,ti⟩:_/\Bw X w');have HC:=λX (h:R1 w w.heap.size (wcs g n u b a z p va k) 136 X)=>pN g n u zs X W.hz ab ab (wb h).hs;have G:∀ {e X},V=bP k->e=ii (eI k)->Bw w X->∃ c,e=.panicked c/\Ja V zs n w e X:=λB C I=>⟨_,C,by rw [C];exact N9 B J K I⟩;have Q:∀ {e X},V=fT k->e=ii (dz k)->Bw w X->∃ c,e=.panicked c/\Ja V zs n w e X:=λB C I=>⟨_,C,by rw [C];exact Lt B J K I⟩;refine bf (S:=R1 w w.heap.size (wcs g n u b a z p va k) 136) (args:=[.agg (wcs g n u b a z p va k)]) [(wcs g n u b a z p va k,136)] func110 ?_;have h0:R1 w w.heap.size (wcs g n u b a z p va k) 136 (dZ w [(wcs g n u b a z p va k,136)]):=⟨heap_alloc_new _ _,bal _ _⟩;have L:=jk (S:=R1 w w.heap.size (wcs g n u b a z p va k) 136) ⟨b,a+15,none⟩ (.u s) underlying22 rfl c15;cases t1:(p==3) with
 | true =>rw [t1] at A;refine aN R1.eng {eq:=[(15,af t1)],ov:=[(12,L)]} 60 h0 HC ?_;rintro X1 e X2 B ⟨E,c,rfl,f⟩;refine ⟨_,0,rfl,λ_=>B.below f.2,?_⟩;exact yo R1.ez (B.below f.2) {} 40 λX3 y d M=>⟨.tuple #[.u va,.slice E n c],ih,Lu (by subst A;rfl) (by subst A;rfl) (by subst A;rfl) (gT.dw (gT.low f B.2) d)⟩
 | false =>
   have hp01:p=0\/p=1:=(by have C:¬ p=3:=(by simpa using t1);unfold bN at hp;simp only [Bool.or_eq_true,beq_iff_eq] at hp;omega);rw [t1] at A;cases t2:(cQ s 60 4==0) with
   | true =>rw [t2] at A;refine aN R1.eng {eq:=[(15,af t1),(19,af t2)],ov:=[(12,L)],cv:=[(18,jb R1.below λX _=>HB 60 4 ab ab X)]} 60 h0 HC ?_;rintro X1 e X2 B ⟨E,c,rfl,f⟩;refine ⟨_,0,rfl,λ_=>B.below f.2,?_⟩;exact yo R1.ez (B.below f.2) {} 40 λX3 y d M=>⟨.tuple #[.u va,.slice E n c],ih,Lu (by subst A;rfl) (by subst A;rfl) (by subst A;rfl) (gT.dw (gT.low f B.2) d)⟩
   | false =>
     rw [t2,if_neg a6] at A;cases t3:(av 39 va != va) with
     | true =>rw [t3,if_pos rfl] at A;refine rM R1.eng {eq:=[(15,af t1),(19,af t2),(31,af t3)],ov:=[(12,L)],cv:=[(18,jb R1.below λX _=>HB 60 4 ab ab X),(28,jb R1.below λX _=>HW X)]} 60 h0 (λX _=>j6 (some ⟨g,0,none⟩) n u (some ⟨b,a,none⟩) z p va k J K X) λX1 e X2 B q=>.inl (G A q.1 (aa B.2 q.2))
     | false =>
       rw [t3,if_neg a6] at A;have Rl:((2:Nat):Int)=2:=rfl;refine rM R1.eng {eq:=[(15,af t1),(19,af t2),(31,af t3),(36,cZ .u64 FT)],ov:=[(12,L)],cv:=[(18,jb R1.below λX _=>HB 60 4 ab ab X),(28,jb R1.below λX _=>HW X),(35,jb R1.below λX _=>HB 0 44 ab ab X)]} 60 h0 (λX hX=>sM g n u zs b a z l p va k (nN l) 2 ab X (wb hX)) λX1 e X2 B q=>?_;obtain ⟨rfl,b2⟩:=q;have C:=B.below b2;rcases xN zs n l p va k (nN l) 2 with ⟨D,P⟩ | ⟨D,P⟩ | ⟨D,N,o⟩;·exact .inl (Q (A.trans P) D C.2)
       ·exact .inl (G (A.trans P) D C.2)
       rw [D];refine .inr ⟨_,0,rfl,fi a4,?_⟩;have o:=A.trans o;have F:=Lr zs W.hw (bD (nN l) va 2);generalize fF zs (bD (nN l) va 2)=e0 at o F ⊢;generalize bD (nN l) va 2=x0 at o N ⊢;refine aP (R:=[]) trivial {} 20 ?_;refine jc (λx:Nat × Int × Int=>[(1,.p w.heap.size 0,1),(6,.i (x.1:Nat),0),(7,.u x.2.1,0),(8,.u x.2.2,0)]) (λj x X=>x.1=j/\j<=2/\U x.2.2/\gU n x.2.1 8=true/\V=B9 zs n l p va k x.2.2 x.2.1 x.1/\R1 w w.heap.size (wcs g n u b a z p va k) 136 X) 2 (2,x0,e0) a4 a4 ⟨rfl,Nat.le_refl _,F,N,o,C⟩ ?_;clear o F N C D A;rintro _ ⟨O,x,e⟩ X ⟨rfl,hlv,F,N,o,hX⟩ T hT;dsimp only at hlv F N o hX ⊢;have H:=λY=>(Ej e F Y).mono λr w' h=>(⟨h.1,ti⟩:r=.returned (.bool (!mm e))/\Bw Y w');cases tp:mm e with
       | true =>
         rw [tp] at H;unfold B9 at o;rw [if_pos tp] at o;refine rM R1.eng {cv:=[(45,jb R1.below λY _=>H Y)]} 60 hX (λY _=>B6 g n u b a z p va k e O F J K Y) λX1 r X2 B q=>?_;obtain ⟨q,b2⟩:=q;have C:=B.below b2;unfold N5 at q;cases ts:kG e O with
         | true =>rw [if_pos ts] at o q;exact .inl (G o q C.2)
         | false =>
           rw [if_neg (by rw [ts];decide)] at o q;obtain ⟨m,rfl⟩:∃ m,O=m+1:=by
            cases O with
            | zero=>cases ts
            | succ m=>exact ⟨m,rfl⟩
           have hm:IntKind.i64.wrap (((m+1:Nat):Int)-1)=((m:Nat):Int):=d6;rw [Nat.add_sub_cancel] at o;generalize Uz.wrap (eZ e*4096)=t at o q;refine .inr ⟨_,0,q,fi a4,?_⟩;refine rM R1.eng {eq:=[(52,cZ .i64 hm)]} 60 C (λY hY=>sM g n u zs b a z l p va k t m ab Y (wb hY)) λX3 r X4 I q=>?_;obtain ⟨rfl,b4⟩:=q;have h4:=I.below b4;rcases xN zs n l p va k t m with ⟨D,P⟩ | ⟨D,P⟩ | ⟨D,N,hv2⟩;·exact .inl (Q (o.trans P) D h4.2)
           ·exact .inl (G (o.trans P) D h4.2)
           rw [D];refine .inr ⟨_,0,rfl,fi a4,?_⟩;exact fx (R:=[]) trivial {} 60 λy hy=>hT y X4 m (m,bD t va m,fF zs (bD t va m)) ab (hy.less a4) ⟨rfl,ab,Lr zs W.hw _,N,o.trans hv2,h4⟩
       | false =>
         rw [tp] at H;unfold B9 at o;rw [if_neg (by rw [tp];decide)] at o;refine rM R1.eng {cv:=[(45,jb R1.below λY _=>H Y)]} 60 hX (λY hY=>wM g n u zs b a z l p va k e O hlv F hp01 Y (wb hY)) λX1 r X2 B q=>?_;obtain ⟨q,b2⟩:=q;have C:=B.below b2;unfold N6 at q;cases tc:(m9 e O||hZ l k e||ic l p k e) with
         | true =>rw [if_pos tc] at q;exact .inl (G (o.trans (Oa tc)) q C.2)
         | false =>
           rw [if_neg (by rw [tc];decide)] at q;obtain ⟨ho,hlf⟩:=Ob (va:=va) (x:=x) tc;rw [hlf] at o;refine .inr ⟨_,0,q,fi a4,?_⟩;have HP:=λY=>N7 g n u b a z p va k e O hlv F W.hva ho Y;generalize gP e va O=ad at o HP;have HM:∀ Y,R1 w w.heap.size (wcs g n u b a z p va k) 136 Y->Calls prog 160 #[.agg (wcs g n u b a z p va k),.u x,.u e] Y λr Z=>(∃ c,r=.panicked c/\Ja V zs n w r Z)\/∃ (E:Option Addr) (c:Nat) (ms:List Int),r=.returned (.slice E n c)/\(V.code=0/\V.addr=ad/\bo zs V=ms)/\gT Y Z ms E n c:=λY hY=>by
            cases tm:(cN e k != e) with
            | false =>rw [if_neg (by rw [tm];decide)] at o;exact (IC g n u zs b a z l p va k e x F tm Y (wb hY)).mono λr Z ⟨E,c,D,f⟩=>.inr ⟨E,c,zs,D,by subst o;exact ⟨rfl,rfl,rfl⟩,f⟩
            | true =>
              rw [if_pos tm] at o;refine (Ek g n u zs b a z l p va k e x F N tm Y (wb hY)).mono λr Z h=>?_;unfold N8 at h;cases tr:aE l 1 x (bm x 8) 3 4 0 with
              | true =>rw [if_pos tr] at h o;obtain ⟨E,c,D,f⟩:=h;exact .inr ⟨E,c,_,D,by subst o;exact ⟨rfl,rfl,rfl⟩,f⟩
              | false =>rw [if_neg (by rw [tr];decide)] at h o;exact .inl (Q o h.1 (aa hY.2 h.2))
           refine rM R1.eng {cv:=[(67,jb R1.below λY _=>HP Y)]} 60 C HM λX3 r X4 I q=>?_;rcases q with q | ⟨E,c,ms,rfl,⟨v1,v2,v3⟩,f⟩;·exact .inl q
           refine .inr ⟨_,0,rfl,λ_=>I.below f.2,?_⟩;exact yo R1.ez (I.below f.2) {} 40 λX5 y d M=>⟨.tuple #[.u ad,.slice E n c],by rw [results_tmp2 rfl,M.slot (v:=.u ad) a4,M.slot (v:=.slice E n c) a4],Lu v1 v2 v3 (gT.dw (gT.low f I.2) d)⟩
theorem El:CE 109 #[.iface 189 (.i T)] I (.i T):=by
 have d:∀ (T:Int) (I:World),(Instr.typeAssert (.iface 189 (.i T)) 20 189 false).run prog I=.ok (.i T) I:=λT I=>a4
 go_enter func109,ntmps109;exact a01
theorem Em (p q r s:Addr) (w:World):CallsD prog 108 #[.pointer (some p),.pointer (some q),.pointer (some r),.pointer (some s)] .returning w λe f g=>e=.returned (.tuple #[])/\f=.returning/\g=w:=by
 have c:∀ w,(binOp .neq 20 .nilIface .nilIface).run prog w=.ok (.bool false) w:=λw=>a4
 refine callsD_of_wpS func108 rfl λb cs d=>?_;apply wpS_seq;apply wpS_region;simp [wpOpsS,go_sem,recoverD,d,ntmps108,Exit.thenS];refine wpS_of_wp ?_;go_wp2_with fail;cases b;simp_all [bodyPostS,results,results108]
structure RL (w:World) (B g n rc:Nat):Prop where
 r0:w.heap[B]?=some (.cells #[.slice (some ⟨g,0,none⟩) n rc] 24 (0,0))
 r1:∃ v,w.heap[B+1]?=some (.cells #[v] 22 (0,0))
 r2:∃ v,w.heap[B+1+1]?=some (.cells #[v] 2 (0,0))
 r3:∃ v,w.heap[B+1+1+1]?=some (.cells #[v] 24 (0,0))
theorem tl (g n p:Nat) (zs:List Int) (c:Int) (d:List PanicEntry) (w:World) (hF:RL w R g n p) (hz:zs.length=n) (y:1<=n) (hn:n<=1048576) (hs:Sl .u8 w (some ⟨g,0,none⟩) zs): CallsD prog 108 #[.p R 0,.p (R+1) 0,.p (R+1+1) 0,.p (R+1+1+1) 0] (.panicking ({v:=.iface 189 (.i c),recovered:=false}::d)) w λe O l => e=.returned (.tuple #[])/\O=.panicking ({v:=.iface 189 (.i c),recovered:=true}::d)/\∃ (q:World) (f:Option Addr) (j:Nat),gT w q zs f n j/\l=((q.setCell ⟨R+1,0,none⟩ (.u 0)).setCell ⟨R+1+1,0,none⟩ (.i c)).setCell ⟨R+1+1+1,0,none⟩ (.slice f n j):=by
 have M:∀ (v:Value) (w:World),(binOp .neq 20 (.iface 189 v) .nilIface).run prog w=.ok (.bool true) w:=λv w=>a4
 obtain ⟨F,⟨P,G⟩,⟨Q,H⟩,⟨B,I⟩⟩:=hF
 have Y:w.cell? ⟨R,0,none⟩=some (.slice (some ⟨g,0,none⟩) n p):=by simp [World.cell?,F]
 have s:Hid (∀ l,Bw w l->Calls prog 49 #[.slice (some ⟨g,0,none⟩) n p] l λr b=>∃ (f:Option Addr) (j:Nat),r=.returned (.slice f n j)/\Hid (gT w b zs f n j) /\
  (b.cell? ⟨R+1,0,none⟩=some P/\b.frozen? ⟨R+1,0,none⟩=false)/\(b.cell? ⟨R+1+1,0,none⟩=some Q/\b.frozen? ⟨R+1+1,0,none⟩=false)/\(b.cell? ⟨R+1+1+1,0,none⟩=some B/\b.frozen? ⟨R+1+1+1,0,none⟩=false)):=λl m=>(pN g n p zs l hz y hn (hs.below m)).mono λr b ⟨f,j,K,L,o⟩=>by
  have C:=ge (aa m o) G
  have D:=ge (aa m o) H
  have E:=ge (aa m o) I
  exact ⟨f,j,K,⟨dG L m.size,aa m o⟩,⟨by simp [World.cell?,C],by simp [World.frozen?,C]⟩,⟨by simp [World.cell?,D],by simp [World.frozen?,D]⟩,⟨by simp [World.cell?,E],by simp [World.frozen?,E]⟩⟩
 have t:Hid (∀ w,CE 109 #[.iface 189 (.i c)] w (.i c)):=El c
 have J:Bw w w.drew:=(Below.refl _ _).drew
 clear F G H I hz hn hs
 refine callsD_of_wpS func108 rfl λA cs N=>?_
 apply wpS_seq
 apply wpS_region
 simp [wpOpsS,go_sem,recoverD,N,ntmps108,Exit.thenS]
 refine wpS_of_wp ?_
 go_wp2_with fail
 ·go_region_with (first | (go_at_call 109;with_reducible refine (t.out _).mono ?_;rintro e Z ⟨rfl,z⟩;subst z) | (go_at_call 49;with_reducible refine (s.out _ J).mono ?_;rintro e q ⟨f,j,rfl,u,⟨V,S⟩,⟨W,T⟩,⟨X,U⟩⟩))
  all_goals exact ⟨rfl,_,rfl,_,results_none rfl _ _ _,rfl,rfl,q,f,j,u.out,rfl⟩
theorem ma (h:n.ownsRow l j 1 (.slice y b B) b s) (p:Addr) (v:Value) (t:p.block<l):(n.setCell p v).ownsRow l j 1 (.slice y b B) b s:=by
 refine ⟨h.1,?_⟩;rcases h.2 with d|⟨g,cap,base,e,d,f,i⟩;·exact .inl d
 ·exact .inr ⟨g,cap,base,e,d,(Below.heap_setCell n p v g ab).trans f,i⟩
theorem Ly:I.ownsRow K 5 1 (.slice none 0 0) 0 (([]:List Int).map (Value.int .u8)):=⟨rfl,.inl ⟨rfl,rfl⟩⟩
theorem Lz {o1 o2 o3 o4:Obj} (hb:Below ((((n.alloc o1).alloc o2).alloc o3).alloc o4).heap.size ((((n.alloc o1).alloc o2).alloc o3).alloc o4) k): k.heap[n.heap.size]?=some o1/\k.heap[n.heap.size+1]?=some o2/\k.heap[n.heap.size+1+1]?=some o3/\k.heap[n.heap.size+1+1+1]?=some o4:=by
 have a:=heap_alloc_new (n.alloc o1) o2
 have b:=heap_alloc_new ((n.alloc o1).alloc o2) o3
 have c:=heap_alloc_new (((n.alloc o1).alloc o2).alloc o3) o4
 rw [World.size_alloc] at a
 rw [World.size_alloc,World.size_alloc] at b
 rw [World.size_alloc,World.size_alloc,World.size_alloc] at c
 exact ⟨ge hb ((Below.heap_alloc _ _ _ bv).trans ((Below.heap_alloc _ _ _ bv).trans ((Below.heap_alloc _ _ _ bv).trans (heap_alloc_new n o1)))),
  ge hb ((Below.heap_alloc _ _ _ bv).trans ((Below.heap_alloc _ _ _ bv).trans a)),ge hb ((Below.heap_alloc _ _ _ bv).trans b),ge hb c⟩
theorem lH (h:n.heap[l]?=some (.cells #[m] j (0,0))):n.cell? ⟨l,0,none⟩=some m/\n.frozen? ⟨l,0,none⟩=false:=⟨by simp [World.cell?,h],by simp [World.frozen?,h]⟩
theorem Ca (p va kind:Int) (w:World) (hn:R<=1048576) (s:Q.length=K) (hl:Sl .u64 w G Q) (r:∀ j,U (Q.getD j 0)) (t:nn R K Q p kind=false): CB 50 #[.slice J R o,.slice G K N,.i p,.u va,.i kind] w (.tuple #[.u 0,.i (if ji kind=true then dz kind else 1),.slice none 0 0]):=by
 have HR:Hid (∀ w,CE 79 #[.slice J R o] w (.bool (bq R))):=λw=>fh J R o w hn;have cap:Hid (∀ f,Bw w f->CB 78 #[.slice G K N,.i p] f (.bool (be K Q p))):=λf V=>fp G K N Q p f s (hl.below V) r;have P:Hid (∀ w,CE 106 #[.i kind] w (.bool (ji kind))):=λw=>by have:=lF kind w;rw [qC] at this;exact this
 have C:Hid (∀ w,CE 107 #[.i kind] w (.i (if ji kind=true then dz kind else 1))):=λw=>by
  have:=oH kind w;have e:B5 kind=if ji kind=true then dz kind else 1:=by
   by_cases h:1<=kind/\kind<=3;·rw [F6 kind h.1 h.2,if_pos (by unfold ji;simpa using h)]
   ·rw [Lo kind h,if_neg (by unfold ji;simpa using h)]
  rw [e] at this;exact this
 have D:(bq R&&be K Q p&&ji kind)=false:=t;generalize (if ji kind=true then dz kind else 1)=fk at *;generalize ji kind=X at *;generalize bq R=Z at *;generalize be K Q p=Y at *;clear hl s hn t r;have g:∀ H I ra m,Bw w ((((w.alloc H).alloc I).alloc ra).alloc m):=λH I ra m=>((((Below.refl _ _).alloc (Nat.le_refl _) H).alloc bc I).alloc a8 ra).alloc a8 m;cases Z with
 | false =>go_enter_defers func50,ntmps50;go_wp2_with fail;refine (HR.out _).mono ?_;rintro e M ⟨rfl,d⟩;subst d;go_wp2_with fail;refine (C.out _).mono ?_;rintro e M ⟨rfl,d⟩;subst d;go_wp2_with fail;refine ⟨_,?_,rfl,g _ _ _ _⟩;simp [results,results50,go_sem]
 | true =>
   cases Y with
   | false =>go_enter_defers func50,ntmps50;go_wp2_with fail;refine (HR.out _).mono ?_;rintro e M ⟨rfl,d⟩;subst d;go_wp2_with fail;refine (cap.out _ (g _ _ _ _)).mono ?_;rintro e w2 ⟨rfl,c⟩;obtain ⟨u,y,z,A⟩:=Lz c;have q:=iy (aa (g _ _ _ _) c);obtain ⟨W,l⟩:=lH u;obtain ⟨E,n⟩:=lH y;obtain ⟨F,S⟩:=lH z;obtain ⟨B,T⟩:=lH A;clear u y z A c;go_wp2_with fail;refine (C.out _).mono ?_;rintro e O ⟨rfl,rcap⟩;have b:=rcap.symm;subst b;go_wp2_with fail;refine ⟨_,?_,rfl,((q.out.setCell bc _).setCell a8 _).setCell a8 _⟩;simp [results,results50,go_sem,E,F,B]
   | true =>
     cases X with
     | false =>go_enter_defers func50,ntmps50;go_wp2_with fail;refine (HR.out _).mono ?_;rintro e M ⟨rfl,d⟩;subst d;go_wp2_with fail;refine (cap.out _ (g _ _ _ _)).mono ?_;rintro e w2 ⟨rfl,c⟩;obtain ⟨u,y,z,A⟩:=Lz c;have q:=iy (aa (g _ _ _ _) c);obtain ⟨W,l⟩:=lH u;obtain ⟨E,n⟩:=lH y;obtain ⟨F,S⟩:=lH z;obtain ⟨B,T⟩:=lH A;clear u y z A c;go_wp2_with fail;refine (P.out _).mono ?_;rintro e O ⟨rfl,rcap⟩;have b:=rcap.symm;subst b;go_wp2_with fail;refine (C.out _).mono ?_;rintro e O ⟨rfl,rcap⟩;have b:=rcap.symm;subst b;go_wp2_with fail;refine ⟨_,?_,rfl,((q.out.setCell bc _).setCell a8 _).setCell a8 _⟩;simp [results,results50,go_sem,E,F,B]
     | true=>cases D
theorem F7 (x:Int) (lv:Nat):(db S T X Y Z x lv).code=0\/((db S T X Y Z x lv).addr=0/\(db S T X Y Z x lv).marked=false):=by
 unfold db;split;·exact .inr ⟨rfl,rfl⟩
 ·split;·exact .inr ⟨rfl,rfl⟩
  ·split;·exact .inr ⟨rfl,rfl⟩
   ·split
    ·split;·exact .inl rfl
     ·exact .inr ⟨rfl,rfl⟩
    ·exact .inl rfl
theorem LA:∀ (a:Nat) (T:Int),(bJ S R D X Y Z a T).code=0\/((bJ S R D X Y Z a T).addr=0/\(bJ S R D X Y Z a T).marked=false):=by
 intro a;induction a with
 | zero =>
   intro T;rw [bJ];split
   ·split
    ·split;·exact .inr ⟨rfl,rfl⟩
     ·split;·exact .inr ⟨rfl,rfl⟩
      ·exact F7 _ _ _ _ _ _ _
    ·exact .inr ⟨rfl,rfl⟩
   ·exact .inr ⟨rfl,rfl⟩
 | succ a b =>
   intro T;rw [bJ];split
   ·split
    ·split;·exact .inr ⟨rfl,rfl⟩
     ·split
      ·split;·exact .inr ⟨rfl,rfl⟩
       ·exact b _
      ·exact F7 _ _ _ _ _ _ _
    ·exact .inr ⟨rfl,rfl⟩
   ·exact .inr ⟨rfl,rfl⟩
theorem Oc (h:¬ (bT S R D X Y Z).code=0):(bT S R D X Y Z).addr=0/\bo S (bT S R D X Y Z)=S:=by
 have a:(bT S R D X Y Z).code=0\/((bT S R D X Y Z).addr=0/\(bT S R D X Y Z).marked=false):=by
  unfold bT;split;·exact .inl rfl
  ·split;·exact .inr ⟨rfl,rfl⟩
   ·exact LA _ _ _ _ _ _ _ _
 rcases a with a|⟨a,b⟩;·exact absurd a h
 ·exact ⟨a,by unfold bo;rw [b];rfl⟩
theorem sO (v:Value) (h:n.cell? F=some m):(n.setCell F v).cell? F=some v:=World.cell?_setCell_same n F v h
theorem mz {p:Addr} (v:Value) (h:n.cell? F=some m) (a:p.block≠F.block):(n.setCell p v).cell? F=some m:=by rw [World.cell?_setCell_other n p F v (λe=>a (by rw [e]))];exact h
theorem zE (j cap:Nat) (l:List Int) (p va kind:Int) (w:World) (W:Wk w R o C D K j cap l p va kind): Calls prog 50 #[.slice (some ⟨R,0,none⟩) o C,.slice (some ⟨K,j,none⟩) 22 cap,.i p,.u va,.i kind] w λe m=>∃ (d:Option Addr) (c:Nat),e=.returned (.tuple #[.u (bT D o l p va kind).addr,.i (bT D o l p va kind).code,.slice d o c]) /\ m.ownsRow w.heap.size 5 1 (.slice d o c) o ((bo D (bT D o l p va kind)).map (Value.int .u8))/\Bw w m:=by
 have hbd:=gu W.hr;have HW:=iy W;have HR:Hid (∀ w,CE 79 #[.slice (some ⟨R,0,none⟩) o C] w (.bool true)):=λw=>by have:=fh (some ⟨R,0,none⟩) o C w ab;rw [W.hr] at this;exact this
 have HG:Hid (∀ m,Bw w m->CB 78 #[.slice (some ⟨K,j,none⟩) 22 cap,.i p] m (.bool true)):=λm U=>by have:=fp (some ⟨K,j,none⟩) 22 cap l p m W.hlz (W.hl.below U) W.hU;rw [W.hg] at this;exact this
 have HK:Hid (∀ w,CE 106 #[.i kind] w (.bool true)):=λw=>by have:=lF kind w;rw [qC,decide_eq_true ⟨W.hk1,W.hk3⟩] at this;exact this
 have Q:Hid (∀ m,Bw w m->Calls prog 110 #[.agg #[.slice (some ⟨R,0,none⟩) o C,.slice (some ⟨K,j,none⟩) 22 cap,.i p,.u va,.i kind]] m λr zs=>Ja (bT D o l p va kind) D o m r zs):=λm U=>Lx R o C D K j cap l p va kind m (W.below U);have G:∀ B rcap b L,Bw w ((((w.alloc B).alloc rcap).alloc b).alloc L):=λB rcap b L=>((((Below.refl _ _).alloc (Nat.le_refl _) B).alloc bc rcap).alloc a8 b).alloc a8 L;have hmf:∀ (fn:Fn) (s cap:Array Value) (w:World),(Instr.makeFunc fn s cap).run prog w=.ok (.func fn s cap) w:=λ_ _ _ _=>rfl;have S:=iy (Oc D o l p va kind);generalize bT D o l p va kind=V at *;clear W;go_enter_defers func50,ntmps50;go_wp2_with fail;refine (HR.out _).mono ?_;rintro e w1 ⟨rfl,X⟩;subst X;go_wp2_with fail;refine (HG.out _ (G _ _ _ _)).mono ?_;rintro e w2 ⟨rfl,A⟩;obtain ⟨q0,q1,q2,q3⟩:=Lz A;have Q0:=iy q0;have Q1:=iy q1;have Q2:=iy q2;have M:=iy q3;have F:=iy (aa (G _ _ _ _) A);obtain ⟨j0,f0⟩:=lH q0;clear q0 q1 q2 q3 A;go_wp2_with fail;refine (HK.out _).mono ?_;rintro e w3 ⟨rfl,Y⟩;have J:=Y.symm;subst J;have u:=iy (F.out.alloc F.out.size (.cells #[.slice (some ⟨R,0,none⟩) o C,.slice (some ⟨K,j,none⟩) 22 cap,.i p,.u va,.i kind] 136));go_wp2_with fail;refine (Q.out _ u.out).mono ?_;rintro r O I;unfold Ja at I;by_cases N:V.code=0
 ·rw [if_pos N] at I;obtain ⟨d,c,rfl,E⟩:=I;have FR:=iy E;have FS:=iy E.2.size;obtain ⟨Z,f1⟩:=lH (ge E.2 (om Q1.out _));obtain ⟨j2,f2⟩:=lH (ge E.2 (om Q2.out _));obtain ⟨j3,f3⟩:=lH (ge E.2 (om M.out _));clear E j0 f0;obtain ⟨n,z⟩:∃ n,V.addr=n:=⟨_,rfl⟩;rw [z];have P:=iy z;clear z;go_wp2_with fail;go_region;go_wp2_with fail;refine leaves_cons (f:=108) (args:=#[.p w.heap.size 0,.p (w.heap.size+1) 0,.p (w.heap.size+1+1) 0,.p (w.heap.size+1+1+1) 0]) bc (by simp [go_sem]) ?_;refine (Em _ _ _ _ _).mono ?_;rintro e u' w9 ⟨rfl,rfl,rfl⟩;have H:w.heap.size+1+1+1<(w2.alloc (.cells #[.slice (some ⟨R,0,none⟩) o C,.slice (some ⟨K,j,none⟩) 22 cap,.i p,.u va,.i kind] 136)).heap.size:=(by have:=(Array.getElem?_eq_some_iff.1 M.out).1;rw [World.size_alloc];omega);have t1:=mz (p:=⟨w.heap.size+1+1+1,0,none⟩) (.slice d o c) (mz (p:=⟨w.heap.size+1+1,0,none⟩) (.i 0) (sO (.u n) (mz (p:=⟨w.heap.size+1+1+1,0,none⟩) (.slice d o c) (sO (.u n) Z) a9)) a9) a9;have t2:=mz (p:=⟨w.heap.size+1+1+1,0,none⟩) (.slice d o c) (sO (.i 0) (mz (p:=⟨w.heap.size+1,0,none⟩) (.u n) (mz (p:=⟨w.heap.size+1+1+1,0,none⟩) (.slice d o c) (mz (p:=⟨w.heap.size+1,0,none⟩) (.u n) j2 a9) a9) a9)) a9;have t3:=sO (.slice d o c) (mz (p:=⟨w.heap.size+1+1,0,none⟩) (.i 0) (mz (p:=⟨w.heap.size+1,0,none⟩) (.u n) (sO (.slice d o c) (mz (p:=⟨w.heap.size+1,0,none⟩) (.u n) j3 a9)) a9) a9);refine ⟨.tuple #[.u n,.i 0,.slice d o c],?_,d,c,by rw [N,P.out],?_,?_⟩;·generalize (((((O.setCell ⟨w.heap.size+1,0,none⟩ (.u n)).setCell ⟨w.heap.size+1+1+1,0,none⟩ (.slice d o c)).setCell ⟨w.heap.size+1,0,none⟩ (.u n)).setCell ⟨w.heap.size+1+1,0,none⟩ (.i 0)).setCell ⟨w.heap.size+1+1+1,0,none⟩ (.slice d o c))=W9 at *;simp [results,results50,go_sem,t1,t2,t3]
  ·have B:=ma FR.out.1 ⟨w.heap.size+1,0,none⟩ (.u n) (by show w.heap.size+1<_;omega);have rcap:=ma B ⟨w.heap.size+1+1+1,0,none⟩ (.slice d o c) H;have b:=ma rcap ⟨w.heap.size+1,0,none⟩ (.u n) (by show w.heap.size+1<_;omega);have L:=ma b ⟨w.heap.size+1+1,0,none⟩ (.i 0) (by show w.heap.size+1+1<_;omega);have o5:=ma L ⟨w.heap.size+1+1+1,0,none⟩ (.slice d o c) H;exact du (dG o5 u.out.size) (Below.refl _ _).drew
  ·exact ((((((aa u.out FR.out.2).setCell bc _).setCell a8 _).setCell bc _).setCell a8 _).setCell a8 _).drew
 ·rw [if_neg N] at I;obtain ⟨rfl,q⟩:=I;have y:=iy (aa u.out q);have HF:Hid (RL O w.heap.size R o C):=⟨ge q (om Q0.out _),⟨_,ge q (om Q1.out _)⟩,⟨_,ge q (om Q2.out _)⟩,⟨_,ge q (om M.out _)⟩⟩;have g:=iy (show w.heap.size+1+1+1<O.heap.size from (Array.getElem?_eq_some_iff.1 (ge q (om M.out (.cells #[.slice (some ⟨R,0,none⟩) o C,.slice (some ⟨K,j,none⟩) 22 cap,.i p,.u va,.i kind] 136)))).1);refine leaves_cons (f:=108) (args:=#[.p w.heap.size 0,.p (w.heap.size+1) 0,.p (w.heap.size+1+1) 0,.p (w.heap.size+1+1+1) 0]) bc (by simp [go_sem]) ?_;refine (tl w.heap.size R o C D V.code [] O HF.out HW.out.hz ab ab (HW.out.hs.below y.out)).mono ?_;rintro e u' w9 ⟨rfl,rfl,w8,d,T,t,rfl⟩;obtain ⟨_,⟨v1,r1⟩,⟨v2,r2⟩,⟨v3,r3⟩⟩:=HF.out;obtain ⟨Z,_⟩:=lH (ge t.2 r1);obtain ⟨j2,_⟩:=lH (ge t.2 r2);obtain ⟨j3,_⟩:=lH (ge t.2 r3);obtain ⟨h1,h2⟩:=S.out N;rw [h1,h2];refine ⟨.tuple #[.u 0,.i V.code,.slice d o T],?_,d,T,rfl,?_,?_⟩;·simp [results,results50,go_sem,Z,j2,j3]
  ·have B:=ma t.1 ⟨w.heap.size+1,0,none⟩ (.u 0) (by have:=g.out;simp;omega);have rcap:=ma B ⟨w.heap.size+1+1,0,none⟩ (.i V.code) (by have:=g.out;simp;omega);exact dG (ma rcap ⟨w.heap.size+1+1+1,0,none⟩ (.slice d o T) g.out) y.out.size
  ·exact (((aa y.out t.2).setCell bc _).setCell a8 _).setCell a8 _
def vu (n:Nat) (a:Option Addr) (c:Nat):Prop:=(∀ b d,a=some ⟨b,d,none⟩->d=0)/\n<=c/\c<=maxLen
theorem Cb {c:Nat} {a:Option Addr} (h:w.ownsRow l j 1 (.slice a b c) b s):vu b a c:=by
 rcases h.2 with ⟨d,base⟩|⟨g,cap,i,d,_,_,t,k,_⟩
 ·injection d with e1 e2 e3
  subst e1 e3;exact ⟨λn f e=>(nomatch e),ab,Nat.zero_le _⟩
 ·injection d with e1 e2 e3
  subst e1 e3;exact ⟨λn f e=>by cases e;rfl,t,k⟩
theorem qL (w:World) (hz:D.length=R) (hn:R<=1048576) (hs:Sl .u8 w J D) (A:∀ y ∈ D,(Lit.int .u8 y).wf=true) (k:Q.length=K) (hl:Sl .u64 w G Q) (f:∀ j,U (Q.getD j 0)) (z:U Y) (F:ou w) (t:vu R J o): Calls prog 50 #[.slice J R o,.slice G K N,.i X,.u Y,.i Z] w λe s=>∃ (zs:Option Addr) (c:Nat),e=.returned (.tuple #[.u (Fg D R K Q X Y Z),.i (Fh D R K Q X Y Z),.slice zs (uU D R K Q X Y Z).length c]) /\ s.ownsRow w.heap.size 5 1 (.slice zs (uU D R K Q X Y Z).length c) (uU D R K Q X Y Z).length ((uU D R K Q X Y Z).map (Value.int .u8))/\Bw w s:=by
 unfold Fg Fh uU;cases q:nn R K Q X Z with
 | false =>simp only [Bool.false_eq_true,if_false];exact (Ca J R o G K N Q X Y Z w hn k hl f q).mono λe s h=>⟨none,0,h.1,Ly s _,h.2⟩
 | true =>simp only [if_true];rw [kj,hz];have a:(bq R&&be K Q X&&ji Z)=true:=q;simp only [Bool.and_eq_true] at a;obtain ⟨⟨E,i⟩,u⟩:=a;have d:1<=Z/\Z<=3:=(by simpa [ji] using u);obtain ⟨rfl,I⟩:=gF i;have B:=gu E;obtain ⟨b,C,rfl,_,_⟩:=hl 0 ab;obtain ⟨g,rcap,rfl,_,_⟩:=hs 0 ab;obtain ⟨v,x,r⟩:=t;have H:=v g rcap rfl;subst H;exact zE g R o D b C N Q X Y Z w ⟨hz,E,hs,A,x,by unfold maxLen at r;omega,k,hl,f,i,z,d.1,d.2,F⟩
theorem Cc:CE 106 #[.i T] I (.bool (decide (1<=T/\T<=3))):=qC T ▸ lF T I
theorem Od:(prog.info? 195).map (·.size)=some 9:=by kernel_rfl
theorem wO:CB 162 #[] I (.agg #[.i 3,.i 4,.i 6,.i 7,.i 8,.i 3,.i 7,.i 11,.i 2]):=by go_enter func162,ntmps162;go_wp2_with fail;exact bodyPost_ret (results_cell_row results162 _ _ _ _ _ _ _ rfl (heap_alloc_new _ _) underlying195 rfl Od) rfl ⟨rfl,bal _ _⟩
theorem LC (h:U T) (w:World):CB 274 #[.agg #[.i 3,.i 4,.i 6,.i 7,.i 8,.i 3,.i 7,.i 11,.i 2],.u T] w (.i (wrap64 (cQ T 11 2))):=by have d:Hid (∀ w,Calls prog 76 #[.u T,.i 11,.i 2] w λe c=>e=.returned (.u (cQ T 11 2))/\c=w.drew):=λw=>bA T 11 2 h.1 h.2 ab ab w;clear h;generalize cQ T 11 2=y at *;go_enter func274,ntmps274;go_wp2_with fail;refine (d.out _).mono ?_;rintro e f ⟨rfl,b⟩;subst b;go_wp2_with fail;go_ret;exact ⟨rfl,(bal _ _).drew⟩
theorem mc (w:World) (hz:D.length=R) (hs:Sl .u64 w J D) (hl:∀ j,U (D.getD j 0)): CB 256 #[.slice J R o,.i X,.i Y] w (.i (JU R D X Y)):=by
 have d:=λW (i:Bw w W)=>fp J R o D X W hz (hs.below i) hl;have g:=lF Y;rw [qC] at g;refine bf (S:=Bs w []) (args:=[.slice J R o,.i X,.i Y]) [] func256 ?_;unfold JU;cases c:be R D X;case true =>
  obtain ⟨rfl,s⟩:=gF c;rw [c] at d;obtain ⟨b,k,rfl,i,r⟩:=hs 0 ab;have f:=hl 0;have q:=λW=>LC (D.getD 0 0) f W;have cap:fV D X Y=if ((Y != 1)&&!(bits .and .u64 (D.getD 0 0) 131072==0))=true then wrap64 (cQ (D.getD 0 0) 11 2) else X:=by unfold fV;rw [FU _ f,Ts,Bool.not_not,<- iC (D.getD 0 0) 11 2 f.1 f.2 ab];rfl
  rw [cap];unfold bne;generalize wrap64 (cQ (D.getD 0 0) 11 2)=y at *;generalize D.getD 0 0=x at *;cases u:decide (1<=Y/\Y<=3)<;>cases v:(Y==1)<;>cases z:(bits .and .u64 x 131072==0)<;>rw [u] at g <;>
   exact aU (t:=6) Bs.eng {eq:=[(21,af v),(25,af z)],ov:=[(19,jk ⟨b,k,none⟩ (.u x) underlying22 rfl λW h=>(h.2.cell (by exact i)).trans r)],cv:=[(10,eY d),(14,jX λW _=>g W),(28,eY λW _=>wO W),(30,eY λW _=>q W)]} 60 (Bs.start _ _) (λm h=>⟨rfl,h.2⟩)
 rw [c] at d;exact aU (t:=6) Bs.eng {cv:=[(10,eY d)]} 60 (Bs.start _ _) (λm h=>⟨rfl,h.2⟩)
theorem zF (M:MV) (A:MA) (B r:Nat) (w:World) (a:M.cs.length=22) (hl:iU M) (h:Mp B r M A w):Calls prog 128 #[.p r 0] w λe b=>e=.returned (.tuple #[])/\Mp B r (iA M) A b/\Kx r (aJ M A) (aJ (iA M) A) w b:=by have d:=iY (M:=M) (M':=iA M) (A:=A) rfl (Ip M) rfl rfl rfl;refine (wH M A r B w.heap.size w a hl h.row h.fam h.ne).mono λe b ⟨i,j,k,c⟩=>⟨i,⟨j,k.low (Nat.le_refl _) c.size,?_,h.lo⟩,Kx.of_keepL c d⟩;intro q l e;obtain ⟨m,g,f⟩:=d q l;exact h.ne m g (by rw [f];exact e)
structure SP (M:MV):Prop where
 h22:M.cs.length=22
 U9:U (M.cs.getD 9 0)
 bells:lD M=true
 ok:kP M.d.xs.length M.d.ys.length M.d.ir=true
 ram:bq M.ram.length=true
 len:iU M
 wram:∀ y ∈ M.ram,(Lit.int .u8 y).wf=true
 wd:dp M.d
 hd:U M.hd
theorem Mp.shape (h:Mp B l V d w) (r:0<V.ram.length):∃ g,d.ar=some ⟨g,0,none⟩/\V.ram.length<=d.cr/\d.cr<=9223372036854775807:=by
 have f:=h.fam.own (aw d.ar V.ram.length d.cr V.ram) ck;have A:=Cb (w:=w) (a:=d.ar) (c:=d.cr) f;rcases f.2 with ⟨e,j⟩|⟨b,cap,i,e,_⟩;·have:V.ram.length=0:=j;omega
 ·have k:Value.slice d.ar V.ram.length d.cr=.slice (some ⟨b,0,none⟩) V.ram.length cap:=e;injection k with e3
  exact ⟨b,e3,A.2.1,by have:=A.2.2;unfold maxLen at this;exact this⟩
theorem Qr {A:MA} (a:SP V) (pa size:Int) (c:U pa) (h:Mp B l V A w):CB 208 #[.slice A.ar V.ram.length A.cr,.u pa,.i size] w (.tuple #[.u (mF V.ram V.ram.length pa size),.bool (gU V.ram.length pa size)]):=by obtain ⟨g,b,f,i⟩:=h.shape (Ef a.ram);have d:=h.fam.msl.ram;rw [b] at d;rw [b];exact pS g V.ram.length A.cr V.ram pa size w rfl a.len.ram d a.wram f i c.1 (by have:=c.2;omega)
theorem ID (M:MV) (A:MA) (B r:Nat) (pa size kind x:Int) (w:World) (hm:Mp B r M A w) (d:SP M) (P:jr size=true) (hk:kind=1\/kind=2\/kind=3) (p:U pa) (hx:U x):Calls prog 257 #[.p r 0,.u pa,.i size,.i kind,.u x] w λe a=>e=.returned (.tuple #[.u (BM M pa size kind x).1,.bool (BM M pa size kind x).2.1])/\∃ c,Mp B r (BM M pa size kind x).2.2 c a/\Kx r (aJ M A) (aJ (BM M pa size kind x).2.2 c) w a:=by
 have f:=d.len
 have t:ue M.d pa size=jq M.d (gC pa size):=by unfold ue;rw [d.ok];rfl
 have y:qW M.d pa size x=fL M.d x (gC pa size):=by unfold qW;rw [d.ok];rfl
 have F:=λa (h:Mp B r M A a)=>Qr (A:=A) (w:=a) d pa size p h
 rcases hk with rfl|rfl|rfl
 ·refine (Nu M A B r pa size x _ _ w hm F).mono λe a h=>?_
  unfold BM mF at *
  revert h
  cases gU M.ram.length pa size<;>intro h<;>exact h
 ·obtain ⟨g,i⟩:∃ X,X=if (jq M.d (gC pa size)).2.2=true then ch M (jq M.d (gC pa size)).2.1 else M:=⟨_,rfl⟩
  have s:g.cs.length=22:=by rw [i];split<;>exact d.h22
  have D:iU g:=by
   rw [i]
   have:=KY M.d (gC pa size) f.xs f.ys
   split
   ·exact ⟨f.x,f.cs,f.ram,this.1,this.2⟩
   ·exact f
  have J:∀ a,Mp B r M A a->Calls prog 276 #[.p r 5,.u pa,.i size] a λe b=>e=.returned (.tuple #[.u (jq M.d (gC pa size)).1,.bool (jq M.d (gC pa size)).2.2])/\∃ c,Mp B r g c b/\Kx r (aJ M A) (aJ g c) a b:=λa h=>by
   rw [i]
   refine Nr M A B r pa size _ (jq M.d (gC pa size)).2.1 _ a h (λb k=>?_)
   have l:=th M.d A.ai A.ci A.ao A.co pa size b f.xs f.ys d.wd k.fam.msl.xs k.fam.msl.ys
   rw [t] at l
   exact l
  have z:=λ(c:MA) a (h:Mp B r g c a)=>zF g c B r a s D h
  refine (Nv M A B r pa size x _ _ g (iA g) _ _ w hm F J z).mono λe a h=>?_
  have H:iA g=if (jq M.d (gC pa size)).2.2=true then bL (ch M (jq M.d (gC pa size)).2.1) else M:=by
   rw [i]
   cases m:(jq M.d (gC pa size)).2.2 with
   | true=>rw [if_pos rfl,if_pos rfl];exact oA (FL M.d _ d.ok m)
   | false=>rw [if_neg a6,if_neg a6];rw [oA d.ok];exact rH d.h22 d.U9 d.bells
  rw [H] at h
  have E:(jq M.d (gC pa size)).2.2=false->(jq M.d (gC pa size)).1=0:=Qj M.d _
  unfold BM mF at *
  revert h E
  cases gU M.ram.length pa size<;>cases (jq M.d (gC pa size)).2.2<;>intro h E
  ·rw [E rfl] at h;exact h
  ·exact h
  ·exact h
  ·exact h
 ·obtain ⟨R,j⟩:∃ R,R=ks M.ram M.ram.length pa size x:=⟨_,rfl⟩
  have u:R.length<=1048576:=by rw [j];exact CF _ _ _ _ _ rfl f.ram
  have n:=FD M.d x f.xs (uo d.ok).2.1 (gC pa size)
  have v:=λa (h:Mp B r M A a)=>vU A.ar M.ram.length A.cr M.ram pa size x a rfl f.ram h.fam.msl.ram p.1 (by have:=p.2;omega) hx.1 (by have:=hx.2;omega)
  unfold iR at v
  simp only [<- j] at v
  have L:=λa (h:Mp B r M A a)=>Ns M A B r pa size x (fL M.d x (gC pa size)).1 (fL M.d x (gC pa size)).2 a h (λb k=>by
   have l:=rD M.d A.ai A.ci A.ao A.co pa size x b f.xs f.ys d.wd k.fam.msl.xs k.fam.msl.ys
   rw [y] at l
   exact l)
  have z:∀ (X:MV) (c:MA) a,Mp B r X c a->(X=bG M R\/X=ch M (fL M.d x (gC pa size)).1)->Calls prog 128 #[.p r 0] a λe b=>e=.returned (.tuple #[])/\Mp B r (iA X) c b/\Kx r (aJ X c) (aJ (iA X) c) a b:=λX c a h C=>by
   rcases C with rfl|rfl
   ·exact zF _ c B r a d.h22 ⟨f.x,f.cs,u,f.xs,f.ys⟩ h
   ·exact zF _ c B r a d.h22 ⟨f.x,f.cs,f.ram,n.1,n.2⟩ h
  have I:∀ (X:MV) (c:MA) a,Mp B r X c a->(X=iA (bG M R)\/X=iA (ch M (fL M.d x (gC pa size)).1))->Calls prog 308 #[.p r 0,.u pa] a λe b=>e=.returned (.tuple #[])/\Mp B r (nO X pa) c b/\Kx r (aJ X c) (aJ (nO X pa) c) a b:=λX c a h C=>by
   have O:U X.hd:=by rcases C with rfl|rfl<;>exact d.hd
   exact Ka X c B r pa (lC X pa) a h (NQ X pa p O)
  have K:=λa (h:Mp B r M A a)=>PU M A B r pa size x R (fL M.d x (gC pa size)).1 (gU M.ram.length pa size) (fL M.d x (gC pa size)).2 iA (λX=>nO X pa) a h v L z I
  refine (Nt M _ A B r pa size x _ w hm K).mono λe a h=>?_
  have G:iA (bG M R)=bG M R:=by
   have N:lD (bG M R)=true:=d.bells
   rw [oA (M:=bG M R) d.ok]
   exact rH (M:=bG M R) d.h22 d.U9 N
  have q:(fL M.d x (gC pa size)).2=true->iA (ch M (fL M.d x (gC pa size)).1)=bL (ch M (fL M.d x (gC pa size)).1):=λm=>oA (M:=ch M (fL M.d x (gC pa size)).1) (FQ M.d x pa size d.ok m)
  have o:gU M.ram.length pa size=true->R=lP M.ram (pa-2147483648).toNat x size.toNat:=λm=>by rw [j];unfold ks;rw [m];rfl
  rw [G] at h
  unfold BM
  revert h q o
  cases gU M.ram.length pa size<;>cases (fL M.d x (gC pa size)).2<;>intro h q o
  ·exact h
  ·rw [q rfl] at h;exact h
  ·rw [o rfl] at h;exact h
  ·rw [o rfl] at h;exact h
structure Sa (w:World) (cs:Array Value) (W:World):Prop where
 m:W.heap[w.heap.size]?=some (.cells cs 32 (0,0))
 r:∃ old,old.size=14/\W.heap[w.heap.size+1]?=some (.cells old 32 (0,0))
 b:Bw w W
theorem Sa.below (h:Sa n A k) (hb:Bw k p):Sa n A p :=
 ⟨aB hb h.m,let ⟨o,a,b⟩:=h.r;⟨o,a,aB hb b⟩,aa h.b hb⟩
theorem Sa.out (h:Sa n A k) (d:Array Value) (hd:d.size=14):Sa n A (k.setRow (n.heap.size+1) d):=
 ⟨(setRow_other k _ _ d ab).trans h.m,let ⟨o,b,a⟩:=h.r;⟨d,hd,setRow_heap _ _ o _ _ _ a⟩,aR h.b ab d⟩
theorem Sa.ez:Ez (Sa n A) [⟨n.heap.size,A,[]⟩]:=
 ⟨λW h r a=>by rw [List.mem_singleton] at a;subst a;exact ⟨_,_,h.m⟩,λW h=>h.below (Below.refl _ _).drew⟩
theorem Sa.eng {fn:Func}:oM P (Sa n A) (Sa n A) [⟨n.heap.size,A,[]⟩] true (bodyPost P fn Rs):=⟨λ_ h=>h,Sa.ez.rows,λ_=>Sa.ez.drew,cL⟩
theorem Sa.start {cs:Array Value}:Sa n cs (dZ n [(cs,32),(ap au zeroA,32)]):=by obtain ⟨a,b⟩:=Bs.start n [(cs,32),(ap au zeroA,32)];exact ⟨a 0 _ rfl,⟨_,rfl,a 1 _ rfl⟩,b⟩
theorem Sa.two (h:Sa n A k):n.heap.size+2<=k.heap.size:=by obtain ⟨o,_,a⟩:=h.r;have:=(Array.getElem?_eq_some_iff.1 a).1;omega
structure Sc (w:World) (cs:Array Value) (B r:Nat) (M:MV) (A:MA) (W:World):Prop where
 a:Sa w cs W
 mp:Mp B r M A W
 lo:w.heap.size+2<=B
theorem Sc.below (h:Sc n A B l V d k) (hb:Bw k p):Sc n A B l V d p:=⟨h.a.below hb,h.mp.below hb,h.lo⟩
theorem Sc.out (h:Sc n A B l V d k) (M:Array Value) (hd:M.size=14):Sc n A B l V d (k.setRow (n.heap.size+1) M):=by have a:=h.mp.lo;have f:=h.lo;refine ⟨h.a.out M hd,⟨(setRow_other k _ _ M ab).trans h.mp.row,?_,h.mp.ne,h.mp.lo⟩,h.lo⟩;exact (h.mp.fam.mono λW b c e=>setRow_other k _ _ M ab).low (Nat.le_refl _) (by rw [setRow_size];exact Nat.le_refl _)
theorem Sc.ez:Ez (Sc n A B l V d) [⟨n.heap.size,A,[]⟩,⟨l,ap V d,[]⟩]:=
 ⟨λW h q a=>by
  simp only [List.mem_cons,List.not_mem_nil,or_false] at a
  rcases a with rfl|rfl
  ·exact ⟨_,_,h.a.m⟩
  ·exact ⟨_,_,h.mp.row⟩,λW h=>h.below (Below.refl _ _).drew⟩
theorem Sc.eng {fn:Func}:oM P (Sc n A B l V d) (Sc n A B l V d) [⟨n.heap.size,A,[]⟩,⟨l,ap V d,[]⟩] true (bodyPost P fn Rs):=⟨λ_ h=>h,Sc.ez.rows,λ_=>Sc.ez.drew,cL⟩
theorem aZ.set1 (h:aZ B l n L) (cs:Array Value) (b:g<B):aZ B l (n.setRow g cs) L:=h.mono λk a _ _=>setRow_other n g k cs ab
theorem Dw.fam (h:aZ B l n L) (d:Dw n k):aZ B l k L:=by obtain ⟨j,rfl⟩:=d;exact h.mono λ_ _ _ _=>rfl
theorem Dw.size (d:Dw w n):n.heap.size=w.heap.size:=by obtain ⟨j,rfl⟩:=d;rfl
theorem Sa.dw (h:Sa n A k) (d:Dw k p):Sa n A p:=by obtain ⟨j,rfl⟩:=d;exact ⟨h.m,h.r,⟨h.b.os,h.b.tape,h.b.output,h.b.size,h.b.block⟩⟩
abbrev wP (w:World) (V:Int × MV × Int):Ending->World->Prop:=λe a=>∃ C,e=.returned (.tuple #[.u V.1,.agg (ap V.2.1 C),.i V.2.2])/\aZ w.heap.size a.heap.size a (aJ V.2.1 C)/\Bw w a
theorem Sc.fin {r:World} {U:Int × MV × Int} (h:Sc n A B l V d k) (y:Dw k p) (b:Dw (p.setRow (n.heap.size+1) (ap V d)) r) (M:U=(a,V,x)):wP n U (.returned (.tuple #[.u a,.agg (ap V d),.i x])) r:=by subst M;have f:=(y.fam h.mp.fam).set1 (g:=n.heap.size+1) (ap V d) (by have:=h.lo;omega);have e:=aR (h.a.dw y).b (g:=n.heap.size+1) ab (ap V d);refine ⟨d,rfl,(b.fam f).low (by have:=h.lo;omega) ?_,b.below e⟩;rw [b.size,setRow_size,y.size];exact Nat.le_refl _
theorem zG (M:MV) (A:MA) (addr size kind x:Int) (w:World) (hl:iU M) (hs:tA w M A) (r:MW M) (c:vi M size kind=false):Calls prog 220 #[.func (.func 50) #[] #[],.agg (ap M A),.u addr,.i size,.i kind,.u x] w (wP w (0,au,99)):=by
 have f:=λW (h:Sa w (ap M A) W)=>fO M A W hl (hs.below h.b) r.cs;have g:=λW (_:Sa w (ap M A) W)=>gG size W;have e:=λW (_:Sa w (ap M A) W)=>Cc kind W;unfold vi at c;generalize gE M=i at *;generalize jr size=j at *;generalize decide (1<=kind/\kind<=3)=k at *;generalize n:(kind==1)=l at *;generalize q:(size != 4)=m at *;refine bf (S:=Sa w (ap M A)) [(ap M A,32),(ap au zeroA,32)] func220 ?_;cases i;case' true =>
  cases j;case' true =>
   cases k;case' true =>
    cases l;case' false=>cases c
    case' true =>cases m;case' false=>cases c
 all_goals
  refine ae Sa.eng {eq:=[(37,af n),(40,af q)],cv:=[(23,jb Sa.below f),(27,jY g),(32,jY e)]} 300 Sa.start λt d=>?_
  refine lT (s:=12) (p:=13) (u:=14) (T:=32) (cs:=ap au zeroA) (v1:=.u 0) (v2:=.i 99) Sa.ez d {} 40 (λW h=>h.out _ rfl) (λW h=>let ⟨o,a,b⟩:=h.r;⟨o,_,a,b⟩) a4 (cj _ _) underlying32 rfl rfl a4 a4 a4 λW V a b=>?_
  exact ⟨zeroA,rfl,g9 _ _ _,b.below (aR (d.dw a).b ab _)⟩
theorem Sa.fin {cs:World} {U:Int × MV × Int} (h:Sa n A k) (f:aZ B k.heap.size k (aJ V d)) (j:n.heap.size+2<=B) (y:Dw k p) (b:Dw (p.setRow (n.heap.size+1) (ap V d)) cs) (M:U=(a,V,x)):wP n U (.returned (.tuple #[.u a,.agg (ap V d),.i x])) cs:=by subst M;have i:=(y.fam f).set1 (g:=n.heap.size+1) (ap V d) ab;have e:=aR (h.dw y).b (g:=n.heap.size+1) ab (ap V d);refine ⟨d,rfl,(b.fam i).low ab ?_,b.below e⟩;rw [b.size,setRow_size,y.size];exact Nat.le_refl _
theorem Sa.set (h:Sa n A k) (r:Nat) (hr:n.heap.size+2<=r) (d:Array Value):Sa n A (k.setRow r d):=
 ⟨(setRow_other k _ _ d ab).trans h.m,let ⟨o,a,b⟩:=h.r;⟨o,a,(setRow_other k _ _ d ab).trans b⟩,aR h.b ab d⟩
theorem wQ (M:MV) (A:MA) (addr size kind x:Int) (w:World) (hl:iU M) (hs:tA w M A) (I:MW M) (hhd:U M.hd) (ha:U addr) (hx:U x) (hT:ou w) (hgd:vu M.ram.length A.ar A.cr) (hmk:gE M=true) (N:jr size=true) (L:1<=kind/\kind<=3) (b4 b5:Bool) (h4:(kind==1)=b4) (h5:(size != 4)=b5) (h45:(b4&&b5)=false):Calls prog 220 #[.func (.func 50) #[] #[],.agg (ap M A),.u addr,.i size,.i kind,.u x] w (wP w (aC M addr size kind x)):=by
 have HK:=λW (h:Sa w (ap M A) W)=>fO M A W hl (hs.below h.b) I.cs;have HS:=λW (_:Sa w (ap M A) W)=>gG size W;have HI:=λW (_:Sa w (ap M A) W)=>Cc kind W;rw [hmk] at HK;rw [N] at HS;rw [decide_eq_true L] at HI;obtain ⟨n,P,hpr,hr0,hd0,hb0⟩:=aI hmk;have f:kind=1\/kind=2\/kind=3:=ab
 have hs5:size=1\/size=2\/size=4\/size=8:=of_decide_eq_true N;have hp:=vb (I.cs 0) P hpr kind;obtain ⟨V,Y⟩:∃ V,V=aC M addr size kind x:=⟨_,rfl⟩;rw [<- Y];unfold aC at Y;have hwr:Uz.wrap size=size:=by rcases hs5 with rfl|rfl|rfl|rfl<;>decide +kernel
 have hmod:addr.tmod size=addr%size:=by rw [Int.tmod_eq_emod_of_nonneg ha.1]
 obtain ⟨p,Q⟩:∃ p,fV M.cs M.pr kind=p:=⟨_,rfl⟩;obtain ⟨G,hG⟩:∃ G,bT M.ram M.ram.length M.cs p addr kind=G:=⟨_,rfl⟩;have hga:U G.addr:=by rw [<- hG];exact tH _ _ _ _ _ _ ha
 have hlg:be 22 M.cs p=true:=by unfold be;rw [P,<- Q,hp];rfl
 have hwk:nn M.ram.length M.cs.length M.cs p kind=true:=by unfold nn;rw [hr0,n,hlg];unfold ji;simpa using L
 have HE:∀ W,Sa w (ap M A) W->CB 256 #[.slice A.ac M.cs.length A.cc,.i M.pr,.i kind] W (.i p):=λW h=>by have h:=mc A.ac M.cs.length A.cc M.cs M.pr kind W rfl (hs.cs.below h.b) I.cs;unfold JU at h;rw [n,show be 22 M.cs M.pr=true by unfold be;rw [P,hpr];rfl,decide_eq_true L,Q] at h;rw [n];exact h
 have HW:∀ W,Sa w (ap M A) W->Calls prog 50 #[.slice A.ar M.ram.length A.cr,.slice A.ac M.cs.length A.cc,.i p,.u addr,.i kind] W λe c=>∃ D E,e=.returned (.tuple #[.u G.addr,.i G.code,.slice D (bo M.ram G).length E])/\aZ W.heap.size c.heap.size c [aw D (bo M.ram G).length E (bo M.ram G)]/\Bw W c:=λW h=>by have h:=qL A.ar M.ram.length A.cr M.ram A.ac M.cs.length A.cc M.cs p addr kind W rfl hl.ram (hs.ram.below h.b) I.ram rfl (hs.cs.below h.b) I.cs ha (hT.below h.b) hgd;unfold Fg Fh uU at h;rw [hwk] at h;simp only [if_true,hG] at h;exact h.mono λe c ⟨D,E,h1,h2,h3⟩=>⟨D,E,h1,(aZ.nil W.heap.size W.heap.size c).snoc (aw D (bo M.ram G).length E (bo M.ram G)) _ _ h2 (Nat.le_refl _) (Nat.le_refl _) (Nat.le_refl _) h3.size,h3⟩
 have HP:∀ W,Sa w (ap M A) W->CB 209 #[.slice A.ac M.cs.length A.cc,.i p,.u G.addr,.i size,.i kind] W (.bool (!Hz M.cs p G.addr size kind)):=λW h=>by have h:=kA A.ac M.cs.length A.cc M.cs p G.addr size kind W rfl (hs.cs.below h.b) I.cs hga (hT.below h.b);rw [n,K9 M.cs p G.addr size kind hlg N (decide_eq_true L)] at h;rw [n];exact h
 have HCC:=λW (_:True)=>gY kind f W;have HAC:=λW (_:True)=>ns kind f W;have qc:IntKind.i64.wrap ((if kind=1 then 0 else if kind=2 then 4 else 6)+16)=oo kind:=by rcases f with rfl | rfl | rfl<;>decide +kernel
 have qa:IntKind.i64.wrap ((if kind=2 then 5 else if kind=3 then 7 else 1)+16)=ig kind:=by rcases f with rfl|rfl|rfl<;>decide +kernel
 have qg:IntKind.i64.wrap (G.code+16)=wrap64 (G.code+16):=by simp only [IntKind.wrap_i64,wrap64]
 rw [Q,hG] at Y;refine bf (S:=Sa w (ap M A)) [(ap M A,32),(ap au zeroA,32)] func220 ?_;generalize h6:(addr%size != 0)=b6 at *;have h6':(addr.tmod size != 0)=b6:=by rw [hmod];exact h6
 cases b6 with
 | true =>
   cases b4<;>cases b5;case true.true=>cases h45
   all_goals
    refine aN (Rc:=λW e g=>∃ (a':Option Addr) (c':Nat),e=.returned (.slice a' M.ram.length c')/\g.ownsRow W.heap.size 5 1 (.slice a' M.ram.length c') M.ram.length (M.ram.map (Value.int .u8))/\Bw W g) Sa.eng {eq:=[(37,af h4),(40,af h5),(46,cZ .u64 hwr),(48,af h6')],ov:=[(47,Js .u64 addr size ab)],cv:=[(23,jb Sa.below HK),(27,jY HS),(32,jY HI)]} 300 Sa.start (λW h=>kT A.ar _ A.cr M.ram W rfl hl.ram (hs.ram.below h.b)) λi e w1 F B=>?_
    obtain ⟨a1,c1,rfl,ho1,l⟩:=B
    have J:=F.below l
    refine ⟨_,0,rfl,λ_=>J,?_⟩
    have F1:=(aZ.nil i.heap.size i.heap.size w1).snoc (aw a1 M.ram.length c1 M.ram) _ w1.heap.size ho1 (Nat.le_refl _) (Nat.le_refl _) (Nat.le_refl _) l.size
    refine tC (Rc:=λW e g=>∃ C:MA,C.ar=a1/\C.cr=c1/\e=.returned (.agg (ap (tj M M.ram) C))/\aZ i.heap.size g.heap.size g (aJ (tj M M.ram) C)/\(∀ q ∈ aJ (tj M M.ram) C,∀ k,q.v.ownBlock=some k->W.heap.size<=k\/(Value.slice a1 M.ram.length c1).ownBlock=some k)/\Bw W g) Sa.ez J {} 60 (λW d=>mL M A M.ram a1 M.ram.length c1 i.heap.size W hl (hs.below (J.dw d).b) (by rw [d.size];exact d.fam F1) (by rw [d.size];exact l.size) rfl) λW1 e w2 d1 B=>?_
    obtain ⟨C,hC1,hC2,rfl,Z,F2n,H⟩:=B
    have O:=(J.dw d1).below H
    refine ⟨_,0,rfl,O,?_⟩
    refine lT (s:=12) (p:=13) (u:=14) (T:=32) (cs:=ap M C) (v1:=.u 0) (v2:=.i (oo kind)) Sa.ez O {eq:=[(56,cZ .i64 qc)],cv:=[(55,jY λW _=>gY kind f W)]} 60 (λW h=>h.out _ rfl) (λW h=>let ⟨o,a,b⟩:=h.r;⟨o,_,a,b⟩) a4 (cj _ _) underlying32 rfl rfl a4 a4 a4 λW V a b=>?_
    exact Sa.fin O Z F.two a b (by rw [Y,if_pos rfl])
 | false =>
   have r:V=if (G.code != 0)=true then (0,bG M (bo M.ram G),wrap64 (G.code+16)) else if Hz M.cs p G.addr size kind=true then (0,bG M (bo M.ram G),ig kind) else if (BM (bG M (bo M.ram G)) G.addr size kind x).2.1=true then ((BM (bG M (bo M.ram G)) G.addr size kind x).1,(BM (bG M (bo M.ram G)) G.addr size kind x).2.2,0) else (0,(BM (bG M (bo M.ram G)) G.addr size kind x).2.2,ig kind):=by rw [Y,if_neg a6];unfold yV;rw [Qk]
   clear Y;have hRm:SP (bG M (bo M.ram G)):=⟨n,I.cs 9,hb0,hd0,by show bq (bo M.ram G).length=true;rw [kj];exact hr0,⟨hl.x,hl.cs,by show (bo M.ram G).length<=_;rw [kj];exact hl.ram,hl.xs,hl.ys⟩,zf M.ram I.ram G,⟨I.xs,I.ys⟩,hhd⟩;generalize h7:(G.code != 0)=b7 at *;generalize Hz M.cs p G.addr size kind=b8 at *;rcases hrch:BM (bG M (bo M.ram G)) G.addr size kind x with ⟨y,ok,X⟩;rw [hrch] at r;dsimp only at r;cases b4<;>cases b5;case true.true=>cases h45
   all_goals
    refine aN (Rc:=λW e g=>∃ D E,e=.returned (.tuple #[.u G.addr,.i G.code,.slice D (bo M.ram G).length E])/\aZ W.heap.size g.heap.size g [aw D (bo M.ram G).length E (bo M.ram G)]/\Bw W g) Sa.eng {eq:=[(37,af h4),(40,af h5),(46,cZ .u64 hwr),(48,af h6')],ov:=[(47,Js .u64 addr size ab)],cv:=[(23,jb Sa.below HK),(27,jY HS),(32,jY HI),(62,jb Sa.below HE)]} 300 Sa.start HW λi e w1 F B=>?_
    obtain ⟨D,E,rfl,F1,l⟩:=B
    have J:=F.below l
    refine ⟨_,0,rfl,λ_=>J,?_⟩
    refine tC (Rc:=λW e g=>∃ C:MA,C.ar=D/\C.cr=E/\e=.returned (.agg (ap (tj M (bo M.ram G)) C))/\aZ i.heap.size g.heap.size g (aJ (tj M (bo M.ram G)) C)/\(∀ q ∈ aJ (tj M (bo M.ram G)) C,∀ k,q.v.ownBlock=some k->W.heap.size<=k\/(Value.slice D (bo M.ram G).length E).ownBlock=some k)/\Bw W g) Sa.ez J {} 60 (λW d=>mL M A (bo M.ram G) D (bo M.ram G).length E i.heap.size W hl (hs.below (J.dw d).b) (by rw [d.size];exact d.fam F1) (by rw [d.size];exact l.size) rfl) λW1 e w2 d1 B=>?_
    obtain ⟨C,hC1,hC2,rfl,Z,F2n,H⟩:=B
    have O:=(J.dw d1).below H
    refine ⟨_,0,rfl,O,?_⟩
    refine OT (v:=λW=>.p W.heap.size 0) Sa.ez O {} 60 2 (λW=>W.alloc (.cells (ap au zeroA) 32)) (λW d=>cT (z:=.agg (ap au zeroA)) a4 W) λm d2=>?_
    have S3:Sa w (ap M A) (m.alloc (.cells (ap au zeroA) 32)):=(O.dw d2).below (bal _ _)
    refine ⟨S3,?_⟩
    have z2:m.heap.size=w2.heap.size:=d2.size
    have hN:=O.two
    refine Ar Sa.ez S3 {} 60 (λW=>W.setRow m.heap.size (ap (bG M (bo M.ram G)) C)) (λW d=>aD (t:=32) (ty:=32) (old:=ap au zeroA) (by obtain ⟨j,rfl⟩:=d;exact heap_alloc_new _ _) a4 rfl (cj _ _)) λW3 d3=>?_
    refine ⟨(S3.dw d3).set _ ab _,?_⟩
    have S4:Sc w (ap M A) i.heap.size m.heap.size (bG M (bo M.ram G)) C (W3.setRow m.heap.size (ap (bG M (bo M.ram G)) C)):=by
     have z3:W3.heap.size=m.heap.size+1:=by rw [d3.size,World.size_alloc]
     refine ⟨(S3.dw d3).set _ ab _,⟨?_,?_,λq hq e=>?_,?_⟩,F.two⟩
     ·exact setRow_heap _ _ _ _ _ _ (by obtain ⟨j,rfl⟩:=d3;exact heap_alloc_new _ _)
     ·have f3:aZ i.heap.size w2.heap.size W3 (aJ (tj M (bo M.ram G)) C):=d3.fam ((d2.fam Z).mono λk _ h2 h3=>(heap_alloc_old _ _ h3))
      exact (f3.mono λk _ h2 _=>setRow_other _ _ _ _ ab).low (Nat.le_refl _) (by rw [setRow_size,z3];omega)
     ·have:=Z.hi q hq _ e;omega
     ·have:=H.size;have:=d1.size;have:=l.size;omega
    refine aK (Sc w (ap M A) i.heap.size m.heap.size (bG M (bo M.ram G)) C) ?_
    clear Z F2n F1 H
    cases b7 with
    | true =>
      refine lT (s:=12) (p:=13) (u:=14) (T:=32) (cs:=ap (bG M (bo M.ram G)) C) (v1:=.u 0) (v2:=.i (wrap64 (G.code+16))) Sc.ez S4 {eq:=[(80,af h7),(83,cZ .i64 qg)]} 60 (λW h=>h.out _ rfl) (λW h=>let ⟨o,a,b⟩:=h.a.r;⟨o,_,a,b⟩) a4 (cj _ _) underlying32 rfl rfl a4 a4 a4 λW V a b=>?_
      exact S4.fin a b (by rw [r,if_pos rfl])
    | false =>
      have HP':=λW (h:Sc w (ap M A) i.heap.size m.heap.size (bG M (bo M.ram G)) C W)=>HP W h.a
      cases b8 with
      | true =>
        refine ae Sc.eng {eq:=[(80,af h7)],cv:=[(90,jb Sc.below HP')]} 60 S4 λw5 K=>?_
        refine lT (s:=12) (p:=13) (u:=14) (T:=32) (cs:=ap (bG M (bo M.ram G)) C) (v1:=.u 0) (v2:=.i (ig kind)) Sc.ez K {eq:=[(95,cZ .i64 qa)],cv:=[(94,jY λW _=>ns kind f W)]} 60 (λW h=>h.out _ rfl) (λW h=>let ⟨o,a,b⟩:=h.a.r;⟨o,_,a,b⟩) a4 (cj _ _) underlying32 rfl rfl a4 a4 a4 λW V a b=>?_
        exact K.fin a b (by rw [r,if_neg a6,if_pos rfl])
      | false =>
        refine aN (Rc:=λW e g=>e=.returned (.tuple #[.u y,.bool ok])/\∃ A',Mp i.heap.size m.heap.size X A' g/\Kx m.heap.size (aJ (bG M (bo M.ram G)) C) (aJ X A') W g) Sc.eng {eq:=[(80,af h7)],cv:=[(90,jb Sc.below HP')]} 60 S4 (λW h=>by have B:=ID (bG M (bo M.ram G)) C i.heap.size m.heap.size G.addr size kind x W h.mp hRm N f hga hx;rw [hrch] at B;exact B) λW5 e w6 K B=>?_
        obtain ⟨rfl,A2,m6,k6⟩:=B
        have R:=K.mp.under k6
        have hlo:=K.lo
        have S6:Sc w (ap M A) i.heap.size m.heap.size X A2 w6:=by
         refine ⟨⟨(R.block _ ab).trans K.a.m,?_,K.a.b.trans ⟨R.os,R.tape,R.output,R.size,λk hk=>R.block k ab⟩⟩,m6,K.lo⟩
         obtain ⟨o,a,b⟩:=K.a.r
         exact ⟨o,a,(R.block _ ab).trans b⟩
        refine ⟨_,0,rfl,fi a4,?_⟩
        refine aK (Sc w (ap M A) i.heap.size m.heap.size X A2) ?_
        cases ok with
        | true =>
          refine lT (s:=12) (p:=13) (u:=14) (T:=32) (cs:=ap X A2) (v1:=.u y) (v2:=.i 0) Sc.ez S6 {} 60 (λW h=>h.out _ rfl) (λW h=>let ⟨o,a,b⟩:=h.a.r;⟨o,_,a,b⟩) a4 (cj _ _) underlying32 rfl rfl a4 a4 a4 λW V a b=>?_
          exact S6.fin a b (by rw [r,if_neg a6,if_neg a6,if_pos rfl])
        | false =>
          refine lT (s:=12) (p:=13) (u:=14) (T:=32) (cs:=ap X A2) (v1:=.u 0) (v2:=.i (ig kind)) Sc.ez S6 {eq:=[(109,cZ .i64 qa)],cv:=[(108,jY λW _=>ns kind f W)]} 60 (λW h=>h.out _ rfl) (λW h=>let ⟨o,a,b⟩:=h.a.r;⟨o,_,a,b⟩) a4 (cj _ _) underlying32 rfl rfl a4 a4 a4 λW V a b=>?_
          exact S6.fin a b (by rw [r,if_neg a6,if_neg a6,if_neg a6])
theorem zH (M:MV) (A:MA) (addr size kind x:Int) (w:World) (hl:iU M) (hs:tA w M A) (d:MW M) (c:U M.hd) (f:U addr) (hx:U x) (e:ou w) (b:gE M=true->vu M.ram.length A.ar A.cr):Calls prog 220 #[.func (.func 50) #[] #[],.agg (ap M A),.u addr,.i size,.i kind,.u x] w (wP w (tI M addr size kind x)):=by
 unfold tI;cases a:vi M size kind with
 | false=>rw [if_neg a6];exact zG M A addr size kind x w hl hs d a
 | true =>rw [if_pos rfl];unfold vi at a;simp only [Bool.and_eq_true,decide_eq_true_eq] at a;exact wQ M A addr size kind x w hl hs d c f hx e (b a.1.1.1) a.1.1.1 a.1.1.2 a.1.2 _ _ rfl rfl (by simpa only [Bool.not_eq_true'] using a.2)
end Go.Proofs.YtfagphfjfhpmjaaGreatDoor
