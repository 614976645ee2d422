/- Own lemmas. -/
import Derived.Test.YtjifdmoehfbihaaGreatDoorAut
import Derived.Test.YtjifdmoehfbihaaGreatDoorK25
set_option maxRecDepth 100000
set_option maxHeartbeats 1600000
namespace Go.Proofs.YtjifdmoehfbihaaGreatDoor
open Go.RowKit Tryz
open IntKind renaming u64->Uz
set_option linter.unusedVariables false
def gp (c:Int):Ending:=.panicked [{v:=.iface 162 (.i c),recovered:=false}]
def BU (k:Int):Int:=if k=2 then 5 else if k=3 then 7 else 1
theorem Gz (k:Int) (b:1<=k) (c:k<=3):BU k=dy k:=by
 have a:k=1\/k=2\/k=3:=ab
 rcases a with rfl|rfl|rfl<;>rfl
theorem L9 (k:Int) (h:¬ (1<=k/\k<=3)):BU k=1:=by unfold BU;rw [if_neg ab,if_neg ab]
theorem oA (k:Int) (w:World):CE 91 #[.i k] w (.i (BU k)):=by
 have F:Hid (BU k=if k=2 then 5 else if k=3 then 7 else 1):=(rfl:BU k=_);generalize BU k=v at *;cases c:(k==2) with
 | true =>have e2:k=2:=i5;have b:Hid (v=5):=F.out.trans (if_pos e2);exact a0d
 | false =>
   have e2:¬ k=2:=i5;cases d:(k==3) with
   | true =>have e3:k=3:=ki;have b:Hid (v=7):=F.out.trans ((if_neg e2).trans (if_pos e3));exact a0d
   | false =>have e3:¬ k=3:=ki;have b:Hid (v=1):=F.out.trans ((if_neg e2).trans (if_neg e3));exact a0d
theorem zA (k:Int) (d:1<=k) (f:k<=3) (w:World):CE 186 #[.i k] w (.i (dP k)):=by
 have b:k=1\/k=2\/k=3:=ab
 rcases b with rfl|rfl|rfl;·go_enter func186,ntmps186;exact v8
 ·go_enter func186,ntmps186;exact v8
 ·go_enter func186,ntmps186;exact v8
theorem ny (ra:Option Addr) (n m:Nat) (j:Option Addr) (l:Nat) (p va k:Int) (f:1<=k) (g:k<=3) (w:World):Calls prog 190 #[.agg #[.slice ra n m,.slice j 22 l,.i p,.u va,.i k]] w λe c=>e=gp (dy k)/\Bw w c:=by
 have d:Hid (∀ w,CE 91 #[.i k] w (.i (dy k))):=λw=>by have:=oA k w;rw [Gz k f g] at this;exact this
 generalize dy k=o at *;go_enter func190,ntmps190;go_wp2_with fail;refine (d.out _).mono ?_;rintro e q ⟨rfl,b⟩;subst b;go_wp2_with fail;exact ⟨rfl,rfl,bal _ _⟩
theorem jV (ra:Option Addr) (n m:Nat) (j:Option Addr) (l:Nat) (p va k:Int) (f:1<=k) (g:k<=3) (w:World):Calls prog 137 #[.agg #[.slice ra n m,.slice j 22 l,.i p,.u va,.i k]] w λe c=>e=gp (dP k)/\Bw w c:=by have d:Hid (∀ w,CE 186 #[.i k] w (.i (dP k))):=λw=>zA k f g w;generalize dP k=o at *;go_enter func137,ntmps137;go_wp2_with fail;refine (d.out _).mono ?_;rintro e q ⟨rfl,b⟩;subst b;go_wp2_with fail;exact ⟨rfl,rfl,bal _ _⟩
structure Wk (w:World) (g n rc:Nat) (zs:List Int) (b off lc:Nat) (l:List Int) (p va k:Int):Prop where
 hz:zs.length=n
 hr:aU n=true
 hs:Sl .u8 w (some ⟨g,0,none⟩) zs
 hw:∀ y ∈ zs,(Lit.int .u8 y).wf=true
 hc:n<=rc
 hc2:rc<=9223372036854775807
 hlz:l.length=22
 hl:Sl .u64 w (some ⟨b,off,none⟩) l
 hU:∀ j,U (l.getD j 0)
 hg:aX 22 l p=true
 hva:U va
 hk1:1<=k
 hk3:k<=3
 hT:qV w
theorem Wk.below {w w':World} {g n d:Nat} {zs:List Int} {b a c:Nat} {l:List Int} {p va k:Int} (h:Wk w g n d zs b a c l p va k) (hb:Bw w w'):Wk w' g n d zs b a c l p va k :=
 ⟨h.hz,h.hr,h.hs.below hb,h.hw,h.hc,h.hc2,h.hlz,h.hl.below hb,h.hU,h.hg,h.hva,h.hk1,h.hk3,h.hT.below hb⟩
theorem Wk.at {w:World} {g n m:Nat} {zs:List Int} {b a i:Nat} {l:List Int} {p va k:Int} (h:Wk w g n m zs b a i l p va k) (j:Nat) (f:j<22):w.cell? ⟨b,a+j,none⟩=some (.u (l.getD j 0)):=by obtain ⟨o,c,e,_,d⟩:=h.hl j (by rw [h.hlz];exact f);simp only [Option.some.injEq,Addr.mk.injEq,and_true] at e;obtain ⟨rfl,rfl⟩:=e;exact d
theorem Wk.one {w:World} {g n d:Nat} {zs:List Int} {b a c:Nat} {l:List Int} {p va k:Int} (h:Wk w g n d zs b a c l p va k):aX 22 l 1=true:=by have:=h.hg;unfold aX at this ⊢;rw [Bool.and_eq_true] at this;rw [this.1];rfl
theorem lE {W:World} {g:Nat} {a b c d e:Value} {t:TypeId} {f:Nat × Nat} (h:W.heap[g]?=some (.cells #[a,b,c,d,e] t f)):W.cell? ⟨g,0,none⟩=some a/\W.cell? ⟨g,1,none⟩=some b/\W.cell? ⟨g,2,none⟩=some c/\W.cell? ⟨g,3,none⟩=some d/\W.cell? ⟨g,4,none⟩=some e:=by refine ⟨?_,?_,?_,?_,?_⟩<;>simp [World.cell?,h]
theorem fu {w w':World} (hb:Bw w w') {g:Nat} {o:Obj} (h:w.heap[g]?=some o):w'.heap[g]?=some o:=by rw [hb.block g (Array.getElem?_eq_some_iff.1 h).1];exact h
theorem sO (lv:Nat) (h:lv<=2) (w:World):CE 187 #[.i (lv:Int)] w (.i ((12+9*lv:Nat):Int)):=by
 have:lv=0\/lv=1\/lv=2:=ab
 rcases this with rfl|rfl|rfl;·go_enter func187,ntmps187;exact v8
 ·go_enter func187,ntmps187;exact v8
 ·go_enter func187,ntmps187;exact v8
def pz (zs:List Int) (n:Nat) (l:List Int) (k x:Int):Ending :=
 if gn n x 8=true then (if aA l 1 x (aZ x 8) 2 4 0=true then (if oZ (fs zs x)=true then gp (dP k) else .returned (.tuple #[.u x,.u (fs zs x)])) else gp (dy k)) else gp (dy k)
theorem Qm (zs:List Int) (a:∀ y ∈ zs,(Lit.int .u8 y).wf=true) (x:Int):U (fs zs x):=by have:=tV zs (iM a) 8 (x-2147483648).toNat ab;exact ⟨this.1,this.2⟩
theorem BV (g n z:Nat) (zs:List Int) (b f y:Nat) (l:List Int) (p va k T:Int) (lv:Nat) (S:lv<=2) (w:World) (W:Wk w g n z zs b f y l p va k):Calls prog 138 #[.agg #[.slice (some ⟨g,0,none⟩) n z,.slice (some ⟨b,f,none⟩) 22 y,.i p,.u va,.i k],.u T,.i (lv:Int)] w λe c=>e=pz zs n l k (bF T va lv)/\Bw w c:=by
 have HW:Hid (Wk w g n z zs b f y l p va k):=W;have hn:n<=1048576:=by have:=gc W.hr;omega
 obtain ⟨q,V⟩:∃ q:Nat,q=12+9*lv:=⟨_,rfl⟩;have HL:Hid (∀ w,Calls prog 187 #[.i (lv:Int)] w λe c=>e=.returned (.i (q:Int))/\∃ m,c=w.drewN m):=λw=>by rw [V];exact (sO lv S w).mono λ_ _ h=>⟨h.1,0,h.2⟩
 have Z:Hid (∀ w,Calls prog 66 #[.u va,.i (q:Int),.i 9] w λe c=>e=.returned (.u (cQ va q 9))/\∃ m,c=w.drewN m):=λw=>(bu va q 9 W.hva.1 W.hva.2 ab ab w).mono λ_ _ h=>⟨h.1,1,h.2⟩;have PX:Hid (Uz.wrap (T+Uz.wrap (8*cQ va q 9))=bF T va lv):=by show _=_;rw [V];exact Q9 T va W.hva lv
 clear V;have R:U (bF T va lv):=aP _;generalize bF T va lv=x at *;have I:Hid (∀ c,Bw w c->CB 188 #[.slice (some ⟨g,0,none⟩) n z,.u x,.i 8] c (.tuple #[.u (mt zs n x 8),.bool (gn n x 8)])):=λc M =>
  pK g n z zs x 8 c W.hz hn (W.hs.below M) W.hw W.hc W.hc2 R.1 (by have:=R.2;omega)
 have B:Hid (∀ c,Bw w c->CB 189 #[.slice (some ⟨b,f,none⟩) 22 y,.i 1,.u x,.i 8,.i 2] c (.bool (uH 22 l 1 x 8 2))):=λc M =>
  ky (some ⟨b,f,none⟩) 22 y l 1 x 8 2 c W.hlz (W.hl.below M) W.hU R (W.hT.below M)
 have A:Hid (∀ w,Calls prog 190 #[.agg #[.slice (some ⟨g,0,none⟩) n z,.slice (some ⟨b,f,none⟩) 22 y,.i p,.u va,.i k]] w λe c=>e=gp (dy k)/\Bw w c):=λw=>ny _ _ _ _ _ _ _ _ W.hk1 W.hk3 w;have r:Hid (∀ w,Calls prog 137 #[.agg #[.slice (some ⟨g,0,none⟩) n z,.slice (some ⟨b,f,none⟩) 22 y,.i p,.u va,.i k]] w λe c=>e=gp (dP k)/\Bw w c):=λw=>jV _ _ _ _ _ _ _ _ W.hk1 W.hk3 w;have D:∀ o m,Bw w ((w.alloc o).drewN m):=λo m=>gL (bal _ _) m;have F:Hid (pz zs n l k x=if gn n x 8=true then (if aA l 1 x (aZ x 8) 2 4 0=true then (if oZ (fs zs x)=true then gp (dP k) else .returned (.tuple #[.u x,.u (fs zs x)])) else gp (dy k)) else gp (dy k)):=(rfl:pz zs n l k x=_);have K:=W.one;clear W;go_enter func138,ntmps138;go_wp2_with fail;go_quiet (first | (go_at_call 187;with_reducible refine Calls.quiet_of (HL.out _)) | (go_at_call 66;with_reducible refine Calls.quiet_of (Z.out _)))
 rw [PX.out];go_wp2_with fail;refine (I.out _ (D _ _)).mono ?_;rintro e w1 ⟨rfl,E⟩;have Q:Hid (Bw w w1):=aa (D _ _) E;have R1:Hid (w1.heap[w.heap.size]?=some (.cells #[.slice (some ⟨g,0,none⟩) n z,.slice (some ⟨b,f,none⟩) 22 y,.i p,.u va,.i k] 114 (0,0))):=fu E (heap_alloc_new w _);obtain ⟨k0,k1,k2,k3,k4⟩:=lE R1.out;clear E D I HL Z;cases u:gn n x 8 with
 | false =>rw [u] at F;have s:Hid (pz zs n l k x=gp (dy k)):=F.out.trans (if_neg bb);clear F B r;go_wp2_with fail;refine (A.out _).mono ?_;rintro e X ⟨rfl,t⟩;exact ⟨rfl,s.out.symm,aa Q.out t⟩
 | true =>
   rw [u,if_pos rfl] at F;have J:mt zs n x 8=fs zs x:=(by unfold mt fs;rw [u];rfl);rw [J];have L:=FL n l x 2 K u ab ab;go_wp2_with fail;refine (B.out _ Q.out).mono ?_;rintro e X ⟨rfl,t⟩;rw [L];have H:Hid (Bw w X):=aa Q.out t;have R2:Hid (X.heap[w.heap.size]?=some (.cells #[.slice (some ⟨g,0,none⟩) n z,.slice (some ⟨b,f,none⟩) 22 y,.i p,.u va,.i k] 114 (0,0))):=fu t R1.out;clear k0 k1 k2 k3 k4 t;obtain ⟨k0,k1,k2,k3,k4⟩:=lE R2.out;clear B J L;have UE:U (fs zs x):=Qm zs HW.out.hw x;have Y:=Q7 (fs zs x) UE;rw [<- Y] at F;clear Y;generalize fs zs x=C at *;generalize aA l 1 x (aZ x 8) 2 4 0=pb at *;cases pb with
   | false =>have s:Hid (pz zs n l k x=gp (dy k)):=F.out.trans (if_neg bb);clear F r;go_wp2_with fail;refine (A.out _).mono ?_;exact a0e
   | true =>
     have j:pz zs n l k x=if Of C=true then gp (dP k) else .returned (.tuple #[.u x,.u C]):=F.out.trans (if_pos rfl)
     clear F A;unfold Of at j;cases N:(bits .and .u64 C 1==0) with
     | true =>
       rw [N] at j;have s:Hid (pz zs n l k x=gp (dP k)):=j.trans (if_pos rfl);clear j;cases O:(bits .and .u64 C 6==4) with
       | true =>go_wp2_with fail;refine (r.out _).mono ?_;exact a0e
       | false =>go_wp2_with fail;refine (r.out _).mono ?_;exact a0e
     | false =>
       cases O:(bits .and .u64 C 6==4) with
       | true =>rw [N,O] at j;have s:Hid (pz zs n l k x=gp (dP k)):=j.trans (if_pos rfl);clear j;go_wp2_with fail;refine (r.out _).mono ?_;exact a0e
       | false =>
         cases t3:(bits .and .u64 C 18428729675200069632 != 0) with
         | true =>rw [N,O,t3] at j;have s:Hid (pz zs n l k x=gp (dP k)):=j.trans (if_pos rfl);clear j;go_wp2_with fail;refine (r.out _).mono ?_;exact a0e
         | false =>rw [N,O,t3] at j;have s:Hid (pz zs n l k x=.returned (.tuple #[.u x,.u C])):=j.trans (if_neg bb);clear j;go_wp2_with fail;go_ret2;exact ⟨s.out.symm,H.out⟩
theorem EC (e:Int) (he:U e) (w:World):CE 139 #[.u e] w (.bool (!l8 e)):=by have F:Hid ((bits .and .u64 e 10 != 0)=!l8 e):=Og e he;generalize (!l8 e)=v at *;go_enter func139,ntmps139;exact yn
theorem sP (e:Int) (he:U e) (w:World):Calls prog 191 #[.u e] w λr c=>r=.returned (.u (cQ e 10 44))/\c=w.drew:=by have d:Hid (∀ w,Calls prog 66 #[.u e,.i 10,.i 44] w λr c=>r=.returned (.u (cQ e 10 44))/\c=w.drew):=λw=>bu e 10 44 he.1 he.2 ab ab w;generalize cQ e 10 44=f at *;go_enter func191,ntmps191;go_wp2_with fail;refine (d.out _).mono ?_;rintro r g ⟨rfl,b⟩;subst b;exact v8
def Jc (k e:Int) (lv:Nat):Ending:=if iZ e lv=true then gp (dP k) else .returned (.u (Uz.wrap (dQ e*4096)))
theorem BW (g n y:Nat) (b m u:Nat) (p va k e:Int) (lv:Nat) (he:U e) (B:1<=k) (C:k<=3) (w:World):Calls prog 140 #[.agg #[.slice (some ⟨g,0,none⟩) n y,.slice (some ⟨b,m,none⟩) 22 u,.i p,.u va,.i k],.u e,.i (lv:Int)] w λr q=>r=Jc k e lv/\Bw w q:=by
 have l:Hid (∀ w,Calls prog 137 #[.agg #[.slice (some ⟨g,0,none⟩) n y,.slice (some ⟨b,m,none⟩) 22 u,.i p,.u va,.i k]] w λe q=>e=gp (dP k)/\Bw w q):=λw=>jV _ _ _ _ _ _ _ _ B C w;have A:Hid (∀ w,Calls prog 191 #[.u e] w λr q=>r=.returned (.u (dQ e))/\q=w.drew):=λw=>by have:=sP e he w;rw [uX e he] at this;exact this
 have F:Jc k e lv=if (((lv:Int)==0)||(bits .and .u64 e 208 != 0))=true then gp (dP k) else .returned (.u (Uz.wrap (dQ e*4096))):=by rw [Oh e he lv];rfl
 have c:∀ o,Bw w (w.alloc o):=λo=>bal _ _;generalize dQ e=f at *;generalize Jc k e lv=v at *;cases t:((lv:Int)==0) with
 | true =>rw [t] at F;have j:Hid (v=gp (dP k)):=F.trans (if_pos rfl);clear F;go_enter func140,ntmps140;go_wp2_with fail;refine (l.out _).mono ?_;rintro r D ⟨rfl,d⟩;exact ⟨rfl,j.out.symm,aa (c _) d⟩
 | false =>
   cases z:(bits .and .u64 e 208 != 0) with
   | true =>rw [t,z] at F;have j:Hid (v=gp (dP k)):=F.trans (if_pos rfl);clear F;go_enter func140,ntmps140;go_wp2_with fail;refine (l.out _).mono ?_;rintro r D ⟨rfl,d⟩;exact ⟨rfl,j.out.symm,aa (c _) d⟩
   | false =>rw [t,z] at F;have j:Hid (v=.returned (.u (Uz.wrap (f*4096)))):=F.trans (if_neg bb);clear F;go_enter func140,ntmps140;go_wp2_with fail;refine (A.out _).mono ?_;rintro r E ⟨rfl,s⟩;subst s;go_wp2_with fail;go_ret;exact ⟨j.out.symm,gL (c _) 1⟩
theorem BX (ra:Option Addr) (n l:Nat) (b d j:Nat) (p va k e x:Int) (u:1<=k) (y:k<=3) (w:World) (z:∀ o,(w.alloc o).cell? ⟨b,d,none⟩=some (.u x)):CB 192 #[.agg #[.slice ra n l,.slice (some ⟨b,d,none⟩) 22 j,.i p,.u va,.i k],.u e] w (.bool (oc x k e)):=by
 have c:∀ o,Bw w (w.alloc o):=λo=>bal _ _;have g:k=1\/k=2\/k=3:=ab
 rcases g with rfl|rfl|rfl;·have F:Hid (oc x 1 e=(bits .and .u64 e 8 != 0)):=(rfl:oc x 1 e=_);generalize oc x 1 e=v at *;go_enter func192,ntmps192;go_wp2_with fail;go_ret;exact ⟨bc,c _⟩
 ·have F:oc x 2 e=((bits .and .u64 e 2 != 0)||((bits .and .u64 x 524288 != 0)&&(bits .and .u64 e 8 != 0))):=rfl;generalize oc x 2 e=v at *;cases m:(bits .and .u64 e 2 != 0)<;>cases q:(bits .and .u64 x 524288 != 0)<;>cases s:(bits .and .u64 e 8 != 0);all_goals
   rw [m,q,s] at F
   have f:=dE F
   clear F
   go_enter func192,ntmps192
   go_wp2_with fail
   go_ret
   exact ⟨by rw [f.out];rfl,c _⟩
 ·have F:Hid (oc x 3 e=(bits .and .u64 e 4 != 0)):=(rfl:oc x 3 e=_);generalize oc x 3 e=v at *;go_enter func192,ntmps192;go_wp2_with fail;go_ret;exact ⟨bc,c _⟩
theorem BY (ra:Option Addr) (n l:Nat) (b d j:Nat) (p va k e x:Int) (w:World) (u:∀ o,(w.alloc o).cell? ⟨b,d,none⟩=some (.u x)):CB 193 #[.agg #[.slice ra n l,.slice (some ⟨b,d,none⟩) 22 j,.i p,.u va,.i k],.u e] w (.bool (Ba x p k e)):=by
 have c:∀ o,Bw w (w.alloc o):=λo=>bal _ _;have F:Ba x p k e=if (bits .and .u64 e 16==0)=true then (p==1) else ((p==0)||((k != 1)&&(bits .and .u64 x 262144 != 0))):=rfl
 generalize Ba x p k e=v at *;cases t0:(bits .and .u64 e 16==0) with
 | true =>have g:Hid (v=(p==1)):=(by rw [t0] at F;exact F.trans (if_pos rfl));clear F;go_enter func193,ntmps193;go_wp2_with fail;go_ret;exact ⟨by rw [g.out];rfl,c _⟩
 | false =>
   have f:v=((p==0)||((k != 1)&&(bits .and .u64 x 262144 != 0))):=(by rw [t0] at F;exact F.trans (if_neg bb));clear F;cases m:(p==0)<;>cases q:(k != 1)<;>cases s:(bits .and .u64 x 262144 != 0);all_goals
    rw [m,q,s] at f
    have g:=dE f
    clear f
    go_enter func193,ntmps193
    go_wp2_with fail
    go_ret
    exact ⟨by rw [g.out];rfl,c _⟩
def ED (l:List Int) (p k e:Int) (lv:Nat):Ending:=if (ma e lv||gA l k e||gB l p k e)=true then gp (dP k) else .returned (.tuple #[])
theorem xc (g n y:Nat) (zs:List Int) (b c u:Nat) (l:List Int) (p va k e:Int) (lv:Nat) (V:lv<=2) (he:U e) (hp:p=0\/p=1) (w:World) (W:Wk w g n y zs b c u l p va k):Calls prog 141 #[.agg #[.slice (some ⟨g,0,none⟩) n y,.slice (some ⟨b,c,none⟩) 22 u,.i p,.u va,.i k],.u e,.i (lv:Int)] w λr d=>r=ED l p k e lv/\Bw w d:=by
 have HW:Hid (Wk w g n y zs b c u l p va k):=W;obtain ⟨q,Z⟩:∃ q:Nat,q=9*lv:=⟨_,rfl⟩;have K:Hid (9*(lv:Int)=(q:Int)):=by show _=_;omega
 have J:Hid (∀ w,Calls prog 66 #[.u e,.i 10,.i (q:Int)] w λr d=>r=.returned (.u (cQ e 10 q))/\d=w.drew):=λw=>bu e 10 q he.1 he.2 ab ab w;have D:Hid (∀ w,Calls prog 137 #[.agg #[.slice (some ⟨g,0,none⟩) n y,.slice (some ⟨b,c,none⟩) 22 u,.i p,.u va,.i k]] w λe d=>e=gp (dP k)/\Bw w d):=λw=>jV _ _ _ _ _ _ _ _ W.hk1 W.hk3 w;have s:∀ o m,Bw w ((w.alloc o).drewN m):=λo m=>gL (bal _ _) m;have S:Hid (∀ d,Bw w d->∀ o,(d.alloc o).cell? ⟨b,c,none⟩=some (.u (l.getD 0 0))):=λd I o=>(W.below (aa I (bal _ _))).at 0 ab;have C:Hid (∀ d,Bw w d->CB 192 #[.agg #[.slice (some ⟨g,0,none⟩) n y,.slice (some ⟨b,c,none⟩) 22 u,.i p,.u va,.i k],.u e] d (.bool (!gA l k e))):=λd I=>by have:=BX (some ⟨g,0,none⟩) n y b c u p va k e (l.getD 0 0) W.hk1 W.hk3 d (S.out d I);rw [Kw l k e he (W.hU 0) W.hk1 W.hk3] at this;exact this
 have H:Hid (∀ d,Bw w d->CB 193 #[.agg #[.slice (some ⟨g,0,none⟩) n y,.slice (some ⟨b,c,none⟩) 22 u,.i p,.u va,.i k],.u e] d (.bool (!gB l p k e))):=λd I=>by have:=BY (some ⟨g,0,none⟩) n y b c u p va k e (l.getD 0 0) d (S.out d I);rw [Ky l p k e he (W.hU 0) hp] at this;exact this
 have Y:(cQ e 10 q != 0)=ma e lv:=by rw [Z];exact Kv e he lv V
 have F:ED l p k e lv=if (ma e lv||gA l k e||gB l p k e)=true then gp (dP k) else .returned (.tuple #[]):=rfl
 rw [<- Y] at F;generalize ED l p k e lv=v at *;generalize cQ e 10 q=ff at *;generalize gA l k e=nk at *;generalize gB l p k e=np at *;clear W S Z Y;cases Q:(ff != 0) with
 | true =>rw [Q] at F;have B:Hid (v=gp (dP k)):=F.trans (if_pos rfl);clear F;go_enter func141,ntmps141;go_wp2_with fail;rw [K.out];refine (J.out _).mono ?_;rintro r X ⟨rfl,t⟩;subst t;go_wp2_with fail;refine (D.out _).mono ?_;rintro r G ⟨rfl,j⟩;exact ⟨rfl,B.out.symm,aa (s _ 1) j⟩
 | false =>
   cases nk with
   | true =>rw [Q] at F;have B:Hid (v=gp (dP k)):=F.trans (if_pos rfl);clear F;go_enter func141,ntmps141;go_wp2_with fail;rw [K.out];refine (J.out _).mono ?_;rintro r X ⟨rfl,t⟩;subst t;go_wp2_with fail;refine (C.out _ (s _ 1)).mono ?_;rintro r z ⟨rfl,f⟩;have R2:Hid (z.heap[w.heap.size]?=some (.cells #[.slice (some ⟨g,0,none⟩) n y,.slice (some ⟨b,c,none⟩) 22 u,.i p,.u va,.i k] 114 (0,0))):=fu f (heap_alloc_new w _);obtain ⟨L,M,N,O,P⟩:=lE R2.out;have A:Hid (Bw w z):=aa (s _ 1) f;clear f;go_wp2_with fail;refine (D.out _).mono ?_;rintro r G ⟨rfl,j⟩;exact ⟨rfl,B.out.symm,aa A.out j⟩
   | false =>
     cases np with
     | true =>rw [Q] at F;have B:Hid (v=gp (dP k)):=F.trans (if_pos rfl);clear F;go_enter func141,ntmps141;go_wp2_with fail;rw [K.out];refine (J.out _).mono ?_;rintro r X ⟨rfl,t⟩;subst t;go_wp2_with fail;refine (C.out _ (s _ 1)).mono ?_;rintro r z ⟨rfl,f⟩;have R2:Hid (z.heap[w.heap.size]?=some (.cells #[.slice (some ⟨g,0,none⟩) n y,.slice (some ⟨b,c,none⟩) 22 u,.i p,.u va,.i k] 114 (0,0))):=fu f (heap_alloc_new w _);obtain ⟨L,M,N,O,P⟩:=lE R2.out;have A:Hid (Bw w z):=aa (s _ 1) f;clear f;go_wp2_with fail;refine (H.out _ A.out).mono ?_;rintro r G ⟨rfl,j⟩;have R3:Hid (G.heap[w.heap.size]?=some (.cells #[.slice (some ⟨g,0,none⟩) n y,.slice (some ⟨b,c,none⟩) 22 u,.i p,.u va,.i k] 114 (0,0))):=fu j R2.out;clear L M N O P;obtain ⟨L,M,N,O,P⟩:=lE R3.out;have R:Hid (Bw w G):=aa A.out j;clear j;go_wp2_with fail;refine (D.out _).mono ?_;rintro r w4 ⟨rfl,T⟩;exact ⟨rfl,B.out.symm,aa R.out T⟩
     | false =>rw [Q] at F;have B:Hid (v=.returned (.tuple #[])):=F.trans (if_neg bb);clear F;go_enter func141,ntmps141;go_wp2_with fail;rw [K.out];refine (J.out _).mono ?_;rintro r X ⟨rfl,t⟩;subst t;go_wp2_with fail;refine (C.out _ (s _ 1)).mono ?_;rintro r z ⟨rfl,f⟩;have R2:Hid (z.heap[w.heap.size]?=some (.cells #[.slice (some ⟨g,0,none⟩) n y,.slice (some ⟨b,c,none⟩) 22 u,.i p,.u va,.i k] 114 (0,0))):=fu f (heap_alloc_new w _);obtain ⟨L,M,N,O,P⟩:=lE R2.out;have A:Hid (Bw w z):=aa (s _ 1) f;clear f;go_wp2_with fail;refine (H.out _ A.out).mono ?_;rintro r G ⟨rfl,j⟩;have R:Hid (Bw w G):=aa A.out j;clear j;go_wp2_with fail;go_end0;exact ⟨B.out.symm,R.out⟩
theorem O5 (g n A:Nat) (b l z:Nat) (p va k e:Int) (lv:Nat) (d:lv<=2) (he:U e) (hv:U va) (s:ma e lv=false) (w:World):CB 142 #[.agg #[.slice (some ⟨g,0,none⟩) n A,.slice (some ⟨b,l,none⟩) 22 z,.i p,.u va,.i k],.u e,.i (lv:Int)] w (.u (gt e va lv)):=by
 obtain ⟨q,j⟩:∃ q:Nat,q=12+9*lv:=⟨_,rfl⟩;have y:Hid (∀ w,Calls prog 187 #[.i (lv:Int)] w λe c=>e=.returned (.i (q:Int))/\∃ m,c=w.drewN m):=λw=>by rw [j];exact (sO lv d w).mono λ_ _ h=>⟨h.1,0,h.2⟩
 have t:Hid (∀ w,Calls prog 66 #[.u va,.i 0,.i (q:Int)] w λe c=>e=.returned (.u (cQ va 0 q))/\∃ m,c=w.drewN m):=λw=>(bu va 0 q hv.1 hv.2 ab ab w).mono λ_ _ h=>⟨h.1,1,h.2⟩;have u:Hid (∀ w,Calls prog 191 #[.u e] w λr c=>r=.returned (.u (cQ e 10 44))/\∃ m,c=w.drewN m):=λw=>(sP e he w).mono λ_ _ h=>⟨h.1,1,h.2⟩;have F:Hid (bits .or .u64 (Uz.wrap (cQ e 10 44*4096)) (cQ va 0 q)=gt e va lv):=by show _=_;rw [j];exact Oj e va he hv lv d s
 have f:∀ o m,Bw w ((w.alloc o).drewN m):=λo m=>gL (bal _ _) m;generalize gt e va lv=v at *;clear j s;go_enter func142,ntmps142;go_wp2_with fail;go_quiet (first | (go_at_call 187;with_reducible refine Calls.quiet_of (y.out _)) | (go_at_call 66;with_reducible refine Calls.quiet_of (t.out _)) | (go_at_call 191;with_reducible refine Calls.quiet_of (u.out _)))
 go_wp2_with fail;go_ret;exact ⟨bc,f _ _⟩
def lF (w w':World) (zs:List Int) (a:Option Addr) (n c:Nat):Prop:=w'.ownsRow w.heap.size 5 1 (.slice a n c) n (zs.map (Value.int .u8))/\Bw w w'
theorem pA (g n F:Nat) (zs:List Int) (w:World) (hz:zs.length=n) (N:1<=n) (hn:n<=1048576) (hs:Sl .u8 w (some ⟨g,0,none⟩) zs):Calls prog 39 #[.slice (some ⟨g,0,none⟩) n F] w λr Q=>∃ (D:Option Addr) (c:Nat),r=.returned (.slice D n c)/\lF w Q zs D n c:=by
 have R:∀ (w:World) (a:Option Addr) (n c C s:Nat),(binOp .eql 24 (.slice a n c) (.slice none C s)).run prog w=.ok (.bool a.isNone) w:=λw a n c C s=>Lib.run_eql_slice_nil w _ _ a n c C s underlying24
 obtain ⟨P,M,z,A,B⟩:=info_parts info5
 have p:Hid (∀ u ∈ zs.map (Value.int .u8),u.oneCell'=true):=ints_oneCell _ _
 have t:(0+n)*1<=140737488355328:=ab
 have y:0+n<=maxLen:=by unfold maxLen;omega
 have m:(zs.map (Value.int .u8)).length=n*1:=by rw [List.length_map,hz];omega
 have K:=DR w w.heap.size (Nat.le_refl _) (.cells #[] 5 (0,0)) rfl
 have f:Hid (∀ (o:Obj) (j:Nat) (u:Value),(zs.map (Value.int .u8))[j]?=some u->(w.alloc o).cell? ((⟨g,0,none⟩:Addr).add j)=some u):=λo j u O=>NL hs o j u O
 clear hs
 go_enter func39,ntmps39
 go_wp2_with (first
  | (at_builtin;refine wpList_append_own _ rfl (.tmp 5) (.tmp 6) 24 rfl _ 5 P (.int .u8 0) 1 1 underlying24 M z A B rfl bb _ 0 [] (by rfl) K ⟨g,0,none⟩ n F (zs.map (Value.int .u8)) rfl m (f.out _) p.out y t cp ?_;intro S G b d l;simp only [Nat.zero_add,List.nil_append] at b;obtain ⟨J,I,E,L⟩:=jC b ab;rw [E] at b ⊢;have q:Hid (G.ownsRow w.heap.size 5 1 (.slice (some ⟨J,0,none⟩) n I) n (zs.map (Value.int .u8))):=b;have H:Hid (Bw w G):=IP d;clear l d b E L))
 go_ret
 exact ⟨_,_,rfl,q.out,H.out⟩
theorem Jd (g n u:Nat) (zs:List Int) (b s D:Nat) (l:List Int) (p va k e x:Int) (he:U e) (hm:(cq e k != e)=false) (w:World) (W:Wk w g n u zs b s D l p va k):Calls prog 143 #[.agg #[.slice (some ⟨g,0,none⟩) n u,.slice (some ⟨b,s,none⟩) 22 D,.i p,.u va,.i k],.u x,.u e] w λr m=>∃ (f:Option Addr) (c:Nat),r=.returned (.slice f n c)/\lF w m zs f n c:=by
 have E:=gc W.hr;have A:Hid (∀ o,Calls prog 39 #[.slice (some ⟨g,0,none⟩) n u] (w.alloc o) λr m=>∃ (f:Option Addr) (c:Nat),r=.returned (.slice f n c)/\lF (w.alloc o) m zs f n c):=λo=>pA g n u zs (w.alloc o) W.hz ab ab (W.hs.below (bal _ _));have y:∀ o,Bw w (w.alloc o):=λo=>bal _ _;have B:Hid (∀ o m f c,lF (w.alloc o) m zs f n c->lF w m zs f n c):=λo m f c h=>⟨cN h.1 cp,aa (y o) h.2⟩;have d:=FK e k he;rw [hm] at d;have C:bits .or .u64 64 128=192:=bv
 clear W;cases t:(k==3) with
 | true =>have e3:k=3:=(by simpa using t);have j:od k=192:=if_pos e3;rw [j] at d;have q:(bits .and .u64 e 192==192)=true:=d;clear d j e3;go_enter func143,ntmps143;go_wp2_with fail;refine (A.out _).mono ?_;rintro r F ⟨f,c,rfl,z⟩;go_wp2_with fail;go_ret;exact ⟨_,_,rfl,B.out _ _ _ _ z⟩
 | false =>have e3:¬ k=3:=(by simpa using t);have j:od k=64:=if_neg e3;rw [j] at d;have q:(bits .and .u64 e 64==64)=true:=d;clear d j e3;go_enter func143,ntmps143;go_wp2_with fail;refine (A.out _).mono ?_;rintro r F ⟨f,c,rfl,z⟩;go_wp2_with fail;go_ret;exact ⟨_,_,rfl,B.out _ _ _ _ z⟩
def Mb (l:List Int) (k e x:Int) (n:Nat) (zs:List Int) (w:World) (r:Ending) (w':World):Prop :=
 if aA l 1 x (aZ x 8) 3 4 0=true then ∃ (a:Option Addr) (c:Nat),r=.returned (.slice a n c)/\lF w w' (jZ zs (x-2147483648).toNat (cq e k) 8) a n c else r=gp (dy k)/\Bw w w'
theorem vI (g n A:Nat) (zs:List Int) (b j z:Nat) (l:List Int) (p va k e x:Int) (he:U e) (hx:gn n x 8=true) (hm:(cq e k != e)=true) (w:World) (W:Wk w g n A zs b j z l p va k):Calls prog 143 #[.agg #[.slice (some ⟨g,0,none⟩) n A,.slice (some ⟨b,j,none⟩) 22 z,.i p,.u va,.i k],.u x,.u e] w λr s=>Mb l k e x n zs w r s:=by
 have hbd:=gc W.hr;have UX:U x:=by obtain ⟨_,_,h1,h2,_,_,_,h4⟩:=jY hx;exact ⟨ab,ab⟩
 have H:Hid (∀ w,Calls prog 190 #[.agg #[.slice (some ⟨g,0,none⟩) n A,.slice (some ⟨b,j,none⟩) 22 z,.i p,.u va,.i k]] w λe s=>e=gp (dy k)/\Bw w s):=λw=>ny _ _ _ _ _ _ _ _ W.hk1 W.hk3 w;have m:∀ o,Bw w (w.alloc o):=λo=>bal _ _;have y:Hid (∀ o,CB 189 #[.slice (some ⟨b,j,none⟩) 22 z,.i 1,.u x,.i 8,.i 3] (w.alloc o) (.bool (aA l 1 x (aZ x 8) 3 4 0))):=λo=>by have:=ky (some ⟨b,j,none⟩) 22 z l 1 x 8 3 (w.alloc o) W.hlz (W.hl.below (m o)) W.hU UX (W.hT.below (m o));rw [FL n l x 3 W.one hx ab ab] at this;exact this
 have I:Hid (∀ s,Bw w s->Calls prog 194 #[.slice (some ⟨g,0,none⟩) n A,.u x,.i 8,.u (cq e k)] s λr B=>∃ (D:Option Addr) (c:Nat),r=.returned (.tuple #[.slice D n c,.bool true])/\lF w B (jZ zs (x-2147483648).toNat (cq e k) 8) D n c):=λs P=>by obtain ⟨_,_,h1,h2,_,_,_,h4⟩:=jY hx;obtain ⟨f,K⟩:∃ f:Nat,x=2147483648+(f:Int):=⟨(x-2147483648).toNat,ab⟩;subst K;have hu:=mc e k;have:=Bb (some ⟨g,0,none⟩) n A f 8 zs (cq e k) s W.hz ab (W.hs.below P) hx hu.1 (by have:=hu.2;omega);rw [show (2147483648+(f:Int)-2147483648).toNat=f from ab];exact this.mono λr B h=>⟨_,_,h.1,cN h.2.1 P.size,aa P h.2.2⟩
 have F:Hid (∀ r s,Mb l k e x n zs w r s=if aA l 1 x (aZ x 8) 3 4 0=true then ∃ (D:Option Addr) (c:Nat),r=.returned (.slice D n c)/\lF w s (jZ zs (x-2147483648).toNat (cq e k) 8) D n c else r=gp (dy k)/\Bw w s):=λr s=>rfl;have q:=FK e k he;have G:=FJ e k;rw [hm] at q;have Z:bits .or .u64 64 128=192:=bv
 generalize aA l 1 x (aZ x 8) 3 4 0=pb at *;generalize jZ zs (x-2147483648).toNat (cq e k) 8=ms at *;generalize Mb l k e x n zs w=Q at *;generalize cq e k=we at *;clear W hm;obtain ⟨N,M,t⟩:∃ N,od k=N/\(((k==3)=true/\N=192)\/((k==3)=false/\N=64)):=by
  refine ⟨_,rfl,?_⟩;by_cases O:k=3;·exact .inl ⟨by simpa using O,if_pos O⟩
  ·exact .inr ⟨by simpa using O,if_neg O⟩
 rw [M] at q G;have J:Hid (bits .or .u64 e N=we):=G;clear G M;rcases t with ⟨t,rfl⟩|⟨t,rfl⟩
 ·have L:(bits .and .u64 e 192==192)=false:=q;clear q;cases pb with
  | false =>go_enter func143,ntmps143;go_wp2_with fail;refine (y.out _).mono ?_;rintro r u ⟨rfl,d⟩;have R1:Hid (u.heap[w.heap.size]?=some (.cells #[.slice (some ⟨g,0,none⟩) n A,.slice (some ⟨b,j,none⟩) 22 z,.i p,.u va,.i k] 114 (0,0))):=fu d (heap_alloc_new w _);obtain ⟨R,S,T,V,X⟩:=lE R1.out;have C:Hid (Bw w u):=aa (m _) d;clear d;go_wp2_with fail;refine (H.out _).mono ?_;rintro r Y ⟨rfl,E⟩;exact ⟨rfl,Eq.mpr ((F.out _ _).trans (if_neg bb)) ⟨rfl,aa C.out E⟩⟩
  | true =>go_enter func143,ntmps143;go_wp2_with fail;refine (y.out _).mono ?_;rintro r u ⟨rfl,d⟩;have R1:Hid (u.heap[w.heap.size]?=some (.cells #[.slice (some ⟨g,0,none⟩) n A,.slice (some ⟨b,j,none⟩) 22 z,.i p,.u va,.i k] 114 (0,0))):=fu d (heap_alloc_new w _);obtain ⟨R,S,T,V,X⟩:=lE R1.out;have C:Hid (Bw w u):=aa (m _) d;clear d;go_wp2_with fail;rw [J.out];refine (I.out _ C.out).mono ?_;rintro r Y ⟨D,c,rfl,K⟩;go_wp2_with fail;exact Eq.mpr ((F.out _ _).trans (if_pos bb)) ⟨_,_,rfl,K⟩
 ·have L:(bits .and .u64 e 64==64)=false:=q;clear q;cases pb with
  | false =>go_enter func143,ntmps143;go_wp2_with fail;refine (y.out _).mono ?_;rintro r u ⟨rfl,d⟩;have R1:Hid (u.heap[w.heap.size]?=some (.cells #[.slice (some ⟨g,0,none⟩) n A,.slice (some ⟨b,j,none⟩) 22 z,.i p,.u va,.i k] 114 (0,0))):=fu d (heap_alloc_new w _);obtain ⟨R,S,T,V,X⟩:=lE R1.out;have C:Hid (Bw w u):=aa (m _) d;clear d;go_wp2_with fail;refine (H.out _).mono ?_;rintro r Y ⟨rfl,E⟩;exact ⟨rfl,Eq.mpr ((F.out _ _).trans (if_neg bb)) ⟨rfl,aa C.out E⟩⟩
  | true =>go_enter func143,ntmps143;go_wp2_with fail;refine (y.out _).mono ?_;rintro r u ⟨rfl,d⟩;have R1:Hid (u.heap[w.heap.size]?=some (.cells #[.slice (some ⟨g,0,none⟩) n A,.slice (some ⟨b,j,none⟩) 22 z,.i p,.u va,.i k] 114 (0,0))):=fu d (heap_alloc_new w _);obtain ⟨R,S,T,V,X⟩:=lE R1.out;have C:Hid (Bw w u):=aa (m _) d;clear d;go_wp2_with fail;rw [J.out];refine (I.out _ C.out).mono ?_;rintro r Y ⟨D,c,rfl,K⟩;go_wp2_with fail;exact Eq.mpr ((F.out _ _).trans (if_pos bb)) ⟨_,_,rfl,K⟩
theorem BZ (k:Int) (w:World):CE 90 #[.i k] w (.bool (decide (1<=k/\k<=3))):=qG k ▸ lz k w
theorem O6:(prog.info? 168).map (·.size)=some 9:=by kernel_rfl
theorem xd (w:World):CB 145 #[] w (.agg #[.i 3,.i 4,.i 6,.i 7,.i 8,.i 3,.i 7,.i 11,.i 2]):=by go_enter func145,ntmps145;go_wp2_with fail;exact bodyPost_ret (results_cell_row results145 _ _ _ _ _ _ _ rfl (heap_alloc_new _ _) underlying168 rfl O6) rfl ⟨rfl,bal _ _⟩
theorem Mc (s:Int) (h:U s) (w:World):CB 251 #[.agg #[.i 3,.i 4,.i 6,.i 7,.i 8,.i 3,.i 7,.i 11,.i 2],.u s] w (.i (wrap64 (cQ s 11 2))):=by have d:Hid (∀ w,Calls prog 66 #[.u s,.i 11,.i 2] w λe c=>e=.returned (.u (cQ s 11 2))/\c=w.drew):=λw=>bu s 11 2 h.1 h.2 ab ab w;clear h;generalize cQ s 11 2=y at *;go_enter func251,ntmps251;go_wp2_with fail;refine (d.out _).mono ?_;rintro e f ⟨rfl,b⟩;subst b;go_wp2_with fail;go_ret;exact ⟨rfl,(bal _ _).drew⟩
theorem lW (a:Option Addr) (n cap:Nat) (l:List Int) (p kind:Int) (w:World) (hz:l.length=n) (hs:Sl .u64 w a l) (hl:∀ j,U (l.getD j 0)):CB 234 #[.slice a n cap,.i p,.i kind] w (.i (Kj n l p kind)):=by
 have d:=λW (i:Bw w W)=>fh a n cap l p W hz (hs.below i) hl;have g:=lz kind;rw [qG] at g;refine bz (S:=Bs w []) (args:=[.slice a n cap,.i p,.i kind]) [] func234 ?_;unfold Kj;cases c:aX n l p;case true =>
  obtain ⟨rfl,s⟩:=gu c;rw [c] at d;obtain ⟨b,k,rfl,i,r⟩:=hs 0 ab;have f:=hl 0;have q:=λW=>Mc (l.getD 0 0) f W;have o:fR l p kind=if ((kind != 1)&&!(bits .and .u64 (l.getD 0 0) 131072==0))=true then wrap64 (cQ (l.getD 0 0) 11 2) else p:=by unfold fR;rw [FI _ f,Va,Bool.not_not,<- ic (l.getD 0 0) 11 2 f.1 f.2 ab];rfl
  rw [o];unfold bne;generalize wrap64 (cQ (l.getD 0 0) 11 2)=y at *;generalize l.getD 0 0=x at *;cases u:decide (1<=kind/\kind<=3)<;>cases v:(kind==1)<;>cases z:(bits .and .u64 x 131072==0)<;>rw [u] at g <;>
   exact aY (t:=6) Bs.eng {eq:=[(21,aj v),(25,aj z)],ov:=[(19,iR ⟨b,k,none⟩ (.u x) underlying22 rfl λW h=>(h.2.cell (by exact i)).trans r)],cv:=[(10,fW d),(14,mM λW _=>g W),(28,fW λW _=>xd W),(30,fW λW _=>q W)]} 60 (Bs.start _ _) (λm h=>⟨rfl,h.2⟩)
 rw [c] at d;exact aY (t:=6) Bs.eng {cv:=[(10,fW d)]} 60 (Bs.start _ _) (λm h=>⟨rfl,h.2⟩)
structure Gd (M:MV):Prop where
 ok:ey M=true
 mw:MW M
 ux:∀ j,U (M.x.getD j 0)
 pc:U M.pc
 hd:U M.hd
theorem eI {M:MV} (h:ey M=true):(bits .and .u64 M.pc 3==0)=true/\gg M.x.length M.x=true/\aX M.cs.length M.cs M.pr=true/\aU M.ram.length=true/\nD M.d.xs.length M.d.ys.length M.d.ir=true/\(M.hl||(M.hd==0))=true/\ls M=true:=by unfold ey at h;simp only [Bool.and_eq_true] at h;obtain ⟨⟨⟨⟨⟨⟨a,b⟩,c⟩,d⟩,e⟩,f⟩,g⟩:=h;exact ⟨a,b,c,d,e,f,g⟩
theorem kJ {M:MV} (a:(bits .and .u64 M.pc 3==0)=true) (b:gg M.x.length M.x=true) (c:aX M.cs.length M.cs M.pr=true) (h4:aU M.ram.length=true) (d:nD M.d.xs.length M.d.ys.length M.d.ir=true) (e:(M.hl||(M.hd==0))=true) (f:ls M=true):ey M=true:=by unfold ey;rw [a,b,c,h4,d,e,f];rfl
theorem Gd.len {M:MV} (h:Gd M):j7 M:=by obtain ⟨_,a,c,d,e,_,_⟩:=eI h.ok;unfold gg at a;rw [Bool.and_eq_true,decide_eq_true_eq] at a;have b:=qo c;have g:=gc d;have f:=yB e;exact ⟨ab,ab,ab,ab,ab⟩
theorem Gd.mem {M:MV} (h:Gd M) {R:List Int} (hl:R.length=M.ram.length) (i:∀ y ∈ R,(Lit.int .u8 y).wf=true):Gd (bL M R):=by obtain ⟨a,b,c,d,e,f,g⟩:=eI h.ok;exact ⟨kJ (M:=bL M R) a b c (by show aU R.length=true;rw [hl];exact d) e f g,⟨h.mw.cs,i,h.mw.xs,h.mw.ys⟩,h.ux,h.pc,h.hd⟩
theorem Gd.free {M:MV} (h:Gd M):Gd (lm M):=by obtain ⟨a,b,c,d,e,g,f⟩:=eI h.ok;exact ⟨kJ (M:=lm M) a b c d e rfl f,⟨h.mw.cs,h.mw.ram,h.mw.xs,h.mw.ys⟩,h.ux,h.pc,(show U 0 from ⟨bb,bb⟩)⟩
theorem Gd.let_ {M:MV} (h:Gd M) (pa:Int):Gd (mB M pa):=by
 unfold mB;split;·exact h.free
 ·exact h
theorem Je (D:DV) (p:Int->Prop) (h:∀ a b c:Bool,p (Uz.wrap (Uz.wrap (Uz.wrap (8*ge a)+Uz.wrap (128*ge b))+Uz.wrap (2048*ge c)))):p (dD D):=h _ _ _
theorem Md (D:DV):bits .and .u64 (dD D) 2184=dD D:=by refine Je D (λx=>bits .and .u64 x 2184=x) ?_;decide +kernel
theorem O7 (D:DV):U (dD D):=aP _
theorem B5 (D:DV) {i:Nat} (a:i<64):bt (dD D) i=(bt (dD D) i&&bt 2184 i):=by have:=au (dD D) 2184 i;rw [Md] at this;exact this
theorem Gd.dev {M:MV} (h:Gd M) {D:DV} (t:nD D.xs.length D.ys.length D.ir=true) (hb:dH D):Gd (cC (cP M D)):=by
 obtain ⟨o,p,w,q,x,r,y⟩:=eI h.ok;obtain ⟨d,f,l,_,_,_⟩:=ay h.ok;have s:=dR f 9 ab;have n:bits .and .u64 (M.cs.getD 9 0) 2730=M.cs.getD 9 0:=beq_iff_eq.1 s;have u:fy 9 (bits .or .u64 (bits .andNot .u64 (M.cs.getD 9 0) 2184) (dD D))=true:=by show (bits .and .u64 (bits .or .u64 (bits .andNot .u64 (M.cs.getD 9 0) 2184) (dD D)) 2730==bits .or .u64 (bits .andNot .u64 (M.cs.getD 9 0) 2184) (dD D))=true;refine beq_iff_eq.2 (br _ _ (af _ _ _) (af _ _ _) λi c=>?_);have v:bt (M.cs.getD 9 0) i=(bt (M.cs.getD 9 0) i&&bt 2730 i):=(by have:=au (M.cs.getD 9 0) 2730 i;rw [n] at this;exact this);have m:=B5 D c;rw [au,cn,aw _ _ _ c];have k:∀ j,j<64->∀ a b:Bool,(a=(a&&bt 2730 j))->(b=(b&&bt 2184 j))->(((a&&!bt 2184 j)||b)&&bt 2730 j)=((a&&!bt 2184 j)||b):=bv;exact k i c _ _ v m
 have g:bq 22 (M.cs.set 9 (bits .or .u64 (bits .andNot .u64 (M.cs.getD 9 0) 2184) (dD D)))=true:=cH M.cs d f 9 ab _ u;refine ⟨kJ (M:=cC (cP M D)) o p ?_ q t r ?_,⟨?_,h.mw.ram,hb.1,hb.2⟩,h.ux,h.pc,h.hd⟩;·show aX (M.cs.set 9 _).length (M.cs.set 9 _) M.pr=true;unfold aX;rw [List.length_set,d,l,Bool.and_true];exact g
 ·show (bits .and .u64 ((M.cs.set 9 (bits .or .u64 (bits .andNot .u64 (M.cs.getD 9 0) 2184) (dD D))).getD 9 0) 2184==dD D)=true;have e:(M.cs.set 9 (bits .or .u64 (bits .andNot .u64 (M.cs.getD 9 0) 2184) (dD D))).getD 9 0=bits .or .u64 (bits .andNot .u64 (M.cs.getD 9 0) 2184) (dD D):=(by rw [List.getD_eq_getElem?_getD,List.getElem?_set_self ab];rfl);rw [e];refine beq_iff_eq.2 (br _ _ (af _ _ _) (O7 D) λi c=>?_);have m:=B5 D c;rw [au,cn,aw _ _ _ c];have k:∀ j,j<64->∀ a b:Bool,(b=(b&&bt 2184 j))->(((a&&!bt 2184 j)||b)&&bt 2184 j)=b:=bv;exact k i c _ _ m
 ·intro j;show U ((M.cs.set 9 (bits .or .u64 (bits .andNot .u64 (M.cs.getD 9 0) 2184) (dD D))).getD j 0);rw [List.getD_eq_getElem?_getD,List.getElem?_set];split
  ·split;·exact af .or (bits .andNot .u64 (M.cs.getD 9 0) 2184) (dD D)
   ·exact ⟨bb,bb⟩
  ·have:=h.mw.cs j;rw [List.getD_eq_getElem?_getD] at this;exact this
theorem Me (D:DV) (h:dH D) (k:Nat):dH (jc D k).2.1:=by
 have b:dH zeroD:=⟨λy a=>(nomatch a),λy a=>(nomatch a)⟩;unfold jc;split;·exact h
 ·exact h
 ·exact h
 ·exact ⟨λy a=>h.1 y (List.mem_of_mem_drop a),h.2⟩
 ·exact h
 ·exact h
 ·exact b
theorem Mg (D:DV) (h:dH D) (x addr size:Int):dH (fI D x (gj addr size)).1:=by
 have n:dH zeroD:=⟨λy a=>(nomatch a),λy a=>(nomatch a)⟩;have c:=Fl D x;have g:=Fp D x;have i:=Fq D x;have b:(fI D x 3).1.xs=D.xs/\((fI D x 3).1.ys=D.ys\/(fI D x 3).1.ys=D.ys++[IntKind.u8.wrap x]):=by
  by_cases d:D.ys.length<4096;·rw [yL _ _ d];exact ⟨rfl,Or.inr rfl⟩
  ·rw [yM _ _ d];exact ⟨rfl,Or.inl rfl⟩
 obtain ⟨q,j⟩:∃ q,fI D x 4=(⟨D.t,D.cm,D.so,D.xs,D.ys,q⟩,true):=⟨_,Fs D x⟩;have l:=Ft D x;have m:=Fu D x;generalize (bits .and .u64 x 1==1)=r at c;have f:(Lit.int .u8 (IntKind.u8.wrap x)).wf=true:=Le (y:=IntKind.u8.wrap x) ps;generalize IntKind.u8.wrap x=z at b f;refine jD addr size (λk=>dH (fI D x k).1) (λ_ _=>?_) (λ_ _=>?_) (λ_ _=>?_) (λ_ _=>?_) (λ_ _=>?_) (λ_ _=>?_) (λ_ _ _ _ _ _=>?_);·show dH (fI D x 0).1;rw [c];exact ⟨h.1,h.2⟩
 ·show dH (fI D x 1).1;rw [g];exact ⟨h.1,h.2⟩
 ·show dH (fI D x 2).1;rw [i];exact ⟨h.1,h.2⟩
 ·show dH (fI D x 3).1;refine ⟨by rw [b.1];exact h.1,λy a=>?_⟩;rcases b.2 with e | e<;>rw [e] at a;·exact h.2 y a
  ·rcases List.mem_append.1 a with a|a;·exact h.2 y a
   ·rw [List.mem_singleton.1 a];exact f
 ·have e:(fI D x 4).1=⟨D.t,D.cm,D.so,D.xs,D.ys,q⟩:=congrArg Prod.fst j;exact e ▸ (⟨h.1,h.2⟩:dH ⟨D.t,D.cm,D.so,D.xs,D.ys,q⟩)
 ·show dH (fI D x 5).1;rw [l];exact h
 ·show dH (fI D x 6).1;rw [m];exact n
theorem Gd.at_ {M:MV} (h:Gd M) (pa size kind x:Int):Gd (qU M pa size kind x).2.1:=by
 obtain ⟨_,_,_,_,c,_,_⟩:=eI h.ok;have a:dH M.d:=⟨h.mw.xs,h.mw.ys⟩;unfold qU;split
 ·split;·exact (h.mem (jd _ _ _ _) (Lf _ h.mw.ram _ _ _)).let_ pa
  ·exact h
 ·split
  ·split;·rename_i b;exact h.dev (Gq _ _ c b) (Me _ a _)
   ·exact h
  ·split
   ·split;·rename_i b;exact (h.dev (Gr _ _ _ _ c b) (Mg _ a _ _ _)).let_ pa
    ·exact h
   ·exact h
theorem Gd.marked {M:MV} (h:Gd M) (F:Fd):Gd (bL M (bn M.ram F)):=h.mem (j9 _ _) (zu _ h.mw.ram F)
theorem Gd.acc {M:MV} (h:Gd M) (addr size kind x:Int):Gd (aC M addr size kind x).2.1:=by
 unfold aC;split;·exact h
 ·unfold wP;split;·exact h.marked _
  ·split;·exact h.marked _
   ·exact (h.marked _).at_ _ _ _ _
theorem B6 (M:MV) (pa:Int):(mB M pa).pc=M.pc/\(mB M pa).x=M.x/\(mB M pa).pr=M.pr/\(mB M pa).wt=M.wt:=by unfold mB;split<;>exact ⟨rfl,rfl,rfl,rfl⟩
theorem O8 (M:MV) (pa size kind x:Int):(qU M pa size kind x).2.1.pc=M.pc/\(qU M pa size kind x).2.1.x=M.x/\(qU M pa size kind x).2.1.pr=M.pr/\(qU M pa size kind x).2.1.wt=M.wt:=by
 unfold qU;split
 ·split;·exact B6 (bL M _) pa
  ·exact ⟨rfl,rfl,rfl,rfl⟩
 ·split;·split<;>exact ⟨rfl,rfl,rfl,rfl⟩
  ·split
   ·split;·exact B6 (cC (cP M _)) pa
    ·exact ⟨rfl,rfl,rfl,rfl⟩
   ·exact ⟨rfl,rfl,rfl,rfl⟩
theorem iJ (M:MV) (addr size kind x:Int):(aC M addr size kind x).2.1.pc=M.pc/\(aC M addr size kind x).2.1.x=M.x/\(aC M addr size kind x).2.1.pr=M.pr/\(aC M addr size kind x).2.1.wt=M.wt:=by
 unfold aC;split;·exact ⟨rfl,rfl,rfl,rfl⟩
 ·unfold wP;split;·exact ⟨rfl,rfl,rfl,rfl⟩
  ·split;·exact ⟨rfl,rfl,rfl,rfl⟩
   ·exact O8 (bL M _) _ _ _ _
theorem vJ (l:List Int) (p va kind e x:Int) (lv:Nat):(db l p va kind e x lv).code=0\/(db l p va kind e x lv).code=dP kind\/(db l p va kind e x lv).code=dy kind:=by
 unfold db;split;·exact Or.inr (Or.inl rfl)
 ·split;·exact Or.inr (Or.inl rfl)
  ·split;·exact Or.inr (Or.inl rfl)
   ·split
    ·split;·exact Or.inl rfl
     ·exact Or.inr (Or.inr rfl)
    ·exact Or.inl rfl
theorem EE (zs:List Int) (n:Nat) (l:List Int) (p va kind:Int):∀ a T,(bK zs n l p va kind a T).code=0\/(bK zs n l p va kind a T).code=dP kind\/(bK zs n l p va kind a T).code=dy kind:=by
 intro a;induction a with
 | zero =>
   intro T;rw [gC];split
   ·split
    ·split;·exact Or.inr (Or.inl rfl)
     ·split;·rw [if_pos (show iZ _ 0=true from by unfold iZ;simp)];exact Or.inr (Or.inl rfl)
      ·exact vJ _ _ _ _ _ _ _
    ·exact Or.inr (Or.inr rfl)
   ·exact Or.inr (Or.inr rfl)
 | succ a b =>
   intro T;rw [gC];split
   ·split
    ·split;·exact Or.inr (Or.inl rfl)
     ·split
      ·split;·exact Or.inr (Or.inl rfl)
       ·exact b _
      ·exact vJ _ _ _ _ _ _ _
    ·exact Or.inr (Or.inr rfl)
   ·exact Or.inr (Or.inr rfl)
theorem yg (zs:List Int) (n:Nat) (l:List Int) (p va kind:Int):(bW zs n l p va kind).code=0\/(bW zs n l p va kind).code=dP kind\/(bW zs n l p va kind).code=dy kind:=by
 unfold bW;split;·exact Or.inl rfl
 ·split;·exact Or.inr (Or.inl rfl)
  ·exact EE _ _ _ _ _ _ _ _
theorem Mh (kind:Int):dP kind=12\/dP kind=13\/dP kind=15:=by
 unfold dP;repeat' split
 all_goals simp
theorem Jf (kind:Int):dy kind=1\/dy kind=5\/dy kind=7:=by
 unfold dy;repeat' split
 all_goals simp
theorem lG (zs:List Int) (n:Nat) (l:List Int) (p va kind:Int):∃ c:Nat,c<16/\(bW zs n l p va kind).code=c:=by
 have a:=Mh kind;have b:=Jf kind;rcases yg zs n l p va kind with h|h|h;·exact ⟨0,ab,h⟩
 ·rcases a with e|e|e;·exact ⟨12,ab,by rw [h,e];rfl⟩
  ·exact ⟨13,ab,by rw [h,e];rfl⟩
  ·exact ⟨15,ab,by rw [h,e];rfl⟩
 ·rcases b with e|e|e;·exact ⟨1,ab,by rw [h,e];rfl⟩
  ·exact ⟨5,ab,by rw [h,e];rfl⟩
  ·exact ⟨7,ab,by rw [h,e];rfl⟩
theorem tP (kind:Int):∃ c:Nat,c<16/\gR kind=c+16:=by
 unfold gR;split;·exact ⟨1,ab,rfl⟩
 ·split;·exact ⟨5,ab,rfl⟩
  ·exact ⟨7,ab,rfl⟩
theorem O9 (kind:Int):∃ c:Nat,c<16/\n8 kind=c+16:=by
 unfold n8;split;·exact ⟨0,ab,rfl⟩
 ·split;·exact ⟨4,ab,rfl⟩
  ·exact ⟨6,ab,rfl⟩
theorem Pa (M:MV) (pa size kind x:Int):(qU M pa size kind x).2.2=0\/∃ c:Nat,c<16/\(qU M pa size kind x).2.2=c+16:=by
 unfold qU;split;·split<;>exact Or.inl rfl
 ·split
  ·split;·exact Or.inl rfl
   ·exact Or.inr (tP kind)
  ·split
   ·split;·exact Or.inl rfl
    ·exact Or.inr (tP kind)
   ·exact Or.inr (tP kind)
theorem Mi (M:MV) (addr size kind x:Int):(aC M addr size kind x).2.2=0\/∃ c:Nat,c<16/\(aC M addr size kind x).2.2=c+16:=by
 unfold aC;split;·exact Or.inr (O9 kind)
 ·unfold wP;split;·obtain ⟨c,a,e⟩:=lG M.ram M.ram.length M.cs (fR M.cs M.pr kind) addr kind;refine Or.inr ⟨c,a,?_⟩;show wrap64 ((bW M.ram M.ram.length M.cs (fR M.cs M.pr kind) addr kind).code+16)=_;rw [e];unfold wrap64;omega
  ·split;·exact Or.inr (tP kind)
   ·exact Pa _ _ _ _ _
end Go.Proofs.YtjifdmoehfbihaaGreatDoor
