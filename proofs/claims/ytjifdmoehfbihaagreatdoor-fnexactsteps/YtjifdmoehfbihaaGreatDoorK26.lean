/- Own lemmas. -/
import Derived.Test.YtjifdmoehfbihaaGreatDoorAut
import Derived.Test.YtjifdmoehfbihaaGreatDoorK24
set_option maxRecDepth 100000
set_option maxHeartbeats 1600000
namespace Go.Proofs.YtjifdmoehfbihaaGreatDoor
open Go.RowKit Tryz
open IntKind renaming u64->Uz
set_option linter.unusedVariables false
def fR (c:Int):Ending:=.panicked [{v:=.iface 162 (.i c),recovered:=false}]
def AA (k:Int):Int:=if k=2 then 5 else if k=3 then 7 else 1
theorem EE (k:Int) (b:1<=k) (c:k<=3):AA k=dg k:=by
 have a:k=1\/k=2\/k=3:=al
 rcases a with rfl|rfl|rfl<;>rfl
theorem J7 (k:Int) (h:¬ (1<=k/\k<=3)):AA k=1:=by unfold AA;rw [if_neg al,if_neg al]
theorem nW (k:Int) (w:World):CE 91 #[.i k] w (.i (AA k)):=by
 have F:Hid (AA k=if k=2 then 5 else if k=3 then 7 else 1):=(rfl:AA k=_);generalize AA k=v at *;cases f:(k==2) with
 | true =>have c:k=2:=et;have b:Hid (v=5):=F.out.trans (if_pos c);exact a0t
 | false =>
   have c:¬ k=2:=et;cases g:(k==3) with
   | true =>have d:k=3:=x9;have b:Hid (v=7):=F.out.trans ((if_neg c).trans (if_pos d));exact a0t
   | false =>have d:¬ k=3:=x9;have b:Hid (v=1):=F.out.trans ((if_neg c).trans (if_neg d));exact a0t
theorem yj (k:Int) (d:1<=k) (f:k<=3) (w:World):CE 186 #[.i k] w (.i (dI k)):=by
 have b:k=1\/k=2\/k=3:=al
 rcases b with rfl|rfl|rfl;·go_enter func186,ntmps186;exact a02
 ·go_enter func186,ntmps186;exact a02
 ·go_enter func186,ntmps186;exact a02
theorem mV (ra:Option Addr) (n m:Nat) (j:Option Addr) (l:Nat) (p va k:Int) (f:1<=k) (g:k<=3) (w:World):Calls prog 190 #[.agg #[.slice ra n m,.slice j 22 l,.i p,.u va,.i k]] w λe c=>e=fR (dg k)/\Bw w c:=by
 have d:Hid (∀ w,CE 91 #[.i k] w (.i (dg k))):=λw=>by have:=nW k w;rw [EE k f g] at this;exact this
 generalize dg k=o at *;go_enter func190,ntmps190;go_wp2_with fail;refine (d.out _).mono ?_;rintro e q ⟨rfl,b⟩;subst b;go_wp2_with fail;exact ⟨rfl,rfl,bal _ _⟩
theorem jz (ra:Option Addr) (n m:Nat) (j:Option Addr) (l:Nat) (p va k:Int) (f:1<=k) (g:k<=3) (w:World):Calls prog 137 #[.agg #[.slice ra n m,.slice j 22 l,.i p,.u va,.i k]] w λe c=>e=fR (dI k)/\Bw w c:=by have d:Hid (∀ w,CE 186 #[.i k] w (.i (dI k))):=λw=>yj k f g w;generalize dI k=o at *;go_enter func137,ntmps137;go_wp2_with fail;refine (d.out _).mono ?_;rintro e q ⟨rfl,b⟩;subst b;go_wp2_with fail;exact ⟨rfl,rfl,bal _ _⟩
structure Wk (w:World) (g n rc:Nat) (zs:List Int) (b off lc:Nat) (l:List Int) (p va k:Int):Prop where
 hz:zs.length=n
 hr:be n=true
 hs:Sl .u8 w (some ⟨g,0,none⟩) zs
 hw:∀ y ∈ zs,(Lit.int .u8 y).wf=true
 hc:n<=rc
 hc2:rc<=9223372036854775807
 hlz:l.length=22
 hl:Sl .u64 w (some ⟨b,off,none⟩) l
 hU:∀ j,U (l.getD j 0)
 hg:aQ 22 l p=true
 hva:U va
 hk1:1<=k
 hk3:k<=3
 hT:qb w
theorem Wk.below {w w':World} {g n d:Nat} {zs:List Int} {b a c:Nat} {l:List Int} {p va k:Int} (h:Wk w g n d zs b a c l p va k) (hb:Bw w w'):Wk w' g n d zs b a c l p va k :=
 ⟨h.hz,h.hr,h.hs.below hb,h.hw,h.hc,h.hc2,h.hlz,h.hl.below hb,h.hU,h.hg,h.hva,h.hk1,h.hk3,h.hT.below hb⟩
theorem Wk.at {w:World} {g n m:Nat} {zs:List Int} {b a i:Nat} {l:List Int} {p va k:Int} (h:Wk w g n m zs b a i l p va k) (j:Nat) (f:j<22):w.cell? ⟨b,a+j,none⟩=some (.u (l.getD j 0)):=by obtain ⟨o,c,e,_,d⟩:=h.hl j (by rw [h.hlz];exact f);simp only [Option.some.injEq,Addr.mk.injEq,and_true] at e;obtain ⟨rfl,rfl⟩:=e;exact d
theorem Wk.one {w:World} {g n d:Nat} {zs:List Int} {b a c:Nat} {l:List Int} {p va k:Int} (h:Wk w g n d zs b a c l p va k):aQ 22 l 1=true:=by have:=h.hg;unfold aQ at this ⊢;rw [Bool.and_eq_true] at this;rw [this.1];rfl
theorem kJ {W:World} {g:Nat} {a b c d e:Value} {t:TypeId} {f:Nat × Nat} (h:W.heap[g]?=some (.cells #[a,b,c,d,e] t f)):W.cell? ⟨g,0,none⟩=some a/\W.cell? ⟨g,1,none⟩=some b/\W.cell? ⟨g,2,none⟩=some c/\W.cell? ⟨g,3,none⟩=some d/\W.cell? ⟨g,4,none⟩=some e:=by refine ⟨?_,?_,?_,?_,?_⟩<;>simp [World.cell?,h]
theorem fw {w w':World} (hb:Bw w w') {g:Nat} {o:Obj} (h:w.heap[g]?=some o):w'.heap[g]?=some o:=by rw [hb.block g (Array.getElem?_eq_some_iff.1 h).1];exact h
theorem rH (lv:Nat) (h:lv<=2) (w:World):CE 187 #[.i (lv:Int)] w (.i ((12+9*lv:Nat):Int)):=by
 have:lv=0\/lv=1\/lv=2:=al
 rcases this with rfl|rfl|rfl;·go_enter func187,ntmps187;exact a02
 ·go_enter func187,ntmps187;exact a02
 ·go_enter func187,ntmps187;exact a02
def oS (zs:List Int) (n:Nat) (l:List Int) (k x:Int):Ending :=
 if fQ n x 8=true then (if ay l 1 x (aM x 8) 2 4 0=true then (if ol (eY zs x)=true then fR (dI k) else .returned (.tuple #[.u x,.u (eY zs x)])) else fR (dg k)) else fR (dg k)
theorem Nw (zs:List Int) (a:∀ y ∈ zs,(Lit.int .u8 y).wf=true) (x:Int):U (eY zs x):=by have:=sH zs (iy a) 8 (x-2147483648).toNat al;exact ⟨this.1,this.2⟩
theorem AB (g n z:Nat) (zs:List Int) (b f y:Nat) (l:List Int) (p va k T:Int) (lv:Nat) (S:lv<=2) (w:World) (W:Wk w g n z zs b f y l p va k):Calls prog 138 #[.agg #[.slice (some ⟨g,0,none⟩) n z,.slice (some ⟨b,f,none⟩) 22 y,.i p,.u va,.i k],.u T,.i (lv:Int)] w λe c=>e=oS zs n l k (bq T va lv)/\Bw w c:=by
 have HW:Hid (Wk w g n z zs b f y l p va k):=W;have hn:n<=1048576:=by have:=fL W.hr;omega
 obtain ⟨q,V⟩:∃ q:Nat,q=12+9*lv:=⟨_,rfl⟩;have HL:Hid (∀ w,Calls prog 187 #[.i (lv:Int)] w λe c=>e=.returned (.i (q:Int))/\∃ m,c=w.drewN m):=λw=>by rw [V];exact (rH lv S w).mono λ_ _ h=>⟨h.1,0,h.2⟩
 have Z:Hid (∀ w,Calls prog 66 #[.u va,.i (q:Int),.i 9] w λe c=>e=.returned (.u (cI va q 9))/\∃ m,c=w.drewN m):=λw=>(bn va q 9 W.hva.1 W.hva.2 al al w).mono λ_ _ h=>⟨h.1,1,h.2⟩;have PX:Hid (Uz.wrap (T+Uz.wrap (8*cI va q 9))=bq T va lv):=by show _=_;rw [V];exact Od T va W.hva lv
 clear V;have R:U (bq T va lv):=bG _;generalize bq T va lv=x at *;have I:Hid (∀ c,Bw w c->CB 188 #[.slice (some ⟨g,0,none⟩) n z,.u x,.i 8] c (.tuple #[.u (lK zs n x 8),.bool (fQ n x 8)])):=λc M =>
  oY g n z zs x 8 c W.hz hn (W.hs.below M) W.hw W.hc W.hc2 R.1 (by have:=R.2;omega)
 have B:Hid (∀ c,Bw w c->CB 189 #[.slice (some ⟨b,f,none⟩) 22 y,.i 1,.u x,.i 8,.i 2] c (.bool (rj 22 l 1 x 8 2))):=λc M =>
  jT (some ⟨b,f,none⟩) 22 y l 1 x 8 2 c W.hlz (W.hl.below M) W.hU R (W.hT.below M)
 have A:Hid (∀ w,Calls prog 190 #[.agg #[.slice (some ⟨g,0,none⟩) n z,.slice (some ⟨b,f,none⟩) 22 y,.i p,.u va,.i k]] w λe c=>e=fR (dg k)/\Bw w c):=λw=>mV _ _ _ _ _ _ _ _ W.hk1 W.hk3 w;have r:Hid (∀ w,Calls prog 137 #[.agg #[.slice (some ⟨g,0,none⟩) n z,.slice (some ⟨b,f,none⟩) 22 y,.i p,.u va,.i k]] w λe c=>e=fR (dI k)/\Bw w c):=λw=>jz _ _ _ _ _ _ _ _ W.hk1 W.hk3 w;have D:∀ o m,Bw w ((w.alloc o).drewN m):=λo m=>fo (bal _ _) m;have F:Hid (oS zs n l k x=if fQ n x 8=true then (if ay l 1 x (aM x 8) 2 4 0=true then (if ol (eY zs x)=true then fR (dI k) else .returned (.tuple #[.u x,.u (eY zs x)])) else fR (dg k)) else fR (dg k)):=(rfl:oS zs n l k x=_);have K:=W.one;clear W;go_enter func138,ntmps138;go_wp2_with fail;go_quiet (first | (go_at_call 187;with_reducible refine Calls.quiet_of (HL.out _)) | (go_at_call 66;with_reducible refine Calls.quiet_of (Z.out _)))
 rw [PX.out];go_wp2_with fail;refine (I.out _ (D _ _)).mono ?_;rintro e w1 ⟨rfl,E⟩;have Q:Hid (Bw w w1):=aa (D _ _) E;have R1:Hid (w1.heap[w.heap.size]?=some (.cells #[.slice (some ⟨g,0,none⟩) n z,.slice (some ⟨b,f,none⟩) 22 y,.i p,.u va,.i k] 114 (0,0))):=fw E (heap_alloc_new w _);obtain ⟨k0,k1,k2,k3,k4⟩:=kJ R1.out;clear E D I HL Z;cases u:fQ n x 8 with
 | false =>rw [u] at F;have s:Hid (oS zs n l k x=fR (dg k)):=F.out.trans (if_neg a5);clear F B r;go_wp2_with fail;refine (A.out _).mono ?_;rintro e X ⟨rfl,t⟩;exact ⟨rfl,s.out.symm,aa Q.out t⟩
 | true =>
   rw [u,if_pos rfl] at F;have J:lK zs n x 8=eY zs x:=(by unfold lK eY;rw [u];rfl);rw [J];have L:=D4 n l x 2 K u al al;go_wp2_with fail;refine (B.out _ Q.out).mono ?_;rintro e X ⟨rfl,t⟩;rw [L];have H:Hid (Bw w X):=aa Q.out t;have R2:Hid (X.heap[w.heap.size]?=some (.cells #[.slice (some ⟨g,0,none⟩) n z,.slice (some ⟨b,f,none⟩) 22 y,.i p,.u va,.i k] 114 (0,0))):=fw t R1.out;clear k0 k1 k2 k3 k4 t;obtain ⟨k0,k1,k2,k3,k4⟩:=kJ R2.out;clear B J L;have UE:U (eY zs x):=Nw zs HW.out.hw x;have Y:=Ob (eY zs x) UE;rw [<- Y] at F;clear Y;generalize eY zs x=C at *;generalize ay l 1 x (aM x 8) 2 4 0=pb at *;cases pb with
   | false =>have s:Hid (oS zs n l k x=fR (dg k)):=F.out.trans (if_neg a5);clear F r;go_wp2_with fail;refine (A.out _).mono ?_;exact a0u
   | true =>
     have j:oS zs n l k x=if LA C=true then fR (dI k) else .returned (.tuple #[.u x,.u C]):=F.out.trans (if_pos rfl)
     clear F A;unfold LA at j;cases N:(bits .and .u64 C 1==0) with
     | true =>
       rw [N] at j;have s:Hid (oS zs n l k x=fR (dI k)):=j.trans (if_pos rfl);clear j;cases O:(bits .and .u64 C 6==4) with
       | true =>go_wp2_with fail;refine (r.out _).mono ?_;exact a0u
       | false =>go_wp2_with fail;refine (r.out _).mono ?_;exact a0u
     | false =>
       cases O:(bits .and .u64 C 6==4) with
       | true =>rw [N,O] at j;have s:Hid (oS zs n l k x=fR (dI k)):=j.trans (if_pos rfl);clear j;go_wp2_with fail;refine (r.out _).mono ?_;exact a0u
       | false =>
         cases t3:(bits .and .u64 C 18428729675200069632 != 0) with
         | true =>rw [N,O,t3] at j;have s:Hid (oS zs n l k x=fR (dI k)):=j.trans (if_pos rfl);clear j;go_wp2_with fail;refine (r.out _).mono ?_;exact a0u
         | false =>rw [N,O,t3] at j;have s:Hid (oS zs n l k x=.returned (.tuple #[.u x,.u C])):=j.trans (if_neg a5);clear j;go_wp2_with fail;go_ret2;exact ⟨s.out.symm,H.out⟩
theorem Dh (e:Int) (he:U e) (w:World):CE 139 #[.u e] w (.bool (!lw e)):=by have F:Hid ((bits .and .u64 e 10 != 0)=!lw e):=LC e he;generalize (!lw e)=v at *;go_enter func139,ntmps139;exact a0a
theorem rI (e:Int) (he:U e) (w:World):Calls prog 191 #[.u e] w λr c=>r=.returned (.u (cI e 10 44))/\c=w.drew:=by have d:Hid (∀ w,Calls prog 66 #[.u e,.i 10,.i 44] w λr c=>r=.returned (.u (cI e 10 44))/\c=w.drew):=λw=>bn e 10 44 he.1 he.2 al al w;generalize cI e 10 44=f at *;go_enter func191,ntmps191;go_wp2_with fail;refine (d.out _).mono ?_;rintro r g ⟨rfl,b⟩;subst b;exact a02
def GE (k e:Int) (lv:Nat):Ending:=if iK e lv=true then fR (dI k) else .returned (.u (Uz.wrap (dJ e*4096)))
theorem AD (g n y:Nat) (b m u:Nat) (p va k e:Int) (lv:Nat) (he:U e) (B:1<=k) (C:k<=3) (w:World):Calls prog 140 #[.agg #[.slice (some ⟨g,0,none⟩) n y,.slice (some ⟨b,m,none⟩) 22 u,.i p,.u va,.i k],.u e,.i (lv:Int)] w λr q=>r=GE k e lv/\Bw w q:=by
 have l:Hid (∀ w,Calls prog 137 #[.agg #[.slice (some ⟨g,0,none⟩) n y,.slice (some ⟨b,m,none⟩) 22 u,.i p,.u va,.i k]] w λe q=>e=fR (dI k)/\Bw w q):=λw=>jz _ _ _ _ _ _ _ _ B C w;have A:Hid (∀ w,Calls prog 191 #[.u e] w λr q=>r=.returned (.u (dJ e))/\q=w.drew):=λw=>by have:=rI e he w;rw [tK e he] at this;exact this
 have F:GE k e lv=if (((lv:Int)==0)||(bits .and .u64 e 208 != 0))=true then fR (dI k) else .returned (.u (Uz.wrap (dJ e*4096))):=by rw [LD e he lv];rfl
 have c:∀ o,Bw w (w.alloc o):=λo=>bal _ _;generalize dJ e=f at *;generalize GE k e lv=v at *;cases t:((lv:Int)==0) with
 | true =>rw [t] at F;have j:Hid (v=fR (dI k)):=F.trans (if_pos rfl);clear F;go_enter func140,ntmps140;go_wp2_with fail;refine (l.out _).mono ?_;rintro r D ⟨rfl,d⟩;exact ⟨rfl,j.out.symm,aa (c _) d⟩
 | false =>
   cases z:(bits .and .u64 e 208 != 0) with
   | true =>rw [t,z] at F;have j:Hid (v=fR (dI k)):=F.trans (if_pos rfl);clear F;go_enter func140,ntmps140;go_wp2_with fail;refine (l.out _).mono ?_;rintro r D ⟨rfl,d⟩;exact ⟨rfl,j.out.symm,aa (c _) d⟩
   | false =>rw [t,z] at F;have j:Hid (v=.returned (.u (Uz.wrap (f*4096)))):=F.trans (if_neg a5);clear F;go_enter func140,ntmps140;go_wp2_with fail;refine (A.out _).mono ?_;rintro r E ⟨rfl,s⟩;subst s;go_wp2_with fail;go_ret;exact ⟨j.out.symm,fo (c _) 1⟩
theorem AE (ra:Option Addr) (n l:Nat) (b d j:Nat) (p va k e x:Int) (u:1<=k) (y:k<=3) (w:World) (z:∀ o,(w.alloc o).cell? ⟨b,d,none⟩=some (.u x)):CB 192 #[.agg #[.slice ra n l,.slice (some ⟨b,d,none⟩) 22 j,.i p,.u va,.i k],.u e] w (.bool (nK x k e)):=by
 have c:∀ o,Bw w (w.alloc o):=λo=>bal _ _;have g:k=1\/k=2\/k=3:=al
 rcases g with rfl|rfl|rfl;·have F:Hid (nK x 1 e=(bits .and .u64 e 8 != 0)):=(rfl:nK x 1 e=_);generalize nK x 1 e=v at *;go_enter func192,ntmps192;go_wp2_with fail;go_ret;exact ⟨a6,c _⟩
 ·have F:nK x 2 e=((bits .and .u64 e 2 != 0)||((bits .and .u64 x 524288 != 0)&&(bits .and .u64 e 8 != 0))):=rfl;generalize nK x 2 e=v at *;cases m:(bits .and .u64 e 2 != 0)<;>cases q:(bits .and .u64 x 524288 != 0)<;>cases s:(bits .and .u64 e 8 != 0);all_goals
   rw [m,q,s] at F
   have f:=dx F
   clear F
   go_enter func192,ntmps192
   go_wp2_with fail
   go_ret
   exact ⟨by rw [f.out];rfl,c _⟩
 ·have F:Hid (nK x 3 e=(bits .and .u64 e 4 != 0)):=(rfl:nK x 3 e=_);generalize nK x 3 e=v at *;go_enter func192,ntmps192;go_wp2_with fail;go_ret;exact ⟨a6,c _⟩
theorem AG (ra:Option Addr) (n l:Nat) (b d j:Nat) (p va k e x:Int) (w:World) (u:∀ o,(w.alloc o).cell? ⟨b,d,none⟩=some (.u x)):CB 193 #[.agg #[.slice ra n l,.slice (some ⟨b,d,none⟩) 22 j,.i p,.u va,.i k],.u e] w (.bool (zP x p k e)):=by
 have c:∀ o,Bw w (w.alloc o):=λo=>bal _ _;have F:zP x p k e=if (bits .and .u64 e 16==0)=true then (p==1) else ((p==0)||((k != 1)&&(bits .and .u64 x 262144 != 0))):=rfl
 generalize zP x p k e=v at *;cases t0:(bits .and .u64 e 16==0) with
 | true =>have g:Hid (v=(p==1)):=(by rw [t0] at F;exact F.trans (if_pos rfl));clear F;go_enter func193,ntmps193;go_wp2_with fail;go_ret;exact ⟨d8,c _⟩
 | false =>
   have f:v=((p==0)||((k != 1)&&(bits .and .u64 x 262144 != 0))):=(by rw [t0] at F;exact F.trans (if_neg a5));clear F;cases m:(p==0)<;>cases q:(k != 1)<;>cases s:(bits .and .u64 x 262144 != 0);all_goals
    rw [m,q,s] at f
    have g:=dx f
    clear f
    go_enter func193,ntmps193
    go_wp2_with fail
    go_ret
    exact ⟨d8,c _⟩
def Di (l:List Int) (p k e:Int) (lv:Nat):Ending:=if (ly e lv||fX l k e||fY l p k e)=true then fR (dI k) else .returned (.tuple #[])
theorem vt (g n y:Nat) (zs:List Int) (b c u:Nat) (l:List Int) (p va k e:Int) (lv:Nat) (X:lv<=2) (he:U e) (hp:p=0\/p=1) (w:World) (W:Wk w g n y zs b c u l p va k):Calls prog 141 #[.agg #[.slice (some ⟨g,0,none⟩) n y,.slice (some ⟨b,c,none⟩) 22 u,.i p,.u va,.i k],.u e,.i (lv:Int)] w λr d=>r=Di l p k e lv/\Bw w d:=by
 have HW:Hid (Wk w g n y zs b c u l p va k):=W;obtain ⟨q,hq⟩:∃ q:Nat,q=9*lv:=⟨_,rfl⟩;have L:Hid (9*(lv:Int)=(q:Int)):=by show _=_;omega
 have K:Hid (∀ w,Calls prog 66 #[.u e,.i 10,.i (q:Int)] w λr d=>r=.returned (.u (cI e 10 q))/\d=w.drew):=λw=>bn e 10 q he.1 he.2 al al w;have D:Hid (∀ w,Calls prog 137 #[.agg #[.slice (some ⟨g,0,none⟩) n y,.slice (some ⟨b,c,none⟩) 22 u,.i p,.u va,.i k]] w λe d=>e=fR (dI k)/\Bw w d):=λw=>jz _ _ _ _ _ _ _ _ W.hk1 W.hk3 w;have s:∀ o m,Bw w ((w.alloc o).drewN m):=λo m=>fo (bal _ _) m;have T:Hid (∀ d,Bw w d->∀ o,(d.alloc o).cell? ⟨b,c,none⟩=some (.u (l.getD 0 0))):=λd J o=>(W.below (aa J (bal _ _))).at 0 al;have C:Hid (∀ d,Bw w d->CB 192 #[.agg #[.slice (some ⟨g,0,none⟩) n y,.slice (some ⟨b,c,none⟩) 22 u,.i p,.u va,.i k],.u e] d (.bool (!fX l k e))):=λd J=>by have:=AE (some ⟨g,0,none⟩) n y b c u p va k e (l.getD 0 0) W.hk1 W.hk3 d (T.out d J);rw [IH l k e he (W.hU 0) W.hk1 W.hk3] at this;exact this
 have I:Hid (∀ d,Bw w d->CB 193 #[.agg #[.slice (some ⟨g,0,none⟩) n y,.slice (some ⟨b,c,none⟩) 22 u,.i p,.u va,.i k],.u e] d (.bool (!fY l p k e))):=λd J=>by have:=AG (some ⟨g,0,none⟩) n y b c u p va k e (l.getD 0 0) d (T.out d J);rw [II l p k e he (W.hU 0) hp] at this;exact this
 have Z:(cI e 10 q != 0)=ly e lv:=by rw [hq];exact IG e he lv X
 have F:Di l p k e lv=if (ly e lv||fX l k e||fY l p k e)=true then fR (dI k) else .returned (.tuple #[]):=rfl
 rw [<- Z] at F;generalize Di l p k e lv=v at *;generalize cI e 10 q=ff at *;generalize fX l k e=nk at *;generalize fY l p k e=np at *;clear W T hq Z;cases R:(ff != 0) with
 | true =>rw [R] at F;have B:Hid (v=fR (dI k)):=F.trans (if_pos rfl);clear F;go_enter func141,ntmps141;go_wp2_with fail;rw [L.out];refine (K.out _).mono ?_;rintro r Y ⟨rfl,t⟩;subst t;go_wp2_with fail;refine (D.out _).mono ?_;rintro r H ⟨rfl,j⟩;exact ⟨rfl,B.out.symm,aa (s _ 1) j⟩
 | false =>
   cases nk with
   | true =>rw [R] at F;have B:Hid (v=fR (dI k)):=F.trans (if_pos rfl);clear F;go_enter func141,ntmps141;go_wp2_with fail;rw [L.out];refine (K.out _).mono ?_;rintro r Y ⟨rfl,t⟩;subst t;go_wp2_with fail;refine (C.out _ (s _ 1)).mono ?_;rintro r z ⟨rfl,f⟩;have G:Hid (z.heap[w.heap.size]?=some (.cells #[.slice (some ⟨g,0,none⟩) n y,.slice (some ⟨b,c,none⟩) 22 u,.i p,.u va,.i k] 114 (0,0))):=fw f (heap_alloc_new w _);obtain ⟨M,N,O,P,Q⟩:=kJ G.out;have A:Hid (Bw w z):=aa (s _ 1) f;clear f;go_wp2_with fail;refine (D.out _).mono ?_;rintro r H ⟨rfl,j⟩;exact ⟨rfl,B.out.symm,aa A.out j⟩
   | false =>
     cases np with
     | true =>rw [R] at F;have B:Hid (v=fR (dI k)):=F.trans (if_pos rfl);clear F;go_enter func141,ntmps141;go_wp2_with fail;rw [L.out];refine (K.out _).mono ?_;rintro r Y ⟨rfl,t⟩;subst t;go_wp2_with fail;refine (C.out _ (s _ 1)).mono ?_;rintro r z ⟨rfl,f⟩;have G:Hid (z.heap[w.heap.size]?=some (.cells #[.slice (some ⟨g,0,none⟩) n y,.slice (some ⟨b,c,none⟩) 22 u,.i p,.u va,.i k] 114 (0,0))):=fw f (heap_alloc_new w _);obtain ⟨M,N,O,P,Q⟩:=kJ G.out;have A:Hid (Bw w z):=aa (s _ 1) f;clear f;go_wp2_with fail;refine (I.out _ A.out).mono ?_;rintro r H ⟨rfl,j⟩;have R3:Hid (H.heap[w.heap.size]?=some (.cells #[.slice (some ⟨g,0,none⟩) n y,.slice (some ⟨b,c,none⟩) 22 u,.i p,.u va,.i k] 114 (0,0))):=fw j G.out;clear M N O P Q;obtain ⟨M,N,O,P,Q⟩:=kJ R3.out;have S:Hid (Bw w H):=aa A.out j;clear j;go_wp2_with fail;refine (D.out _).mono ?_;rintro r w4 ⟨rfl,V⟩;exact ⟨rfl,B.out.symm,aa S.out V⟩
     | false =>rw [R] at F;have B:Hid (v=.returned (.tuple #[])):=F.trans (if_neg a5);clear F;go_enter func141,ntmps141;go_wp2_with fail;rw [L.out];refine (K.out _).mono ?_;rintro r Y ⟨rfl,t⟩;subst t;go_wp2_with fail;refine (C.out _ (s _ 1)).mono ?_;rintro r z ⟨rfl,f⟩;have G:Hid (z.heap[w.heap.size]?=some (.cells #[.slice (some ⟨g,0,none⟩) n y,.slice (some ⟨b,c,none⟩) 22 u,.i p,.u va,.i k] 114 (0,0))):=fw f (heap_alloc_new w _);obtain ⟨M,N,O,P,Q⟩:=kJ G.out;have A:Hid (Bw w z):=aa (s _ 1) f;clear f;go_wp2_with fail;refine (I.out _ A.out).mono ?_;rintro r H ⟨rfl,j⟩;have S:Hid (Bw w H):=aa A.out j;clear j;go_wp2_with fail;go_end0;exact ⟨B.out.symm,S.out⟩
theorem Mt (g n A:Nat) (b l z:Nat) (p va k e:Int) (lv:Nat) (d:lv<=2) (he:U e) (hv:U va) (s:ly e lv=false) (w:World):CB 142 #[.agg #[.slice (some ⟨g,0,none⟩) n A,.slice (some ⟨b,l,none⟩) 22 z,.i p,.u va,.i k],.u e,.i (lv:Int)] w (.u (fT e va lv)):=by
 obtain ⟨q,j⟩:∃ q:Nat,q=12+9*lv:=⟨_,rfl⟩;have y:Hid (∀ w,Calls prog 187 #[.i (lv:Int)] w λe c=>e=.returned (.i (q:Int))/\∃ m,c=w.drewN m):=λw=>by rw [j];exact (rH lv d w).mono λ_ _ h=>⟨h.1,0,h.2⟩
 have t:Hid (∀ w,Calls prog 66 #[.u va,.i 0,.i (q:Int)] w λe c=>e=.returned (.u (cI va 0 q))/\∃ m,c=w.drewN m):=λw=>(bn va 0 q hv.1 hv.2 al al w).mono λ_ _ h=>⟨h.1,1,h.2⟩;have u:Hid (∀ w,Calls prog 191 #[.u e] w λr c=>r=.returned (.u (cI e 10 44))/\∃ m,c=w.drewN m):=λw=>(rI e he w).mono λ_ _ h=>⟨h.1,1,h.2⟩;have F:Hid (bits .or .u64 (Uz.wrap (cI e 10 44*4096)) (cI va 0 q)=fT e va lv):=by show _=_;rw [j];exact LF e va he hv lv d s
 have f:∀ o m,Bw w ((w.alloc o).drewN m):=λo m=>fo (bal _ _) m;generalize fT e va lv=v at *;clear j s;go_enter func142,ntmps142;go_wp2_with fail;go_quiet (first | (go_at_call 187;with_reducible refine Calls.quiet_of (y.out _)) | (go_at_call 66;with_reducible refine Calls.quiet_of (t.out _)) | (go_at_call 191;with_reducible refine Calls.quiet_of (u.out _)))
 go_wp2_with fail;go_ret;exact ⟨a6,f _ _⟩
def kK (w w':World) (zs:List Int) (a:Option Addr) (n c:Nat):Prop:=w'.ownsRow w.heap.size 5 1 (.slice a n c) n (zs.map (Value.int .u8))/\Bw w w'
theorem oT (g n F:Nat) (zs:List Int) (w:World) (hz:zs.length=n) (N:1<=n) (hn:n<=1048576) (hs:Sl .u8 w (some ⟨g,0,none⟩) zs):Calls prog 39 #[.slice (some ⟨g,0,none⟩) n F] w λr Q=>∃ (D:Option Addr) (c:Nat),r=.returned (.slice D n c)/\kK w Q zs D n c:=by
 have R:∀ (w:World) (a:Option Addr) (n c C s:Nat),(binOp .eql 24 (.slice a n c) (.slice none C s)).run prog w=.ok (.bool a.isNone) w:=λw a n c C s=>Lib.run_eql_slice_nil w _ _ a n c C s underlying24
 obtain ⟨P,M,z,A,B⟩:=info_parts info5
 have p:Hid (∀ u ∈ zs.map (Value.int .u8),u.oneCell'=true):=ints_oneCell _ _
 have t:(0+n)*1<=140737488355328:=al
 have y:0+n<=maxLen:=by unfold maxLen;omega
 have m:(zs.map (Value.int .u8)).length=n*1:=by rw [List.length_map,hz];omega
 have K:=Ct w w.heap.size (Nat.le_refl _) (.cells #[] 5 (0,0)) rfl
 have f:Hid (∀ (o:Obj) (j:Nat) (u:Value),(zs.map (Value.int .u8))[j]?=some u->(w.alloc o).cell? ((⟨g,0,none⟩:Addr).add j)=some u):=λo j u O=>K5 hs o j u O
 clear hs
 go_enter func39,ntmps39
 go_wp2_with (first
  | (at_builtin;refine wpList_append_own _ rfl (.tmp 5) (.tmp 6) 24 rfl _ 5 P (.int .u8 0) 1 1 underlying24 M z A B rfl a5 _ 0 [] (by rfl) K ⟨g,0,none⟩ n F (zs.map (Value.int .u8)) rfl m (f.out _) p.out y t bc ?_;intro S G b d l;simp only [Nat.zero_add,List.nil_append] at b;obtain ⟨J,I,E,L⟩:=nY b al;rw [E] at b ⊢;have q:Hid (G.ownsRow w.heap.size 5 1 (.slice (some ⟨J,0,none⟩) n I) n (zs.map (Value.int .u8))):=b;have H:Hid (Bw w G):=Gk d;clear l d b E L))
 go_ret
 exact ⟨_,_,rfl,q.out,H.out⟩
theorem GF (g n y:Nat) (zs:List Int) (b u E:Nat) (l:List Int) (p va k e x:Int) (he:U e) (hm:(cg e k != e)=false) (w:World) (W:Wk w g n y zs b u E l p va k):Calls prog 143 #[.agg #[.slice (some ⟨g,0,none⟩) n y,.slice (some ⟨b,u,none⟩) 22 E,.i p,.u va,.i k],.u x,.u e] w λr m=>∃ (f:Option Addr) (c:Nat),r=.returned (.slice f n c)/\kK w m zs f n c:=by
 have F:=fL W.hr;have B:Hid (∀ o,Calls prog 39 #[.slice (some ⟨g,0,none⟩) n y] (w.alloc o) λr m=>∃ (f:Option Addr) (c:Nat),r=.returned (.slice f n c)/\kK (w.alloc o) m zs f n c):=λo=>oT g n y zs (w.alloc o) W.hz al al (W.hs.below (bal _ _));have z:∀ o,Bw w (w.alloc o):=λo=>bal _ _;have C:Hid (∀ o m f c,kK (w.alloc o) m zs f n c->kK w m zs f n c):=λo m f c h=>⟨dp h.1 bc,aa (z o) h.2⟩;have d:=D3 e k he;rw [hm] at d;have D:bits .or .u64 64 128=192:=a8
 clear W;cases t:(k==3) with
 | true =>have q:k=3:=(by simpa using t);have j:nL k=192:=if_pos q;rw [j] at d;have s:(bits .and .u64 e 192==192)=true:=d;clear d j q;go_enter func143,ntmps143;go_wp2_with fail;refine (B.out _).mono ?_;rintro r G ⟨f,c,rfl,A⟩;go_wp2_with fail;go_ret;exact ⟨_,_,rfl,C.out _ _ _ _ A⟩
 | false =>have q:¬ k=3:=(by simpa using t);have j:nL k=64:=if_neg q;rw [j] at d;have s:(bits .and .u64 e 64==64)=true:=d;clear d j q;go_enter func143,ntmps143;go_wp2_with fail;refine (B.out _).mono ?_;rintro r G ⟨f,c,rfl,A⟩;go_wp2_with fail;go_ret;exact ⟨_,_,rfl,C.out _ _ _ _ A⟩
def J8 (l:List Int) (k e x:Int) (n:Nat) (zs:List Int) (w:World) (r:Ending) (w':World):Prop :=
 if ay l 1 x (aM x 8) 3 4 0=true then ∃ (a:Option Addr) (c:Nat),r=.returned (.slice a n c)/\kK w w' (jZ zs (x-2147483648).toNat (cg e k) 8) a n c else r=fR (dg k)/\Bw w w'
theorem uu (g n A:Nat) (zs:List Int) (b j z:Nat) (l:List Int) (p va k e x:Int) (he:U e) (hx:fQ n x 8=true) (hm:(cg e k != e)=true) (w:World) (W:Wk w g n A zs b j z l p va k):Calls prog 143 #[.agg #[.slice (some ⟨g,0,none⟩) n A,.slice (some ⟨b,j,none⟩) 22 z,.i p,.u va,.i k],.u x,.u e] w λr s=>J8 l k e x n zs w r s:=by
 have hbd:=fL W.hr;have UX:U x:=by obtain ⟨_,_,h1,h2,_,_,_,h4⟩:=jB hx;exact ⟨al,al⟩
 have I:Hid (∀ w,Calls prog 190 #[.agg #[.slice (some ⟨g,0,none⟩) n A,.slice (some ⟨b,j,none⟩) 22 z,.i p,.u va,.i k]] w λe s=>e=fR (dg k)/\Bw w s):=λw=>mV _ _ _ _ _ _ _ _ W.hk1 W.hk3 w;have m:∀ o,Bw w (w.alloc o):=λo=>bal _ _;have y:Hid (∀ o,CB 189 #[.slice (some ⟨b,j,none⟩) 22 z,.i 1,.u x,.i 8,.i 3] (w.alloc o) (.bool (ay l 1 x (aM x 8) 3 4 0))):=λo=>by have:=jT (some ⟨b,j,none⟩) 22 z l 1 x 8 3 (w.alloc o) W.hlz (W.hl.below (m o)) W.hU UX (W.hT.below (m o));rw [D4 n l x 3 W.one hx al al] at this;exact this
 have J:Hid (∀ s,Bw w s->Calls prog 194 #[.slice (some ⟨g,0,none⟩) n A,.u x,.i 8,.u (cg e k)] s λr B=>∃ (E:Option Addr) (c:Nat),r=.returned (.tuple #[.slice E n c,.bool true])/\kK w B (jZ zs (x-2147483648).toNat (cg e k) 8) E n c):=λs R=>by obtain ⟨_,_,h1,h2,_,_,_,h4⟩:=jB hx;obtain ⟨f,L⟩:∃ f:Nat,x=2147483648+(f:Int):=⟨(x-2147483648).toNat,al⟩;subst L;have hu:=lz e k;have:=zQ (some ⟨g,0,none⟩) n A f 8 zs (cg e k) s W.hz al (W.hs.below R) hx hu.1 (by have:=hu.2;omega);rw [show (2147483648+(f:Int)-2147483648).toNat=f from al];exact this.mono λr B h=>⟨_,_,h.1,dp h.2.1 R.size,aa R h.2.2⟩
 have F:Hid (∀ r s,J8 l k e x n zs w r s=if ay l 1 x (aM x 8) 3 4 0=true then ∃ (E:Option Addr) (c:Nat),r=.returned (.slice E n c)/\kK w s (jZ zs (x-2147483648).toNat (cg e k) 8) E n c else r=fR (dg k)/\Bw w s):=λr s=>rfl;have q:=D3 e k he;have H:=D2 e k;rw [hm] at q;have h192:bits .or .u64 64 128=192:=a8
 generalize ay l 1 x (aM x 8) 3 4 0=pb at *;generalize jZ zs (x-2147483648).toNat (cg e k) 8=ms at *;generalize J8 l k e x n zs w=Q at *;generalize cg e k=we at *;clear W hm;obtain ⟨O,N,t⟩:∃ O,nL k=O/\(((k==3)=true/\O=192)\/((k==3)=false/\O=64)):=by
  refine ⟨_,rfl,?_⟩;by_cases P:k=3;·exact .inl ⟨by simpa using P,if_pos P⟩
  ·exact .inr ⟨by simpa using P,if_neg P⟩
 rw [N] at q H;have K:Hid (bits .or .u64 e O=we):=H;clear H N;rcases t with ⟨t,rfl⟩|⟨t,rfl⟩
 ·have M:(bits .and .u64 e 192==192)=false:=q;clear q;cases pb with
  | false =>go_enter func143,ntmps143;go_wp2_with fail;refine (y.out _).mono ?_;rintro r u ⟨rfl,d⟩;have D:Hid (u.heap[w.heap.size]?=some (.cells #[.slice (some ⟨g,0,none⟩) n A,.slice (some ⟨b,j,none⟩) 22 z,.i p,.u va,.i k] 114 (0,0))):=fw d (heap_alloc_new w _);obtain ⟨S,T,V,X,Y⟩:=kJ D.out;have C:Hid (Bw w u):=aa (m _) d;clear d;go_wp2_with fail;refine (I.out _).mono ?_;rintro r Z ⟨rfl,G⟩;exact ⟨rfl,Eq.mpr ((F.out _ _).trans (if_neg a5)) ⟨rfl,aa C.out G⟩⟩
  | true =>go_enter func143,ntmps143;go_wp2_with fail;refine (y.out _).mono ?_;rintro r u ⟨rfl,d⟩;have D:Hid (u.heap[w.heap.size]?=some (.cells #[.slice (some ⟨g,0,none⟩) n A,.slice (some ⟨b,j,none⟩) 22 z,.i p,.u va,.i k] 114 (0,0))):=fw d (heap_alloc_new w _);obtain ⟨S,T,V,X,Y⟩:=kJ D.out;have C:Hid (Bw w u):=aa (m _) d;clear d;go_wp2_with fail;rw [K.out];refine (J.out _ C.out).mono ?_;rintro r Z ⟨E,c,rfl,L⟩;go_wp2_with fail;exact Eq.mpr ((F.out _ _).trans (if_pos a5)) ⟨_,_,rfl,L⟩
 ·have M:(bits .and .u64 e 64==64)=false:=q;clear q;cases pb with
  | false =>go_enter func143,ntmps143;go_wp2_with fail;refine (y.out _).mono ?_;rintro r u ⟨rfl,d⟩;have D:Hid (u.heap[w.heap.size]?=some (.cells #[.slice (some ⟨g,0,none⟩) n A,.slice (some ⟨b,j,none⟩) 22 z,.i p,.u va,.i k] 114 (0,0))):=fw d (heap_alloc_new w _);obtain ⟨S,T,V,X,Y⟩:=kJ D.out;have C:Hid (Bw w u):=aa (m _) d;clear d;go_wp2_with fail;refine (I.out _).mono ?_;rintro r Z ⟨rfl,G⟩;exact ⟨rfl,Eq.mpr ((F.out _ _).trans (if_neg a5)) ⟨rfl,aa C.out G⟩⟩
  | true =>go_enter func143,ntmps143;go_wp2_with fail;refine (y.out _).mono ?_;rintro r u ⟨rfl,d⟩;have D:Hid (u.heap[w.heap.size]?=some (.cells #[.slice (some ⟨g,0,none⟩) n A,.slice (some ⟨b,j,none⟩) 22 z,.i p,.u va,.i k] 114 (0,0))):=fw d (heap_alloc_new w _);obtain ⟨S,T,V,X,Y⟩:=kJ D.out;have C:Hid (Bw w u):=aa (m _) d;clear d;go_wp2_with fail;rw [K.out];refine (J.out _ C.out).mono ?_;rintro r Z ⟨E,c,rfl,L⟩;go_wp2_with fail;exact Eq.mpr ((F.out _ _).trans (if_pos a5)) ⟨_,_,rfl,L⟩
structure Gd (M:MV):Prop where
 ok:gY M=true
 mw:MW M
 ux:∀ j,U (M.x.getD j 0)
 pc:U M.pc
 hd:U M.hd
theorem ee {M:MV} (h:gY M=true):(bits .and .u64 M.pc 3==0)=true/\gh M.x.length M.x=true/\aQ M.cs.length M.cs M.pr=true/\be M.ram.length=true/\kq M.d.xs.length M.d.ys.length M.d.ir=true/\(M.hl||(M.hd==0))=true/\kB M=true:=by unfold gY at h;simp only [Bool.and_eq_true] at h;obtain ⟨⟨⟨⟨⟨⟨a,b⟩,c⟩,d⟩,e⟩,f⟩,g⟩:=h;exact ⟨a,b,c,d,e,f,g⟩
theorem kg {M:MV} (a:(bits .and .u64 M.pc 3==0)=true) (b:gh M.x.length M.x=true) (c:aQ M.cs.length M.cs M.pr=true) (d:be M.ram.length=true) (e:kq M.d.xs.length M.d.ys.length M.d.ir=true) (f:(M.hl||(M.hd==0))=true) (g:kB M=true):gY M=true:=by unfold gY;rw [a,b,c,d,e,f,g];rfl
theorem Gd.len {M:MV} (h:Gd M):jF M:=by obtain ⟨_,a,c,d,e,_,_⟩:=ee h.ok;unfold gh at a;rw [Bool.and_eq_true,decide_eq_true_eq] at a;have b:=pE c;have g:=fL d;have f:=xr e;exact ⟨al,al,al,al,al⟩
theorem Gd.mem {M:MV} (h:Gd M) {R:List Int} (hl:R.length=M.ram.length) (i:∀ y ∈ R,(Lit.int .u8 y).wf=true):Gd (bz M R):=by obtain ⟨a,b,c,d,e,f,g⟩:=ee h.ok;exact ⟨kg (M:=bz M R) a b c (by show be R.length=true;rw [hl];exact d) e f g,⟨h.mw.cs,i,h.mw.xs,h.mw.ys⟩,h.ux,h.pc,h.hd⟩
theorem Gd.free {M:MV} (h:Gd M):Gd (lT M):=by obtain ⟨a,b,c,d,e,g,f⟩:=ee h.ok;exact ⟨kg (M:=lT M) a b c d e rfl f,⟨h.mw.cs,h.mw.ram,h.mw.xs,h.mw.ys⟩,h.ux,h.pc,(show U 0 from ⟨a5,a5⟩)⟩
theorem Gd.let_ {M:MV} (h:Gd M) (pa:Int):Gd (mX M pa):=by
 unfold mX;split;·exact h.free
 ·exact h
theorem GG (D:DV) (p:Int->Prop) (h:∀ a b c:Bool,p (Uz.wrap (Uz.wrap (Uz.wrap (8*fd a)+Uz.wrap (128*fd b))+Uz.wrap (2048*fd c)))):p (cU D):=h _ _ _
theorem J9 (D:DV):bits .and .u64 (cU D) 2184=cU D:=by refine GG D (λx=>bits .and .u64 x 2184=x) ?_;decide +kernel
theorem Mu (D:DV):U (cU D):=bG _
theorem AH (D:DV) {i:Nat} (a:i<64):bt (cU D) i=(bt (cU D) i&&bt 2184 i):=by have:=az (cU D) 2184 i;rw [J9] at this;exact this
theorem Gd.dev {M:MV} (h:Gd M) {D:DV} (t:kq D.xs.length D.ys.length D.ir=true) (hb:dO D):Gd (dH (dy M D)):=by
 obtain ⟨o,p,w,q,x,r,y⟩:=ee h.ok;obtain ⟨d,f,l,_,_,_⟩:=aF h.ok;have s:=dU f 9 al;have n:bits .and .u64 (M.cs.getD 9 0) 2730=M.cs.getD 9 0:=beq_iff_eq.1 s;have u:eZ 9 (bits .or .u64 (bits .andNot .u64 (M.cs.getD 9 0) 2184) (cU D))=true:=by show (bits .and .u64 (bits .or .u64 (bits .andNot .u64 (M.cs.getD 9 0) 2184) (cU D)) 2730==bits .or .u64 (bits .andNot .u64 (M.cs.getD 9 0) 2184) (cU D))=true;refine beq_iff_eq.2 (bg _ _ (aj _ _ _) (aj _ _ _) λi c=>?_);have v:bt (M.cs.getD 9 0) i=(bt (M.cs.getD 9 0) i&&bt 2730 i):=(by have:=az (M.cs.getD 9 0) 2730 i;rw [n] at this;exact this);have m:=AH D c;rw [az,bZ,aA _ _ _ c];have k:∀ j,j<64->∀ a b:Bool,(a=(a&&bt 2730 j))->(b=(b&&bt 2184 j))->(((a&&!bt 2184 j)||b)&&bt 2730 j)=((a&&!bt 2184 j)||b):=a8;exact k i c _ _ v m
 have g:bf 22 (M.cs.set 9 (bits .or .u64 (bits .andNot .u64 (M.cs.getD 9 0) 2184) (cU D)))=true:=cC M.cs d f 9 al _ u;refine ⟨kg (M:=dH (dy M D)) o p ?_ q t r ?_,⟨?_,h.mw.ram,hb.1,hb.2⟩,h.ux,h.pc,h.hd⟩;·show aQ (M.cs.set 9 _).length (M.cs.set 9 _) M.pr=true;unfold aQ;rw [List.length_set,d,l,Bool.and_true];exact g
 ·show (bits .and .u64 ((M.cs.set 9 (bits .or .u64 (bits .andNot .u64 (M.cs.getD 9 0) 2184) (cU D))).getD 9 0) 2184==cU D)=true;have e:(M.cs.set 9 (bits .or .u64 (bits .andNot .u64 (M.cs.getD 9 0) 2184) (cU D))).getD 9 0=bits .or .u64 (bits .andNot .u64 (M.cs.getD 9 0) 2184) (cU D):=(by rw [List.getD_eq_getElem?_getD,List.getElem?_set_self al];rfl);rw [e];refine beq_iff_eq.2 (bg _ _ (aj _ _ _) (Mu D) λi c=>?_);have m:=AH D c;rw [az,bZ,aA _ _ _ c];have k:∀ j,j<64->∀ a b:Bool,(b=(b&&bt 2184 j))->(((a&&!bt 2184 j)||b)&&bt 2184 j)=b:=a8;exact k i c _ _ m
 ·intro j;show U ((M.cs.set 9 (bits .or .u64 (bits .andNot .u64 (M.cs.getD 9 0) 2184) (cU D))).getD j 0);rw [List.getD_eq_getElem?_getD,List.getElem?_set];split
  ·split;·exact aj .or (bits .andNot .u64 (M.cs.getD 9 0) 2184) (cU D)
   ·exact ⟨a5,a5⟩
  ·have:=h.mw.cs j;rw [List.getD_eq_getElem?_getD] at this;exact this
theorem Ka (D:DV) (h:dO D) (k:Nat):dO (jc D k).2.1:=by
 have b:dO zeroD:=⟨λy a=>(nomatch a),λy a=>(nomatch a)⟩;unfold jc;split;·exact h
 ·exact h
 ·exact h
 ·exact ⟨λy a=>h.1 y (List.mem_of_mem_drop a),h.2⟩
 ·exact h
 ·exact h
 ·exact b
theorem Kb (D:DV) (h:dO D) (x addr size:Int):dO (fy D x (gg addr size)).1:=by
 have n:dO zeroD:=⟨λy a=>(nomatch a),λy a=>(nomatch a)⟩;have c:=DM D x;have g:=DN D x;have i:=DO D x;have b:(fy D x 3).1.xs=D.xs/\((fy D x 3).1.ys=D.ys\/(fy D x 3).1.ys=D.ys++[IntKind.u8.wrap x]):=by
  by_cases d:D.ys.length<4096;·rw [xv _ _ d];exact ⟨rfl,Or.inr rfl⟩
  ·rw [xw _ _ d];exact ⟨rfl,Or.inl rfl⟩
 obtain ⟨q,j⟩:∃ q,fy D x 4=(⟨D.t,D.cm,D.so,D.xs,D.ys,q⟩,true):=⟨_,DP D x⟩;have l:=DQ D x;have m:=DR D x;generalize (bits .and .u64 x 1==1)=r at c;have f:(Lit.int .u8 (IntKind.u8.wrap x)).wf=true:=Jn (y:=IntKind.u8.wrap x) (by rw [IntKind.wrap_u8];omega);generalize IntKind.u8.wrap x=z at b f;refine jj addr size (λk=>dO (fy D x k).1) (λ_ _=>?_) (λ_ _=>?_) (λ_ _=>?_) (λ_ _=>?_) (λ_ _=>?_) (λ_ _=>?_) (λ_ _ _ _ _ _=>?_);·show dO (fy D x 0).1;rw [c];exact ⟨h.1,h.2⟩
 ·show dO (fy D x 1).1;rw [g];exact ⟨h.1,h.2⟩
 ·show dO (fy D x 2).1;rw [i];exact ⟨h.1,h.2⟩
 ·show dO (fy D x 3).1;refine ⟨by rw [b.1];exact h.1,λy a=>?_⟩;rcases b.2 with e | e<;>rw [e] at a;·exact h.2 y a
  ·rcases List.mem_append.1 a with a|a;·exact h.2 y a
   ·rw [List.mem_singleton.1 a];exact f
 ·have e:(fy D x 4).1=⟨D.t,D.cm,D.so,D.xs,D.ys,q⟩:=congrArg Prod.fst j;exact e ▸ (⟨h.1,h.2⟩:dO ⟨D.t,D.cm,D.so,D.xs,D.ys,q⟩)
 ·show dO (fy D x 5).1;rw [l];exact h
 ·show dO (fy D x 6).1;rw [m];exact n
theorem Gd.at_ {M:MV} (h:Gd M) (pa size kind x:Int):Gd (rv M pa size kind x).2.1:=by
 obtain ⟨_,_,_,_,c,_,_⟩:=ee h.ok;have a:dO M.d:=⟨h.mw.xs,h.mw.ys⟩;unfold rv;split
 ·split;·exact (h.mem (ju _ _ _ _) (Jo _ h.mw.ram _ _ _)).let_ pa
  ·exact h
 ·split
  ·split;·rename_i b;exact h.dev (Ev _ _ c b) (Ka _ a _)
   ·exact h
  ·split
   ·split;·rename_i b;exact (h.dev (Ew _ _ _ _ c b) (Kb _ a _ _ _)).let_ pa
    ·exact h
   ·exact h
theorem Gd.marked {M:MV} (h:Gd M) (F:Fd):Gd (bz M (aN M.ram F)):=h.mem (jH _ _) (yc _ h.mw.ram F)
theorem Gd.acc {M:MV} (h:Gd M) (addr size kind x:Int):Gd (aC M addr size kind x).2.1:=by
 unfold aC;split;·exact h
 ·unfold xL;split;·exact h.marked _
  ·split;·exact h.marked _
   ·exact (h.marked _).at_ _ _ _ _
theorem AI (M:MV) (pa:Int):(mX M pa).pc=M.pc/\(mX M pa).x=M.x/\(mX M pa).pr=M.pr/\(mX M pa).wt=M.wt:=by unfold mX;split<;>exact ⟨rfl,rfl,rfl,rfl⟩
theorem Mv (M:MV) (pa size kind x:Int):(rv M pa size kind x).2.1.pc=M.pc/\(rv M pa size kind x).2.1.x=M.x/\(rv M pa size kind x).2.1.pr=M.pr/\(rv M pa size kind x).2.1.wt=M.wt:=by
 unfold rv;split
 ·split;·exact AI (bz M _) pa
  ·exact ⟨rfl,rfl,rfl,rfl⟩
 ·split;·split<;>exact ⟨rfl,rfl,rfl,rfl⟩
  ·split
   ·split;·exact AI (dH (dy M _)) pa
    ·exact ⟨rfl,rfl,rfl,rfl⟩
   ·exact ⟨rfl,rfl,rfl,rfl⟩
theorem iw (M:MV) (addr size kind x:Int):(aC M addr size kind x).2.1.pc=M.pc/\(aC M addr size kind x).2.1.x=M.x/\(aC M addr size kind x).2.1.pr=M.pr/\(aC M addr size kind x).2.1.wt=M.wt:=by
 unfold aC;split;·exact ⟨rfl,rfl,rfl,rfl⟩
 ·unfold xL;split;·exact ⟨rfl,rfl,rfl,rfl⟩
  ·split;·exact ⟨rfl,rfl,rfl,rfl⟩
   ·exact Mv (bz M _) _ _ _ _
theorem uw (l:List Int) (p va kind e x:Int) (lv:Nat):(cL l p va kind e x lv).code=0\/(cL l p va kind e x lv).code=dI kind\/(cL l p va kind e x lv).code=dg kind:=by
 unfold cL;split;·exact Or.inr (Or.inl rfl)
 ·split;·exact Or.inr (Or.inl rfl)
  ·split;·exact Or.inr (Or.inl rfl)
   ·split
    ·split;·exact Or.inl rfl
     ·exact Or.inr (Or.inr rfl)
    ·exact Or.inl rfl
theorem Dj (zs:List Int) (n:Nat) (l:List Int) (p va kind:Int):∀ a T,(bA zs n l p va kind a T).code=0\/(bA zs n l p va kind a T).code=dI kind\/(bA zs n l p va kind a T).code=dg kind:=by
 intro a;induction a with
 | zero =>
   intro T;rw [fZ];split
   ·split
    ·split;·exact Or.inr (Or.inl rfl)
     ·split;·rw [if_pos (show iK _ 0=true from by unfold iK;simp)];exact Or.inr (Or.inl rfl)
      ·exact uw _ _ _ _ _ _ _
    ·exact Or.inr (Or.inr rfl)
   ·exact Or.inr (Or.inr rfl)
 | succ a b =>
   intro T;rw [fZ];split
   ·split
    ·split;·exact Or.inr (Or.inl rfl)
     ·split
      ·split;·exact Or.inr (Or.inl rfl)
       ·exact b _
      ·exact uw _ _ _ _ _ _ _
    ·exact Or.inr (Or.inr rfl)
   ·exact Or.inr (Or.inr rfl)
theorem wM (zs:List Int) (n:Nat) (l:List Int) (p va kind:Int):(bO zs n l p va kind).code=0\/(bO zs n l p va kind).code=dI kind\/(bO zs n l p va kind).code=dg kind:=by
 unfold bO;split;·exact Or.inl rfl
 ·split;·exact Or.inr (Or.inl rfl)
  ·exact Dj _ _ _ _ _ _ _ _
theorem Kc (kind:Int):dI kind=12\/dI kind=13\/dI kind=15:=by
 unfold dI;repeat' split
 all_goals simp
theorem GH (kind:Int):dg kind=1\/dg kind=5\/dg kind=7:=by
 unfold dg;repeat' split
 all_goals simp
theorem kL (zs:List Int) (n:Nat) (l:List Int) (p va kind:Int):∃ c:Nat,c<16/\(bO zs n l p va kind).code=c:=by
 have a:=Kc kind;have b:=GH kind;rcases wM zs n l p va kind with h|h|h;·exact ⟨0,al,h⟩
 ·rcases a with e|e|e;·exact ⟨12,al,by rw [h,e];rfl⟩
  ·exact ⟨13,al,by rw [h,e];rfl⟩
  ·exact ⟨15,al,by rw [h,e];rfl⟩
 ·rcases b with e|e|e;·exact ⟨1,al,by rw [h,e];rfl⟩
  ·exact ⟨5,al,by rw [h,e];rfl⟩
  ·exact ⟨7,al,by rw [h,e];rfl⟩
theorem sE (kind:Int):∃ c:Nat,c<16/\jp kind=c+16:=by
 unfold jp;split;·exact ⟨1,al,rfl⟩
 ·split;·exact ⟨5,al,rfl⟩
  ·exact ⟨7,al,rfl⟩
theorem Mw (kind:Int):∃ c:Nat,c<16/\qu kind=c+16:=by
 unfold qu;split;·exact ⟨0,al,rfl⟩
 ·split;·exact ⟨4,al,rfl⟩
  ·exact ⟨6,al,rfl⟩
theorem Mz (M:MV) (pa size kind x:Int):(rv M pa size kind x).2.2=0\/∃ c:Nat,c<16/\(rv M pa size kind x).2.2=c+16:=by
 unfold rv;split;·split<;>exact Or.inl rfl
 ·split
  ·split;·exact Or.inl rfl
   ·exact Or.inr (sE kind)
  ·split
   ·split;·exact Or.inl rfl
    ·exact Or.inr (sE kind)
   ·exact Or.inr (sE kind)
theorem Kd (M:MV) (addr size kind x:Int):(aC M addr size kind x).2.2=0\/∃ c:Nat,c<16/\(aC M addr size kind x).2.2=c+16:=by
 unfold aC;split;·exact Or.inr (Mw kind)
 ·unfold xL;split;·obtain ⟨c,a,e⟩:=kL M.ram M.ram.length M.cs (eC M.cs M.pr kind) addr kind;refine Or.inr ⟨c,a,?_⟩;show wrap64 ((bO M.ram M.ram.length M.cs (eC M.cs M.pr kind) addr kind).code+16)=_;rw [e];unfold wrap64;omega
  ·split;·exact Or.inr (sE kind)
   ·exact Mz _ _ _ _ _
end Go.Proofs.YtjifdmoehfbihaaGreatDoor
