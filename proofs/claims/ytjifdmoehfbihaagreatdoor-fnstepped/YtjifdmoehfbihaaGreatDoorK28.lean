/- Own lemmas. -/
import Derived.Test.YtjifdmoehfbihaaGreatDoorAut
import Derived.Test.YtjifdmoehfbihaaGreatDoorK27
set_option maxRecDepth 100000
set_option maxHeartbeats 6400000
namespace Go.Proofs.YtjifdmoehfbihaaGreatDoor
open Go.RowKit Tryz
open IntKind renaming u64->Uz
set_option linter.unusedVariables false
def yh (zs:List Int) (n:Nat) (l:List Int) (p va k e x:Int) (lv:Nat):Fd :=
 if l8 e=true then (if iZ e lv=true then bO k else bK zs n l p va k (lv-1) (Uz.wrap (dQ e*4096))) else db l p va k e x lv
theorem yi (zs:List Int) (n:Nat) (l:List Int) (p va k T:Int) (lv:Nat):(pz zs n l k (bF T va lv)=gp (dy k)/\bK zs n l p va k lv T=fA k)\/(pz zs n l k (bF T va lv)=gp (dP k)/\bK zs n l p va k lv T=bO k) \/ (pz zs n l k (bF T va lv)=.returned (.tuple #[.u (bF T va lv),.u (fs zs (bF T va lv))])/\gn n (bF T va lv) 8=true/\bK zs n l p va k lv T=yh zs n l p va k (fs zs (bF T va lv)) (bF T va lv) lv):=by
 rw [gC];unfold pz yh;generalize bF T va lv=x;by_cases a:gn n x 8=true
 ·rw [if_pos a,if_pos a];by_cases b:aA l 1 x (aZ x 8) 2 4 0=true
  ·rw [if_pos b,if_pos b];by_cases c:oZ (fs zs x)=true;·rw [if_pos c,if_pos c];exact .inr (.inl ⟨rfl,rfl⟩)
   ·rw [if_neg c,if_neg c];exact .inr (.inr ⟨rfl,a,rfl⟩)
  ·rw [if_neg b,if_neg b];exact .inl ⟨rfl,rfl⟩
 ·rw [if_neg a,if_neg a];exact .inl ⟨rfl,rfl⟩
def Pb (V:Fd) (zs:List Int) (n:Nat) (w:World) (r:Ending) (w':World):Prop :=
 if V.code=0 then ∃ (a:Option Addr) (c:Nat),r=.returned (.tuple #[.u V.addr,.slice a n c])/\lF w w' (bn zs V) a n c else r=gp V.code/\Bw w w'
theorem qK {V:Fd} {zs:List Int} {n:Nat} {w w':World} {k:Int} (h:V=bO k) (b:1<=k) (c:k<=3) (hb:Bw w w'):Pb V zs n w (gp (dP k)) w':=by
 subst h;have a:k=1\/k=2\/k=3:=ab
 unfold Pb;rw [if_neg];·exact ⟨rfl,hb⟩
 ·rcases a with rfl|rfl|rfl<;>decide
theorem vK {V:Fd} {zs:List Int} {n:Nat} {w w':World} {k:Int} (h:V=fA k) (b:1<=k) (c:k<=3) (hb:Bw w w'):Pb V zs n w (gp (dy k)) w':=by
 subst h;have a:k=1\/k=2\/k=3:=ab
 unfold Pb;rw [if_neg];·exact ⟨rfl,hb⟩
 ·rcases a with rfl|rfl|rfl<;>decide
theorem GA {V:Fd} {zs b:List Int} {n:Nat} {w w':World} {ad:Int} {a:Option Addr} {c:Nat} (h:V.code=0) (d:V.addr=ad) (hm:bn zs V=b) (e:lF w w' b a n c):Pb V zs n w (.returned (.tuple #[.u ad,.slice a n c])) w':=by unfold Pb;rw [if_pos h,d,hm];exact ⟨_,_,rfl,e⟩
theorem Pc {l:List Int} {p va k e x:Int} {lv:Nat} (h:(ma e lv||gA l k e||gB l p k e)=true):db l p va k e x lv=bO k:=by
 unfold db;cases a:ma e lv
 ·cases b:gA l k e
  ·cases c:gB l p k e;·rw [a,b,c] at h;cases h
   ·rfl
  ·rfl
 ·rfl
theorem Pd {l:List Int} {p va k e x:Int} {lv:Nat} (h:(ma e lv||gA l k e||gB l p k e)=false):ma e lv=false /\ db l p va k e x lv=(if (cq e k != e)=true then (if aA l 1 x (aZ x 8) 3 4 0=true then ⟨gt e va lv,0,true,x,cq e k⟩ else fA k) else ⟨gt e va lv,0,false,0,0⟩):=by
 unfold db;cases a:ma e lv
 ·cases b:gA l k e
  ·cases c:gB l p k e;·exact ⟨rfl,rfl⟩
   ·rw [a,b,c] at h;cases h
  ·rw [a,b] at h;cases h
 ·rw [a] at h;cases h
theorem Mj (g n u:Nat) (zs:List Int) (b f y:Nat) (l:List Int) (p va k:Int) (w:World) (W:Wk w g n u zs b f y l p va k):Calls prog 94 #[.agg #[.slice (some ⟨g,0,none⟩) n u,.slice (some ⟨b,f,none⟩) 22 y,.i p,.u va,.i k]] w λr d=>Pb (bW zs n l p va k) zs n w r d:=by
 have HW:Hid (Wk w g n u zs b f y l p va k):=W;have hbd:=gc W.hr;have hB0:∀ o m,Bw w ((w.alloc o).drewN m):=λo m=>gL (bal _ _) m;have c15:∀ o,(w.alloc o).cell? ⟨b,f+15,none⟩=some (.u (l.getD 15 0)):=λo=>(W.below (hB0 o 0)).at 15 ab;have us:=W.hU 15;have HPF:Hid (∀ w,Calls prog 137 #[.agg #[.slice (some ⟨g,0,none⟩) n u,.slice (some ⟨b,f,none⟩) 22 y,.i p,.u va,.i k]] w λe d=>e=gp (dP k)/\Bw w d):=λw=>jV _ _ _ _ _ _ _ _ W.hk1 W.hk3 w;have HB60:Hid (∀ w,Calls prog 66 #[.u (l.getD 15 0),.i 60,.i 4] w λr d=>r=.returned (.u (cQ (l.getD 15 0) 60 4))/\d=w.drew):=λw=>bu _ 60 4 us.1 us.2 ab ab w;have HB0:Hid (∀ w,Calls prog 66 #[.u (l.getD 15 0),.i 0,.i 44] w λr d=>r=.returned (.u (cQ (l.getD 15 0) 0 44))/\d=w.drew):=λw=>bu _ 0 44 us.1 us.2 ab ab w;have HWD:Hid (∀ w,Calls prog 136 #[.u va,.i 39] w λr d=>r=.returned (.u (ap 39 va))/\∃ m,d=w.drewN m):=λw=>(iF va 39 ab ab w).mono λ_ _ h=>⟨h.1,0,h.2⟩;have FT:Hid (Uz.wrap (cQ (l.getD 15 0) 0 44*4096)=kH l):=Q8 l us;have FV:bW zs n l p va k=if ((p==3)||(cQ (l.getD 15 0) 60 4==0))=true then ⟨va,0,false,0,0⟩ else if (ap 39 va != va)=true then bO k else bK zs n l p va k 2 (kH l):=by rw [Ok _ us];rfl
 have HPV:Hid (bC p=true):=(gu W.hg).2;generalize bW zs n l p va k=V at *;generalize l.getD 15 0=s at *;obtain ⟨P,hP⟩:∃ P:World->Prop,P=λd=>d.heap[w.heap.size]?=some (.cells #[.slice (some ⟨g,0,none⟩) n u,.slice (some ⟨b,f,none⟩) 22 y,.i p,.u va,.i k] 114 (0,0))/\Bw w d:=⟨_,rfl⟩;have B:Hid (∀ d,P d->d.heap[w.heap.size]?=some (.cells #[.slice (some ⟨g,0,none⟩) n u,.slice (some ⟨b,f,none⟩) 22 y,.i p,.u va,.i k] 114 (0,0))/\Bw w d):=by subst hP;exact λd h=>h
 have PI:Hid (∀ d,d.heap[w.heap.size]?=some (.cells #[.slice (some ⟨g,0,none⟩) n u,.slice (some ⟨b,f,none⟩) 22 y,.i p,.u va,.i k] 114 (0,0))->Bw w d->P d):=by subst hP;exact λd h t=>⟨h,t⟩
 clear hP;have P0:Hid (∀ m,P ((w.alloc (.cells #[.slice (some ⟨g,0,none⟩) n u,.slice (some ⟨b,f,none⟩) 22 y,.i p,.u va,.i k] 114)).drewN m)):=λm=>PI.out _ (heap_alloc_new w _) (hB0 _ _);have PB:Hid (∀ M w2,P M->Bw M w2->P w2):=λM w2 h hb=>PI.out _ (fu hb (B.out _ h).1) (aa (B.out _ h).2 hb);have PD:Hid (∀ M,P M->P M.drew):=λM h=>PB.out _ _ h (gL (Below.refl _ _) 1);have F:Hid (∀ d,P d->(d.cell? ⟨w.heap.size,0,none⟩=some (.slice (some ⟨g,0,none⟩) n u)/\d.cell? ⟨w.heap.size,1,none⟩=some (.slice (some ⟨b,f,none⟩) 22 y)/\d.cell? ⟨w.heap.size,2,none⟩=some (.i p)/\d.cell? ⟨w.heap.size,3,none⟩=some (.u va)/\d.cell? ⟨w.heap.size,4,none⟩=some (.i k))/\P d):=λd h=>⟨lE (B.out _ h).1,h⟩;have HCL:Hid (∀ d,P d->Calls prog 39 #[.slice (some ⟨g,0,none⟩) n u] d λr j=>∃ (G:Option Addr) (c:Nat),r=.returned (.slice G n c)/\Hid (lF w j zs G n c)/\P j):=λd h=>(pA g n u zs d W.hz ab ab (W.hs.below (B.out _ h).2)).mono λr j ⟨G,c,e1,e2,e3⟩=>⟨G,c,e1,⟨cN e2 (B.out _ h).2.size,aa (B.out _ h).2 e3⟩,PB.out _ _ h e3⟩;have N:Hid (1<=k/\k<=3):=⟨W.hk1,W.hk3⟩;have HEN:Hid (∀ (T:Int) (q:Nat) (d:World),q<=2->P d->Calls prog 138 #[.agg #[.slice (some ⟨g,0,none⟩) n u,.slice (some ⟨b,f,none⟩) 22 y,.i p,.u va,.i k],.u T,.i (q:Int)] d λe j=>e=pz zs n l k (bF T va q)/\P j):=λT q d J h=>(BV g n u zs b f y l p va k T q J d (W.below (B.out _ h).2)).mono λr j t=>⟨t.1,PB.out _ _ h t.2⟩;have HTB:Hid (∀ (e:Int) (q:Nat) (d:World),U e->P d->Calls prog 140 #[.agg #[.slice (some ⟨g,0,none⟩) n u,.slice (some ⟨b,f,none⟩) 22 y,.i p,.u va,.i k],.u e,.i (q:Int)] d λr j=>r=Jc k e q/\P j):=λe q d he h=>(BW g n u b f y p va k e q he W.hk1 W.hk3 d).mono λr j t=>⟨t.1,PB.out _ _ h t.2⟩;have HCK:Hid (p=0\/p=1->∀ (e:Int) (q:Nat) (d:World),q<=2->U e->P d->Calls prog 141 #[.agg #[.slice (some ⟨g,0,none⟩) n u,.slice (some ⟨b,f,none⟩) 22 y,.i p,.u va,.i k],.u e,.i (q:Int)] d λr j=>r=ED l p k e q/\P j):=λhp e q d J he h=>(xc g n u zs b f y l p va k e q J he hp d (W.below (B.out _ h).2)).mono λr j t=>⟨t.1,PB.out _ _ h t.2⟩;have HPL:Hid (∀ (e:Int) (q:Nat),q<=2->U e->ma e q=false->∀ (d:World),P d->Calls prog 142 #[.agg #[.slice (some ⟨g,0,none⟩) n u,.slice (some ⟨b,f,none⟩) 22 y,.i p,.u va,.i k],.u e,.i (q:Int)] d λr j=>r=.returned (.u (gt e va q))/\P j):=λe q J he h0 d h=>(O5 g n u b f y p va k e q J he W.hva h0 d).mono λr j t=>⟨t.1,PB.out _ _ h t.2⟩;have HMN:Hid (∀ (e x:Int),U e->(cq e k != e)=false->∀ (d:World),P d->Calls prog 143 #[.agg #[.slice (some ⟨g,0,none⟩) n u,.slice (some ⟨b,f,none⟩) 22 y,.i p,.u va,.i k],.u x,.u e] d λr j=>∃ (G:Option Addr) (c:Nat),r=.returned (.slice G n c)/\Hid (lF w j zs G n c)/\P j):=λe x he hm d h=>(Jd g n u zs b f y l p va k e x he hm d (W.below (B.out _ h).2)).mono λr j ⟨G,c,e1,e2,e3⟩=>⟨G,c,e1,⟨cN e2 (B.out _ h).2.size,aa (B.out _ h).2 e3⟩,PB.out _ _ h e3⟩;have HMY:Hid (∀ (e x:Int),U e->gn n x 8=true->(cq e k != e)=true->aA l 1 x (aZ x 8) 3 4 0=true->∀ (d:World),P d->Calls prog 143 #[.agg #[.slice (some ⟨g,0,none⟩) n u,.slice (some ⟨b,f,none⟩) 22 y,.i p,.u va,.i k],.u x,.u e] d λr j=>∃ (G:Option Addr) (c:Nat),r=.returned (.slice G n c)/\Hid (lF w j (jZ zs (x-2147483648).toNat (cq e k) 8) G n c)/\P j):=λe x he hx hm hp d h=>(vI g n u zs b f y l p va k e x he hx hm d (W.below (B.out _ h).2)).mono λr j t=>by unfold Mb at t;rw [if_pos hp] at t;obtain ⟨G,c,e1,e2,e3⟩:=t;exact ⟨G,c,e1,⟨cN e2 (B.out _ h).2.size,aa (B.out _ h).2 e3⟩,PB.out _ _ h e3⟩
 have HMF:Hid (∀ (e x:Int),U e->gn n x 8=true->(cq e k != e)=true->aA l 1 x (aZ x 8) 3 4 0=false->∀ (d:World),P d->Calls prog 143 #[.agg #[.slice (some ⟨g,0,none⟩) n u,.slice (some ⟨b,f,none⟩) 22 y,.i p,.u va,.i k],.u x,.u e] d λr j=>r=.panicked [{v:=.iface 162 (.i (dy k)),recovered:=false}]/\P j):=λe x he hx hm hp d h=>(vI g n u zs b f y l p va k e x he hx hm d (W.below (B.out _ h).2)).mono λr j t=>by unfold Mb at t;rw [if_neg (by rw [hp];decide)] at t;exact ⟨t.1,PB.out _ _ h t.2⟩
 have HLF:Hid (∀ (e:Int) (d:World),U e->CE 139 #[.u e] d (.bool (!l8 e))):=λe d he=>EC e he d;have HU:Hid (∀ x,U (fs zs x)):=λx=>Qm zs W.hw x;clear W;cases t1:(p==3) with
 | true =>have R:V=⟨va,0,false,0,0⟩:=(by rw [t1] at FV;exact FV.trans (if_pos rfl));have D:Hid (V.code=0/\V.addr=va/\bn zs V=zs):=ri;clear R FV;go_enter func94,ntmps94;go_wp2_with fail;have p0:=P0.out 0;obtain ⟨⟨X,Y,Z,k3,k4⟩,_⟩:=F.out _ p0;go_region_held3 (λd=>(d.cell? ⟨w.heap.size,0,none⟩=some (.slice (some ⟨g,0,none⟩) n u)/\d.cell? ⟨w.heap.size,1,none⟩=some (.slice (some ⟨b,f,none⟩) 22 y)/\d.cell? ⟨w.heap.size,2,none⟩=some (.i p)/\d.cell? ⟨w.heap.size,3,none⟩=some (.u va)/\d.cell? ⟨w.heap.size,4,none⟩=some (.i k))/\P d) (first | exact F.out _ (PD.out _ e9) | exact F.out _ e9) (first | (go_at_call 39;with_reducible refine (HCL.out _ ?_).mono ?_;(first | assumption | (exact PD.out _ e9) | (exact And.right e9));rintro e w8 ⟨G,c,rfl,fr8,p8⟩));go_wp2_with fail;go_ret2;exact GA D.out.1 D.out.2.1 D.out.2.2 fr8.out
 | false =>
   have hp01:p=0\/p=1:=(by have O:=HPV.out;have t:¬ p=3:=(by simpa using t1);unfold bC at O;simp only [Bool.or_eq_true,beq_iff_eq] at O;omega);have HCK2:=HCK.out hp01;have HCK3:Hid (∀ (e:Int) (q:Nat) (d:World),q<=2->U e->P d->Calls prog 141 #[.agg #[.slice (some ⟨g,0,none⟩) n u,.slice (some ⟨b,f,none⟩) 22 y,.i p,.u va,.i k],.u e,.i (q:Int)] d λr j=>r=ED l p k e q/\P j):=HCK2;clear HCK HCK2 hp01 HPV;rw [t1] at FV;cases t2:(cQ s 60 4==0) with
   | true =>have R:V=⟨va,0,false,0,0⟩:=(by rw [t2] at FV;exact FV.trans (if_pos rfl));have D:Hid (V.code=0/\V.addr=va/\bn zs V=zs):=ri;clear R FV;go_enter func94,ntmps94;go_wp2_with fail;refine (HB60.out _).mono ?_;rintro r M ⟨rfl,L⟩;have p1:P M:=(by rw [L];exact P0.out 1);have H:Hid (P M):=p1;clear L c15 p1;obtain ⟨⟨X,Y,Z,k3,k4⟩,_⟩:=F.out _ H.out;go_wp2_with fail;have p0:=H.out;go_region_held3 (λd=>(d.cell? ⟨w.heap.size,0,none⟩=some (.slice (some ⟨g,0,none⟩) n u)/\d.cell? ⟨w.heap.size,1,none⟩=some (.slice (some ⟨b,f,none⟩) 22 y)/\d.cell? ⟨w.heap.size,2,none⟩=some (.i p)/\d.cell? ⟨w.heap.size,3,none⟩=some (.u va)/\d.cell? ⟨w.heap.size,4,none⟩=some (.i k))/\P d) (first | exact F.out _ (PD.out _ e9) | exact F.out _ e9) (first | (go_at_call 39;with_reducible refine (HCL.out _ ?_).mono ?_;(first | assumption | (exact PD.out _ e9) | (exact And.right e9));rintro e w8 ⟨G,c,rfl,fr8,p8⟩));go_wp2_with fail;go_ret2;exact GA D.out.1 D.out.2.1 D.out.2.2 fr8.out
   | false =>
     rw [t2] at FV;have FV1:V=if (ap 39 va != va)=true then bO k else bK zs n l p va k 2 (kH l):=FV.trans (if_neg bb)
     clear FV;cases t3:(ap 39 va != va) with
     | true =>
       have D:Hid (V=bO k):=(by rw [t3] at FV1;exact FV1.trans (if_pos rfl));clear FV1;go_enter func94,ntmps94;go_wp2_with fail;refine (HB60.out _).mono ?_;rintro r M ⟨rfl,L⟩;have p1:P M:=(by rw [L];exact P0.out 1);have H:Hid (P M):=p1;clear L c15 p1;obtain ⟨⟨X,Y,Z,k3,k4⟩,_⟩:=F.out _ H.out;go_wp2_with fail;go_quiet (first | (go_at_call 136;with_reducible refine Calls.quiet_of (HWD.out _)))
       go_wp2_with fail;refine (HPF.out _).mono ?_;rintro r w3 ⟨rfl,hb3⟩;exact ⟨rfl,qK D.out N.out.1 N.out.2 (aa (gL (B.out _ H.out).2 _) hb3)⟩
     | false =>
       have R:Hid (bK zs n l p va k 2 (kH l)=V):=(by rw [t3] at FV1;exact (FV1.trans (if_neg bb)).symm);clear FV1;have Q:=yi zs n l p va k (kH l) 2;rw [R.out] at Q;have EC1:=dE Q;clear Q R;go_enter func94,ntmps94;go_wp2_with fail;refine (HB60.out _).mono ?_;rintro r M ⟨rfl,L⟩;have p1:P M:=(by rw [L];exact P0.out 1);have H:Hid (P M):=p1;clear L c15 p1;obtain ⟨⟨X,Y,Z,k3,k4⟩,_⟩:=F.out _ H.out;go_wp2_with fail;go_quiet (first | (go_at_call 136;with_reducible refine Calls.quiet_of (HWD.out _)))
       go_wp2_with fail;refine (HB0.out _).mono ?_;rintro r w6 ⟨rfl,hw6⟩;have p6:P w6:=(by rw [hw6];exact PD.out _ (PB.out _ _ H.out (gL (Below.refl _ _) _)));have HP6:Hid (P w6):=p6;clear hw6 p6 X Y Z k3 k4;obtain ⟨⟨X,Y,Z,k3,k4⟩,_⟩:=F.out _ HP6.out;go_wp2_with fail;rw [FT.out];refine (HEN.out (kH l) 2 _ ab HP6.out).mono ?_;rintro r w2 ⟨z,p2⟩;have HP2:Hid (P w2):=p2;clear p2 X Y Z k3 k4;rcases EC1.out with ⟨O,t⟩|⟨O,t⟩|⟨O,t,h3⟩;·rw [O] at z;subst z;exact ⟨rfl,vK t N.out.1 N.out.2 (B.out _ HP2.out).2⟩
       ·rw [O] at z;subst z;exact ⟨rfl,qK t N.out.1 N.out.2 (B.out _ HP2.out).2⟩
       ·rw [O] at z;subst z;have HX:Hid (gn n (bF (kH l) va 2) 8=true):=t;have HV:Hid (V=yh zs n l p va k (fs zs (bF (kH l) va 2)) (bF (kH l) va 2) 2):=h3;have C:=dE (HU.out (bF (kH l) va 2));clear O t h3 EC1;generalize fs zs (bF (kH l) va 2)=e0 at *;generalize bF (kH l) va 2=x0 at *;obtain ⟨⟨X,Y,Z,k3,k4⟩,_⟩:=F.out _ HP2.out;go_wp2_with fail;clear X Y Z k3 k4;go_loopw [6,7,8] (λlvv av ev wr=>∃ (q:Nat) (x e:Int),q<=2/\lvv=.i q/\av=.u x/\ev=.u e/\Hid (U e)/\Hid (gn n x 8=true)/\Hid (V=yh zs n l p va k e x q)/\Hid (P wr)) (λlvv _ _ _=>(intOf lvv).toNat);case atStart=>exact ⟨2,x0,e0,ab,rfl,rfl,rfl,C,HX,HV,HP2⟩
        case round =>
         clear C HX HV HP2;obtain ⟨q,x,e,J,rfl,rfl,rfl,C,HX,HV,HP⟩:=hrel;obtain ⟨⟨X,Y,Z,k3,k4⟩,_⟩:=F.out _ HP.out;go_wp2_with fail;refine (HLF.out e _ C.out).mono ?_;rintro r w3 ⟨rfl,hw3⟩;have hw3':=hw3.symm;subst hw3';cases tp:l8 e with
         | true =>
           have E:V=if iZ e q=true then bO k else bK zs n l p va k (q-1) (Uz.wrap (dQ e*4096)):=HV.out.trans (by unfold yh;rw [tp];exact if_pos rfl)
           clear HV;have TE:Jc k e q=if iZ e q=true then gp (dP k) else .returned (.u (Uz.wrap (dQ e*4096))):=rfl
           have HTB2:=dE (HTB.out e q wr C.out HP.out);generalize Jc k e q=te at *;cases ts:iZ e q with
           | true =>have A:Hid (V=bO k):=E.trans (if_pos ts);have TE2:Hid (te=gp (dP k)):=TE.trans (if_pos ts);clear E TE;go_wp2_with fail;refine HTB2.out.mono ?_;rintro r w4 ⟨z,p4⟩;rw [TE2.out] at z;subst z;exact ⟨rfl,qK A.out N.out.1 N.out.2 (B.out _ p4).2⟩
           | false =>
             have tsn:¬ iZ e q=true:=(by rw [ts];decide);have A:Hid (V=bK zs n l p va k (q-1) (Uz.wrap (dQ e*4096))):=E.trans (if_neg tsn);have TE2:Hid (te=.returned (.u (Uz.wrap (dQ e*4096)))):=TE.trans (if_neg tsn);clear E TE tsn;have h0:1<=q:=by
              rcases Nat.eq_zero_or_pos q with h|h;·subst h;have:iZ e 0=true:=rfl;rw [this] at ts;cases ts
              ·exact h
             obtain ⟨m,hm⟩:∃ m,q=m+1:=⟨q-1,ab⟩;have HM:Hid ((q:Int)-1=(m:Int)):=(by show _=_;omega);have Q:=yi zs n l p va k (Uz.wrap (dQ e*4096)) m;have I:=A.out;rw [show q-1=m from ab] at I;rw [<- I] at Q;have EC1:=dE Q;have HMB:=dE (show m<=2/\m<q from ⟨ab,ab⟩);clear Q A I hm;generalize Uz.wrap (dQ e*4096)=T at *;go_wp2_with fail;refine HTB2.out.mono ?_;rintro r w4 ⟨z,p4⟩;rw [TE2.out] at z;subst z;have HP4:Hid (P w4):=p4;clear p4 X Y Z k3 k4;obtain ⟨⟨X,Y,Z,k3,k4⟩,_⟩:=F.out _ HP4.out;go_wp2_with fail;rw [HM.out];refine (HEN.out T m _ HMB.out.1 HP4.out).mono ?_;rintro r w5 ⟨z,p5⟩;have HP5:Hid (P w5):=p5;clear p5 X Y Z k3 k4;rcases EC1.out with ⟨O,t⟩|⟨O,t⟩|⟨O,t,h3⟩;·rw [O] at z;subst z;exact ⟨rfl,vK t N.out.1 N.out.2 (B.out _ HP5.out).2⟩
             ·rw [O] at z;subst z;exact ⟨rfl,qK t N.out.1 N.out.2 (B.out _ HP5.out).2⟩
             ·rw [O] at z;subst z;have HX5:=dE t;have HV5:=dE h3;have HU5:=dE (HU.out (bF T va m));clear O t h3 EC1;generalize fs zs (bF T va m)=e5 at *;generalize bF T va m=x5 at *;go_wp2_with fail;go_roundw;case rel=>exact ⟨m,x5,e5,HMB.out.1,rfl,rfl,rfl,HU5,HX5,HV5,HP5⟩
              case measure=>have:=HMB.out.2;simp [intOf];omega
         | false =>
           have E:V=db l p va k e x q:=HV.out.trans (by unfold yh;rw [tp];exact if_neg bb);have CE:ED l p k e q=if (ma e q||gA l k e||gB l p k e)=true then gp (dP k) else .returned (.tuple #[]):=rfl
           have HCK4:=dE (HCK3.out e q wr J C.out HP.out);clear HV HCK3;generalize ED l p k e q=ce at *;cases tc:(ma e q||gA l k e||gB l p k e) with
           | true =>have A:=dE (E.trans (Pc tc));have CE2:Hid (ce=gp (dP k)):=CE.trans (if_pos tc);clear E CE tc;go_wp2_with fail;refine HCK4.out.mono ?_;rintro r w4 ⟨z,p4⟩;rw [CE2.out] at z;subst z;exact ⟨rfl,qK A.out N.out.1 N.out.2 (B.out _ p4).2⟩
           | false =>
             obtain ⟨hoff,hlf⟩:=Pd (va:=va) (x:=x) tc;have A:=E.trans hlf;have CE2:Hid (ce=.returned (.tuple #[])):=CE.trans (if_neg (by rw [tc];decide));have HPL2:=dE (HPL.out e q J C.out hoff);clear E CE tc hlf hoff;generalize gt e va q=ad at *;go_wp2_with fail;refine HCK4.out.mono ?_;rintro r w4 ⟨z,p4⟩;rw [CE2.out] at z;subst z;clear X Y Z k3 k4;obtain ⟨⟨X,Y,Z,k3,k4⟩,_⟩:=F.out _ p4;cases tm:(cq e k != e) with
             | false =>have HM2:=dE (HMN.out e x C.out tm);have R:V=⟨ad,0,false,0,0⟩:=A.trans (by rw [tm];exact if_neg bb);have D:Hid (V.code=0/\V.addr=ad/\bn zs V=zs):=ri;clear R A tm;go_wp2_with fail;go_region_held3 (λd=>(d.cell? ⟨w.heap.size,0,none⟩=some (.slice (some ⟨g,0,none⟩) n u)/\d.cell? ⟨w.heap.size,1,none⟩=some (.slice (some ⟨b,f,none⟩) 22 y)/\d.cell? ⟨w.heap.size,2,none⟩=some (.i p)/\d.cell? ⟨w.heap.size,3,none⟩=some (.u va)/\d.cell? ⟨w.heap.size,4,none⟩=some (.i k))/\P d) (first | exact F.out _ (PD.out _ e9) | exact F.out _ e9) (first | (go_at_call 142;with_reducible refine (HPL2.out _ ?_).mono ?_;(first | assumption | (exact PD.out _ e9) | (exact And.right e9));rintro r w8 ⟨rfl,p8⟩) | (go_at_call 143;with_reducible refine (HM2.out _ ?_).mono ?_;(first | assumption | (exact PD.out _ e9) | (exact And.right e9));rintro r w9 ⟨G,c,rfl,fr9,p9⟩));go_wp2_with fail;go_ret2;exact GA D.out.1 D.out.2.1 D.out.2.2 fr9.out
             | true =>
               have I:V=if aA l 1 x (aZ x 8) 3 4 0=true then ⟨ad,0,true,x,cq e k⟩ else fA k:=A.trans (by rw [tm];exact if_pos rfl)
               clear A;cases tr:aA l 1 x (aZ x 8) 3 4 0 with
               | true =>have HM2:=dE (HMY.out e x C.out HX.out tm tr);have R:V=⟨ad,0,true,x,cq e k⟩:=I.trans (by rw [tr];exact if_pos rfl);have D:Hid (V.code=0/\V.addr=ad/\bn zs V=jZ zs (x-2147483648).toNat (cq e k) 8):=ri;clear R I tm tr;generalize jZ zs (x-2147483648).toNat (cq e k) 8=ms at *;go_wp2_with fail;go_region_held3 (λd=>(d.cell? ⟨w.heap.size,0,none⟩=some (.slice (some ⟨g,0,none⟩) n u)/\d.cell? ⟨w.heap.size,1,none⟩=some (.slice (some ⟨b,f,none⟩) 22 y)/\d.cell? ⟨w.heap.size,2,none⟩=some (.i p)/\d.cell? ⟨w.heap.size,3,none⟩=some (.u va)/\d.cell? ⟨w.heap.size,4,none⟩=some (.i k))/\P d) (first | exact F.out _ (PD.out _ e9) | exact F.out _ e9) (first | (go_at_call 142;with_reducible refine (HPL2.out _ ?_).mono ?_;(first | assumption | (exact PD.out _ e9) | (exact And.right e9));rintro r w8 ⟨rfl,p8⟩) | (go_at_call 143;with_reducible refine (HM2.out _ ?_).mono ?_;(first | assumption | (exact PD.out _ e9) | (exact And.right e9));rintro r w9 ⟨G,c,rfl,fr9,p9⟩));go_wp2_with fail;go_ret2;exact GA D.out.1 D.out.2.1 D.out.2.2 fr9.out
               | false =>
                 have HM2:=dE (HMF.out e x C.out HX.out tm tr);have D:Hid (V=fA k):=I.trans (by rw [tr];exact if_neg bb);clear I tm tr;go_wp2_with fail;refine wp_region_held_drew (S:=(λd=>(d.cell? ⟨w.heap.size,0,none⟩=some (.slice (some ⟨g,0,none⟩) n u)/\d.cell? ⟨w.heap.size,1,none⟩=some (.slice (some ⟨b,f,none⟩) 22 y)/\d.cell? ⟨w.heap.size,2,none⟩=some (.i p)/\d.cell? ⟨w.heap.size,3,none⟩=some (.u va)/\d.cell? ⟨w.heap.size,4,none⟩=some (.i k))/\P d)) al (F.out _ (PD.out _ p4)) (λhHeld=>?_);refine wpAnyH_take (i:=0) (v:=.agg #[.slice (some ⟨g,0,none⟩) n u,.slice (some ⟨b,f,none⟩) 22 y,.i p,.u va,.i k]) rfl al al al (λ_ _ _ h=>h) (Or.inl ⟨by rfl,?_⟩) e9 ?_;·intro d hSw;go_simp
                 refine wpAnyH_take (i:=1) (v:=.u e) rfl al al al (λ_ _ _ h=>h) (Or.inl ⟨by rfl,?_⟩) e9 ?_;·intro d hSw;go_simp
                 refine wpAnyH_take (i:=2) (v:=.i (q:Int)) rfl al al al (λ_ _ _ h=>h) (Or.inl ⟨by rfl,?_⟩) e9 ?_;·intro d hSw;go_simp
                 refine wpAnyH_take (i:=4) (v:=.agg #[.slice (some ⟨g,0,none⟩) n u,.slice (some ⟨b,f,none⟩) 22 y,.i p,.u va,.i k]) rfl al al al (λ_ _ _ h=>h) (Or.inl ⟨by rfl,?_⟩) e9 ?_;·intro d hSw;go_simp
                 refine wpAnyH_take (i:=5) (v:=.u x) rfl al al al (λ_ _ _ h=>h) (Or.inl ⟨by rfl,?_⟩) e9 ?_;·intro d hSw;go_simp
                 refine wpAnyH_take (i:=6) (v:=.u e) rfl al al al (λ_ _ _ h=>h) (Or.inl ⟨by rfl,?_⟩) e9 ?_;·intro d hSw;go_simp
                 refine wpAnyH_ready (rs:=[3]) al cp ?_;refine AllReadyH.cons rfl (λK hK=>?_) AllReadyH.nil;go_simp;refine (HPL2.out _ (PD.out _ p4)).mono ?_;rintro r w8 ⟨rfl,p8⟩;refine hK.out _ _ (F.out _ p8) (λhHeld2=>?_);refine wpAnyH_ready (rs:=[7]) al cp ?_;refine AllReadyH.cons rfl (λK2 hK2=>?_) AllReadyH.nil;go_simp;refine (HM2.out _ p8).mono ?_;rintro r w9 ⟨rfl,p9⟩;exact ⟨rfl,vK D.out N.out.1 N.out.2 (B.out _ p9).2⟩
theorem EF (c:Int) (w:World):CE 93 #[.iface 162 (.i c)] w (.i c):=by
 have d:∀ (c:Int) (w:World),(Instr.typeAssert (.iface 162 (.i c)) 20 162 false).run prog w=.ok (.i c) w:=λc w=>al
 go_enter func93,ntmps93;exact v8
theorem EG (p q r s:Addr) (w:World):CallsD prog 92 #[.pointer (some p),.pointer (some q),.pointer (some r),.pointer (some s)] .returning w λe f g=>e=.returned (.tuple #[])/\f=.returning/\g=w:=by
 have c:∀ w,(binOp .neq 20 .nilIface .nilIface).run prog w=.ok (.bool false) w:=λw=>al
 refine callsD_of_wpS func92 rfl λb j d=>?_;apply wpS_seq;apply wpS_region;simp [wpOpsS,go_sem,recoverD,d,ntmps92,Exit.thenS];refine wpS_of_wp ?_;go_wp2_with fail;cases b;simp_all [bodyPostS,results,results92]
structure Tr (w:World) (B g n rc:Nat):Prop where
 r0:w.heap[B]?=some (.cells #[.slice (some ⟨g,0,none⟩) n rc] 24 (0,0))
 r1:∃ v,w.heap[B+1]?=some (.cells #[v] 22 (0,0))
 r2:∃ v,w.heap[B+1+1]?=some (.cells #[v] 2 (0,0))
 r3:∃ v,w.heap[B+1+1+1]?=some (.cells #[v] 24 (0,0))
theorem tA (B g n o:Nat) (zs:List Int) (c:Int) (d:List PanicEntry) (w:World) (hF:Tr w B g n o) (hz:zs.length=n) (u:1<=n) (hn:n<=1048576) (hs:Sl .u8 w (some ⟨g,0,none⟩) zs):CallsD prog 92 #[.p B 0,.p (B+1) 0,.p (B+1+1) 0,.p (B+1+1+1) 0] (.panicking ({v:=.iface 162 (.i c),recovered:=false}::d)) w λe M l => e=.returned (.tuple #[])/\M=.panicking ({v:=.iface 162 (.i c),recovered:=true}::d)/\∃ (p:World) (f:Option Addr) (j:Nat),lF w p zs f n j/\l=((p.setCell ⟨B+1,0,none⟩ (.u 0)).setCell ⟨B+1+1,0,none⟩ (.i c)).setCell ⟨B+1+1+1,0,none⟩ (.slice f n j):=by
 have K:∀ (v:Value) (w:World),(binOp .neq 20 (.iface 162 v) .nilIface).run prog w=.ok (.bool true) w:=λv w=>al
 obtain ⟨E,⟨N,F⟩,⟨O,G⟩,⟨P,H⟩⟩:=hF
 have X:w.cell? ⟨B,0,none⟩=some (.slice (some ⟨g,0,none⟩) n o):=by simp [World.cell?,E]
 have q:Hid (∀ l,Bw w l->Calls prog 39 #[.slice (some ⟨g,0,none⟩) n o] l λr b=>∃ (f:Option Addr) (j:Nat),r=.returned (.slice f n j)/\Hid (lF w b zs f n j) /\
  (b.cell? ⟨B+1,0,none⟩=some N/\b.frozen? ⟨B+1,0,none⟩=false)/\(b.cell? ⟨B+1+1,0,none⟩=some O/\b.frozen? ⟨B+1+1,0,none⟩=false)/\(b.cell? ⟨B+1+1+1,0,none⟩=some P/\b.frozen? ⟨B+1+1+1,0,none⟩=false)):=λl m=>(pA g n o zs l hz u hn (hs.below m)).mono λr b ⟨f,j,J,e2,e3⟩=>by
  have A:=fu (aa m e3) F
  have C:=fu (aa m e3) G
  have D:=fu (aa m e3) H
  exact ⟨f,j,J,⟨cN e2 m.size,aa m e3⟩,⟨by simp [World.cell?,A],by simp [World.frozen?,A]⟩,⟨by simp [World.cell?,C],by simp [World.frozen?,C]⟩,⟨by simp [World.cell?,D],by simp [World.frozen?,D]⟩⟩
 have s:Hid (∀ w,CE 93 #[.iface 162 (.i c)] w (.i c)):=EF c
 have I:Bw w w.drew:=(Below.refl _ _).drew
 clear E F G H hz hn hs
 refine callsD_of_wpS func92 rfl λz Q L=>?_
 apply wpS_seq
 apply wpS_region
 simp [wpOpsS,go_sem,recoverD,L,ntmps92,Exit.thenS]
 refine wpS_of_wp ?_
 go_wp2_with fail
 ·go_region_with (first | (go_at_call 93;with_reducible refine (s.out _).mono ?_;rintro e Y ⟨rfl,y⟩;subst y) | (go_at_call 39;with_reducible refine (q.out _ I).mono ?_;rintro e p ⟨f,j,rfl,t,⟨U,R⟩,⟨V,S⟩,⟨W,T⟩⟩))
  all_goals exact ⟨rfl,_,rfl,_,results_none rfl _ _ _,rfl,rfl,p,f,j,t.out,rfl⟩
theorem lX {w:World} {base n c:Nat} {t:TypeId} {a:Option Addr} {xs:List Value} (h:w.ownsRow base t 1 (.slice a n c) n xs) (p:Addr) (v:Value) (j:p.block<base):(w.setCell p v).ownsRow base t 1 (.slice a n c) n xs:=by
 refine ⟨h.1,?_⟩;rcases h.2 with d|⟨g,cap,b,e,d,f,i⟩;·exact .inl d
 ·exact .inr ⟨g,cap,b,e,d,(Below.heap_setCell w p v g ab).trans f,i⟩
theorem Ml (w:World) (base:Nat):w.ownsRow base 5 1 (.slice none 0 0) 0 (([]:List Int).map (Value.int .u8)):=⟨rfl,.inl ⟨rfl,rfl⟩⟩
theorem Mm {w w2:World} {o1 o2 o3 o4:Obj} (hb:Below ((((w.alloc o1).alloc o2).alloc o3).alloc o4).heap.size ((((w.alloc o1).alloc o2).alloc o3).alloc o4) w2):w2.heap[w.heap.size]?=some o1/\w2.heap[w.heap.size+1]?=some o2/\w2.heap[w.heap.size+1+1]?=some o3/\w2.heap[w.heap.size+1+1+1]?=some o4:=by
 have e2:=heap_alloc_new (w.alloc o1) o2
 have e3:=heap_alloc_new ((w.alloc o1).alloc o2) o3
 have e4:=heap_alloc_new (((w.alloc o1).alloc o2).alloc o3) o4
 rw [World.size_alloc] at e2
 rw [World.size_alloc,World.size_alloc] at e3
 rw [World.size_alloc,World.size_alloc,World.size_alloc] at e4
 exact ⟨fu hb ((Below.heap_alloc _ _ _ dv).trans ((Below.heap_alloc _ _ _ dv).trans ((Below.heap_alloc _ _ _ dv).trans (heap_alloc_new w o1)))),
  fu hb ((Below.heap_alloc _ _ _ dv).trans ((Below.heap_alloc _ _ _ dv).trans e2)),fu hb ((Below.heap_alloc _ _ _ dv).trans e3),fu hb e4⟩
theorem lH {w:World} {g:Nat} {v:Value} {t:TypeId} (h:w.heap[g]?=some (.cells #[v] t (0,0))):w.cell? ⟨g,0,none⟩=some v/\w.frozen? ⟨g,0,none⟩=false:=⟨by simp [World.cell?,h],by simp [World.frozen?,h]⟩
theorem B7 (ra:Option Addr) (n rcap:Nat) (B:Option Addr) (m cap:Nat) (l:List Int) (p va kind:Int) (w:World) (hn:n<=1048576) (s:l.length=m) (hl:Sl .u64 w B l) (r:∀ j,U (l.getD j 0)) (t:mY n m l p kind=false):CB 40 #[.slice ra n rcap,.slice B m cap,.i p,.u va,.i kind] w (.tuple #[.u 0,.i (if iU kind=true then dy kind else 1),.slice none 0 0]):=by
 have HR:Hid (∀ w,CE 69 #[.slice ra n rcap] w (.bool (aU n))):=λw=>eZ ra n rcap w hn;have N:Hid (∀ f,Bw w f->CB 68 #[.slice B m cap,.i p] f (.bool (aX m l p))):=λf V=>fh B m cap l p f s (hl.below V) r;have P:Hid (∀ w,CE 90 #[.i kind] w (.bool (iU kind))):=λw=>by have:=lz kind w;rw [qG] at this;exact this
 have C:Hid (∀ w,CE 91 #[.i kind] w (.i (if iU kind=true then dy kind else 1))):=λw=>by
  have:=oA kind w;have e:BU kind=if iU kind=true then dy kind else 1:=by
   by_cases h:1<=kind/\kind<=3;·rw [Gz kind h.1 h.2,if_pos (by unfold iU;simpa using h)]
   ·rw [L9 kind h,if_neg (by unfold iU;simpa using h)]
  rw [e] at this;exact this
 have D:(aU n&&aX m l p&&iU kind)=false:=t;generalize (if iU kind=true then dy kind else 1)=fk at *;generalize iU kind=X at *;generalize aU n=Z at *;generalize aX m l p=Y at *;clear hl s hn t r;have g:∀ H I J K,Bw w ((((w.alloc H).alloc I).alloc J).alloc K):=λH I J K=>((((Below.refl _ _).alloc (Nat.le_refl _) H).alloc cp I).alloc bh J).alloc bh K;cases Z with
 | false =>go_enter_defers func40,ntmps40;go_wp2_with fail;refine (HR.out _).mono ?_;rintro e M ⟨rfl,d⟩;subst d;go_wp2_with fail;refine (C.out _).mono ?_;rintro e M ⟨rfl,d⟩;subst d;go_wp2_with fail;refine ⟨_,?_,rfl,g _ _ _ _⟩;simp [results,results40,go_sem]
 | true =>
   cases Y with
   | false =>go_enter_defers func40,ntmps40;go_wp2_with fail;refine (HR.out _).mono ?_;rintro e M ⟨rfl,d⟩;subst d;go_wp2_with fail;refine (N.out _ (g _ _ _ _)).mono ?_;rintro e w2 ⟨rfl,c⟩;obtain ⟨u,y,z,A⟩:=Mm c;have q:=dE (aa (g _ _ _ _) c);obtain ⟨W,Q⟩:=lH u;obtain ⟨E,R⟩:=lH y;obtain ⟨F,S⟩:=lH z;obtain ⟨G,T⟩:=lH A;clear u y z A c;go_wp2_with fail;refine (C.out _).mono ?_;rintro e O ⟨rfl,o⟩;have b:=o.symm;subst b;go_wp2_with fail;refine ⟨_,?_,rfl,((q.out.setCell cp _).setCell bh _).setCell bh _⟩;simp [results,results40,go_sem,E,F,G]
   | true =>
     cases X with
     | false =>go_enter_defers func40,ntmps40;go_wp2_with fail;refine (HR.out _).mono ?_;rintro e M ⟨rfl,d⟩;subst d;go_wp2_with fail;refine (N.out _ (g _ _ _ _)).mono ?_;rintro e w2 ⟨rfl,c⟩;obtain ⟨u,y,z,A⟩:=Mm c;have q:=dE (aa (g _ _ _ _) c);obtain ⟨W,Q⟩:=lH u;obtain ⟨E,R⟩:=lH y;obtain ⟨F,S⟩:=lH z;obtain ⟨G,T⟩:=lH A;clear u y z A c;go_wp2_with fail;refine (P.out _).mono ?_;rintro e O ⟨rfl,o⟩;have b:=o.symm;subst b;go_wp2_with fail;refine (C.out _).mono ?_;rintro e O ⟨rfl,o⟩;have b:=o.symm;subst b;go_wp2_with fail;refine ⟨_,?_,rfl,((q.out.setCell cp _).setCell bh _).setCell bh _⟩;simp [results,results40,go_sem,E,F,G]
     | true=>cases D
theorem GB (l:List Int) (p va k e x:Int) (lv:Nat):(db l p va k e x lv).code=0\/((db l p va k e x lv).addr=0/\(db l p va k e x lv).marked=false):=by
 unfold db;split;·exact .inr ⟨rfl,rfl⟩
 ·split;·exact .inr ⟨rfl,rfl⟩
  ·split;·exact .inr ⟨rfl,rfl⟩
   ·split
    ·split;·exact .inl rfl
     ·exact .inr ⟨rfl,rfl⟩
    ·exact .inl rfl
theorem Mn (zs:List Int) (n:Nat) (l:List Int) (p va k:Int):∀ (a:Nat) (T:Int),(bK zs n l p va k a T).code=0\/((bK zs n l p va k a T).addr=0/\(bK zs n l p va k a T).marked=false):=by
 intro a;induction a with
 | zero =>
   intro T;rw [bK];split
   ·split
    ·split;·exact .inr ⟨rfl,rfl⟩
     ·split;·exact .inr ⟨rfl,rfl⟩
      ·exact GB _ _ _ _ _ _ _
    ·exact .inr ⟨rfl,rfl⟩
   ·exact .inr ⟨rfl,rfl⟩
 | succ a b =>
   intro T;rw [bK];split
   ·split
    ·split;·exact .inr ⟨rfl,rfl⟩
     ·split
      ·split;·exact .inr ⟨rfl,rfl⟩
       ·exact b _
      ·exact GB _ _ _ _ _ _ _
    ·exact .inr ⟨rfl,rfl⟩
   ·exact .inr ⟨rfl,rfl⟩
theorem Pe (zs:List Int) (n:Nat) (l:List Int) (p va k:Int) (h:¬ (bW zs n l p va k).code=0):(bW zs n l p va k).addr=0/\bn zs (bW zs n l p va k)=zs:=by
 have a:(bW zs n l p va k).code=0\/((bW zs n l p va k).addr=0/\(bW zs n l p va k).marked=false):=by
  unfold bW;split;·exact .inl rfl
  ·split;·exact .inr ⟨rfl,rfl⟩
   ·exact Mn _ _ _ _ _ _ _ _
 rcases a with a|⟨a,b⟩;·exact absurd a h
 ·exact ⟨a,by unfold bn;rw [b];rfl⟩
theorem B8 {w:World} {p:Addr} {u:Value} (v:Value) (h:w.cell? p=some u):(w.setCell p v).cell? p=some v:=World.cell?_setCell_same w p v h
theorem mj {w:World} {p q:Addr} {u:Value} (v:Value) (h:w.cell? q=some u) (a:p.block≠q.block):(w.setCell p v).cell? q=some u:=by rw [World.cell?_setCell_other w p q v (λe=>a (by rw [e]))];exact h
theorem zB (g n rcap:Nat) (zs:List Int) (b j cap:Nat) (l:List Int) (p va kind:Int) (w:World) (W:Wk w g n rcap zs b j cap l p va kind):Calls prog 40 #[.slice (some ⟨g,0,none⟩) n rcap,.slice (some ⟨b,j,none⟩) 22 cap,.i p,.u va,.i kind] w λe m=>∃ (d:Option Addr) (c:Nat),e=.returned (.tuple #[.u (bW zs n l p va kind).addr,.i (bW zs n l p va kind).code,.slice d n c]) /\ m.ownsRow w.heap.size 5 1 (.slice d n c) n ((bn zs (bW zs n l p va kind)).map (Value.int .u8))/\Bw w m:=by
 have hbd:=gc W.hr;have HW:=dE W;have HR:Hid (∀ w,CE 69 #[.slice (some ⟨g,0,none⟩) n rcap] w (.bool true)):=λw=>by have:=eZ (some ⟨g,0,none⟩) n rcap w ab;rw [W.hr] at this;exact this
 have HG:Hid (∀ m,Bw w m->CB 68 #[.slice (some ⟨b,j,none⟩) 22 cap,.i p] m (.bool true)):=λm U=>by have:=fh (some ⟨b,j,none⟩) 22 cap l p m W.hlz (W.hl.below U) W.hU;rw [W.hg] at this;exact this
 have HK:Hid (∀ w,CE 90 #[.i kind] w (.bool true)):=λw=>by have:=lz kind w;rw [qG,decide_eq_true ⟨W.hk1,W.hk3⟩] at this;exact this
 have Q:Hid (∀ m,Bw w m->Calls prog 94 #[.agg #[.slice (some ⟨g,0,none⟩) n rcap,.slice (some ⟨b,j,none⟩) 22 cap,.i p,.u va,.i kind]] m λr D=>Pb (bW zs n l p va kind) zs n m r D):=λm U=>Mj g n rcap zs b j cap l p va kind m (W.below U);have G:∀ B C K L,Bw w ((((w.alloc B).alloc C).alloc K).alloc L):=λB C K L=>((((Below.refl _ _).alloc (Nat.le_refl _) B).alloc cp C).alloc bh K).alloc bh L;have hmf:∀ (fn:Fn) (s cap:Array Value) (w:World),(Instr.makeFunc fn s cap).run prog w=.ok (.func fn s cap) w:=λ_ _ _ _=>rfl;have S:=dE (Pe zs n l p va kind);generalize bW zs n l p va kind=V at *;clear W;go_enter_defers func40,ntmps40;go_wp2_with fail;refine (HR.out _).mono ?_;rintro e w1 ⟨rfl,X⟩;subst X;go_wp2_with fail;refine (HG.out _ (G _ _ _ _)).mono ?_;rintro e w2 ⟨rfl,A⟩;obtain ⟨q0,q1,q2,q3⟩:=Mm A;have Q0:=dE q0;have Q1:=dE q1;have Q2:=dE q2;have M:=dE q3;have F:=dE (aa (G _ _ _ _) A);obtain ⟨j0,f0⟩:=lH q0;clear q0 q1 q2 q3 A;go_wp2_with fail;refine (HK.out _).mono ?_;rintro e w3 ⟨rfl,Y⟩;have J:=Y.symm;subst J;have u:=dE (F.out.alloc F.out.size (.cells #[.slice (some ⟨g,0,none⟩) n rcap,.slice (some ⟨b,j,none⟩) 22 cap,.i p,.u va,.i kind] 114));go_wp2_with fail;refine (Q.out _ u.out).mono ?_;rintro r O I;unfold Pb at I;by_cases N:V.code=0
 ·rw [if_pos N] at I;obtain ⟨d,c,rfl,E⟩:=I;have FR:=dE E;have FS:=dE E.2.size;obtain ⟨Z,f1⟩:=lH (fu E.2 (n7 Q1.out _));obtain ⟨j2,f2⟩:=lH (fu E.2 (n7 Q2.out _));obtain ⟨j3,f3⟩:=lH (fu E.2 (n7 M.out _));clear E j0 f0;obtain ⟨o,z⟩:∃ o,V.addr=o:=⟨_,rfl⟩;rw [z];have P:=dE z;clear z;go_wp2_with fail;go_region;go_wp2_with fail;refine leaves_cons (f:=92) (args:=#[.p w.heap.size 0,.p (w.heap.size+1) 0,.p (w.heap.size+1+1) 0,.p (w.heap.size+1+1+1) 0]) cp (by simp [go_sem]) ?_;refine (EG _ _ _ _ _).mono ?_;rintro e u' w9 ⟨rfl,rfl,rfl⟩;have H:w.heap.size+1+1+1<(w2.alloc (.cells #[.slice (some ⟨g,0,none⟩) n rcap,.slice (some ⟨b,j,none⟩) 22 cap,.i p,.u va,.i kind] 114)).heap.size:=(by have:=(Array.getElem?_eq_some_iff.1 M.out).1;rw [World.size_alloc];omega);have t1:=mj (p:=⟨w.heap.size+1+1+1,0,none⟩) (.slice d n c) (mj (p:=⟨w.heap.size+1+1,0,none⟩) (.i 0) (B8 (.u o) (mj (p:=⟨w.heap.size+1+1+1,0,none⟩) (.slice d n c) (B8 (.u o) Z) cb)) cb) cb;have t2:=mj (p:=⟨w.heap.size+1+1+1,0,none⟩) (.slice d n c) (B8 (.i 0) (mj (p:=⟨w.heap.size+1,0,none⟩) (.u o) (mj (p:=⟨w.heap.size+1+1+1,0,none⟩) (.slice d n c) (mj (p:=⟨w.heap.size+1,0,none⟩) (.u o) j2 cb) cb) cb)) cb;have t3:=B8 (.slice d n c) (mj (p:=⟨w.heap.size+1+1,0,none⟩) (.i 0) (mj (p:=⟨w.heap.size+1,0,none⟩) (.u o) (B8 (.slice d n c) (mj (p:=⟨w.heap.size+1,0,none⟩) (.u o) j3 cb)) cb) cb);refine ⟨.tuple #[.u o,.i 0,.slice d n c],?_,d,c,by rw [N,P.out],?_,?_⟩;·generalize (((((O.setCell ⟨w.heap.size+1,0,none⟩ (.u o)).setCell ⟨w.heap.size+1+1+1,0,none⟩ (.slice d n c)).setCell ⟨w.heap.size+1,0,none⟩ (.u o)).setCell ⟨w.heap.size+1+1,0,none⟩ (.i 0)).setCell ⟨w.heap.size+1+1+1,0,none⟩ (.slice d n c))=W9 at *;simp [results,results40,go_sem,t1,t2,t3]
  ·have B:=lX FR.out.1 ⟨w.heap.size+1,0,none⟩ (.u o) (by show w.heap.size+1<_;omega);have C:=lX B ⟨w.heap.size+1+1+1,0,none⟩ (.slice d n c) H;have K:=lX C ⟨w.heap.size+1,0,none⟩ (.u o) (by show w.heap.size+1<_;omega);have L:=lX K ⟨w.heap.size+1+1,0,none⟩ (.i 0) (by show w.heap.size+1+1<_;omega);have o5:=lX L ⟨w.heap.size+1+1+1,0,none⟩ (.slice d n c) H;exact eB (cN o5 u.out.size) (Below.refl _ _).drew
  ·exact ((((((aa u.out FR.out.2).setCell cp _).setCell bh _).setCell cp _).setCell bh _).setCell bh _).drew
 ·rw [if_neg N] at I;obtain ⟨rfl,q⟩:=I;have y:=dE (aa u.out q);have HF:Hid (Tr O w.heap.size g n rcap):=⟨fu q (n7 Q0.out _),⟨_,fu q (n7 Q1.out _)⟩,⟨_,fu q (n7 Q2.out _)⟩,⟨_,fu q (n7 M.out _)⟩⟩;have R:=dE (show w.heap.size+1+1+1<O.heap.size from (Array.getElem?_eq_some_iff.1 (fu q (n7 M.out (.cells #[.slice (some ⟨g,0,none⟩) n rcap,.slice (some ⟨b,j,none⟩) 22 cap,.i p,.u va,.i kind] 114)))).1);refine leaves_cons (f:=92) (args:=#[.p w.heap.size 0,.p (w.heap.size+1) 0,.p (w.heap.size+1+1) 0,.p (w.heap.size+1+1+1) 0]) cp (by simp [go_sem]) ?_;refine (tA w.heap.size g n rcap zs V.code [] O HF.out HW.out.hz ab ab (HW.out.hs.below y.out)).mono ?_;rintro e u' w9 ⟨rfl,rfl,w8,d,T,t,rfl⟩;obtain ⟨_,⟨v1,r1⟩,⟨v2,r2⟩,⟨v3,r3⟩⟩:=HF.out;obtain ⟨Z,_⟩:=lH (fu t.2 r1);obtain ⟨j2,_⟩:=lH (fu t.2 r2);obtain ⟨j3,_⟩:=lH (fu t.2 r3);obtain ⟨h1,h2⟩:=S.out N;rw [h1,h2];refine ⟨.tuple #[.u 0,.i V.code,.slice d n T],?_,d,T,rfl,?_,?_⟩;·simp [results,results40,go_sem,Z,j2,j3]
  ·have B:=lX t.1 ⟨w.heap.size+1,0,none⟩ (.u 0) (by have:=R.out;simp;omega);have C:=lX B ⟨w.heap.size+1+1,0,none⟩ (.i V.code) (by have:=R.out;simp;omega);exact cN (lX C ⟨w.heap.size+1+1+1,0,none⟩ (.slice d n T) R.out) y.out.size
  ·exact (((aa y.out t.2).setCell cp _).setCell bh _).setCell bh _
def vL (n:Nat) (a:Option Addr) (c:Nat):Prop:=(∀ b d,a=some ⟨b,d,none⟩->d=0)/\n<=c/\c<=maxLen
theorem B9 {w:World} {base n c:Nat} {t:TypeId} {a:Option Addr} {xs:List Value} (h:w.ownsRow base t 1 (.slice a n c) n xs):vL n a c:=by
 rcases h.2 with ⟨d,l⟩|⟨g,cap,i,d,_,_,j,k,_⟩
 ·injection d with e1 e2 e3
  subst e1 e3;exact ⟨λb f e=>(nomatch e),ab,Nat.zero_le _⟩
 ·injection d with e1 e2 e3
  subst e1 e3;exact ⟨λb f e=>by cases e;rfl,j,k⟩
theorem qL (ra:Option Addr) (n rcap:Nat) (zs:List Int) (B:Option Addr) (m cap:Nat) (l:List Int) (p va kind:Int) (w:World) (hz:zs.length=n) (hn:n<=1048576) (hs:Sl .u8 w ra zs) (A:∀ y ∈ zs,(Lit.int .u8 y).wf=true) (k:l.length=m) (hl:Sl .u64 w B l) (f:∀ j,U (l.getD j 0)) (z:U va) (F:qV w) (t:vL n ra rcap):Calls prog 40 #[.slice ra n rcap,.slice B m cap,.i p,.u va,.i kind] w λe s=>∃ (D:Option Addr) (c:Nat),e=.returned (.tuple #[.u (FC zs n m l p va kind),.i (FD zs n m l p va kind),.slice D (uT zs n m l p va kind).length c]) /\ s.ownsRow w.heap.size 5 1 (.slice D (uT zs n m l p va kind).length c) (uT zs n m l p va kind).length ((uT zs n m l p va kind).map (Value.int .u8))/\Bw w s:=by
 unfold FC FD uT;cases q:mY n m l p kind with
 | false =>simp only [Bool.false_eq_true,if_false];exact (B7 ra n rcap B m cap l p va kind w hn k hl f q).mono λe s h=>⟨none,0,h.1,Ml s _,h.2⟩
 | true =>simp only [if_true];rw [j9,hz];have a:(aU n&&aX m l p&&iU kind)=true:=q;simp only [Bool.and_eq_true] at a;obtain ⟨⟨E,i⟩,u⟩:=a;have d:1<=kind/\kind<=3:=(by simpa [iU] using u);obtain ⟨rfl,I⟩:=gu i;have G:=gc E;obtain ⟨b,C,rfl,_,_⟩:=hl 0 ab;obtain ⟨g,o,rfl,_,_⟩:=hs 0 ab;obtain ⟨v,x,r⟩:=t;have H:=v g o rfl;subst H;exact zB g n rcap zs b C cap l p va kind w ⟨hz,E,hs,A,x,by unfold maxLen at r;omega,k,hl,f,i,z,d.1,d.2,F⟩
end Go.Proofs.YtjifdmoehfbihaaGreatDoor
