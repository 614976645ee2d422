/- Own lemmas. -/
import Derived.Test.YtjifdmoehfbihaaGreatDoorAuj
import Derived.Test.YtjifdmoehfbihaaGreatDoorJ16
import Derived.Test.YtjifdmoehfbihaaGreatDoorJ17
set_option maxRecDepth 100000
set_option maxHeartbeats 12800000
namespace Go.Proofs.YtjifdmoehfbihaaGreatDoor
open Go.RowKit Tryz
open IntKind renaming u64->Uz
set_option linter.unusedVariables false
variable {M A g w:World} {n B W:Nat} {p:MV} {t:MA} {k:Array Value} {l:TV} {V r x:Int} {c:List Int} {b:List Rw} {R:List FRow} {s:Fd} {E:TypeId} {L:Value} {a:List Nat} {e:Option Addr} {f:List Value} {m:Addr} {P:Program} {fn:Func} {Rs:Ending->World->Prop} (y:MV) (o:MA) (q:Option Addr) (d:Int × MV × Int) (j:Wf) (z:List Int) (F:Int) (S:World) (T C D:Nat) (G:List Int) (I J K:Int) (N:World)
def zq (zs:List Int) (n:Nat) (l:List Int) (p va k e x:Int) (lv:Nat):Fd :=
 if mC e=true then (if jt e lv=true then bZ k else bC zs n l p va k (lv-1) (Uz.wrap (eB e*4096))) else cH l p va k e x lv
theorem zr (n:Int) (lv:Nat): (qn z T G K (bK n J lv)=gF (dJ K)/\bC z T G I J K lv n=fR K)\/(qn z T G K (bK n J lv)=gF (ey K)/\bC z T G I J K lv n=bZ K) \/ (qn z T G K (bK n J lv)=.returned (.tuple #[.u (bK n J lv),.u (fI z (bK n J lv))])/\gi T (bK n J lv) 8=true/\bC z T G I J K lv n=zq z T G I J K (fI z (bK n J lv)) (bK n J lv) lv):=by
 rw [gR];unfold qn zq;generalize bK n J lv=x;by_cases a:gi T x 8=true
 ·rw [if_pos a,if_pos a];by_cases b:ay G 1 x (aU x 8) 2 4 0=true
  ·rw [if_pos b,if_pos b];by_cases c:pL (fI z x)=true;·rw [if_pos c,if_pos c];exact .inr (.inl ⟨rfl,rfl⟩)
   ·rw [if_neg c,if_neg c];exact .inr (.inr ⟨rfl,a,rfl⟩)
  ·rw [if_neg b,if_neg b];exact .inl ⟨rfl,rfl⟩
 ·rw [if_neg a,if_neg a];exact .inl ⟨rfl,rfl⟩
def Q8 (V:Fd) (zs:List Int) (n:Nat) (w:World) (r:Ending) (w':World):Prop :=
 if V.code=0 then ∃ (a:Option Addr) (c:Nat),r=.returned (.tuple #[.u V.addr,.slice a n c])/\l4 w w' (bp zs V) a n c else r=gF V.code/\Bw w w'
theorem rF (h:s=bZ V) (b:1<=V) (w:V<=3) (hb:Bw M A):Q8 s c n M (gF (ey V)) A:=by
 subst h;have a:V=1\/V=2\/V=3:=ab
 unfold Q8;rw [if_neg];·exact ⟨rfl,hb⟩
 ·rcases a with rfl|rfl|rfl<;>decide
theorem xt (h:s=fR V) (b:1<=V) (w:V<=3) (hb:Bw M A):Q8 s c n M (gF (dJ V)) A:=by
 subst h;have a:V=1\/V=2\/V=3:=ab
 unfold Q8;rw [if_neg];·exact ⟨rfl,hb⟩
 ·rcases a with rfl|rfl|rfl<;>decide
theorem Iq {b:List Int} (h:s.code=0) (d:s.addr=V) (hm:bp c s=b) (a:l4 M A b e n B):Q8 s c n M (.returned (.tuple #[.u V,.slice e n B])) A:=by unfold Q8;rw [if_pos h,d,hm];exact ⟨_,_,rfl,a⟩
theorem Q9 {l:List Int} {k e x:Int} (h:(mD e n||gO l k e||gQ l V k e)=true):cH l V r k e x n=bZ k:=by
 unfold cH;cases a:mD e n
 ·cases b:gO l k e
  ·cases c:gQ l V k e;·rw [a,b,c] at h;cases h
   ·rfl
  ·rfl
 ·rfl
theorem Ra {l:List Int} {va e:Int} (h:(mD e n||gO l r e||gQ l V r e)=false):mD e n=false /\ cH l V va r e x n=(if (cn e r != e)=true then (if ay l 1 x (aU x 8) 3 4 0=true then ⟨gH e va n,0,true,x,cn e r⟩ else fR r) else ⟨gH e va n,0,false,0,0⟩):=by
 unfold cH;cases a:mD e n
 ·cases b:gO l r e
  ·cases c:gQ l V r e;·exact ⟨rfl,rfl⟩
   ·rw [a,b,c] at h;cases h
  ·rw [a,b] at h;cases h
 ·rw [a] at h;cases h
theorem Oh (b f y:Nat) (l:List Int) (p va k:Int) (w:World) (W:Wk w T C D G b f y l p va k): Calls prog 94 #[.agg #[.slice (some ⟨T,0,none⟩) C D,.slice (some ⟨b,f,none⟩) 22 y,.i p,.u va,.i k]] w λr d=>Q8 (bN G C l p va k) G C w r d:=by
 have HW:Hid (Wk w T C D G b f y l p va k):=W;have hbd:=fT W.hr;have hB0:∀ o m,Bw w ((w.alloc o).drewN m):=λo m=>gZ (bal _ _) m;have c15:∀ o,(w.alloc o).cell? ⟨b,f+15,none⟩=some (.u (l.getD 15 0)):=λo=>(W.below (hB0 o 0)).at 15 ab;have us:=W.hU 15;have HPF:Hid (∀ w,Calls prog 137 #[.agg #[.slice (some ⟨T,0,none⟩) C D,.slice (some ⟨b,f,none⟩) 22 y,.i p,.u va,.i k]] w λe d=>e=gF (ey k)/\Bw w d):=λw=>ks _ _ _ _ _ _ _ _ W.hk1 W.hk3 w;have HB60:Hid (∀ w,Calls prog 66 #[.u (l.getD 15 0),.i 60,.i 4] w λr d=>r=.returned (.u (dg (l.getD 15 0) 60 4))/\d=w.drew):=λw=>bF _ 60 4 us.1 us.2 ab ab w;have HB0:Hid (∀ w,Calls prog 66 #[.u (l.getD 15 0),.i 0,.i 44] w λr d=>r=.returned (.u (dg (l.getD 15 0) 0 44))/\d=w.drew):=λw=>bF _ 0 44 us.1 us.2 ab ab w;have HWD:Hid (∀ w,Calls prog 136 #[.u va,.i 39] w λr d=>r=.returned (.u (au 39 va))/\∃ m,d=w.drewN m):=λw=>(iX va 39 ab ab w).mono λ_ _ h=>⟨h.1,0,h.2⟩;have FT:Hid (Uz.wrap (dg (l.getD 15 0) 0 44*4096)=kY l):=TK l us;have FV:bN G C l p va k=if ((p==3)||(dg (l.getD 15 0) 60 4==0))=true then ⟨va,0,false,0,0⟩ else if (au 39 va != va)=true then bZ k else bC G C l p va k 2 (kY l):=by rw [QD _ us];rfl
 have HPV:Hid (cg p=true):=(gJ W.hg).2;generalize bN G C l p va k=V at *;generalize l.getD 15 0=s at *;obtain ⟨P,hP⟩:∃ P:World->Prop,P=λd=>d.heap[w.heap.size]?=some (.cells #[.slice (some ⟨T,0,none⟩) C D,.slice (some ⟨b,f,none⟩) 22 y,.i p,.u va,.i k] 114 (0,0))/\Bw w d:=⟨_,rfl⟩;have B:Hid (∀ d,P d->d.heap[w.heap.size]?=some (.cells #[.slice (some ⟨T,0,none⟩) C D,.slice (some ⟨b,f,none⟩) 22 y,.i p,.u va,.i k] 114 (0,0))/\Bw w d):=by subst hP;exact λd h=>h
 have PI:Hid (∀ d,d.heap[w.heap.size]?=some (.cells #[.slice (some ⟨T,0,none⟩) C D,.slice (some ⟨b,f,none⟩) 22 y,.i p,.u va,.i k] 114 (0,0))->Bw w d->P d):=by subst hP;exact λd h t=>⟨h,t⟩
 clear hP;have P0:Hid (∀ m,P ((w.alloc (.cells #[.slice (some ⟨T,0,none⟩) C D,.slice (some ⟨b,f,none⟩) 22 y,.i p,.u va,.i k] 114)).drewN m)):=λm=>PI.out _ (heap_alloc_new w _) (hB0 _ _);have PB:Hid (∀ M w2,P M->Bw M w2->P w2):=λM w2 h hb=>PI.out _ (ge hb (B.out _ h).1) (aa (B.out _ h).2 hb);have PD:Hid (∀ M,P M->P M.drew):=λM h=>PB.out _ _ h (gZ (Below.refl _ _) 1);have F:Hid (∀ d,P d->(d.cell? ⟨w.heap.size,0,none⟩=some (.slice (some ⟨T,0,none⟩) C D)/\d.cell? ⟨w.heap.size,1,none⟩=some (.slice (some ⟨b,f,none⟩) 22 y)/\d.cell? ⟨w.heap.size,2,none⟩=some (.i p)/\d.cell? ⟨w.heap.size,3,none⟩=some (.u va)/\d.cell? ⟨w.heap.size,4,none⟩=some (.i k))/\P d):=λd h=>⟨lZ (B.out _ h).1,h⟩;have HCL:Hid (∀ d,P d->Calls prog 39 #[.slice (some ⟨T,0,none⟩) C D] d λr j=>∃ (zs:Option Addr) (c:Nat),r=.returned (.slice zs C c)/\Hid (l4 w j G zs C c)/\P j):=λd h=>(qo T C D G d W.hz ab ab (W.hs.below (B.out _ h).2)).mono λr j ⟨zs,c,e1,e2,e3⟩=>⟨zs,c,e1,⟨cF e2 (B.out _ h).2.size,aa (B.out _ h).2 e3⟩,PB.out _ _ h e3⟩;have N:Hid (1<=k/\k<=3):=⟨W.hk1,W.hk3⟩;have HEN:Hid (∀ (g:Int) (q:Nat) (d:World),q<=2->P d->Calls prog 138 #[.agg #[.slice (some ⟨T,0,none⟩) C D,.slice (some ⟨b,f,none⟩) 22 y,.i p,.u va,.i k],.u g,.i (q:Int)] d λe j=>e=qn G C l k (bK g va q)/\P j):=λg q d J h=>(Dk T C D G b f y l p va k g q J d (W.below (B.out _ h).2)).mono λr j t=>⟨t.1,PB.out _ _ h t.2⟩;have HTB:Hid (∀ (e:Int) (q:Nat) (d:World),U e->P d->Calls prog 140 #[.agg #[.slice (some ⟨T,0,none⟩) C D,.slice (some ⟨b,f,none⟩) 22 y,.i p,.u va,.i k],.u e,.i (q:Int)] d λr j=>r=Ko k e q/\P j):=λe q d he h=>(Dl T C D b f y p va k e q he W.hk1 W.hk3 d).mono λr j t=>⟨t.1,PB.out _ _ h t.2⟩;have HCK:Hid (p=0\/p=1->∀ (e:Int) (q:Nat) (d:World),q<=2->U e->P d->Calls prog 141 #[.agg #[.slice (some ⟨T,0,none⟩) C D,.slice (some ⟨b,f,none⟩) 22 y,.i p,.u va,.i k],.u e,.i (q:Int)] d λr j=>r=FZ l p k e q/\P j):=λhp e q d J he h=>(xZ T C D G b f y l p va k e q J he hp d (W.below (B.out _ h).2)).mono λr j t=>⟨t.1,PB.out _ _ h t.2⟩;have HPL:Hid (∀ (e:Int) (q:Nat),q<=2->U e->mD e q=false->∀ (d:World),P d->Calls prog 142 #[.agg #[.slice (some ⟨T,0,none⟩) C D,.slice (some ⟨b,f,none⟩) 22 y,.i p,.u va,.i k],.u e,.i (q:Int)] d λr j=>r=.returned (.u (gH e va q))/\P j):=λe q J he h0 d h=>(QM T C D b f y p va k e q J he W.hva h0 d).mono λr j t=>⟨t.1,PB.out _ _ h t.2⟩;have HMN:Hid (∀ (e x:Int),U e->(cn e k != e)=false->∀ (d:World),P d->Calls prog 143 #[.agg #[.slice (some ⟨T,0,none⟩) C D,.slice (some ⟨b,f,none⟩) 22 y,.i p,.u va,.i k],.u x,.u e] d λr j=>∃ (zs:Option Addr) (c:Nat),r=.returned (.slice zs C c)/\Hid (l4 w j G zs C c)/\P j):=λe x he hm d h=>(Kp T C D G b f y l p va k e x he hm d (W.below (B.out _ h).2)).mono λr j ⟨zs,c,e1,e2,e3⟩=>⟨zs,c,e1,⟨cF e2 (B.out _ h).2.size,aa (B.out _ h).2 e3⟩,PB.out _ _ h e3⟩;have HMY:Hid (∀ (e x:Int),U e->gi C x 8=true->(cn e k != e)=true->ay l 1 x (aU x 8) 3 4 0=true->∀ (d:World),P d->Calls prog 143 #[.agg #[.slice (some ⟨T,0,none⟩) C D,.slice (some ⟨b,f,none⟩) 22 y,.i p,.u va,.i k],.u x,.u e] d λr j=>∃ (zs:Option Addr) (c:Nat),r=.returned (.slice zs C c)/\Hid (l4 w j (jT G (x-2147483648).toNat (cn e k) 8) zs C c)/\P j):=λe x he hx hm hp d h=>(xl T C D G b f y l p va k e x he hx hm d (W.below (B.out _ h).2)).mono λr j t=>by unfold NT at t;rw [if_pos hp] at t;obtain ⟨zs,c,e1,e2,e3⟩:=t;exact ⟨zs,c,e1,⟨cF e2 (B.out _ h).2.size,aa (B.out _ h).2 e3⟩,PB.out _ _ h e3⟩
 have HMF:Hid (∀ (e x:Int),U e->gi C x 8=true->(cn e k != e)=true->ay l 1 x (aU x 8) 3 4 0=false->∀ (d:World),P d->Calls prog 143 #[.agg #[.slice (some ⟨T,0,none⟩) C D,.slice (some ⟨b,f,none⟩) 22 y,.i p,.u va,.i k],.u x,.u e] d λr j=>r=.panicked [{v:=.iface 162 (.i (dJ k)),recovered:=false}]/\P j):=λe x he hx hm hp d h=>(xl T C D G b f y l p va k e x he hx hm d (W.below (B.out _ h).2)).mono λr j t=>by unfold NT at t;rw [if_neg (by rw [hp];decide)] at t;exact ⟨t.1,PB.out _ _ h t.2⟩
 have HLF:Hid (∀ (e:Int) (d:World),U e->CE 139 #[.u e] d (.bool (!mC e))):=λe d he=>FY e he d;have HU:Hid (∀ x,U (fI G x)):=λx=>Sm G W.hw x;clear W;cases t1:(p==3) with
 | true =>have R:V=⟨va,0,false,0,0⟩:=(by rw [t1] at FV;exact FV.trans (if_pos rfl));have u:Hid (V.code=0/\V.addr=va/\bp G V=G):=sv;clear R FV;go_enter func94,ntmps94;go_wp2_with fail;have p0:=P0.out 0;obtain ⟨⟨X,Y,Z,k3,k4⟩,_⟩:=F.out _ p0;go_region_held3 (λd=>(d.cell? ⟨w.heap.size,0,none⟩=some (.slice (some ⟨T,0,none⟩) C D)/\d.cell? ⟨w.heap.size,1,none⟩=some (.slice (some ⟨b,f,none⟩) 22 y)/\d.cell? ⟨w.heap.size,2,none⟩=some (.i p)/\d.cell? ⟨w.heap.size,3,none⟩=some (.u va)/\d.cell? ⟨w.heap.size,4,none⟩=some (.i k))/\P d) (first | exact F.out _ (PD.out _ fb) | exact F.out _ fb) (first | (go_at_call 39;with_reducible refine (HCL.out _ ?_).mono ?_;(first | assumption | (exact PD.out _ fb) | (exact And.right fb));rintro e w8 ⟨zs,c,rfl,fr8,p8⟩));go_wp2_with fail;go_ret2;exact Iq u.out.1 u.out.2.1 u.out.2.2 fr8.out
 | false =>
   have hp01:p=0\/p=1:=(by have O:=HPV.out;have t:¬ p=3:=(by simpa using t1);unfold cg at O;simp only [Bool.or_eq_true,beq_iff_eq] at O;omega);have HCK2:=HCK.out hp01;have HCK3:Hid (∀ (e:Int) (q:Nat) (d:World),q<=2->U e->P d->Calls prog 141 #[.agg #[.slice (some ⟨T,0,none⟩) C D,.slice (some ⟨b,f,none⟩) 22 y,.i p,.u va,.i k],.u e,.i (q:Int)] d λr j=>r=FZ l p k e q/\P j):=HCK2;clear HCK HCK2 hp01 HPV;rw [t1] at FV;cases t2:(dg s 60 4==0) with
   | true =>have R:V=⟨va,0,false,0,0⟩:=(by rw [t2] at FV;exact FV.trans (if_pos rfl));have u:Hid (V.code=0/\V.addr=va/\bp G V=G):=sv;clear R FV;go_enter func94,ntmps94;go_wp2_with fail;refine (HB60.out _).mono ?_;rintro r M ⟨rfl,L⟩;have p1:P M:=(by rw [L];exact P0.out 1);have H:Hid (P M):=p1;clear L c15 p1;obtain ⟨⟨X,Y,Z,k3,k4⟩,_⟩:=F.out _ H.out;go_wp2_with fail;have p0:=H.out;go_region_held3 (λd=>(d.cell? ⟨w.heap.size,0,none⟩=some (.slice (some ⟨T,0,none⟩) C D)/\d.cell? ⟨w.heap.size,1,none⟩=some (.slice (some ⟨b,f,none⟩) 22 y)/\d.cell? ⟨w.heap.size,2,none⟩=some (.i p)/\d.cell? ⟨w.heap.size,3,none⟩=some (.u va)/\d.cell? ⟨w.heap.size,4,none⟩=some (.i k))/\P d) (first | exact F.out _ (PD.out _ fb) | exact F.out _ fb) (first | (go_at_call 39;with_reducible refine (HCL.out _ ?_).mono ?_;(first | assumption | (exact PD.out _ fb) | (exact And.right fb));rintro e w8 ⟨zs,c,rfl,fr8,p8⟩));go_wp2_with fail;go_ret2;exact Iq u.out.1 u.out.2.1 u.out.2.2 fr8.out
   | false =>
     rw [t2] at FV;have FV1:V=if (au 39 va != va)=true then bZ k else bC G C l p va k 2 (kY l):=FV.trans (if_neg bc)
     clear FV;cases t3:(au 39 va != va) with
     | true =>
       have u:Hid (V=bZ k):=(by rw [t3] at FV1;exact FV1.trans (if_pos rfl));clear FV1;go_enter func94,ntmps94;go_wp2_with fail;refine (HB60.out _).mono ?_;rintro r M ⟨rfl,L⟩;have p1:P M:=(by rw [L];exact P0.out 1);have H:Hid (P M):=p1;clear L c15 p1;obtain ⟨⟨X,Y,Z,k3,k4⟩,_⟩:=F.out _ H.out;go_wp2_with fail;go_quiet (first | (go_at_call 136;with_reducible refine Calls.quiet_of (HWD.out _)))
       go_wp2_with fail;refine (HPF.out _).mono ?_;rintro r w3 ⟨rfl,hb3⟩;exact ⟨rfl,rF u.out N.out.1 N.out.2 (aa (gZ (B.out _ H.out).2 _) hb3)⟩
     | false =>
       have R:Hid (bC G C l p va k 2 (kY l)=V):=(by rw [t3] at FV1;exact (FV1.trans (if_neg bc)).symm);clear FV1;have Q:=zr G C l p va k (kY l) 2;rw [R.out] at Q;have EC1:=dR Q;clear Q R;go_enter func94,ntmps94;go_wp2_with fail;refine (HB60.out _).mono ?_;rintro r M ⟨rfl,L⟩;have p1:P M:=(by rw [L];exact P0.out 1);have H:Hid (P M):=p1;clear L c15 p1;obtain ⟨⟨X,Y,Z,k3,k4⟩,_⟩:=F.out _ H.out;go_wp2_with fail;go_quiet (first | (go_at_call 136;with_reducible refine Calls.quiet_of (HWD.out _)))
       go_wp2_with fail;refine (HB0.out _).mono ?_;rintro r w6 ⟨rfl,hw6⟩;have p6:P w6:=(by rw [hw6];exact PD.out _ (PB.out _ _ H.out (gZ (Below.refl _ _) _)));have HP6:Hid (P w6):=p6;clear hw6 p6 X Y Z k3 k4;obtain ⟨⟨X,Y,Z,k3,k4⟩,_⟩:=F.out _ HP6.out;go_wp2_with fail;rw [FT.out];refine (HEN.out (kY l) 2 _ ab HP6.out).mono ?_;rintro r w2 ⟨z,p2⟩;have HP2:Hid (P w2):=p2;clear p2 X Y Z k3 k4;rcases EC1.out with ⟨O,t⟩|⟨O,t⟩|⟨O,t,h3⟩;·rw [O] at z;subst z;exact ⟨rfl,xt t N.out.1 N.out.2 (B.out _ HP2.out).2⟩
       ·rw [O] at z;subst z;exact ⟨rfl,rF t N.out.1 N.out.2 (B.out _ HP2.out).2⟩
       ·rw [O] at z;subst z;have HX:Hid (gi C (bK (kY l) va 2) 8=true):=t;have HV:Hid (V=zq G C l p va k (fI G (bK (kY l) va 2)) (bK (kY l) va 2) 2):=h3;have n:=dR (HU.out (bK (kY l) va 2));clear O t h3 EC1;generalize fI G (bK (kY l) va 2)=e0 at *;generalize bK (kY l) va 2=x0 at *;obtain ⟨⟨X,Y,Z,k3,k4⟩,_⟩:=F.out _ HP2.out;go_wp2_with fail;clear X Y Z k3 k4;go_loopw [6,7,8] (λlvv av ev wr=>∃ (q:Nat) (x e:Int),q<=2/\lvv=.i q/\av=.u x/\ev=.u e/\Hid (U e)/\Hid (gi C x 8=true)/\Hid (V=zq G C l p va k e x q)/\Hid (P wr)) (λlvv _ _ _=>(intOf lvv).toNat);case atStart=>exact ⟨2,x0,e0,ab,rfl,rfl,rfl,n,HX,HV,HP2⟩
        case round =>
         clear n HX HV HP2;obtain ⟨q,x,e,J,rfl,rfl,rfl,n,HX,HV,HP⟩:=hrel;obtain ⟨⟨X,Y,Z,k3,k4⟩,_⟩:=F.out _ HP.out;go_wp2_with fail;refine (HLF.out e _ n.out).mono ?_;rintro r w3 ⟨rfl,hw3⟩;have hw3':=hw3.symm;subst hw3';cases tp:mC e with
         | true =>
           have E:V=if jt e q=true then bZ k else bC G C l p va k (q-1) (Uz.wrap (eB e*4096)):=HV.out.trans (by unfold zq;rw [tp];exact if_pos rfl)
           clear HV;have TE:Ko k e q=if jt e q=true then gF (ey k) else .returned (.u (Uz.wrap (eB e*4096))):=rfl
           have HTB2:=dR (HTB.out e q wr n.out HP.out);generalize Ko k e q=te at *;cases ts:jt e q with
           | true =>have A:Hid (V=bZ k):=E.trans (if_pos ts);have TE2:Hid (te=gF (ey k)):=TE.trans (if_pos ts);clear E TE;go_wp2_with fail;refine HTB2.out.mono ?_;rintro r w4 ⟨z,p4⟩;rw [TE2.out] at z;subst z;exact ⟨rfl,rF A.out N.out.1 N.out.2 (B.out _ p4).2⟩
           | false =>
             have tsn:¬ jt e q=true:=(by rw [ts];decide);have A:Hid (V=bC G C l p va k (q-1) (Uz.wrap (eB e*4096))):=E.trans (if_neg tsn);have TE2:Hid (te=.returned (.u (Uz.wrap (eB e*4096)))):=TE.trans (if_neg tsn);clear E TE tsn;have h0:1<=q:=by
              rcases Nat.eq_zero_or_pos q with h|h;·subst h;have:jt e 0=true:=rfl;rw [this] at ts;cases ts
              ·exact h
             obtain ⟨m,hm⟩:∃ m,q=m+1:=⟨q-1,ab⟩;have HM:Hid ((q:Int)-1=(m:Int)):=(by show _=_;omega);have Q:=zr G C l p va k (Uz.wrap (eB e*4096)) m;have I:=A.out;rw [show q-1=m from ab] at I;rw [<- I] at Q;have EC1:=dR Q;have HMB:=dR (show m<=2/\m<q from ⟨ab,ab⟩);clear Q A I hm;generalize Uz.wrap (eB e*4096)=g at *;go_wp2_with fail;refine HTB2.out.mono ?_;rintro r w4 ⟨z,p4⟩;rw [TE2.out] at z;subst z;have HP4:Hid (P w4):=p4;clear p4 X Y Z k3 k4;obtain ⟨⟨X,Y,Z,k3,k4⟩,_⟩:=F.out _ HP4.out;go_wp2_with fail;rw [HM.out];refine (HEN.out g m _ HMB.out.1 HP4.out).mono ?_;rintro r w5 ⟨z,p5⟩;have HP5:Hid (P w5):=p5;clear p5 X Y Z k3 k4;rcases EC1.out with ⟨O,t⟩|⟨O,t⟩|⟨O,t,h3⟩;·rw [O] at z;subst z;exact ⟨rfl,xt t N.out.1 N.out.2 (B.out _ HP5.out).2⟩
             ·rw [O] at z;subst z;exact ⟨rfl,rF t N.out.1 N.out.2 (B.out _ HP5.out).2⟩
             ·rw [O] at z;subst z;have HX5:=dR t;have HV5:=dR h3;have HU5:=dR (HU.out (bK g va m));clear O t h3 EC1;generalize fI G (bK g va m)=e5 at *;generalize bK g va m=x5 at *;go_wp2_with fail;go_roundw;case rel=>exact ⟨m,x5,e5,HMB.out.1,rfl,rfl,rfl,HU5,HX5,HV5,HP5⟩
              case measure=>have:=HMB.out.2;simp [intOf];omega
         | false =>
           have E:V=cH l p va k e x q:=HV.out.trans (by unfold zq;rw [tp];exact if_neg bc);have CE:FZ l p k e q=if (mD e q||gO l k e||gQ l p k e)=true then gF (ey k) else .returned (.tuple #[]):=rfl
           have HCK4:=dR (HCK3.out e q wr J n.out HP.out);clear HV HCK3;generalize FZ l p k e q=ce at *;cases tc:(mD e q||gO l k e||gQ l p k e) with
           | true =>have A:=dR (E.trans (Q9 tc));have CE2:Hid (ce=gF (ey k)):=CE.trans (if_pos tc);clear E CE tc;go_wp2_with fail;refine HCK4.out.mono ?_;rintro r w4 ⟨z,p4⟩;rw [CE2.out] at z;subst z;exact ⟨rfl,rF A.out N.out.1 N.out.2 (B.out _ p4).2⟩
           | false =>
             obtain ⟨hoff,hlf⟩:=Ra (va:=va) (x:=x) tc;have A:=E.trans hlf;have CE2:Hid (ce=.returned (.tuple #[])):=CE.trans (if_neg (by rw [tc];decide));have HPL2:=dR (HPL.out e q J n.out hoff);clear E CE tc hlf hoff;generalize gH e va q=ad at *;go_wp2_with fail;refine HCK4.out.mono ?_;rintro r w4 ⟨z,p4⟩;rw [CE2.out] at z;subst z;clear X Y Z k3 k4;obtain ⟨⟨X,Y,Z,k3,k4⟩,_⟩:=F.out _ p4;cases tm:(cn e k != e) with
             | false =>have HM2:=dR (HMN.out e x n.out tm);have R:V=⟨ad,0,false,0,0⟩:=A.trans (by rw [tm];exact if_neg bc);have u:Hid (V.code=0/\V.addr=ad/\bp G V=G):=sv;clear R A tm;go_wp2_with fail;go_region_held3 (λd=>(d.cell? ⟨w.heap.size,0,none⟩=some (.slice (some ⟨T,0,none⟩) C D)/\d.cell? ⟨w.heap.size,1,none⟩=some (.slice (some ⟨b,f,none⟩) 22 y)/\d.cell? ⟨w.heap.size,2,none⟩=some (.i p)/\d.cell? ⟨w.heap.size,3,none⟩=some (.u va)/\d.cell? ⟨w.heap.size,4,none⟩=some (.i k))/\P d) (first | exact F.out _ (PD.out _ fb) | exact F.out _ fb) (first | (go_at_call 142;with_reducible refine (HPL2.out _ ?_).mono ?_;(first | assumption | (exact PD.out _ fb) | (exact And.right fb));rintro r w8 ⟨rfl,p8⟩) | (go_at_call 143;with_reducible refine (HM2.out _ ?_).mono ?_;(first | assumption | (exact PD.out _ fb) | (exact And.right fb));rintro r w9 ⟨zs,c,rfl,fr9,p9⟩));go_wp2_with fail;go_ret2;exact Iq u.out.1 u.out.2.1 u.out.2.2 fr9.out
             | true =>
               have I:V=if ay l 1 x (aU x 8) 3 4 0=true then ⟨ad,0,true,x,cn e k⟩ else fR k:=A.trans (by rw [tm];exact if_pos rfl)
               clear A;cases tr:ay l 1 x (aU x 8) 3 4 0 with
               | true =>have HM2:=dR (HMY.out e x n.out HX.out tm tr);have R:V=⟨ad,0,true,x,cn e k⟩:=I.trans (by rw [tr];exact if_pos rfl);have u:Hid (V.code=0/\V.addr=ad/\bp G V=jT G (x-2147483648).toNat (cn e k) 8):=sv;clear R I tm tr;generalize jT G (x-2147483648).toNat (cn e k) 8=ms at *;go_wp2_with fail;go_region_held3 (λd=>(d.cell? ⟨w.heap.size,0,none⟩=some (.slice (some ⟨T,0,none⟩) C D)/\d.cell? ⟨w.heap.size,1,none⟩=some (.slice (some ⟨b,f,none⟩) 22 y)/\d.cell? ⟨w.heap.size,2,none⟩=some (.i p)/\d.cell? ⟨w.heap.size,3,none⟩=some (.u va)/\d.cell? ⟨w.heap.size,4,none⟩=some (.i k))/\P d) (first | exact F.out _ (PD.out _ fb) | exact F.out _ fb) (first | (go_at_call 142;with_reducible refine (HPL2.out _ ?_).mono ?_;(first | assumption | (exact PD.out _ fb) | (exact And.right fb));rintro r w8 ⟨rfl,p8⟩) | (go_at_call 143;with_reducible refine (HM2.out _ ?_).mono ?_;(first | assumption | (exact PD.out _ fb) | (exact And.right fb));rintro r w9 ⟨zs,c,rfl,fr9,p9⟩));go_wp2_with fail;go_ret2;exact Iq u.out.1 u.out.2.1 u.out.2.2 fr9.out
               | false =>
                 have HM2:=dR (HMF.out e x n.out HX.out tm tr);have u:Hid (V=fR k):=I.trans (by rw [tr];exact if_neg bc);clear I tm tr;go_wp2_with fail;refine wp_region_held_drew (S:=(λd=>(d.cell? ⟨w.heap.size,0,none⟩=some (.slice (some ⟨T,0,none⟩) C D)/\d.cell? ⟨w.heap.size,1,none⟩=some (.slice (some ⟨b,f,none⟩) 22 y)/\d.cell? ⟨w.heap.size,2,none⟩=some (.i p)/\d.cell? ⟨w.heap.size,3,none⟩=some (.u va)/\d.cell? ⟨w.heap.size,4,none⟩=some (.i k))/\P d)) ba (F.out _ (PD.out _ p4)) (λhHeld=>?_);refine wpAnyH_take (i:=0) (v:=.agg #[.slice (some ⟨T,0,none⟩) C D,.slice (some ⟨b,f,none⟩) 22 y,.i p,.u va,.i k]) rfl ba ba ba (λ_ _ _ h=>h) (Or.inl ⟨by rfl,?_⟩) fb ?_;·intro d hSw;go_simp
                 refine wpAnyH_take (i:=1) (v:=.u e) rfl ba ba ba (λ_ _ _ h=>h) (Or.inl ⟨by rfl,?_⟩) fb ?_;·intro d hSw;go_simp
                 refine wpAnyH_take (i:=2) (v:=.i (q:Int)) rfl ba ba ba (λ_ _ _ h=>h) (Or.inl ⟨by rfl,?_⟩) fb ?_;·intro d hSw;go_simp
                 refine wpAnyH_take (i:=4) (v:=.agg #[.slice (some ⟨T,0,none⟩) C D,.slice (some ⟨b,f,none⟩) 22 y,.i p,.u va,.i k]) rfl ba ba ba (λ_ _ _ h=>h) (Or.inl ⟨by rfl,?_⟩) fb ?_;·intro d hSw;go_simp
                 refine wpAnyH_take (i:=5) (v:=.u x) rfl ba ba ba (λ_ _ _ h=>h) (Or.inl ⟨by rfl,?_⟩) fb ?_;·intro d hSw;go_simp
                 refine wpAnyH_take (i:=6) (v:=.u e) rfl ba ba ba (λ_ _ _ h=>h) (Or.inl ⟨by rfl,?_⟩) fb ?_;·intro d hSw;go_simp
                 refine wpAnyH_ready (rs:=[3]) ba cp ?_;refine AllReadyH.cons rfl (λK hK=>?_) AllReadyH.nil;go_simp;refine (HPL2.out _ (PD.out _ p4)).mono ?_;rintro r w8 ⟨rfl,p8⟩;refine hK.out _ _ (F.out _ p8) (λhHeld2=>?_);refine wpAnyH_ready (rs:=[7]) ba cp ?_;refine AllReadyH.cons rfl (λK2 hK2=>?_) AllReadyH.nil;go_simp;refine (HM2.out _ p8).mono ?_;rintro r w9 ⟨rfl,p9⟩;exact ⟨rfl,xt u.out N.out.1 N.out.2 (B.out _ p9).2⟩
theorem Ge:CE 93 #[.iface 162 (.i F)] S (.i F):=by
 have d:∀ (F:Int) (S:World),(Instr.typeAssert (.iface 162 (.i F)) 20 162 false).run prog S=.ok (.i F) S:=λF S=>ba
 go_enter func93,ntmps93;exact x7
theorem Gf (p q r s:Addr) (w:World):CallsD prog 92 #[.pointer (some p),.pointer (some q),.pointer (some r),.pointer (some s)] .returning w λe f g=>e=.returned (.tuple #[])/\f=.returning/\g=w:=by
 have c:∀ w,(binOp .neq 20 .nilIface .nilIface).run prog w=.ok (.bool false) w:=λw=>ba
 refine callsD_of_wpS func92 rfl λb cs d=>?_;apply wpS_seq;apply wpS_region;simp [wpOpsS,go_sem,recoverD,d,ntmps92,Exit.thenS];refine wpS_of_wp ?_;go_wp2_with fail;cases b;simp_all [bodyPostS,results,results92]
structure Vn (w:World) (B g n rc:Nat):Prop where
 r0:w.heap[B]?=some (.cells #[.slice (some ⟨g,0,none⟩) n rc] 24 (0,0))
 r1:∃ v,w.heap[B+1]?=some (.cells #[v] 22 (0,0))
 r2:∃ v,w.heap[B+1+1]?=some (.cells #[v] 2 (0,0))
 r3:∃ v,w.heap[B+1+1+1]?=some (.cells #[v] 24 (0,0))
theorem uA (o:Nat) (zs:List Int) (c:Int) (d:List PanicEntry) (w:World) (hF:Vn w T C D o) (hz:zs.length=D) (u:1<=D) (hn:D<=1048576) (hs:Sl .u8 w (some ⟨C,0,none⟩) zs): CallsD prog 92 #[.p T 0,.p (T+1) 0,.p (T+1+1) 0,.p (T+1+1+1) 0] (.panicking ({v:=.iface 162 (.i c),recovered:=false}::d)) w λe M l => e=.returned (.tuple #[])/\M=.panicking ({v:=.iface 162 (.i c),recovered:=true}::d)/\∃ (p:World) (f:Option Addr) (j:Nat),l4 w p zs f D j/\l=((p.setCell ⟨T+1,0,none⟩ (.u 0)).setCell ⟨T+1+1,0,none⟩ (.i c)).setCell ⟨T+1+1+1,0,none⟩ (.slice f D j):=by
 have K:∀ (v:Value) (w:World),(binOp .neq 20 (.iface 162 v) .nilIface).run prog w=.ok (.bool true) w:=λv w=>ba
 obtain ⟨E,⟨N,F⟩,⟨O,G⟩,⟨P,H⟩⟩:=hF
 have W:w.cell? ⟨T,0,none⟩=some (.slice (some ⟨C,0,none⟩) D o):=by simp [World.cell?,E]
 have q:Hid (∀ l,Bw w l->Calls prog 39 #[.slice (some ⟨C,0,none⟩) D o] l λr b=>∃ (f:Option Addr) (j:Nat),r=.returned (.slice f D j)/\Hid (l4 w b zs f D j) /\
  (b.cell? ⟨T+1,0,none⟩=some N/\b.frozen? ⟨T+1,0,none⟩=false)/\(b.cell? ⟨T+1+1,0,none⟩=some O/\b.frozen? ⟨T+1+1,0,none⟩=false)/\(b.cell? ⟨T+1+1+1,0,none⟩=some P/\b.frozen? ⟨T+1+1+1,0,none⟩=false)):=λl m=>(qo C D o zs l hz u hn (hs.below m)).mono λr b ⟨f,j,J,e2,e3⟩=>by
  have A:=ge (aa m e3) F
  have g:=ge (aa m e3) G
  have n:=ge (aa m e3) H
  exact ⟨f,j,J,⟨cF e2 m.size,aa m e3⟩,⟨by simp [World.cell?,A],by simp [World.frozen?,A]⟩,⟨by simp [World.cell?,g],by simp [World.frozen?,g]⟩,⟨by simp [World.cell?,n],by simp [World.frozen?,n]⟩⟩
 have s:Hid (∀ w,CE 93 #[.iface 162 (.i c)] w (.i c)):=Ge c
 have I:Bw w w.drew:=(Below.refl _ _).drew
 clear E F G H hz hn hs
 refine callsD_of_wpS func92 rfl λz cs L=>?_
 apply wpS_seq
 apply wpS_region
 simp [wpOpsS,go_sem,recoverD,L,ntmps92,Exit.thenS]
 refine wpS_of_wp ?_
 go_wp2_with fail
 ·go_region_with (first | (go_at_call 93;with_reducible refine (s.out _).mono ?_;rintro e X ⟨rfl,y⟩;subst y) | (go_at_call 39;with_reducible refine (q.out _ I).mono ?_;rintro e p ⟨f,j,rfl,t,⟨B,Q⟩,⟨U,R⟩,⟨V,S⟩⟩))
  all_goals exact ⟨rfl,_,rfl,_,results_none rfl _ _ _,rfl,rfl,p,f,j,t.out,rfl⟩
theorem mu (h:M.ownsRow B E 1 (.slice e n W) n f) (p:Addr) (v:Value) (j:p.block<B):(M.setCell p v).ownsRow B E 1 (.slice e n W) n f:=by
 refine ⟨h.1,?_⟩;rcases h.2 with d|⟨g,cap,b,a,d,xs,i⟩;·exact .inl d
 ·exact .inr ⟨g,cap,b,a,d,(Below.heap_setCell M p v g ab).trans xs,i⟩
theorem Oi:S.ownsRow T 5 1 (.slice none 0 0) 0 (([]:List Int).map (Value.int .u8)):=⟨rfl,.inl ⟨rfl,rfl⟩⟩
theorem Oj {o1 o2 o3 o4:Obj} (hb:Below ((((M.alloc o1).alloc o2).alloc o3).alloc o4).heap.size ((((M.alloc o1).alloc o2).alloc o3).alloc o4) A): A.heap[M.heap.size]?=some o1/\A.heap[M.heap.size+1]?=some o2/\A.heap[M.heap.size+1+1]?=some o3/\A.heap[M.heap.size+1+1+1]?=some o4:=by
 have e2:=heap_alloc_new (M.alloc o1) o2
 have e3:=heap_alloc_new ((M.alloc o1).alloc o2) o3
 have e4:=heap_alloc_new (((M.alloc o1).alloc o2).alloc o3) o4
 rw [World.size_alloc] at e2
 rw [World.size_alloc,World.size_alloc] at e3
 rw [World.size_alloc,World.size_alloc,World.size_alloc] at e4
 exact ⟨ge hb ((Below.heap_alloc _ _ _ eh).trans ((Below.heap_alloc _ _ _ eh).trans ((Below.heap_alloc _ _ _ eh).trans (heap_alloc_new M o1)))),
  ge hb ((Below.heap_alloc _ _ _ eh).trans ((Below.heap_alloc _ _ _ eh).trans e2)),ge hb ((Below.heap_alloc _ _ _ eh).trans e3),ge hb e4⟩
theorem l8 (h:M.heap[n]?=some (.cells #[L] E (0,0))):M.cell? ⟨n,0,none⟩=some L/\M.frozen? ⟨n,0,none⟩=false:=⟨by simp [World.cell?,h],by simp [World.frozen?,h]⟩
theorem DG (B:Option Addr) (m cap:Nat) (l:List Int) (p va kind:Int) (w:World) (hn:T<=1048576) (s:l.length=m) (hl:Sl .u64 w B l) (r:∀ j,U (l.getD j 0)) (t:nF T m l p kind=false): CB 40 #[.slice q T C,.slice B m cap,.i p,.u va,.i kind] w (.tuple #[.u 0,.i (if jl kind=true then dJ kind else 1),.slice none 0 0]):=by
 have HR:Hid (∀ w,CE 69 #[.slice q T C] w (.bool (bf T))):=λw=>fx q T C w hn;have N:Hid (∀ f,Bw w f->CB 68 #[.slice B m cap,.i p] f (.bool (bj m l p))):=λf V=>fA B m cap l p f s (hl.below V) r;have P:Hid (∀ w,CE 90 #[.i kind] w (.bool (jl kind))):=λw=>by have:=lT kind w;rw [rr] at this;exact this
 have rcap:Hid (∀ w,CE 91 #[.i kind] w (.i (if jl kind=true then dJ kind else 1))):=λw=>by
  have:=pd kind w;have e:Di kind=if jl kind=true then dJ kind else 1:=by
   by_cases h:1<=kind/\kind<=3;·rw [Ii kind h.1 h.2,if_pos (by unfold jl;simpa using h)]
   ·rw [NS kind h,if_neg (by unfold jl;simpa using h)]
  rw [e] at this;exact this
 have D:(bf T&&bj m l p&&jl kind)=false:=t;generalize (if jl kind=true then dJ kind else 1)=fk at *;generalize jl kind=X at *;generalize bf T=Z at *;generalize bj m l p=Y at *;clear hl s hn t r;have g:∀ H I J K,Bw w ((((w.alloc H).alloc I).alloc J).alloc K):=λH I J K=>((((Below.refl _ _).alloc (Nat.le_refl _) H).alloc cp I).alloc bv J).alloc bv K;cases Z with
 | false =>go_enter_defers func40,ntmps40;go_wp2_with fail;refine (HR.out _).mono ?_;rintro e M ⟨rfl,d⟩;subst d;go_wp2_with fail;refine (rcap.out _).mono ?_;rintro e M ⟨rfl,d⟩;subst d;go_wp2_with fail;refine ⟨_,?_,rfl,g _ _ _ _⟩;simp [results,results40,go_sem]
 | true =>
   cases Y with
   | false =>go_enter_defers func40,ntmps40;go_wp2_with fail;refine (HR.out _).mono ?_;rintro e M ⟨rfl,d⟩;subst d;go_wp2_with fail;refine (N.out _ (g _ _ _ _)).mono ?_;rintro e w2 ⟨rfl,c⟩;obtain ⟨u,y,z,A⟩:=Oj c;have ra:=dR (aa (g _ _ _ _) c);obtain ⟨W,Q⟩:=l8 u;obtain ⟨E,R⟩:=l8 y;obtain ⟨F,S⟩:=l8 z;obtain ⟨G,n⟩:=l8 A;clear u y z A c;go_wp2_with fail;refine (rcap.out _).mono ?_;rintro e O ⟨rfl,o⟩;have b:=o.symm;subst b;go_wp2_with fail;refine ⟨_,?_,rfl,((ra.out.setCell cp _).setCell bv _).setCell bv _⟩;simp [results,results40,go_sem,E,F,G]
   | true =>
     cases X with
     | false =>go_enter_defers func40,ntmps40;go_wp2_with fail;refine (HR.out _).mono ?_;rintro e M ⟨rfl,d⟩;subst d;go_wp2_with fail;refine (N.out _ (g _ _ _ _)).mono ?_;rintro e w2 ⟨rfl,c⟩;obtain ⟨u,y,z,A⟩:=Oj c;have ra:=dR (aa (g _ _ _ _) c);obtain ⟨W,Q⟩:=l8 u;obtain ⟨E,R⟩:=l8 y;obtain ⟨F,S⟩:=l8 z;obtain ⟨G,n⟩:=l8 A;clear u y z A c;go_wp2_with fail;refine (P.out _).mono ?_;rintro e O ⟨rfl,o⟩;have b:=o.symm;subst b;go_wp2_with fail;refine (rcap.out _).mono ?_;rintro e O ⟨rfl,o⟩;have b:=o.symm;subst b;go_wp2_with fail;refine ⟨_,?_,rfl,((ra.out.setCell cp _).setCell bv _).setCell bv _⟩;simp [results,results40,go_sem,E,F,G]
     | true=>cases D
theorem Ir (x:Int) (lv:Nat):(cH z F I J K x lv).code=0\/((cH z F I J K x lv).addr=0/\(cH z F I J K x lv).marked=false):=by
 unfold cH;split;·exact .inr ⟨rfl,rfl⟩
 ·split;·exact .inr ⟨rfl,rfl⟩
  ·split;·exact .inr ⟨rfl,rfl⟩
   ·split
    ·split;·exact .inl rfl
     ·exact .inr ⟨rfl,rfl⟩
    ·exact .inl rfl
theorem Ok:∀ (a:Nat) (n:Int),(bC z T G I J K a n).code=0\/((bC z T G I J K a n).addr=0/\(bC z T G I J K a n).marked=false):=by
 intro a;induction a with
 | zero =>
   intro n;rw [bC];split
   ·split
    ·split;·exact .inr ⟨rfl,rfl⟩
     ·split;·exact .inr ⟨rfl,rfl⟩
      ·exact Ir _ _ _ _ _ _ _
    ·exact .inr ⟨rfl,rfl⟩
   ·exact .inr ⟨rfl,rfl⟩
 | succ a b =>
   intro n;rw [bC];split
   ·split
    ·split;·exact .inr ⟨rfl,rfl⟩
     ·split
      ·split;·exact .inr ⟨rfl,rfl⟩
       ·exact b _
      ·exact Ir _ _ _ _ _ _ _
    ·exact .inr ⟨rfl,rfl⟩
   ·exact .inr ⟨rfl,rfl⟩
theorem Rb (h:¬ (bN z T G I J K).code=0):(bN z T G I J K).addr=0/\bp z (bN z T G I J K)=z:=by
 have a:(bN z T G I J K).code=0\/((bN z T G I J K).addr=0/\(bN z T G I J K).marked=false):=by
  unfold bN;split;·exact .inl rfl
  ·split;·exact .inr ⟨rfl,rfl⟩
   ·exact Ok _ _ _ _ _ _ _ _
 rcases a with a|⟨a,b⟩;·exact absurd a h
 ·exact ⟨a,by unfold bp;rw [b];rfl⟩
theorem DH (v:Value) (h:M.cell? m=some L):(M.setCell m v).cell? m=some v:=World.cell?_setCell_same M m v h
theorem mK {p:Addr} (v:Value) (h:M.cell? m=some L) (a:p.block≠m.block):(M.setCell p v).cell? m=some L:=by rw [World.cell?_setCell_other M p m v (λe=>a (by rw [e]))];exact h
theorem AS (b j cap:Nat) (l:List Int) (p va kind:Int) (w:World) (W:Wk w T C D G b j cap l p va kind): Calls prog 40 #[.slice (some ⟨T,0,none⟩) C D,.slice (some ⟨b,j,none⟩) 22 cap,.i p,.u va,.i kind] w λe m=>∃ (d:Option Addr) (c:Nat),e=.returned (.tuple #[.u (bN G C l p va kind).addr,.i (bN G C l p va kind).code,.slice d C c]) /\ m.ownsRow w.heap.size 5 1 (.slice d C c) C ((bp G (bN G C l p va kind)).map (Value.int .u8))/\Bw w m:=by
 have hbd:=fT W.hr;have HW:=dR W;have HR:Hid (∀ w,CE 69 #[.slice (some ⟨T,0,none⟩) C D] w (.bool true)):=λw=>by have:=fx (some ⟨T,0,none⟩) C D w ab;rw [W.hr] at this;exact this
 have HG:Hid (∀ m,Bw w m->CB 68 #[.slice (some ⟨b,j,none⟩) 22 cap,.i p] m (.bool true)):=λm U=>by have:=fA (some ⟨b,j,none⟩) 22 cap l p m W.hlz (W.hl.below U) W.hU;rw [W.hg] at this;exact this
 have HK:Hid (∀ w,CE 90 #[.i kind] w (.bool true)):=λw=>by have:=lT kind w;rw [rr,decide_eq_true ⟨W.hk1,W.hk3⟩] at this;exact this
 have Q:Hid (∀ m,Bw w m->Calls prog 94 #[.agg #[.slice (some ⟨T,0,none⟩) C D,.slice (some ⟨b,j,none⟩) 22 cap,.i p,.u va,.i kind]] m λr rcap=>Q8 (bN G C l p va kind) G C m r rcap):=λm U=>Oh T C D G b j cap l p va kind m (W.below U);have zs:∀ B n K L,Bw w ((((w.alloc B).alloc n).alloc K).alloc L):=λB n K L=>((((Below.refl _ _).alloc (Nat.le_refl _) B).alloc cp n).alloc bv K).alloc bv L;have hmf:∀ (fn:Fn) (s cap:Array Value) (w:World),(Instr.makeFunc fn s cap).run prog w=.ok (.func fn s cap) w:=λ_ _ _ _=>rfl;have S:=dR (Rb G C l p va kind);generalize bN G C l p va kind=V at *;clear W;go_enter_defers func40,ntmps40;go_wp2_with fail;refine (HR.out _).mono ?_;rintro e w1 ⟨rfl,X⟩;subst X;go_wp2_with fail;refine (HG.out _ (zs _ _ _ _)).mono ?_;rintro e w2 ⟨rfl,A⟩;obtain ⟨q0,q1,q2,q3⟩:=Oj A;have Q0:=dR q0;have Q1:=dR q1;have Q2:=dR q2;have M:=dR q3;have F:=dR (aa (zs _ _ _ _) A);obtain ⟨j0,f0⟩:=l8 q0;clear q0 q1 q2 q3 A;go_wp2_with fail;refine (HK.out _).mono ?_;rintro e w3 ⟨rfl,Y⟩;have J:=Y.symm;subst J;have u:=dR (F.out.alloc F.out.size (.cells #[.slice (some ⟨T,0,none⟩) C D,.slice (some ⟨b,j,none⟩) 22 cap,.i p,.u va,.i kind] 114));go_wp2_with fail;refine (Q.out _ u.out).mono ?_;rintro r O I;unfold Q8 at I;by_cases N:V.code=0
 ·rw [if_pos N] at I;obtain ⟨d,c,rfl,E⟩:=I;have FR:=dR E;have FS:=dR E.2.size;obtain ⟨Z,f1⟩:=l8 (ge E.2 (oK Q1.out _));obtain ⟨j2,f2⟩:=l8 (ge E.2 (oK Q2.out _));obtain ⟨j3,f3⟩:=l8 (ge E.2 (oK M.out _));clear E j0 f0;obtain ⟨o,z⟩:∃ o,V.addr=o:=⟨_,rfl⟩;rw [z];have P:=dR z;clear z;go_wp2_with fail;go_region;go_wp2_with fail;refine leaves_cons (f:=92) (args:=#[.p w.heap.size 0,.p (w.heap.size+1) 0,.p (w.heap.size+1+1) 0,.p (w.heap.size+1+1+1) 0]) cp (by simp [go_sem]) ?_;refine (Gf _ _ _ _ _).mono ?_;rintro e u' w9 ⟨rfl,rfl,rfl⟩;have H:w.heap.size+1+1+1<(w2.alloc (.cells #[.slice (some ⟨T,0,none⟩) C D,.slice (some ⟨b,j,none⟩) 22 cap,.i p,.u va,.i kind] 114)).heap.size:=(by have:=(Array.getElem?_eq_some_iff.1 M.out).1;rw [World.size_alloc];omega);have t1:=mK (p:=⟨w.heap.size+1+1+1,0,none⟩) (.slice d C c) (mK (p:=⟨w.heap.size+1+1,0,none⟩) (.i 0) (DH (.u o) (mK (p:=⟨w.heap.size+1+1+1,0,none⟩) (.slice d C c) (DH (.u o) Z) di)) di) di;have t2:=mK (p:=⟨w.heap.size+1+1+1,0,none⟩) (.slice d C c) (DH (.i 0) (mK (p:=⟨w.heap.size+1,0,none⟩) (.u o) (mK (p:=⟨w.heap.size+1+1+1,0,none⟩) (.slice d C c) (mK (p:=⟨w.heap.size+1,0,none⟩) (.u o) j2 di) di) di)) di;have t3:=DH (.slice d C c) (mK (p:=⟨w.heap.size+1+1,0,none⟩) (.i 0) (mK (p:=⟨w.heap.size+1,0,none⟩) (.u o) (DH (.slice d C c) (mK (p:=⟨w.heap.size+1,0,none⟩) (.u o) j3 di)) di) di);refine ⟨.tuple #[.u o,.i 0,.slice d C c],?_,d,c,by rw [N,P.out],?_,?_⟩;·generalize (((((O.setCell ⟨w.heap.size+1,0,none⟩ (.u o)).setCell ⟨w.heap.size+1+1+1,0,none⟩ (.slice d C c)).setCell ⟨w.heap.size+1,0,none⟩ (.u o)).setCell ⟨w.heap.size+1+1,0,none⟩ (.i 0)).setCell ⟨w.heap.size+1+1+1,0,none⟩ (.slice d C c))=W9 at *;simp [results,results40,go_sem,t1,t2,t3]
  ·have B:=mu FR.out.1 ⟨w.heap.size+1,0,none⟩ (.u o) (by show w.heap.size+1<_;omega);have n:=mu B ⟨w.heap.size+1+1+1,0,none⟩ (.slice d C c) H;have K:=mu n ⟨w.heap.size+1,0,none⟩ (.u o) (by show w.heap.size+1<_;omega);have L:=mu K ⟨w.heap.size+1+1,0,none⟩ (.i 0) (by show w.heap.size+1+1<_;omega);have o5:=mu L ⟨w.heap.size+1+1+1,0,none⟩ (.slice d C c) H;exact dH (cF o5 u.out.size) (Below.refl _ _).drew
  ·exact ((((((aa u.out FR.out.2).setCell cp _).setCell bv _).setCell cp _).setCell bv _).setCell bv _).drew
 ·rw [if_neg N] at I;obtain ⟨rfl,q⟩:=I;have y:=dR (aa u.out q);have HF:Hid (Vn O w.heap.size T C D):=⟨ge q (oK Q0.out _),⟨_,ge q (oK Q1.out _)⟩,⟨_,ge q (oK Q2.out _)⟩,⟨_,ge q (oK M.out _)⟩⟩;have R:=dR (show w.heap.size+1+1+1<O.heap.size from (Array.getElem?_eq_some_iff.1 (ge q (oK M.out (.cells #[.slice (some ⟨T,0,none⟩) C D,.slice (some ⟨b,j,none⟩) 22 cap,.i p,.u va,.i kind] 114)))).1);refine leaves_cons (f:=92) (args:=#[.p w.heap.size 0,.p (w.heap.size+1) 0,.p (w.heap.size+1+1) 0,.p (w.heap.size+1+1+1) 0]) cp (by simp [go_sem]) ?_;refine (uA w.heap.size T C D G V.code [] O HF.out HW.out.hz ab ab (HW.out.hs.below y.out)).mono ?_;rintro e u' w9 ⟨rfl,rfl,w8,d,g,t,rfl⟩;obtain ⟨_,⟨v1,r1⟩,⟨v2,r2⟩,⟨v3,r3⟩⟩:=HF.out;obtain ⟨Z,_⟩:=l8 (ge t.2 r1);obtain ⟨j2,_⟩:=l8 (ge t.2 r2);obtain ⟨j3,_⟩:=l8 (ge t.2 r3);obtain ⟨h1,h2⟩:=S.out N;rw [h1,h2];refine ⟨.tuple #[.u 0,.i V.code,.slice d C g],?_,d,g,rfl,?_,?_⟩;·simp [results,results40,go_sem,Z,j2,j3]
  ·have B:=mu t.1 ⟨w.heap.size+1,0,none⟩ (.u 0) (by have:=R.out;simp;omega);have n:=mu B ⟨w.heap.size+1+1,0,none⟩ (.i V.code) (by have:=R.out;simp;omega);exact cF (mu n ⟨w.heap.size+1+1+1,0,none⟩ (.slice d C g) R.out) y.out.size
  ·exact (((aa y.out t.2).setCell cp _).setCell bv _).setCell bv _
def xu (n:Nat) (a:Option Addr) (c:Nat):Prop:=(∀ b d,a=some ⟨b,d,none⟩->d=0)/\n<=c/\c<=maxLen
theorem DI {c:Nat} {a:Option Addr} (h:w.ownsRow B E 1 (.slice a n c) n f):xu n a c:=by
 rcases h.2 with ⟨d,l⟩|⟨g,cap,i,d,_,_,j,k,_⟩
 ·injection d with e1 e2 e3
  subst e1 e3;exact ⟨λb xs e=>(nomatch e),ab,Nat.zero_le _⟩
 ·injection d with e1 e2 e3
  subst e1 e3;exact ⟨λb xs e=>by cases e;rfl,j,k⟩
theorem rG (ra:Option Addr) (n rcap:Nat) (zs:List Int) (B:Option Addr) (m cap:Nat) (l:List Int) (p va kind:Int) (w:World) (hz:zs.length=n) (hn:n<=1048576) (hs:Sl .u8 w ra zs) (A:∀ y ∈ zs,(Lit.int .u8 y).wf=true) (k:l.length=m) (hl:Sl .u64 w B l) (f:∀ j,U (l.getD j 0)) (z:U va) (F:pS w) (t:xu n ra rcap):Calls prog 40 #[.slice ra n rcap,.slice B m cap,.i p,.u va,.i kind] w λe s=>∃ (D:Option Addr) (c:Nat),e=.returned (.tuple #[.u (GU zs n m l p va kind),.i (GV zs n m l p va kind),.slice D (vU zs n m l p va kind).length c]) /\ s.ownsRow w.heap.size 5 1 (.slice D (vU zs n m l p va kind).length c) (vU zs n m l p va kind).length ((vU zs n m l p va kind).map (Value.int .u8))/\Bw w s:=by
 unfold GU GV vU;cases q:nF n m l p kind with
 | false =>simp only [Bool.false_eq_true,if_false];exact (DG ra n rcap B m cap l p va kind w hn k hl f q).mono λe s h=>⟨none,0,h.1,Oi s _,h.2⟩
 | true =>simp only [if_true];rw [kB,hz];have a:(bf n&&bj m l p&&jl kind)=true:=q;simp only [Bool.and_eq_true] at a;obtain ⟨⟨E,i⟩,u⟩:=a;have d:1<=kind/\kind<=3:=(by simpa [jl] using u);obtain ⟨rfl,I⟩:=gJ i;have G:=fT E;obtain ⟨b,C,rfl,_,_⟩:=hl 0 ab;obtain ⟨g,o,rfl,_,_⟩:=hs 0 ab;obtain ⟨v,x,r⟩:=t;have H:=v g o rfl;subst H;exact AS g n rcap zs b C cap l p va kind w ⟨hz,E,hs,A,x,by unfold maxLen at r;omega,k,hl,f,i,z,d.1,d.2,F⟩
theorem DJ:CE 90 #[.i F] S (.bool (decide (1<=F/\F<=3))):=rr F ▸ lT F S
theorem Rd:(prog.info? 168).map (·.size)=some 9:=by kernel_rfl
theorem yj:CB 145 #[] S (.agg #[.i 3,.i 4,.i 6,.i 7,.i 8,.i 3,.i 7,.i 11,.i 2]):=by go_enter func145,ntmps145;go_wp2_with fail;exact bodyPost_ret (results_cell_row results145 _ _ _ _ _ _ _ rfl (heap_alloc_new _ _) underlying168 rfl Rd) rfl ⟨rfl,bal _ _⟩
theorem Ol (h:U F) (w:World):CB 251 #[.agg #[.i 3,.i 4,.i 6,.i 7,.i 8,.i 3,.i 7,.i 11,.i 2],.u F] w (.i (wrap64 (dg F 11 2))):=by have d:Hid (∀ w,Calls prog 66 #[.u F,.i 11,.i 2] w λe c=>e=.returned (.u (dg F 11 2))/\c=w.drew):=λw=>bF F 11 2 h.1 h.2 ab ab w;clear h;generalize dg F 11 2=y at *;go_enter func251,ntmps251;go_wp2_with fail;refine (d.out _).mono ?_;rintro e f ⟨rfl,b⟩;subst b;go_wp2_with fail;go_ret;exact ⟨rfl,(bal _ _).drew⟩
theorem mv (hz:G.length=T) (hs:Sl .u64 N q G) (hl:∀ j,U (G.getD j 0)): CB 234 #[.slice q T C,.i I,.i J] N (.i (LS T G I J)):=by
 have d:=λW (i:Bw N W)=>fA q T C G I W hz (hs.below i) hl;have g:=lT J;rw [rr] at g;refine bD (S:=Bs N []) (args:=[.slice q T C,.i I,.i J]) [] func234 ?_;unfold LS;cases c:bj T G I;case true =>
  obtain ⟨rfl,s⟩:=gJ c;rw [c] at d;obtain ⟨b,k,rfl,i,r⟩:=hs 0 ab;have f:=hl 0;have a:=λW=>Ol (G.getD 0 0) f W;have o:fO G I J=if ((J != 1)&&!(bits .and .u64 (G.getD 0 0) 131072==0))=true then wrap64 (dg (G.getD 0 0) 11 2) else I:=by unfold fO;rw [H7 _ f,Xb,Bool.not_not,<- iE (G.getD 0 0) 11 2 f.1 f.2 ab];rfl
  rw [o];unfold bne;generalize wrap64 (dg (G.getD 0 0) 11 2)=y at *;generalize G.getD 0 0=x at *;cases u:decide (1<=J/\J<=3)<;>cases v:(J==1)<;>cases z:(bits .and .u64 x 131072==0)<;>rw [u] at g <;>
   exact bm (t:=6) Bs.eng {eq:=[(21,ak v),(25,ak z)],ov:=[(19,je ⟨b,k,none⟩ (.u x) underlying22 rfl λW h=>(h.2.cell (by exact i)).trans r)],cv:=[(10,fY d),(14,mL λW _=>g W),(28,fY λW _=>yj W),(30,fY λW _=>a W)]} 60 (Bs.start _ _) (λm h=>⟨rfl,h.2⟩)
 rw [c] at d;exact bm (t:=6) Bs.eng {cv:=[(10,fY d)]} 60 (Bs.start _ _) (λm h=>⟨rfl,h.2⟩)
theorem AT (M:MV) (A:MA) (B r:Nat) (w:World) (a:M.cs.length=22) (hl:kV M) (h:Mp B r M A w):Calls prog 254 #[.p r 0] w λe b=>e=.returned (.tuple #[])/\Mp B r (iA M) A b/\Kx r (aH M A) (aH (iA M) A) w b:=by have d:=jB (M:=M) (M':=iA M) (A:=A) rfl (JY M) rfl rfl rfl;refine (xU M A r B w.heap.size w a hl h.row h.fam h.ne).mono λe b ⟨i,j,k,c⟩=>⟨i,⟨j,k.low (Nat.le_refl _) c.size,?_,h.lo⟩,Kx.of_keepL c d⟩;intro q l e;obtain ⟨m,g,f⟩:=d q l;exact h.ne m g (by rw [f];exact e)
structure Wv (M:MV):Prop where
 h22:M.cs.length=22
 U9:U (M.cs.getD 9 0)
 bells:lN M=true
 ok:nZ M.d.xs.length M.d.ys.length M.d.ir=true
 ram:bf M.ram.length=true
 len:kV M
 wram:∀ y ∈ M.ram,(Lit.int .u8 y).wf=true
 wd:dW M.d
 hd:U M.hd
theorem Mp.shape (h:Mp B n p t w) (k:0<p.ram.length):∃ g,t.ar=some ⟨g,0,none⟩/\p.ram.length<=t.cr/\t.cr<=9223372036854775807:=by
 have f:=h.fam.own (aF t.ar p.ram.length t.cr p.ram) dv;have d:=DI (w:=w) (a:=t.ar) (c:=t.cr) f;rcases f.2 with ⟨e,j⟩|⟨b,cap,i,e,_⟩;·have:p.ram.length=0:=j;omega
 ·have e2:Value.slice t.ar p.ram.length t.cr=.slice (some ⟨b,0,none⟩) p.ram.length cap:=e;injection e2 with e3
  exact ⟨b,e3,d.2.1,by have:=d.2.2;unfold maxLen at this;exact this⟩
theorem Ub {A:MA} (a:Wv p) (pa size:Int) (c:U pa) (h:Mp B n p A w):CB 188 #[.slice A.ar p.ram.length A.cr,.u pa,.i size] w (.tuple #[.u (mP p.ram p.ram.length pa size),.bool (gi p.ram.length pa size)]):=by obtain ⟨g,b,f,i⟩:=h.shape (FH a.ram);have d:=h.fam.msl.ram;rw [b] at d;rw [b];exact qu g p.ram.length A.cr p.ram pa size w rfl a.len.ram d a.wram f i c.1 (by have:=c.2;omega)
theorem KA (x:Int) (w:World) (hm:Mp T C y o w) (d:Wv y) (L:jp J=true) (hk:K=1\/K=2\/K=3) (A:U I) (hx:U x): Calls prog 235 #[.p C 0,.u I,.i J,.i K,.u x] w λe a=>e=.returned (.tuple #[.u (CR y I J K x).1,.bool (CR y I J K x).2.1])/\∃ c,Mp T C (CR y I J K x).2.2 c a/\Kx C (aH y o) (aH (CR y I J K x).2.2 c) w a:=by
 have f:=d.len
 have q:vq y.d I J=jw y.d (gD I J):=by unfold vq;rw [d.ok];rfl
 have u:rP y.d I J x=fX y.d x (gD I J):=by unfold rP;rw [d.ok];rfl
 have D:=λa (h:Mp T C y o a)=>Ub (A:=o) (w:=a) d I J A h
 rcases hk with rfl|rfl|rfl
 ·refine (QQ y o T C I J x _ _ w hm D).mono λe a h=>?_
  unfold CR mP at *
  revert h
  cases gi y.ram.length I J<;>intro h<;>exact h
 ·obtain ⟨g,i⟩:∃ X,X=if (jw y.d (gD I J)).2.2=true then dc y (jw y.d (gD I J)).2.1 else y:=⟨_,rfl⟩
  have p:g.cs.length=22:=by rw [i];split<;>exact d.h22
  have z:kV g:=by
   rw [i]
   have:=MX y.d (gD I J) f.xs f.ys
   split
   ·exact ⟨f.x,f.cs,f.ram,this.1,this.2⟩
   ·exact f
  have G:∀ a,Mp T C y o a->Calls prog 253 #[.p C 5,.u I,.i J] a λe b=>e=.returned (.tuple #[.u (jw y.d (gD I J)).1,.bool (jw y.d (gD I J)).2.2])/\∃ c,Mp T C g c b/\Kx C (aH y o) (aH g c) a b:=λa h=>by
   rw [i]
   refine QN y o T C I J _ (jw y.d (gD I J)).2.1 _ a h (λb k=>?_)
   have l:=uq y.d o.ai o.ci o.ao o.co I J b f.xs f.ys d.wd k.fam.msl.xs k.fam.msl.ys
   rw [q] at l
   exact l
  have v:=λ(c:MA) a (h:Mp T C g c a)=>AT g c T C a p z h
  refine (QR y o T C I J x _ _ g (iA g) _ _ w hm D G v).mono λe a h=>?_
  have e3:iA g=if (jw y.d (gD I J)).2.2=true then cL (dc y (jw y.d (gD I J)).2.1) else y:=by
   rw [i]
   cases m:(jw y.d (gD I J)).2.2 with
   | true=>rw [if_pos rfl,if_pos rfl];exact rj (H5 y.d _ d.ok m)
   | false=>rw [if_neg bc,if_neg bc];rw [rj d.ok];exact yZ d.h22 d.U9 d.bells
  rw [e3] at h
  have r:(jw y.d (gD I J)).2.2=false->(jw y.d (gD I J)).1=0:=TF y.d _
  unfold CR mP at *
  revert h r
  cases gi y.ram.length I J<;>cases (jw y.d (gD I J)).2.2<;>intro h r
  ·rw [r rfl] at h;exact h
  ·exact h
  ·exact h
  ·exact h
 ·obtain ⟨R,j⟩:∃ R,R=kH y.ram y.ram.length I J x:=⟨_,rfl⟩
  have s:R.length<=1048576:=by rw [j];exact D6 _ _ _ _ _ rfl f.ram
  have n:=GN y.d x f.xs (zD d.ok).2.1 (gD I J)
  have t:=λa (h:Mp T C y o a)=>xD o.ar y.ram.length o.cr y.ram I J x a rfl f.ram h.fam.msl.ram A.1 (by have:=A.2;omega) hx.1 (by have:=hx.2;omega)
  unfold iU at t
  simp only [<- j] at t
  have pa:=λa (h:Mp T C y o a)=>QO y o T C I J x (fX y.d x (gD I J)).1 (fX y.d x (gD I J)).2 a h (λb k=>by
   have l:=si y.d o.ai o.ci o.ao o.co I J x b f.xs f.ys d.wd k.fam.msl.xs k.fam.msl.ys
   rw [u] at l
   exact l)
  have v:∀ (X:MV) (c:MA) a,Mp T C X c a->(X=bP y R\/X=dc y (fX y.d x (gD I J)).1)->Calls prog 254 #[.p C 0] a λe b=>e=.returned (.tuple #[])/\Mp T C (iA X) c b/\Kx C (aH X c) (aH (iA X) c) a b:=λX c a h M=>by
   rcases M with rfl|rfl
   ·exact AT _ c T C a d.h22 ⟨f.x,f.cs,s,f.xs,f.ys⟩ h
   ·exact AT _ c T C a d.h22 ⟨f.x,f.cs,f.ram,n.1,n.2⟩ h
  have F:∀ (X:MV) (c:MA) a,Mp T C X c a->(X=iA (bP y R)\/X=iA (dc y (fX y.d x (gD I J)).1))->Calls prog 284 #[.p C 0,.u I] a λe b=>e=.returned (.tuple #[])/\Mp T C (mW X I) c b/\Kx C (aH X c) (aH (mW X I) c) a b:=λX c a h M=>by
   have kind:U X.hd:=by rcases M with rfl|rfl<;>exact d.hd
   exact NU X c T C I (lM X I) a h (Qq X I A kind)
  have H:=λa (h:Mp T C y o a)=>TT y o T C I J x R (fX y.d x (gD I J)).1 (gi y.ram.length I J) (fX y.d x (gD I J)).2 iA (λX=>mW X I) a h t pa v F
  refine (QP y _ o T C I J x _ w hm H).mono λe a h=>?_
  have E:iA (bP y R)=bP y R:=by
   have size:lN (bP y R)=true:=d.bells
   rw [rj (M:=bP y R) d.ok]
   exact yZ (M:=bP y R) d.h22 d.U9 size
  have e2:(fX y.d x (gD I J)).2=true->iA (dc y (fX y.d x (gD I J)).1)=cL (dc y (fX y.d x (gD I J)).1):=λm=>rj (M:=dc y (fX y.d x (gD I J)).1) (H6 y.d x I J d.ok m)
  have e4:gi y.ram.length I J=true->R=jT y.ram (I-2147483648).toNat x J.toNat:=λm=>by rw [j];unfold kH;rw [m];rfl
  rw [E] at h
  unfold CR
  revert h e2 e4
  cases gi y.ram.length I J<;>cases (fX y.d x (gD I J)).2<;>intro h e2 e4
  ·exact h
  ·rw [e2 rfl] at h;exact h
  ·rw [e4 rfl] at h;exact h
  ·rw [e4 rfl] at h;exact h
structure Sa (w:World) (cs:Array Value) (W:World):Prop where
 m:W.heap[w.heap.size]?=some (.cells cs 32 (0,0))
 r:∃ old,old.size=14/\W.heap[w.heap.size+1]?=some (.cells old 32 (0,0))
 b:Bw w W
theorem Sa.below (h:Sa M k A) (hb:Bw A g):Sa M k g :=
 ⟨br hb h.m,let ⟨o,a,b⟩:=h.r;⟨o,a,br hb b⟩,aa h.b hb⟩
theorem Sa.out (h:Sa M k A) (d:Array Value) (hd:d.size=14):Sa M k (A.setRow (M.heap.size+1) d):=
 ⟨(setRow_other A _ _ d ab).trans h.m,let ⟨o,b,a⟩:=h.r;⟨d,hd,setRow_heap _ _ o _ _ _ a⟩,aS h.b ab d⟩
theorem Sa.ez:Ez (Sa M k) [⟨M.heap.size,k,[]⟩]:=
 ⟨λW h r a=>by rw [List.mem_singleton] at a;subst a;exact ⟨_,_,h.m⟩,λW h=>h.below (Below.refl _ _).drew⟩
theorem Sa.eng:n6 P (Sa M k) (Sa M k) [⟨M.heap.size,k,[]⟩] true (bodyPost P fn Rs):=⟨λ_ h=>h,Sa.ez.rows,λ_=>Sa.ez.drew,cJ⟩
theorem Sa.start:Sa M k (bT M [(k,32),(aj aq zeroA,32)]):=by obtain ⟨a,b⟩:=Bs.start M [(k,32),(aj aq zeroA,32)];exact ⟨a 0 _ rfl,⟨_,rfl,a 1 _ rfl⟩,b⟩
theorem Sa.two (h:Sa M k A):M.heap.size+2<=A.heap.size:=by obtain ⟨o,_,a⟩:=h.r;have:=(Array.getElem?_eq_some_iff.1 a).1;omega
structure Sc (w:World) (cs:Array Value) (B r:Nat) (M:MV) (A:MA) (W:World):Prop where
 a:Sa w cs W
 mp:Mp B r M A W
 lo:w.heap.size+2<=B
theorem Sc.below (h:Sc M k B n p t A) (hb:Bw A g):Sc M k B n p t g:=⟨h.a.below hb,h.mp.below hb,h.lo⟩
theorem Sc.out (h:Sc M k B n p t A) (d:Array Value) (hd:d.size=14):Sc M k B n p t (A.setRow (M.heap.size+1) d):=by have a:=h.mp.lo;have f:=h.lo;refine ⟨h.a.out d hd,⟨(setRow_other A _ _ d ab).trans h.mp.row,?_,h.mp.ne,h.mp.lo⟩,h.lo⟩;exact (h.mp.fam.mono λw b c e=>setRow_other A _ _ d ab).low (Nat.le_refl _) lg
theorem Sc.ez:Ez (Sc M k B n p t) [⟨M.heap.size,k,[]⟩,⟨n,aj p t,[]⟩]:=
 ⟨λW h q a=>by
  simp only [List.mem_cons,List.not_mem_nil,or_false] at a
  rcases a with rfl|rfl
  ·exact ⟨_,_,h.a.m⟩
  ·exact ⟨_,_,h.mp.row⟩,λW h=>h.below (Below.refl _ _).drew⟩
theorem Sc.eng:n6 P (Sc M k B n p t) (Sc M k B n p t) [⟨M.heap.size,k,[]⟩,⟨n,aj p t,[]⟩] true (bodyPost P fn Rs):=⟨λ_ h=>h,Sc.ez.rows,λ_=>Sc.ez.drew,cJ⟩
theorem bz.set1 {g:Nat} (h:bz B n M R) (cs:Array Value) (b:g<B):bz B n (M.setRow g cs) R:=h.mono λk a _ _=>setRow_other M g k cs ab
theorem Dw.fam (h:bz B n M R) (d:Dw M A):bz B n A R:=by obtain ⟨j,rfl⟩:=d;exact h.mono λ_ _ _ _=>rfl
theorem Dw.size (d:Dw w M):M.heap.size=w.heap.size:=by obtain ⟨j,rfl⟩:=d;rfl
theorem Sa.dw (h:Sa M k A) (d:Dw A g):Sa M k g:=by obtain ⟨j,rfl⟩:=d;exact ⟨h.m,h.r,⟨h.b.os,h.b.tape,h.b.output,h.b.size,h.b.block⟩⟩
abbrev yk (w:World) (V:Int × MV × Int):Ending->World->Prop:=λe a=>∃ C,e=.returned (.tuple #[.u V.1,.agg (aj V.2.1 C),.i V.2.2])/\bz w.heap.size a.heap.size a (aH V.2.1 C)/\Bw w a
theorem Sc.fin {W1 c:World} {U:Int × MV × Int} (h:Sc M k B n p t A) (a:Dw A W1) (b:Dw (W1.setRow (M.heap.size+1) (aj p t)) c) (d:U=(V,p,r)):yk M U (.returned (.tuple #[.u V,.agg (aj p t),.i r])) c:=by subst d;have f:=(a.fam h.mp.fam).set1 (g:=M.heap.size+1) (aj p t) (by have:=h.lo;omega);have e:=aS (h.a.dw a).b (g:=M.heap.size+1) ab (aj p t);refine ⟨t,rfl,(b.fam f).low (by have:=h.lo;omega) ?_,b.below e⟩;rw [b.size,setRow_size,a.size];exact Nat.le_refl _
theorem AU (hl:kV y) (hs:pn N y o) (r:MW y) (c:xp y I J=false): Calls prog 200 #[.func (.func 40) #[] #[],.agg (aj y o),.u F,.i I,.i J,.u K] N (yk N (0,aq,99)):=by
 have f:=λW (h:Sa N (aj y o) W)=>hZ y o W hl (hs.below h.b) r.cs;have g:=λW (_:Sa N (aj y o) W)=>gK I W;have e:=λW (_:Sa N (aj y o) W)=>DJ J W;unfold xp at c;generalize dU y=i at *;generalize jp I=j at *;generalize decide (1<=J/\J<=3)=k at *;generalize n:(J==1)=l at *;generalize q:(I != 4)=m at *;refine bD (S:=Sa N (aj y o)) [(aj y o,32),(aj aq zeroA,32)] func200 ?_;cases i;case' true =>
  cases j;case' true =>
   cases k;case' true =>
    cases l;case' false=>cases c
    case' true =>cases m;case' false=>cases c
 all_goals
  refine ae Sa.eng {eq:=[(37,ak n),(40,ak q)],cv:=[(23,jQ Sa.below f),(27,kj g),(32,kj e)]} 300 Sa.start λt d=>?_
  refine mi (s:=12) (p:=13) (u:=14) (T:=32) (cs:=aj aq zeroA) (v1:=.u 0) (v2:=.i 99) Sa.ez d {} 40 (λW h=>h.out _ rfl) (λW h=>let ⟨A,a,b⟩:=h.r;⟨A,_,a,b⟩) ba (dp _ _) underlying32 rfl rfl ba ba ba λW V a b=>?_
  exact ⟨zeroA,rfl,j7 _ _ _,b.below (aS (d.dw a).b ab _)⟩
theorem Sa.fin {W1 y:World} {U:Int × MV × Int} (h:Sa M k A) (f:bz B A.heap.size A (aH p t)) (j:M.heap.size+2<=B) (a:Dw A W1) (b:Dw (W1.setRow (M.heap.size+1) (aj p t)) y) (d:U=(V,p,r)):yk M U (.returned (.tuple #[.u V,.agg (aj p t),.i r])) y:=by subst d;have i:=(a.fam f).set1 (g:=M.heap.size+1) (aj p t) ab;have e:=aS (h.dw a).b (g:=M.heap.size+1) ab (aj p t);refine ⟨t,rfl,(b.fam i).low ab ?_,b.below e⟩;rw [b.size,setRow_size,a.size];exact Nat.le_refl _
theorem Sa.set (h:Sa M k A) (r:Nat) (hr:M.heap.size+2<=r) (d:Array Value):Sa M k (A.setRow r d):=
 ⟨(setRow_other A _ _ d ab).trans h.m,let ⟨o,a,b⟩:=h.r;⟨o,a,(setRow_other A _ _ d ab).trans b⟩,aS h.b ab d⟩
theorem ym (hl:kV y) (hs:pn N y o) (size:MW y) (hhd:U y.hd) (ha:U F) (hx:U K) (hT:pS N) (hgd:xu y.ram.length o.ar o.cr) (hmk:dU y=true) (w:jp I=true) (L:1<=J/\J<=3) (b4 b5:Bool) (h4:(J==1)=b4) (h5:(I != 4)=b5) (h45:(b4&&b5)=false): Calls prog 200 #[.func (.func 40) #[] #[],.agg (aj y o),.u F,.i I,.i J,.u K] N (yk N (aE y F I J K)):=by
 have HK:=λW (h:Sa N (aj y o) W)=>hZ y o W hl (hs.below h.b) size.cs;have HS:=λW (_:Sa N (aj y o) W)=>gK I W;have HI:=λW (_:Sa N (aj y o) W)=>DJ J W;rw [hmk] at HK;rw [w] at HS;rw [decide_eq_true L] at HI;obtain ⟨n,P,hpr,hr0,hd0,hb0⟩:=aC hmk;have f:J=1\/J=2\/J=3:=ab
 have hs5:I=1\/I=2\/I=4\/I=8:=of_decide_eq_true w;have hp:=wH (size.cs 0) P hpr J;obtain ⟨V,Y⟩:∃ V,V=aE y F I J K:=⟨_,rfl⟩;rw [<- Y];unfold aE at Y;have hwr:Uz.wrap I=I:=by rcases hs5 with rfl|rfl|rfl|rfl<;>decide +kernel
 have hmod:F.tmod I=F%I:=by rw [Int.tmod_eq_emod_of_nonneg ha.1]
 obtain ⟨p,Q⟩:∃ p,fO y.cs y.pr J=p:=⟨_,rfl⟩;obtain ⟨G,hG⟩:∃ G,bN y.ram y.ram.length y.cs p F J=G:=⟨_,rfl⟩;have hga:U G.addr:=by rw [<- hG];exact uK _ _ _ _ _ _ ha
 have hlg:bj 22 y.cs p=true:=by unfold bj;rw [P,<- Q,hp];rfl
 have hwk:nF y.ram.length y.cs.length y.cs p J=true:=by unfold nF;rw [hr0,n,hlg];unfold jl;simpa using L
 have HE:∀ W,Sa N (aj y o) W->CB 234 #[.slice o.ac y.cs.length o.cc,.i y.pr,.i J] W (.i p):=λW h=>by have h:=mv o.ac y.cs.length o.cc y.cs y.pr J W rfl (hs.cs.below h.b) size.cs;unfold LS at h;rw [n,show bj 22 y.cs y.pr=true by unfold bj;rw [P,hpr];rfl,decide_eq_true L,Q] at h;rw [n];exact h
 have HW:∀ W,Sa N (aj y o) W->Calls prog 40 #[.slice o.ar y.ram.length o.cr,.slice o.ac y.cs.length o.cc,.i p,.u F,.i J] W λe c=>∃ D E,e=.returned (.tuple #[.u G.addr,.i G.code,.slice D (bp y.ram G).length E])/\bz W.heap.size c.heap.size c [aF D (bp y.ram G).length E (bp y.ram G)]/\Bw W c:=λW h=>by have h:=rG o.ar y.ram.length o.cr y.ram o.ac y.cs.length o.cc y.cs p F J W rfl hl.ram (hs.ram.below h.b) size.ram rfl (hs.cs.below h.b) size.cs ha (hT.below h.b) hgd;unfold GU GV vU at h;rw [hwk] at h;simp only [if_true,hG] at h;exact h.mono λe c ⟨D,E,h1,h2,h3⟩=>⟨D,E,h1,(bz.nil W.heap.size W.heap.size c).snoc (aF D (bp y.ram G).length E (bp y.ram G)) _ _ h2 (Nat.le_refl _) (Nat.le_refl _) (Nat.le_refl _) h3.size,h3⟩
 have HP:∀ W,Sa N (aj y o) W->CB 189 #[.slice o.ac y.cs.length o.cc,.i p,.u G.addr,.i I,.i J] W (.bool (!Ac y.cs p G.addr I J)):=λW h=>by have h:=kO o.ac y.cs.length o.cc y.cs p G.addr I J W rfl (hs.cs.below h.b) size.cs hga (hT.below h.b);rw [n,Nq y.cs p G.addr I J hlg w (decide_eq_true L)] at h;rw [n];exact h
 have HCC:=λW (_:True)=>g7 J f W;have HAC:=λW (_:True)=>nP J f W;have qc:IntKind.i64.wrap ((if J=1 then 0 else if J=2 then 4 else 6)+16)=oL J:=by rcases f with rfl | rfl | rfl<;>decide +kernel
 have qa:IntKind.i64.wrap ((if J=2 then 5 else if J=3 then 7 else 1)+16)=hH J:=by rcases f with rfl|rfl|rfl<;>decide +kernel
 have qg:IntKind.i64.wrap (G.code+16)=wrap64 (G.code+16):=by simp only [IntKind.wrap_i64,wrap64]
 rw [Q,hG] at Y;refine bD (S:=Sa N (aj y o)) [(aj y o,32),(aj aq zeroA,32)] func200 ?_;generalize h6:(F%I != 0)=b6 at *;have h6':(F.tmod I != 0)=b6:=by rw [hmod];exact h6
 cases b6 with
 | true =>
   cases b4<;>cases b5;case true.true=>cases h45
   all_goals
    refine aW (Rc:=λW e g=>∃ (a':Option Addr) (c':Nat),e=.returned (.slice a' y.ram.length c')/\g.ownsRow W.heap.size 5 1 (.slice a' y.ram.length c') y.ram.length (y.ram.map (Value.int .u8))/\Bw W g) Sa.eng {eq:=[(37,ak h4),(40,ak h5),(46,dP .u64 hwr),(48,ak h6')],ov:=[(47,Pb .u64 F I ab)],cv:=[(23,jQ Sa.below HK),(27,kj HS),(32,kj HI)]} 300 Sa.start (λW h=>mT o.ar _ o.cr y.ram W rfl hl.ram (hs.ram.below h.b)) λi e w1 addr B=>?_
    obtain ⟨a1,c1,rfl,ho1,l⟩:=B
    have kind:=addr.below l
    refine ⟨_,0,rfl,λ_=>kind,?_⟩
    have F1:=(bz.nil i.heap.size i.heap.size w1).snoc (aF a1 y.ram.length c1 y.ram) _ w1.heap.size ho1 (Nat.le_refl _) (Nat.le_refl _) (Nat.le_refl _) l.size
    refine uF (Rc:=λW e g=>∃ C:MA,C.ar=a1/\C.cr=c1/\e=.returned (.agg (aj (uw y y.ram) C))/\bz i.heap.size g.heap.size g (aH (uw y y.ram) C)/\(∀ q ∈ aH (uw y y.ram) C,∀ k,q.v.ownBlock=some k->W.heap.size<=k\/(Value.slice a1 y.ram.length c1).ownBlock=some k)/\Bw W g) Sa.ez kind {} 60 (λW d=>pI y o y.ram a1 y.ram.length c1 i.heap.size W hl (hs.below (kind.dw d).b) (by rw [d.size];exact d.fam F1) (by rw [d.size];exact l.size) rfl) λW1 e w2 d1 B=>?_
    obtain ⟨C,hC1,hC2,rfl,Z,F2n,H⟩:=B
    have O:=(kind.dw d1).below H
    refine ⟨_,0,rfl,O,?_⟩
    refine mi (s:=12) (p:=13) (u:=14) (T:=32) (cs:=aj y C) (v1:=.u 0) (v2:=.i (oL J)) Sa.ez O {eq:=[(56,dP .i64 qc)],cv:=[(55,kj λW _=>g7 J f W)]} 60 (λW h=>h.out _ rfl) (λW h=>let ⟨A,a,b⟩:=h.r;⟨A,_,a,b⟩) ba (dp _ _) underlying32 rfl rfl ba ba ba λW V a b=>?_
    exact Sa.fin O Z addr.two a b (by rw [Y,if_pos rfl])
 | false =>
   have r:V=if (G.code != 0)=true then (0,bP y (bp y.ram G),wrap64 (G.code+16)) else if Ac y.cs p G.addr I J=true then (0,bP y (bp y.ram G),hH J) else if (CR (bP y (bp y.ram G)) G.addr I J K).2.1=true then ((CR (bP y (bp y.ram G)) G.addr I J K).1,(CR (bP y (bp y.ram G)) G.addr I J K).2.2,0) else (0,(CR (bP y (bp y.ram G)) G.addr I J K).2.2,hH J):=by rw [Y,if_neg bc];unfold xQ;rw [TG]
   clear Y;have hRm:Wv (bP y (bp y.ram G)):=⟨n,size.cs 9,hb0,hd0,by show bf (bp y.ram G).length=true;rw [kB];exact hr0,⟨hl.x,hl.cs,by show (bp y.ram G).length<=_;rw [kB];exact hl.ram,hl.xs,hl.ys⟩,Ap y.ram size.ram G,⟨size.xs,size.ys⟩,hhd⟩;generalize h7:(G.code != 0)=b7 at *;generalize Ac y.cs p G.addr I J=b8 at *;rcases hrch:CR (bP y (bp y.ram G)) G.addr I J K with ⟨M,ok,X⟩;rw [hrch] at r;dsimp only at r;cases b4<;>cases b5;case true.true=>cases h45
   all_goals
    refine aW (Rc:=λW e g=>∃ D E,e=.returned (.tuple #[.u G.addr,.i G.code,.slice D (bp y.ram G).length E])/\bz W.heap.size g.heap.size g [aF D (bp y.ram G).length E (bp y.ram G)]/\Bw W g) Sa.eng {eq:=[(37,ak h4),(40,ak h5),(46,dP .u64 hwr),(48,ak h6')],ov:=[(47,Pb .u64 F I ab)],cv:=[(23,jQ Sa.below HK),(27,kj HS),(32,kj HI),(62,jQ Sa.below HE)]} 300 Sa.start HW λi e w1 addr B=>?_
    obtain ⟨D,E,rfl,F1,l⟩:=B
    have kind:=addr.below l
    refine ⟨_,0,rfl,λ_=>kind,?_⟩
    refine uF (Rc:=λW e g=>∃ C:MA,C.ar=D/\C.cr=E/\e=.returned (.agg (aj (uw y (bp y.ram G)) C))/\bz i.heap.size g.heap.size g (aH (uw y (bp y.ram G)) C)/\(∀ q ∈ aH (uw y (bp y.ram G)) C,∀ k,q.v.ownBlock=some k->W.heap.size<=k\/(Value.slice D (bp y.ram G).length E).ownBlock=some k)/\Bw W g) Sa.ez kind {} 60 (λW d=>pI y o (bp y.ram G) D (bp y.ram G).length E i.heap.size W hl (hs.below (kind.dw d).b) (by rw [d.size];exact d.fam F1) (by rw [d.size];exact l.size) rfl) λW1 e w2 d1 B=>?_
    obtain ⟨C,hC1,hC2,rfl,Z,F2n,H⟩:=B
    have O:=(kind.dw d1).below H
    refine ⟨_,0,rfl,O,?_⟩
    refine RY (v:=λW=>.p W.heap.size 0) Sa.ez O {} 60 2 (λW=>W.alloc (.cells (aj aq zeroA) 32)) (λW d=>dQ (z:=.agg (aj aq zeroA)) ba W) λm d2=>?_
    have S3:Sa N (aj y o) (m.alloc (.cells (aj aq zeroA) 32)):=(O.dw d2).below (bal _ _)
    refine ⟨S3,?_⟩
    have z2:m.heap.size=w2.heap.size:=d2.size
    have hN:=O.two
    refine GD Sa.ez S3 {} 60 (λW=>W.setRow m.heap.size (aj (bP y (bp y.ram G)) C)) (λW d=>aD (t:=32) (ty:=32) (old:=aj aq zeroA) (by obtain ⟨j,rfl⟩:=d;exact heap_alloc_new _ _) ba rfl (dp _ _)) λW3 d3=>?_
    refine ⟨(S3.dw d3).set _ ab _,?_⟩
    have S4:Sc N (aj y o) i.heap.size m.heap.size (bP y (bp y.ram G)) C (W3.setRow m.heap.size (aj (bP y (bp y.ram G)) C)):=by
     have z3:W3.heap.size=m.heap.size+1:=by rw [d3.size,World.size_alloc]
     refine ⟨(S3.dw d3).set _ ab _,⟨?_,?_,λq hq e=>?_,?_⟩,addr.two⟩
     ·exact setRow_heap _ _ _ _ _ _ (by obtain ⟨j,rfl⟩:=d3;exact heap_alloc_new _ _)
     ·have f3:bz i.heap.size w2.heap.size W3 (aH (uw y (bp y.ram G)) C):=d3.fam ((d2.fam Z).mono λk _ h2 h3=>(heap_alloc_old _ _ h3))
      exact (f3.mono λk _ h2 _=>setRow_other _ _ _ _ ab).low (Nat.le_refl _) (by rw [setRow_size,z3];omega)
     ·have:=Z.hi q hq _ e;omega
     ·have:=H.size;have:=d1.size;have:=l.size;omega
    refine aJ (Sc N (aj y o) i.heap.size m.heap.size (bP y (bp y.ram G)) C) ?_
    clear Z F2n F1 H
    cases b7 with
    | true =>
      refine mi (s:=12) (p:=13) (u:=14) (T:=32) (cs:=aj (bP y (bp y.ram G)) C) (v1:=.u 0) (v2:=.i (wrap64 (G.code+16))) Sc.ez S4 {eq:=[(80,ak h7),(83,dP .i64 qg)]} 60 (λW h=>h.out _ rfl) (λW h=>let ⟨A,a,b⟩:=h.a.r;⟨A,_,a,b⟩) ba (dp _ _) underlying32 rfl rfl ba ba ba λW V a b=>?_
      exact S4.fin a b (by rw [r,if_pos rfl])
    | false =>
      have HP':=λW (h:Sc N (aj y o) i.heap.size m.heap.size (bP y (bp y.ram G)) C W)=>HP W h.a
      cases b8 with
      | true =>
        refine ae Sc.eng {eq:=[(80,ak h7)],cv:=[(90,jQ Sc.below HP')]} 60 S4 λw5 x=>?_
        refine mi (s:=12) (p:=13) (u:=14) (T:=32) (cs:=aj (bP y (bp y.ram G)) C) (v1:=.u 0) (v2:=.i (hH J)) Sc.ez x {eq:=[(95,dP .i64 qa)],cv:=[(94,kj λW _=>nP J f W)]} 60 (λW h=>h.out _ rfl) (λW h=>let ⟨A,a,b⟩:=h.a.r;⟨A,_,a,b⟩) ba (dp _ _) underlying32 rfl rfl ba ba ba λW V a b=>?_
        exact x.fin a b (by rw [r,if_neg bc,if_pos rfl])
      | false =>
        refine aW (Rc:=λW e g=>e=.returned (.tuple #[.u M,.bool ok])/\∃ A',Mp i.heap.size m.heap.size X A' g/\Kx m.heap.size (aH (bP y (bp y.ram G)) C) (aH X A') W g) Sc.eng {eq:=[(80,ak h7)],cv:=[(90,jQ Sc.below HP')]} 60 S4 (λW h=>by have B:=KA (bP y (bp y.ram G)) C i.heap.size m.heap.size G.addr I J K W h.mp hRm w f hga hx;rw [hrch] at B;exact B) λW5 e w6 x B=>?_
        obtain ⟨rfl,A2,m6,k6⟩:=B
        have R:=x.mp.under k6
        have hlo:=x.lo
        have S6:Sc N (aj y o) i.heap.size m.heap.size X A2 w6:=by
         refine ⟨⟨(R.block _ ab).trans x.a.m,?_,x.a.b.trans ⟨R.os,R.tape,R.output,R.size,λk hk=>R.block k ab⟩⟩,m6,x.lo⟩
         obtain ⟨A,a,b⟩:=x.a.r
         exact ⟨A,a,(R.block _ ab).trans b⟩
        refine ⟨_,0,rfl,gE ba,?_⟩
        refine aJ (Sc N (aj y o) i.heap.size m.heap.size X A2) ?_
        cases ok with
        | true =>
          refine mi (s:=12) (p:=13) (u:=14) (T:=32) (cs:=aj X A2) (v1:=.u M) (v2:=.i 0) Sc.ez S6 {} 60 (λW h=>h.out _ rfl) (λW h=>let ⟨A,a,b⟩:=h.a.r;⟨A,_,a,b⟩) ba (dp _ _) underlying32 rfl rfl ba ba ba λW V a b=>?_
          exact S6.fin a b (by rw [r,if_neg bc,if_neg bc,if_pos rfl])
        | false =>
          refine mi (s:=12) (p:=13) (u:=14) (T:=32) (cs:=aj X A2) (v1:=.u 0) (v2:=.i (hH J)) Sc.ez S6 {eq:=[(109,dP .i64 qa)],cv:=[(108,kj λW _=>nP J f W)]} 60 (λW h=>h.out _ rfl) (λW h=>let ⟨A,a,b⟩:=h.a.r;⟨A,_,a,b⟩) ba (dp _ _) underlying32 rfl rfl ba ba ba λW V a b=>?_
          exact S6.fin a b (by rw [r,if_neg bc,if_neg bc,if_neg bc])
theorem AV (hl:kV y) (hs:pn N y o) (d:MW y) (c:U y.hd) (f:U F) (hx:U K) (e:pS N) (b:dU y=true->xu y.ram.length o.ar o.cr): Calls prog 200 #[.func (.func 40) #[] #[],.agg (aj y o),.u F,.i I,.i J,.u K] N (yk N (uO y F I J K)):=by
 unfold uO;cases a:xp y I J with
 | false=>rw [if_neg bc];exact AU y o F I J K N hl hs d a
 | true =>rw [if_pos rfl];unfold xp at a;simp only [Bool.and_eq_true,decide_eq_true_eq] at a;exact ym y o F I J K N hl hs d c f hx e (b a.1.1.1) a.1.1.1 a.1.1.2 a.1.2 _ _ rfl rfl (by simpa only [Bool.not_eq_true'] using a.2)
theorem Iv.ez:Ez (Iv a M b) b:=⟨λ_ h r bs=>(h.rows r bs).in_,λ_ h=>⟨λr bs=>h.rows r bs,h.ag.drew,h.sub,h.nd⟩⟩
theorem Iv.two {ds:Array Value} (d:ix ⟨n,k,[]⟩ M) (e:ix ⟨B,ds,[]⟩ M) (c:n≠B):Iv [n,B] M [⟨n,k,[]⟩,⟨B,ds,[]⟩] M :=
 ⟨λr a=>by
  simp only [List.mem_cons,List.not_mem_nil,or_false] at a
  rcases a with rfl|rfl
  ·exact d
  ·exact e,Ag.refl _ _,λr a=>by
  simp only [List.mem_cons,List.not_mem_nil,or_false] at a
  rcases a with rfl|rfl<;>simp,i6⟩
theorem nQ (k:Iv [W] M b A) (f:bz B n M R) (d:W<B):bz B n A R:=f.mono λi L c a=>k.ag.block i a (by rw [List.mem_singleton];omega)
theorem uP {E:Nat} {c:Array Value} (a:Iv [n] M [⟨n,k,[]⟩] A) (L:Iv [n,W] A b g) (f:bz B E A R) (hb:M.heap.size<=W) (l:M.heap.size<=B) (m:E<=A.heap.size) (hx:W<B\/E<=W) (p:n<M.heap.size) (row:ix ⟨n,c,[]⟩ g):Iv [n] M [⟨n,c,[]⟩] g/\bz M.heap.size g.heap.size g R:=by
 refine ⟨⟨λr d=>by rw [List.mem_singleton] at d;subst d;exact row,⟨L.ag.os.trans a.ag.os,L.ag.tape.trans a.ag.tape,L.ag.output.trans a.ag.output,Nat.le_trans a.ag.size L.ag.size,λi h e=>?_⟩,λr d=>by rw [List.mem_singleton] at d;subst d;simp,cp⟩,?_⟩;·rw [List.mem_singleton] at e;exact (L.ag.block i (Nat.lt_of_lt_of_le h a.ag.size) l5).trans (a.ag.block i h (by rw [List.mem_singleton];exact e))
 ·exact (f.mono λi cs o j=>L.ag.block i j l5).low l (Nat.le_trans m L.ag.size)
theorem Iv.dw (h:Iv a M b A) (d:Dw A g):Iv a M b g:=h.below (d.below (Below.refl _ _))
theorem Iv.set (h:Iv a M b A) {R:Nat} (hb:R ∉ a) (g:M.heap.size<=R) (cs:Array Value):Iv a M b (A.setRow R cs):=
 ⟨λr c=>let ⟨t,bs⟩:=h.rows r c;⟨t,(setRow_other A _ _ cs (λe=>hb (by rw [<- e];exact h.sub r c))).trans bs⟩,⟨h.ag.os,h.ag.tape,h.ag.output,by rw [setRow_size];exact h.ag.size,λk f d=>(setRow_other A _ _ cs ab).trans (h.ag.block k f d)⟩,h.sub,h.nd⟩
def nR (t:TV) (V:Int × MV × Int) (addr:Int):TV:=if V.2.2 != 0 then {t with up:=true,cz:=IntKind.i64.wrap (V.2.2-16),vl:=addr} else t
theorem xv (X:l.ld=.func (.func 40) #[] #[]) (h:ix ⟨n,bL p t l,[]⟩ M) (hA:∀ W,Iv [n] M [⟨n,bL p t l,[]⟩] W->Calls prog 200 #[.func (.func 40) #[] #[],.agg (aj p t),.u F,.i I,.i J,.u K] W (yk W d)): Calls prog 149 #[.p n 0,.u F,.i I,.i J,.u K] M λe w'=>∃ C,e=.returned (.tuple #[.u (if d.2.2 != 0 then 0 else d.1),.bool (!(d.2.2 != 0))])/\Iv [n] M [⟨n,bL d.2.1 C (nR l d F),[]⟩] w'/\bz M.heap.size w'.heap.size w' (aH d.2.1 C):=by
 have c:n<M.heap.size:=let ⟨_,f⟩:=h;(Array.getElem?_eq_some_iff.1 f).1;refine gq (args:=[.p n 0,.u F,.i I,.i J,.u K]) (Iv [n] M [⟨n,bL p t l,[]⟩]) func149 ?_;refine aN 0 1 ?_;refine ae Iv.eng {eq:=[(19,⟨_,_,0,X⟩)]} 60 (Iv.one h) λA B=>?_;refine oI (i:=12) (j:=17) ?_ ?_
 ·refine nE (hA A B) λe w1 f=>?_;obtain ⟨C,rfl,F1,u⟩:=f;refine ⟨_,0,rfl,B.below u,?_⟩;refine RY (v:=λW=>.p W.heap.size 0) Iv.ez (B.below u) {} 60 2 (λW=>W.alloc (.cells (aj aq zeroA) 32)) (λW _=>dQ (z:=.agg (aj aq zeroA)) ba W) λo O=>?_;have s:=((B.below u).dw O).below (bal o (.cells (aj aq zeroA) 32));refine ⟨s,?_⟩;have z2:=O.size;have s0:=B.ag.size;have s1:=u.size;refine GD Iv.ez s {} 60 (λW=>W.setRow o.heap.size (aj d.2.1 C)) (λW V=>aD (t:=32) (ty:=32) (old:=aj aq zeroA) (by obtain ⟨j,rfl⟩:=V;exact heap_alloc_new _ _) ba rfl (dp _ _)) λq r=>?_;have z3:q.heap.size=o.heap.size+1:=(by rw [r.size,World.size_alloc]);have D:=(s.dw r).set (R:=o.heap.size) (by rw [List.mem_singleton];omega) ab (aj d.2.1 C);refine ⟨D,?_⟩;have Y:ix ⟨o.heap.size,aj d.2.1 C,[]⟩ (q.setRow o.heap.size (aj d.2.1 C)):=⟨32,setRow_heap _ _ _ _ _ _ (by obtain ⟨j,rfl⟩:=r;exact heap_alloc_new _ _)⟩;have P:bz A.heap.size w1.heap.size (q.setRow o.heap.size (aj d.2.1 C)) (aH d.2.1 C):=(r.fam ((O.fam F1).mono λk _ _ s=>heap_alloc_old _ _ s)).mono λk _ _ _=>setRow_other _ _ _ _ ab;have z4:(q.setRow o.heap.size (aj d.2.1 C)).heap.size=q.heap.size:=setRow_size _ _ _;refine ae (tw Iv.ez D) {} 60 (Dw.refl _) λx d5=>?_;refine aJ (λ_=>True) ?_;refine aN 13 2 ?_;have E:=D.dw d5;have H:=d5.fam P;have z5:=d5.size;have Z:ix ⟨o.heap.size,aj d.2.1 C,[]⟩ x:=let ⟨T,S⟩:=Y;⟨T,by obtain ⟨j,rfl⟩:=d5;exact S⟩;have G:=Iv.two E.row1 Z ab;unfold nR;obtain ⟨y,m⟩:∃ y,(d.2.2 != 0)=y:=⟨_,rfl⟩;rw [m];cases y with
  | true =>refine fN (R1:=[⟨n,bL d.2.1 C l,[]⟩,⟨o.heap.size,aj d.2.1 C,[]⟩]) G {eq:=[(37,ak m)]} 60 (λW U=>km (IntKind.i64.wrap (d.2.2-16)) F (M:=d.2.1) (A:=C) (t:=l) (U.rows ⟨n,bL d.2.1 C l,[]⟩ cp)) λW6 e w7 size f=>⟨_,0,f.1,?_⟩;obtain ⟨R,Q⟩:=uP E size H ab ab ab ab c (size.rows ⟨n,bL d.2.1 C l,[]⟩ cp);refine iO (Iv.one f.2.row1) {} 40 λL a w g=>⟨.tuple #[.u 0,.bool false],kr,C,rfl,(R.then1 f.2).then1 w,?_⟩;exact (nQ w (nQ f.2 Q c) c).low (Nat.le_refl _) (Nat.le_trans f.2.ag.size w.ag.size)
  | false =>refine iO (R1:=[⟨n,bL d.2.1 C l,[]⟩,⟨o.heap.size,aj d.2.1 C,[]⟩]) G {eq:=[(37,ak m)]} 60 λL a w g=>⟨.tuple #[.u d.1,.bool true],ko,C,rfl,?_⟩;exact uP E w H ab ab ab ab c (w.rows ⟨n,bL d.2.1 C l,[]⟩ cp)
 ·have kind:=B.below (bal A (.cells (aj aq zeroA) 32));refine qL (v:=.p A.heap.size 0) 2 (dQ (T:=32) (z:=.agg (aj aq zeroA)) ba A) kind ?_;refine uF (Rc:=λW=>yk W d) Iv.ez kind {} 60 (λW V=>hA W (kind.dw V)) λW1 e w2 N f=>?_;obtain ⟨C,rfl,F2,addr⟩:=f;have s:=(kind.dw N).below addr;refine ⟨_,0,rfl,s,?_⟩;have s0:=B.ag.size;have z1:W1.heap.size=A.heap.size+1:=(by rw [N.size,World.size_alloc]);have s2:=addr.size;have q2:w2.heap[A.heap.size]?=some (.cells (aj aq zeroA) 32 (0,0)):=br addr (by obtain ⟨j,rfl⟩:=N;exact heap_alloc_new _ _);refine GD Iv.ez s {} 60 (λW=>W.setRow A.heap.size (aj d.2.1 C)) (λW V=>aD (t:=32) (ty:=32) (old:=aj aq zeroA) (by obtain ⟨j,rfl⟩:=V;exact q2) ba rfl (dp _ _)) λq r=>?_;have z3:=r.size;have D:=(s.dw r).set (R:=A.heap.size) (by rw [List.mem_singleton];omega) ab (aj d.2.1 C);refine ⟨D,?_⟩;have Y:ix ⟨A.heap.size,aj d.2.1 C,[]⟩ (q.setRow A.heap.size (aj d.2.1 C)):=⟨32,setRow_heap _ _ _ _ _ _ (by obtain ⟨j,rfl⟩:=r;exact q2)⟩;have P:bz W1.heap.size w2.heap.size (q.setRow A.heap.size (aj d.2.1 C)) (aH d.2.1 C):=(r.fam F2).mono λk _ _ _=>setRow_other _ _ _ _ ab;have z4:(q.setRow A.heap.size (aj d.2.1 C)).heap.size=q.heap.size:=setRow_size _ _ _;refine ae (tw Iv.ez D) {} 60 (Dw.refl _) λx d5=>?_;refine aJ (λ_=>True) ?_;refine aN 13 2 ?_;have E:=D.dw d5;have H:=d5.fam P;have z5:=d5.size;have Z:ix ⟨A.heap.size,aj d.2.1 C,[]⟩ x:=let ⟨T,S⟩:=Y;⟨T,by obtain ⟨j,rfl⟩:=d5;exact S⟩;have G:=Iv.two E.row1 Z ab;unfold nR;obtain ⟨y,m⟩:∃ y,(d.2.2 != 0)=y:=⟨_,rfl⟩;rw [m];cases y with
  | true =>refine fN (R1:=[⟨n,bL d.2.1 C l,[]⟩,⟨A.heap.size,aj d.2.1 C,[]⟩]) G {eq:=[(37,ak m)]} 60 (λW U=>km (IntKind.i64.wrap (d.2.2-16)) F (M:=d.2.1) (A:=C) (t:=l) (U.rows ⟨n,bL d.2.1 C l,[]⟩ cp)) λW6 e w7 size f=>⟨_,0,f.1,?_⟩;obtain ⟨R,Q⟩:=uP E size H ab ab ab ab c (size.rows ⟨n,bL d.2.1 C l,[]⟩ cp);refine iO (Iv.one f.2.row1) {} 40 λL a w g=>⟨.tuple #[.u 0,.bool false],kr,C,rfl,(R.then1 f.2).then1 w,?_⟩;exact (nQ w (nQ f.2 Q c) c).low (Nat.le_refl _) (Nat.le_trans f.2.ag.size w.ag.size)
  | false =>refine iO (R1:=[⟨n,bL d.2.1 C l,[]⟩,⟨A.heap.size,aj d.2.1 C,[]⟩]) G {eq:=[(37,ak m)]} 60 λL a w g=>⟨.tuple #[.u d.1,.bool true],ko,C,rfl,?_⟩;exact uP E w H ab ab ab ab c (w.rows ⟨n,bL d.2.1 C l,[]⟩ cp)
theorem Re (s:Bool) (u:l.fm=ns j F s) (addr x:Int) (k:l.ld=.func (.func 40) #[] #[]) (h:ix ⟨n,bL p t l,[]⟩ M) (r:∀ W,Iv [n] M [⟨n,bL p t l,[]⟩] W->Calls prog 200 #[.func (.func 40) #[] #[],.agg (aj p t),.u addr,.i F,.i 3,.u x] W (yk W d)): Calls prog 158 #[.p n 0,.u addr,.u x] M λe b=>∃ C,e=.returned (.bool (!(d.2.2 != 0)))/\Iv [n] M [⟨n,bL d.2.1 C (nR l d addr),[]⟩] b/\bz M.heap.size b.heap.size b (aH d.2.1 C):=by
 have V:n<M.heap.size:=let ⟨_,c⟩:=h;(Array.getElem?_eq_some_iff.1 c).1;refine gq (args:=[.p n 0,.u addr,.u x]) (Iv [n] M [⟨n,bL p t l,[]⟩]) func158 ?_;refine aN 0 1 ?_;cases j;all_goals
  refine ae Iv.eng {cv:=[(13,xA λW a=>rD _ F s u a.row1)]} 60 (Iv.one h) λm w=>?_
  refine oH (AK F s m) ba λe z c=>⟨_,0,c.1,gE ba,?_⟩
  have q:=w.below c.2
  refine aW (Rc:=λW e b=>∃ C,e=.returned (.tuple #[.u (if d.2.2 != 0 then 0 else d.1),.bool (!(d.2.2 != 0))])/\Iv [n] W [⟨n,bL d.2.1 C (nR l d addr),[]⟩] b/\bz W.heap.size b.heap.size b (aH d.2.1 C)) Iv.eng {} 60 q (λW a=>xv d addr F 3 x k a.row1 λW' i=>r W' (a.then1 i)) λW e B a c=>?_
  obtain ⟨C,rfl,g,o⟩:=c
  refine ⟨_,0,rfl,gE ba,?_⟩
  refine aJ (λ_=>True) ?_
  exact vS (t:=6) (v:=.bool (!(d.2.2 != 0))) (Iv.one g.row1) {} 40 λy A=>⟨C,rfl,(a.then1 g).then1 A,(nQ A o (Nat.lt_of_lt_of_le V a.ag.size)).low a.ag.size A.ag.size⟩
def ue (t:TV) (V:Int × MV × Int) (addr:Int) (n:Nat) (s:Bool):TV:=if V.2.2 != 0 then nR t V addr else {t with rs:=if s then au (8*n) V.1 else V.1}
theorem Uc (s:Bool) (hn:T=1\/T=2\/T=4\/T=8) (D:l.fm=ns j T s) (addr:Int) (y:l.ld=.func (.func 40) #[] #[]) (h:ix ⟨n,bL p t l,[]⟩ M) (I:∀ W,Iv [n] M [⟨n,bL p t l,[]⟩] W->Calls prog 200 #[.func (.func 40) #[] #[],.agg (aj p t),.u addr,.i T,.i 2,.u 0] W (yk W d)): Calls prog 155 #[.p n 0,.u addr] M λe i=>∃ C,e=.returned (.tuple #[.u (if d.2.2 != 0 then 0 else d.1),.bool (!(d.2.2 != 0))])/\Iv [n] M [⟨n,bL d.2.1 C (ue l d addr T s),[]⟩] i/\bz M.heap.size i.heap.size i (aH d.2.1 C):=by
 have V:n<M.heap.size:=let ⟨_,A⟩:=h;(Array.getElem?_eq_some_iff.1 A).1;have c:∀ W,Iv [n] M [⟨n,bL p t l,[]⟩] W->_:=λW b=>xv d addr T 2 0 y b.row1 λW' u=>I W' (b.then1 u);unfold ue;unfold nR at *;obtain ⟨w,x⟩:∃ w,(d.2.2 != 0)=w:=⟨_,rfl⟩;simp only [x] at c ⊢;refine gq (args:=[.p n 0,.u addr]) (Iv [n] M [⟨n,bL p t l,[]⟩]) func155 ?_;refine aN 0 1 ?_;cases j;all_goals
  refine ae Iv.eng {cv:=[(12,xA λW b=>rD _ T s D b.row1)]} 60 (Iv.one h) λF H=>?_
  refine oH (AK T s F) ba λe K A=>⟨_,0,A.1,gE ba,?_⟩
  have B:=H.below A.2
  cases w
  ·refine aW (Rc:=λW e i=>∃ C,e=.returned (.tuple #[.u d.1,.bool true])/\Iv [n] W [⟨n,bL d.2.1 C l,[]⟩] i/\bz W.heap.size i.heap.size i (aH d.2.1 C)) Iv.eng {} 60 B c λW e E b A=>?_
   obtain ⟨C,rfl,k,q⟩:=A
   refine ⟨_,0,rfl,gE ba,?_⟩
   refine aJ (Iv [n] E [⟨n,bL d.2.1 C l,[]⟩]) ?_
   have G:=(nQ (Iv.one k.row1) q (Nat.lt_of_lt_of_le V b.ag.size)).low (B':=M.heap.size) b.ag.size (Nat.le_refl _)
   refine ae Iv.eng {cv:=[(20,xA λW b=>rD _ T s D b.row1)]} 60 (Iv.one k.row1) λz g=>?_
   refine oH (Kt T s d.1 hn z) ba λe L A=>⟨_,0,A.1,gE ba,?_⟩
   have o:=g.below A.2
   refine aJ (λ_=>True) ?_
   refine iO (R1:=[⟨n,bL d.2.1 C {l with rs:=if s then au (8*T) d.1 else d.1},[]⟩]) (Iv.one o.row1) {} 60 λJ a r m=>⟨.tuple #[.u d.1,.bool true],by rw [results_tmp2 rfl,m.slot (v:=.u d.1) ba,m.slot (v:=.bool true) ba],C,rfl,((b.then1 k).then1 o).then1 r,?_⟩
   exact (nQ r (nQ o G V) V).low (Nat.le_refl _) (Nat.le_trans o.ag.size r.ag.size)
  ·refine aW (Rc:=λW e i=>∃ C,e=.returned (.tuple #[.u 0,.bool false])/\Iv [n] W [⟨n,bL d.2.1 C _,[]⟩] i/\bz W.heap.size i.heap.size i (aH d.2.1 C)) Iv.eng {} 60 B c λW e E b A=>?_
   obtain ⟨C,rfl,k,q⟩:=A
   refine ⟨_,0,rfl,gE ba,?_⟩
   refine aJ (λ_=>True) ?_
   refine iO (Iv.one k.row1) {} 40 λz a g m=>⟨.tuple #[.u 0,.bool false],by rw [results_tmp2 rfl,m.slot (v:=.u 0) ba,m.slot (v:=.bool false) ba],C,rfl,(b.then1 k).then1 g,(nQ g q (Nat.lt_of_lt_of_le V b.ag.size)).low b.ag.size g.ag.size⟩
def zt (t:TV) (code addr:Int):TV:=if code != 0 then {t with up:=true,cz:=code,vl:=addr} else t
theorem Ue (zs:List Int) (addr kind:Int) (x:l.ld=.func (.func 40) #[] #[]) (h:ix ⟨n,bL p t l,[]⟩ M) (G:∀ W,Iv [n] M [⟨n,bL p t l,[]⟩] W->CB 234 #[.slice t.ac p.cs.length t.cc,.i p.pr,.i kind] W (.i J)) (s:∀ W,Iv [n] M [⟨n,bL p t l,[]⟩] W->Calls prog 40 #[.slice t.ar p.ram.length t.cr,.slice t.ac p.cs.length t.cc,.i J,.u addr,.i kind] W λe A=>∃ (b:Option Addr) (c:Nat),e=.returned (.tuple #[.u F,.i I,.slice b zs.length c])/\A.ownsRow W.heap.size 5 1 (.slice b zs.length c) zs.length (zs.map (Value.int .u8))/\Bw W A): Calls prog 212 #[.p n 0,.u addr,.i kind] M λe A=>∃ (b:Option Addr) (c:Nat),e=.returned (.tuple #[.u (if I != 0 then 0 else F),.bool (!(I != 0))])/\Iv [n] M [⟨n,bL {p with ram:=zs} {t with ar:=b,cr:=c} (zt l I addr),[]⟩] A/\A.ownsRow M.heap.size 5 1 (.slice b zs.length c) zs.length (zs.map (Value.int .u8)):=by
 have H:n<M.heap.size:=let ⟨_,d⟩:=h;(Array.getElem?_eq_some_iff.1 d).1;refine gq (args:=[.p n 0,.u addr,.i kind]) (Iv [n] M [⟨n,bL p t l,[]⟩]) func212 ?_;refine aN 0 1 ?_;refine aW Iv.eng {eq:=[(15,⟨_,_,0,x⟩)],cv:=[(37,jQ Iv.below G)]} 60 (Iv.one h) s λz e L B d=>?_;obtain ⟨b,c,rfl,code,u⟩:=d;have r:=B.below u;refine ⟨_,0,rfl,λ_=>r,?_⟩;refine ae (tw Iv.ez r) {} 60 (Dw.refl _) λE y=>?_;refine aJ (λ_=>True) ?_;have g:=r.dw y;have D:E.ownsRow M.heap.size 5 1 (.slice b zs.length c) zs.length (zs.map (Value.int .u8)):=by obtain ⟨j,rfl⟩:=y;exact eu (cF code B.ag.size) λk _=>rfl
 have keep:∀ {W V:World} {R:List Rw},Iv [n] W R V->W.ownsRow M.heap.size 5 1 (.slice b zs.length c) zs.length (zs.map (Value.int .u8))->V.ownsRow M.heap.size 5 1 (.slice b zs.length c) zs.length (zs.map (Value.int .u8)):=λ{W V R} k o=>eu o λi e=>k.ag.block i (o.lt i e).2 (by rw [List.mem_singleton];have:=(o.lt i e).1;omega);unfold zt;obtain ⟨q,f⟩:∃ q,(I != 0)=q:=⟨_,rfl⟩;rw [f];cases q with
 | true =>refine fN (R1:=[⟨n,bL {p with ram:=zs} {t with ar:=b,cr:=c} l,[]⟩]) (Iv.one g.row1) {eq:=[(50,ak f)]} 60 (λW s=>km I addr s.row1) λK e N C d=>⟨_,0,d.1,?_⟩;exact iO (Iv.one d.2.row1) {} 40 λto a m w=>⟨.tuple #[.u 0,.bool false],by rw [results_tmp2 rfl,w.slot (v:=.u 0) ba,w.slot (v:=.bool false) ba],b,c,rfl,((g.then1 C).then1 d.2).then1 m,keep m (keep d.2 (keep C D))⟩
 | false =>exact iO (R1:=[⟨n,bL {p with ram:=zs} {t with ar:=b,cr:=c} l,[]⟩]) (Iv.one g.row1) {eq:=[(50,ak f)]} 60 λto a m w=>⟨.tuple #[.u F,.bool true],by rw [results_tmp2 rfl,w.slot (v:=.u F) ba,w.slot (v:=.bool true) ba],b,c,rfl,g.then1 m,keep m D⟩
def pX (op a y:Int):Int:=if op=88\/op=91 then bits .or .u64 a y else if op=89\/op=92 then bits .andNot .u64 a y else y
theorem KB (h:ix ⟨n,bL p t l,[]⟩ M) (A:l.op=87\/l.op=88\/l.op=89\/l.op=90\/l.op=91\/l.op=92) (f:t.ax=some ⟨B,W,none⟩) (j:0<=l.ra/\l.ra<p.x.length) (hb:B≠n) (hx:M.cell? ⟨B,W+l.ra.toNat,none⟩=some (.u x)): Calls prog 217 #[.p n 0,.u F] M λe d=>e=.returned (.u (pX l.op F (if 90<=l.op then Uz.wrap l.ra else x)))/\Iv [n] M [⟨n,bL p t l,[]⟩] d:=by
 have i:∀ (o:Addr) v,o.block=B->M.cell? o=some v->∀ b,Iv [n] M [⟨n,bL p t l,[]⟩] b->b.cell? o=some v:=λo v w m b a=>by rw [<- m];simp only [World.cell?,a.ag.block o.block (lK m) (by rw [w];simpa using hb)]
 refine gq (args:=[.p n 0,.u F]) (Iv [n] M [⟨n,bL p t l,[]⟩]) func217 ?_;refine aN 0 1 ?_;rcases A with q | q | q | q | q | q;·exact bm (t:=4) (v:=.u x) Iv.eng {eq:=[(12,dP .i64 q),(24,dP .i64 q)],cv:=[(7,xA λb a=>L7 a.row1 f j hb (i _ _ rfl hx b a))]} 200 (Iv.one h) λd k=>⟨by simp [pX,q],k⟩
 ·exact bm (t:=4) (v:=.u (bits .or .u64 F x)) Iv.eng {eq:=[(12,dP .i64 q),(24,dP .i64 q)],cv:=[(7,xA λb a=>L7 a.row1 f j hb (i _ _ rfl hx b a))]} 200 (Iv.one h) λd k=>⟨by simp [pX,q],k⟩
 ·exact bm (t:=4) (v:=.u (bits .andNot .u64 F x)) Iv.eng {eq:=[(12,dP .i64 q),(24,dP .i64 q)],cv:=[(7,xA λb a=>L7 a.row1 f j hb (i _ _ rfl hx b a))]} 200 (Iv.one h) λd k=>⟨by simp [pX,q],k⟩
 ·exact bm (t:=4) (v:=.u (Uz.wrap l.ra)) Iv.eng {eq:=[(12,dP .i64 q),(24,dP .i64 q)],cv:=[(7,xA λb a=>L7 a.row1 f j hb (i _ _ rfl hx b a))]} 200 (Iv.one h) λd k=>⟨by simp [pX,q],k⟩
 ·exact bm (t:=4) (v:=.u (bits .or .u64 F (Uz.wrap l.ra))) Iv.eng {eq:=[(12,dP .i64 q),(24,dP .i64 q)],cv:=[(7,xA λb a=>L7 a.row1 f j hb (i _ _ rfl hx b a))]} 200 (Iv.one h) λd k=>⟨by simp [pX,q],k⟩
 ·exact bm (t:=4) (v:=.u (bits .andNot .u64 F (Uz.wrap l.ra))) Iv.eng {eq:=[(12,dP .i64 q),(24,dP .i64 q)],cv:=[(7,xA λb a=>L7 a.row1 f j hb (i _ _ rfl hx b a))]} 200 (Iv.one h) λd k=>⟨by simp [pX,q],k⟩
theorem Rf (m:Bool) (h:ix ⟨n,bL p t l,[]⟩ M) (v:∀ W,Iv [n] M [⟨n,bL p t l,[]⟩] W->Calls prog 249 #[.slice t.ac p.cs.length t.cc,.i p.pr,.bool (l.op==96)] W λe d=>∃ (a:Option Addr) (c:Nat),e=.returned (.tuple #[.slice a z.length c,.i F,.u I,.bool m])/\(m=true->d.ownsRow W.heap.size 22 1 (.slice a z.length c) z.length (z.map (Value.int .u64)))/\Bw W d): Calls prog 218 #[.p n 0] M λe d=>e=.returned (.tuple #[])/\if m then ∃ (a:Option Addr) (c:Nat),Iv [n] M [⟨n,bL {p with cs:=z,pr:=F} {t with ac:=a,cc:=c} {l with nx:=I},[]⟩] d/\d.ownsRow M.heap.size 22 1 (.slice a z.length c) z.length (z.map (Value.int .u64)) else Iv [n] M [⟨n,bL p t {l with up:=true,cz:=2,vl:=l.wd},[]⟩] d:=by
 have y:n<M.heap.size:=let ⟨_,b⟩:=h;(Array.getElem?_eq_some_iff.1 b).1;refine gq (args:=[.p n 0]) (Iv [n] M [⟨n,bL p t l,[]⟩]) func218 ?_;refine aN 0 1 ?_;refine aW Iv.eng {} 60 (Iv.one h) v λB e E r b=>?_;obtain ⟨a,c,rfl,cs,w⟩:=b;have f:=r.below w;refine ⟨_,0,rfl,λ_=>f,?_⟩;cases m with
 | true =>refine ae (tw Iv.ez f) {} 60 (Dw.refl _) λg q=>?_;refine aJ (λ_=>True) ?_;have A:=f.dw q;have o:g.ownsRow M.heap.size 22 1 (.slice a z.length c) z.length (z.map (Value.int .u64)):=(by obtain ⟨j,rfl⟩:=q;exact eu (cF (cs rfl) r.ag.size) λk _=>rfl);exact gx (R1:=[⟨n,bL {p with cs:=z,pr:=F} {t with ac:=a,cc:=c} {l with nx:=I},[]⟩]) (Iv.one A.row1) {} 60 λC s=>⟨rfl,a,c,A.then1 s,eu o λi e=>s.ag.block i (o.lt i e).2 (by rw [List.mem_singleton];have:=(o.lt i e).1;omega)⟩
 | false =>refine aW Iv.eng {} 60 f (λW x=>pz x.row1) λg e pr A b=>⟨_,0,b.1,gE ba,?_⟩;refine aJ (λ_=>True) ?_;exact px (Iv.one b.2.row1) {} 40 λD u=>⟨rfl,(A.then1 b.2).then1 u⟩
theorem mx {P:Program} {S:World->Prop} {fn:Func} {Rs:Ending->World->Prop} {k:List KI} {F:Fr} (H:Hn P (λx=>x=M) (λx=>x=M)) (m:Nat) (hx:(io k,(bq P [] H n false m k F).1.1,io (bq P [] H n false m k F).1.2.1,(bq P [] H n false m k F).1.2.1.isEmpty)=(true,false,true,true)) (he:(bq P [] H n false m k F).2.map Prod.fst=(bq P [] H n false m k F).2.map Prod.snd) (hr:fn.results=#[]) (h:Rs (.returned (.tuple #[])) M):Wg P S (bodyPost P fn Rs) n k F M:=by simp only [Prod.mk.injEq] at hx;refine an (R:=[]) (by simp [iq]) H m (hx:=by rw [hx.1,hx.2.1,hx.2.2.1]) (he:=he) λa b=>?_;rw [List.isEmpty_iff.1 hx.2.2.2];exact bodyPost_end (results_none hr _ _ _) b.nod h
theorem Om (h:ix ⟨n,bL p t l,[]⟩ M) (q:l.op=93):Calls prog 164 #[.p n 0] M λe d=>e=.returned (.tuple #[])/\Iv [n] M [⟨n,bL p t {l with up:=true,cz:=IntKind.i64.wrap (8+p.pr),vl:=0},[]⟩] d:=by refine gq (args:=[.p n 0]) (λ_=>True) func164 ?_;refine aN 0 1 ?_;refine fN (Iv.one h) {eq:=[(6,dP .i64 q)]} 80 (R1:=[⟨n,bL p t l,[]⟩]) (λW a=>km (IntKind.i64.wrap (8+p.pr)) 0 a.row1) λW e d a c=>⟨_,0,c.1,?_⟩;exact gx (Iv.one c.2.row1) {} 40 λW' b=>⟨rfl,(a.then1 c.2).then1 b⟩
theorem KD (h:ix ⟨n,bL p t l,[]⟩ M) (q:l.op=94):Calls prog 164 #[.p n 0] M λe d=>e=.returned (.tuple #[])/\Iv [n] M [⟨n,bL p t {l with up:=true,cz:=3,vl:=p.pc},[]⟩] d:=by refine gq (args:=[.p n 0]) (λ_=>True) func164 ?_;refine aN 0 1 ?_;refine fN (Iv.one h) {eq:=[(6,dP .i64 q)]} 80 (R1:=[⟨n,bL p t l,[]⟩]) (λW a=>km 3 p.pc a.row1) λW e d a c=>⟨_,0,c.1,?_⟩;exact gx (Iv.one c.2.row1) {} 40 λW' b=>⟨rfl,(a.then1 c.2).then1 b⟩
theorem On (h:ix ⟨n,bL p t l,[]⟩ M) (q:l.op=97\/l.op=98):Calls prog 164 #[.p n 0] M λe f=>e=.returned (.tuple #[])/\Iv [n] M [⟨n,if p.pr==0 then bL p t {l with up:=true,cz:=2,vl:=l.wd} else bL {p with wt:=l.op==97} t l,[]⟩] f:=by
 refine gq (args:=[.p n 0]) (λ_=>True) func164 ?_;refine aN 0 1 ?_;obtain ⟨g,c⟩:∃ g,(p.pr==0)=g:=⟨_,rfl⟩;rw [c];cases g with
 | true =>
   rcases q with q|q;all_goals
    refine fN (Iv.one h) {eq:=[(6,dP .i64 q),(39,ak c)]} 80 (R1:=[⟨n,bL p t l,[]⟩]) (λW b=>pz b.row1) λW e f b d=>⟨_,0,d.1,?_⟩
    exact px (Iv.one d.2.row1) {} 40 λW' a=>⟨rfl,(b.then1 d.2).then1 a⟩
 | false =>rcases q with q | q;all_goals exact gx (R1:=[⟨n,bL {p with wt:=l.op==97} t l,[]⟩]) (Iv.one h) {eq:=[(6,dP .i64 q),(39,ak c)]} 80 λW' a=>⟨rfl,a⟩
theorem KE {Rc:World->Ending->World->Prop} (h:ix ⟨n,bL p t l,[]⟩ M) (q:l.op=95\/l.op=96) (d:∀ W,Iv [n] M [⟨n,bL p t l,[]⟩] W->Calls prog 218 #[.p n 0] W (Rc W)) (f:∀ W e a,Iv [n] M [⟨n,bL p t l,[]⟩] W->Rc W e a->e=.returned (.tuple #[])):Calls prog 164 #[.p n 0] M λe a=>e=.returned (.tuple #[])/\∃ W,Iv [n] M [⟨n,bL p t l,[]⟩] W/\Rc W e a:=by
 refine gq (args:=[.p n 0]) (λ_=>True) func164 ?_;refine aN 0 1 ?_;rcases q with q | q;all_goals
  refine fN (Iv.one h) {eq:=[(6,dP .i64 q)]} 80 (R1:=[⟨n,bL p t l,[]⟩]) d λW e a b c=>?_
  obtain rfl:=f W e a b c
  exact ⟨_,0,rfl,mx {} 40 ba ba rfl ⟨rfl,W,b,c⟩⟩
end Go.Proofs.YtjifdmoehfbihaaGreatDoor
