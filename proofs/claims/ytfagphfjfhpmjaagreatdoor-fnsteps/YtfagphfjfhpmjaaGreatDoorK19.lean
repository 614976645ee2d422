/- Own lemmas. -/
import Derived.Test.YtfagphfjfhpmjaaGreatDoorAut
import Derived.Test.YtfagphfjfhpmjaaGreatDoorK16
import Derived.Test.YtfagphfjfhpmjaaGreatDoorK17
set_option maxRecDepth 100000
set_option maxHeartbeats 12800000
namespace Go.Proofs.YtfagphfjfhpmjaaGreatDoor
open Go.RowKit Tryz
open IntKind renaming u64->Uz
set_option linter.unusedVariables false
variable {n p B w:World} {k l W:Nat} {M c:Int} {g:Array Value} {A:List Int} {V:List Rw} {x:MV} {b:List FRow} {r:Fd} {R:TypeId} {E:Value} {L:MA} {a:List Nat} {e:Option Addr} {t:List Value} {v:Addr} (y:MV) (m:MA) (q:Option Addr) (s:List Int) (d f:Nat) (j:List Int) (o:Option Addr) (F P:Nat) (S:List Int) (T z C D:Int) (G:World)
def zg (zs:List Int) (n:Nat) (l:List Int) (p va k e x:Int) (lv:Nat):Fd :=
 if mz e=true then (if jk e lv=true then bW k else bO zs n l p va k (lv-1) (Uz.wrap (ew e*4096))) else dp l p va k e x lv
theorem zh (lv:Nat): (qm s d j C (bK D z lv)=gC (dL C)/\bO s d j T z C lv D=fK C)\/(qm s d j C (bK D z lv)=gC (eu C)/\bO s d j T z C lv D=bW C) \/ (qm s d j C (bK D z lv)=.returned (.tuple #[.u (bK D z lv),.u (fE s (bK D z lv))])/\gB d (bK D z lv) 8=true/\bO s d j T z C lv D=zg s d j T z C (fE s (bK D z lv)) (bK D z lv) lv):=by
 rw [gL];unfold qm zg;generalize bK D z lv=x;by_cases a:gB d x 8=true
 ·rw [if_pos a,if_pos a];by_cases b:aB j 1 x (bo x 8) 2 4 0=true
  ·rw [if_pos b,if_pos b];by_cases c:pL (fE s x)=true;·rw [if_pos c,if_pos c];exact .inr (.inl ⟨rfl,rfl⟩)
   ·rw [if_neg c,if_neg c];exact .inr (.inr ⟨rfl,a,rfl⟩)
  ·rw [if_neg b,if_neg b];exact .inl ⟨rfl,rfl⟩
 ·rw [if_neg a,if_neg a];exact .inl ⟨rfl,rfl⟩
def Qu (V:Fd) (zs:List Int) (n:Nat) (w:World) (r:Ending) (w':World):Prop :=
 if V.code=0 then ∃ (a:Option Addr) (c:Nat),r=.returned (.tuple #[.u V.addr,.slice a n c])/\l4 w w' (bx zs V) a n c else r=gC V.code/\Bw w w'
theorem rF (h:r=bW M) (b:1<=M) (c:M<=3) (hb:Bw n p):Qu r A k n (gC (eu M)) p:=by
 subst h;have a:M=1\/M=2\/M=3:=ab
 unfold Qu;rw [if_neg];·exact ⟨rfl,hb⟩
 ·rcases a with rfl|rfl|rfl<;>decide
theorem xi (h:r=fK M) (b:1<=M) (c:M<=3) (hb:Bw n p):Qu r A k n (gC (dL M)) p:=by
 subst h;have a:M=1\/M=2\/M=3:=ab
 unfold Qu;rw [if_neg];·exact ⟨rfl,hb⟩
 ·rcases a with rfl|rfl|rfl<;>decide
theorem Ib {b:List Int} (h:r.code=0) (d:r.addr=M) (hm:bx A r=b) (a:l4 n p b e k l):Qu r A k n (.returned (.tuple #[.u M,.slice e k l])) p:=by unfold Qu;rw [if_pos h,d,hm];exact ⟨_,_,rfl,a⟩
theorem Qv {va lv e x:Int} (h:(mA e k||gJ A lv e||gK A M lv e)=true):dp A M va lv e x k=bW lv:=by
 unfold dp;cases a:mA e k
 ·cases b:gJ A lv e
  ·cases c:gK A M lv e;·rw [a,b,c] at h;cases h
   ·rfl
  ·rfl
 ·rfl
theorem Qw {va lv e x:Int} (h:(mA e k||gJ A lv e||gK A M lv e)=false):mA e k=false /\ dp A M va lv e x k=(if (cF e lv != e)=true then (if aB A 1 x (bo x 8) 3 4 0=true then ⟨gE e va k,0,true,x,cF e lv⟩ else fK lv) else ⟨gE e va k,0,false,0,0⟩):=by
 unfold dp;cases a:mA e k
 ·cases b:gJ A lv e
  ·cases c:gK A M lv e;·exact ⟨rfl,rfl⟩
   ·rw [a,b,c] at h;cases h
  ·rw [a,b] at h;cases h
 ·rw [a] at h;cases h
theorem NR (zs:List Int) (b n y:Nat) (l:List Int) (p va k:Int) (w:World) (W:Wk w d f F zs b n y l p va k): Calls prog 110 #[.agg #[.slice (some ⟨d,0,none⟩) f F,.slice (some ⟨b,n,none⟩) 22 y,.i p,.u va,.i k]] w λr g=>Qu (ct zs f l p va k) zs f w r g:=by
 have HW:Hid (Wk w d f F zs b n y l p va k):=W;have hbd:=gq W.hr;have hB0:∀ o m,Bw w ((w.alloc o).drewN m):=λo m=>gW (bal _ _) m;have c15:∀ o,(w.alloc o).cell? ⟨b,n+15,none⟩=some (.u (l.getD 15 0)):=λo=>(W.below (hB0 o 0)).at 15 ab;have us:=W.hU 15;have HPF:Hid (∀ w,Calls prog 154 #[.agg #[.slice (some ⟨d,0,none⟩) f F,.slice (some ⟨b,n,none⟩) 22 y,.i p,.u va,.i k]] w λe g=>e=gC (eu k)/\Bw w g):=λw=>kj _ _ _ _ _ _ _ _ W.hk1 W.hk3 w;have HB60:Hid (∀ w,Calls prog 76 #[.u (l.getD 15 0),.i 60,.i 4] w λr g=>r=.returned (.u (dc (l.getD 15 0) 60 4))/\g=w.drew):=λw=>bG _ 60 4 us.1 us.2 ab ab w;have HB0:Hid (∀ w,Calls prog 76 #[.u (l.getD 15 0),.i 0,.i 44] w λr g=>r=.returned (.u (dc (l.getD 15 0) 0 44))/\g=w.drew):=λw=>bG _ 0 44 us.1 us.2 ab ab w;have HWD:Hid (∀ w,Calls prog 153 #[.u va,.i 39] w λr g=>r=.returned (.u (au 39 va))/\∃ m,g=w.drewN m):=λw=>(iQ va 39 ab ab w).mono λ_ _ h=>⟨h.1,0,h.2⟩;have FT:Hid (Uz.wrap (dc (l.getD 15 0) 0 44*4096)=kW l):=SW l us;have FV:ct zs f l p va k=if ((p==3)||(dc (l.getD 15 0) 60 4==0))=true then ⟨va,0,false,0,0⟩ else if (au 39 va != va)=true then bW k else bO zs f l p va k 2 (kW l):=by rw [P4 _ us];rfl
 have HPV:Hid (bZ p=true):=(gF W.hg).2;generalize ct zs f l p va k=V at *;generalize l.getD 15 0=s at *;obtain ⟨P,hP⟩:∃ P:World->Prop,P=λg=>g.heap[w.heap.size]?=some (.cells #[.slice (some ⟨d,0,none⟩) f F,.slice (some ⟨b,n,none⟩) 22 y,.i p,.u va,.i k] 136 (0,0))/\Bw w g:=⟨_,rfl⟩;have B:Hid (∀ g,P g->g.heap[w.heap.size]?=some (.cells #[.slice (some ⟨d,0,none⟩) f F,.slice (some ⟨b,n,none⟩) 22 y,.i p,.u va,.i k] 136 (0,0))/\Bw w g):=by subst hP;exact λg h=>h
 have PI:Hid (∀ g,g.heap[w.heap.size]?=some (.cells #[.slice (some ⟨d,0,none⟩) f F,.slice (some ⟨b,n,none⟩) 22 y,.i p,.u va,.i k] 136 (0,0))->Bw w g->P g):=by subst hP;exact λg h t=>⟨h,t⟩
 clear hP;have P0:Hid (∀ m,P ((w.alloc (.cells #[.slice (some ⟨d,0,none⟩) f F,.slice (some ⟨b,n,none⟩) 22 y,.i p,.u va,.i k] 136)).drewN m)):=λm=>PI.out _ (heap_alloc_new w _) (hB0 _ _);have PB:Hid (∀ M w2,P M->Bw M w2->P w2):=λM w2 h hb=>PI.out _ (fT hb (B.out _ h).1) (aa (B.out _ h).2 hb);have PD:Hid (∀ M,P M->P M.drew):=λM h=>PB.out _ _ h (gW (Below.refl _ _) 1);have u:Hid (∀ g,P g->(g.cell? ⟨w.heap.size,0,none⟩=some (.slice (some ⟨d,0,none⟩) f F)/\g.cell? ⟨w.heap.size,1,none⟩=some (.slice (some ⟨b,n,none⟩) 22 y)/\g.cell? ⟨w.heap.size,2,none⟩=some (.i p)/\g.cell? ⟨w.heap.size,3,none⟩=some (.u va)/\g.cell? ⟨w.heap.size,4,none⟩=some (.i k))/\P g):=λg h=>⟨lZ (B.out _ h).1,h⟩;have HCL:Hid (∀ g,P g->Calls prog 49 #[.slice (some ⟨d,0,none⟩) f F] g λr j=>∃ (G:Option Addr) (c:Nat),r=.returned (.slice G f c)/\Hid (l4 w j zs G f c)/\P j):=λg h=>(qn d f F zs g W.hz ab ab (W.hs.below (B.out _ h).2)).mono λr j ⟨G,c,e1,e2,e3⟩=>⟨G,c,e1,⟨cG e2 (B.out _ h).2.size,aa (B.out _ h).2 e3⟩,PB.out _ _ h e3⟩;have N:Hid (1<=k/\k<=3):=⟨W.hk1,W.hk3⟩;have HEN:Hid (∀ (T:Int) (q:Nat) (g:World),q<=2->P g->Calls prog 155 #[.agg #[.slice (some ⟨d,0,none⟩) f F,.slice (some ⟨b,n,none⟩) 22 y,.i p,.u va,.i k],.u T,.i (q:Int)] g λe j=>e=qm zs f l k (bK T va q)/\P j):=λT q g J h=>(C9 d f F zs b n y l p va k T q J g (W.below (B.out _ h).2)).mono λr j t=>⟨t.1,PB.out _ _ h t.2⟩;have HTB:Hid (∀ (e:Int) (q:Nat) (g:World),U e->P g->Calls prog 157 #[.agg #[.slice (some ⟨d,0,none⟩) f F,.slice (some ⟨b,n,none⟩) 22 y,.i p,.u va,.i k],.u e,.i (q:Int)] g λr j=>r=J9 k e q/\P j):=λe q g he h=>(Da d f F b n y p va k e q he W.hk1 W.hk3 g).mono λr j t=>⟨t.1,PB.out _ _ h t.2⟩;have HCK:Hid (p=0\/p=1->∀ (e:Int) (q:Nat) (g:World),q<=2->U e->P g->Calls prog 158 #[.agg #[.slice (some ⟨d,0,none⟩) f F,.slice (some ⟨b,n,none⟩) 22 y,.i p,.u va,.i k],.u e,.i (q:Int)] g λr j=>r=FC l p k e q/\P j):=λhp e q g J he h=>(xQ d f F zs b n y l p va k e q J he hp g (W.below (B.out _ h).2)).mono λr j t=>⟨t.1,PB.out _ _ h t.2⟩;have HPL:Hid (∀ (e:Int) (q:Nat),q<=2->U e->mA e q=false->∀ (g:World),P g->Calls prog 159 #[.agg #[.slice (some ⟨d,0,none⟩) f F,.slice (some ⟨b,n,none⟩) 22 y,.i p,.u va,.i k],.u e,.i (q:Int)] g λr j=>r=.returned (.u (gE e va q))/\P j):=λe q J he h0 g h=>(Qd d f F b n y p va k e q J he W.hva h0 g).mono λr j t=>⟨t.1,PB.out _ _ h t.2⟩;have HMN:Hid (∀ (e x:Int),U e->(cF e k != e)=false->∀ (g:World),P g->Calls prog 160 #[.agg #[.slice (some ⟨d,0,none⟩) f F,.slice (some ⟨b,n,none⟩) 22 y,.i p,.u va,.i k],.u x,.u e] g λr j=>∃ (G:Option Addr) (c:Nat),r=.returned (.slice G f c)/\Hid (l4 w j zs G f c)/\P j):=λe x he hm g h=>(Ka d f F zs b n y l p va k e x he hm g (W.below (B.out _ h).2)).mono λr j ⟨G,c,e1,e2,e3⟩=>⟨G,c,e1,⟨cG e2 (B.out _ h).2.size,aa (B.out _ h).2 e3⟩,PB.out _ _ h e3⟩;have HMY:Hid (∀ (e x:Int),U e->gB f x 8=true->(cF e k != e)=true->aB l 1 x (bo x 8) 3 4 0=true->∀ (g:World),P g->Calls prog 160 #[.agg #[.slice (some ⟨d,0,none⟩) f F,.slice (some ⟨b,n,none⟩) 22 y,.i p,.u va,.i k],.u x,.u e] g λr j=>∃ (G:Option Addr) (c:Nat),r=.returned (.slice G f c)/\Hid (l4 w j (km zs (x-2147483648).toNat (cF e k) 8) G f c)/\P j):=λe x he hx hm hp g h=>(xa d f F zs b n y l p va k e x he hx hm g (W.below (B.out _ h).2)).mono λr j t=>by unfold Ny at t;rw [if_pos hp] at t;obtain ⟨G,c,e1,e2,e3⟩:=t;exact ⟨G,c,e1,⟨cG e2 (B.out _ h).2.size,aa (B.out _ h).2 e3⟩,PB.out _ _ h e3⟩
 have HMF:Hid (∀ (e x:Int),U e->gB f x 8=true->(cF e k != e)=true->aB l 1 x (bo x 8) 3 4 0=false->∀ (g:World),P g->Calls prog 160 #[.agg #[.slice (some ⟨d,0,none⟩) f F,.slice (some ⟨b,n,none⟩) 22 y,.i p,.u va,.i k],.u x,.u e] g λr j=>r=.panicked [{v:=.iface 189 (.i (dL k)),recovered:=false}]/\P j):=λe x he hx hm hp g h=>(xa d f F zs b n y l p va k e x he hx hm g (W.below (B.out _ h).2)).mono λr j t=>by unfold Ny at t;rw [if_neg (by rw [hp];decide)] at t;exact ⟨t.1,PB.out _ _ h t.2⟩
 have HLF:Hid (∀ (e:Int) (g:World),U e->CE 156 #[.u e] g (.bool (!mz e))):=λe g he=>FA e he g;have HU:Hid (∀ x,U (fE zs x)):=λx=>Rf zs W.hw x;clear W;cases t1:(p==3) with
 | true =>have R:V=⟨va,0,false,0,0⟩:=(by rw [t1] at FV;exact FV.trans (if_pos rfl));have D:Hid (V.code=0/\V.addr=va/\bx zs V=zs):=sv;clear R FV;go_enter func110,ntmps110;go_wp2_with fail;have p0:=P0.out 0;obtain ⟨⟨X,Y,Z,k3,k4⟩,_⟩:=u.out _ p0;go_region_held3 (λg=>(g.cell? ⟨w.heap.size,0,none⟩=some (.slice (some ⟨d,0,none⟩) f F)/\g.cell? ⟨w.heap.size,1,none⟩=some (.slice (some ⟨b,n,none⟩) 22 y)/\g.cell? ⟨w.heap.size,2,none⟩=some (.i p)/\g.cell? ⟨w.heap.size,3,none⟩=some (.u va)/\g.cell? ⟨w.heap.size,4,none⟩=some (.i k))/\P g) (first | exact u.out _ (PD.out _ fr) | exact u.out _ fr) (first | (go_at_call 49;with_reducible refine (HCL.out _ ?_).mono ?_;(first | assumption | (exact PD.out _ fr) | (exact And.right fr));rintro e w8 ⟨G,c,rfl,fr8,p8⟩));go_wp2_with fail;go_ret2;exact Ib D.out.1 D.out.2.1 D.out.2.2 fr8.out
 | false =>
   have hp01:p=0\/p=1:=(by have O:=HPV.out;have t:¬ p=3:=(by simpa using t1);unfold bZ at O;simp only [Bool.or_eq_true,beq_iff_eq] at O;omega);have HCK2:=HCK.out hp01;have HCK3:Hid (∀ (e:Int) (q:Nat) (g:World),q<=2->U e->P g->Calls prog 158 #[.agg #[.slice (some ⟨d,0,none⟩) f F,.slice (some ⟨b,n,none⟩) 22 y,.i p,.u va,.i k],.u e,.i (q:Int)] g λr j=>r=FC l p k e q/\P j):=HCK2;clear HCK HCK2 hp01 HPV;rw [t1] at FV;cases t2:(dc s 60 4==0) with
   | true =>have R:V=⟨va,0,false,0,0⟩:=(by rw [t2] at FV;exact FV.trans (if_pos rfl));have D:Hid (V.code=0/\V.addr=va/\bx zs V=zs):=sv;clear R FV;go_enter func110,ntmps110;go_wp2_with fail;refine (HB60.out _).mono ?_;rintro r M ⟨rfl,L⟩;have p1:P M:=(by rw [L];exact P0.out 1);have H:Hid (P M):=p1;clear L c15 p1;obtain ⟨⟨X,Y,Z,k3,k4⟩,_⟩:=u.out _ H.out;go_wp2_with fail;have p0:=H.out;go_region_held3 (λg=>(g.cell? ⟨w.heap.size,0,none⟩=some (.slice (some ⟨d,0,none⟩) f F)/\g.cell? ⟨w.heap.size,1,none⟩=some (.slice (some ⟨b,n,none⟩) 22 y)/\g.cell? ⟨w.heap.size,2,none⟩=some (.i p)/\g.cell? ⟨w.heap.size,3,none⟩=some (.u va)/\g.cell? ⟨w.heap.size,4,none⟩=some (.i k))/\P g) (first | exact u.out _ (PD.out _ fr) | exact u.out _ fr) (first | (go_at_call 49;with_reducible refine (HCL.out _ ?_).mono ?_;(first | assumption | (exact PD.out _ fr) | (exact And.right fr));rintro e w8 ⟨G,c,rfl,fr8,p8⟩));go_wp2_with fail;go_ret2;exact Ib D.out.1 D.out.2.1 D.out.2.2 fr8.out
   | false =>
     rw [t2] at FV;have FV1:V=if (au 39 va != va)=true then bW k else bO zs f l p va k 2 (kW l):=FV.trans (if_neg bc)
     clear FV;cases t3:(au 39 va != va) with
     | true =>
       have D:Hid (V=bW k):=(by rw [t3] at FV1;exact FV1.trans (if_pos rfl));clear FV1;go_enter func110,ntmps110;go_wp2_with fail;refine (HB60.out _).mono ?_;rintro r M ⟨rfl,L⟩;have p1:P M:=(by rw [L];exact P0.out 1);have H:Hid (P M):=p1;clear L c15 p1;obtain ⟨⟨X,Y,Z,k3,k4⟩,_⟩:=u.out _ H.out;go_wp2_with fail;go_quiet (first | (go_at_call 153;with_reducible refine Calls.quiet_of (HWD.out _)))
       go_wp2_with fail;refine (HPF.out _).mono ?_;rintro r w3 ⟨rfl,hb3⟩;exact ⟨rfl,rF D.out N.out.1 N.out.2 (aa (gW (B.out _ H.out).2 _) hb3)⟩
     | false =>
       have R:Hid (bO zs f l p va k 2 (kW l)=V):=(by rw [t3] at FV1;exact (FV1.trans (if_neg bc)).symm);clear FV1;have Q:=zh zs f l p va k (kW l) 2;rw [R.out] at Q;have EC1:=dQ Q;clear Q R;go_enter func110,ntmps110;go_wp2_with fail;refine (HB60.out _).mono ?_;rintro r M ⟨rfl,L⟩;have p1:P M:=(by rw [L];exact P0.out 1);have H:Hid (P M):=p1;clear L c15 p1;obtain ⟨⟨X,Y,Z,k3,k4⟩,_⟩:=u.out _ H.out;go_wp2_with fail;go_quiet (first | (go_at_call 153;with_reducible refine Calls.quiet_of (HWD.out _)))
       go_wp2_with fail;refine (HB0.out _).mono ?_;rintro r w6 ⟨rfl,hw6⟩;have p6:P w6:=(by rw [hw6];exact PD.out _ (PB.out _ _ H.out (gW (Below.refl _ _) _)));have HP6:Hid (P w6):=p6;clear hw6 p6 X Y Z k3 k4;obtain ⟨⟨X,Y,Z,k3,k4⟩,_⟩:=u.out _ HP6.out;go_wp2_with fail;rw [FT.out];refine (HEN.out (kW l) 2 _ ab HP6.out).mono ?_;rintro r w2 ⟨z,p2⟩;have HP2:Hid (P w2):=p2;clear p2 X Y Z k3 k4;rcases EC1.out with ⟨O,t⟩|⟨O,t⟩|⟨O,t,h3⟩;·rw [O] at z;subst z;exact ⟨rfl,xi t N.out.1 N.out.2 (B.out _ HP2.out).2⟩
       ·rw [O] at z;subst z;exact ⟨rfl,rF t N.out.1 N.out.2 (B.out _ HP2.out).2⟩
       ·rw [O] at z;subst z;have HX:Hid (gB f (bK (kW l) va 2) 8=true):=t;have HV:Hid (V=zg zs f l p va k (fE zs (bK (kW l) va 2)) (bK (kW l) va 2) 2):=h3;have C:=dQ (HU.out (bK (kW l) va 2));clear O t h3 EC1;generalize fE zs (bK (kW l) va 2)=e0 at *;generalize bK (kW l) va 2=x0 at *;obtain ⟨⟨X,Y,Z,k3,k4⟩,_⟩:=u.out _ HP2.out;go_wp2_with fail;clear X Y Z k3 k4;go_loopw [6,7,8] (λlvv av ev wr=>∃ (q:Nat) (x e:Int),q<=2/\lvv=.i q/\av=.u x/\ev=.u e/\Hid (U e)/\Hid (gB f x 8=true)/\Hid (V=zg zs f l p va k e x q)/\Hid (P wr)) (λlvv _ _ _=>(intOf lvv).toNat);case atStart=>exact ⟨2,x0,e0,ab,rfl,rfl,rfl,C,HX,HV,HP2⟩
        case round =>
         clear C HX HV HP2;obtain ⟨q,x,e,J,rfl,rfl,rfl,C,HX,HV,HP⟩:=hrel;obtain ⟨⟨X,Y,Z,k3,k4⟩,_⟩:=u.out _ HP.out;go_wp2_with fail;refine (HLF.out e _ C.out).mono ?_;rintro r w3 ⟨rfl,hw3⟩;have hw3':=hw3.symm;subst hw3';cases tp:mz e with
         | true =>
           have E:V=if jk e q=true then bW k else bO zs f l p va k (q-1) (Uz.wrap (ew e*4096)):=HV.out.trans (by unfold zg;rw [tp];exact if_pos rfl)
           clear HV;have TE:J9 k e q=if jk e q=true then gC (eu k) else .returned (.u (Uz.wrap (ew e*4096))):=rfl
           have HTB2:=dQ (HTB.out e q wr C.out HP.out);generalize J9 k e q=te at *;cases ts:jk e q with
           | true =>have A:Hid (V=bW k):=E.trans (if_pos ts);have TE2:Hid (te=gC (eu k)):=TE.trans (if_pos ts);clear E TE;go_wp2_with fail;refine HTB2.out.mono ?_;rintro r w4 ⟨z,p4⟩;rw [TE2.out] at z;subst z;exact ⟨rfl,rF A.out N.out.1 N.out.2 (B.out _ p4).2⟩
           | false =>
             have tsn:¬ jk e q=true:=(by rw [ts];decide);have A:Hid (V=bO zs f l p va k (q-1) (Uz.wrap (ew e*4096))):=E.trans (if_neg tsn);have TE2:Hid (te=.returned (.u (Uz.wrap (ew e*4096)))):=TE.trans (if_neg tsn);clear E TE tsn;have h0:1<=q:=by
              rcases Nat.eq_zero_or_pos q with h|h;·subst h;have:jk e 0=true:=rfl;rw [this] at ts;cases ts
              ·exact h
             obtain ⟨m,hm⟩:∃ m,q=m+1:=⟨q-1,ab⟩;have HM:Hid ((q:Int)-1=(m:Int)):=(by show _=_;omega);have Q:=zh zs f l p va k (Uz.wrap (ew e*4096)) m;have I:=A.out;rw [show q-1=m from ab] at I;rw [<- I] at Q;have EC1:=dQ Q;have HMB:=dQ (show m<=2/\m<q from ⟨ab,ab⟩);clear Q A I hm;generalize Uz.wrap (ew e*4096)=T at *;go_wp2_with fail;refine HTB2.out.mono ?_;rintro r w4 ⟨z,p4⟩;rw [TE2.out] at z;subst z;have HP4:Hid (P w4):=p4;clear p4 X Y Z k3 k4;obtain ⟨⟨X,Y,Z,k3,k4⟩,_⟩:=u.out _ HP4.out;go_wp2_with fail;rw [HM.out];refine (HEN.out T m _ HMB.out.1 HP4.out).mono ?_;rintro r w5 ⟨z,p5⟩;have HP5:Hid (P w5):=p5;clear p5 X Y Z k3 k4;rcases EC1.out with ⟨O,t⟩|⟨O,t⟩|⟨O,t,h3⟩;·rw [O] at z;subst z;exact ⟨rfl,xi t N.out.1 N.out.2 (B.out _ HP5.out).2⟩
             ·rw [O] at z;subst z;exact ⟨rfl,rF t N.out.1 N.out.2 (B.out _ HP5.out).2⟩
             ·rw [O] at z;subst z;have HX5:=dQ t;have HV5:=dQ h3;have HU5:=dQ (HU.out (bK T va m));clear O t h3 EC1;generalize fE zs (bK T va m)=e5 at *;generalize bK T va m=x5 at *;go_wp2_with fail;go_roundw;case rel=>exact ⟨m,x5,e5,HMB.out.1,rfl,rfl,rfl,HU5,HX5,HV5,HP5⟩
              case measure=>have:=HMB.out.2;simp [intOf];omega
         | false =>
           have E:V=dp l p va k e x q:=HV.out.trans (by unfold zg;rw [tp];exact if_neg bc);have CE:FC l p k e q=if (mA e q||gJ l k e||gK l p k e)=true then gC (eu k) else .returned (.tuple #[]):=rfl
           have HCK4:=dQ (HCK3.out e q wr J C.out HP.out);clear HV HCK3;generalize FC l p k e q=ce at *;cases tc:(mA e q||gJ l k e||gK l p k e) with
           | true =>have A:=dQ (E.trans (Qv tc));have CE2:Hid (ce=gC (eu k)):=CE.trans (if_pos tc);clear E CE tc;go_wp2_with fail;refine HCK4.out.mono ?_;rintro r w4 ⟨z,p4⟩;rw [CE2.out] at z;subst z;exact ⟨rfl,rF A.out N.out.1 N.out.2 (B.out _ p4).2⟩
           | false =>
             obtain ⟨hoff,hlf⟩:=Qw (va:=va) (x:=x) tc;have A:=E.trans hlf;have CE2:Hid (ce=.returned (.tuple #[])):=CE.trans (if_neg (by rw [tc];decide));have HPL2:=dQ (HPL.out e q J C.out hoff);clear E CE tc hlf hoff;generalize gE e va q=ad at *;go_wp2_with fail;refine HCK4.out.mono ?_;rintro r w4 ⟨z,p4⟩;rw [CE2.out] at z;subst z;clear X Y Z k3 k4;obtain ⟨⟨X,Y,Z,k3,k4⟩,_⟩:=u.out _ p4;cases tm:(cF e k != e) with
             | false =>have HM2:=dQ (HMN.out e x C.out tm);have R:V=⟨ad,0,false,0,0⟩:=A.trans (by rw [tm];exact if_neg bc);have D:Hid (V.code=0/\V.addr=ad/\bx zs V=zs):=sv;clear R A tm;go_wp2_with fail;go_region_held3 (λg=>(g.cell? ⟨w.heap.size,0,none⟩=some (.slice (some ⟨d,0,none⟩) f F)/\g.cell? ⟨w.heap.size,1,none⟩=some (.slice (some ⟨b,n,none⟩) 22 y)/\g.cell? ⟨w.heap.size,2,none⟩=some (.i p)/\g.cell? ⟨w.heap.size,3,none⟩=some (.u va)/\g.cell? ⟨w.heap.size,4,none⟩=some (.i k))/\P g) (first | exact u.out _ (PD.out _ fr) | exact u.out _ fr) (first | (go_at_call 159;with_reducible refine (HPL2.out _ ?_).mono ?_;(first | assumption | (exact PD.out _ fr) | (exact And.right fr));rintro r w8 ⟨rfl,p8⟩) | (go_at_call 160;with_reducible refine (HM2.out _ ?_).mono ?_;(first | assumption | (exact PD.out _ fr) | (exact And.right fr));rintro r w9 ⟨G,c,rfl,fr9,p9⟩));go_wp2_with fail;go_ret2;exact Ib D.out.1 D.out.2.1 D.out.2.2 fr9.out
             | true =>
               have I:V=if aB l 1 x (bo x 8) 3 4 0=true then ⟨ad,0,true,x,cF e k⟩ else fK k:=A.trans (by rw [tm];exact if_pos rfl)
               clear A;cases tr:aB l 1 x (bo x 8) 3 4 0 with
               | true =>have HM2:=dQ (HMY.out e x C.out HX.out tm tr);have R:V=⟨ad,0,true,x,cF e k⟩:=I.trans (by rw [tr];exact if_pos rfl);have D:Hid (V.code=0/\V.addr=ad/\bx zs V=km zs (x-2147483648).toNat (cF e k) 8):=sv;clear R I tm tr;generalize km zs (x-2147483648).toNat (cF e k) 8=ms at *;go_wp2_with fail;go_region_held3 (λg=>(g.cell? ⟨w.heap.size,0,none⟩=some (.slice (some ⟨d,0,none⟩) f F)/\g.cell? ⟨w.heap.size,1,none⟩=some (.slice (some ⟨b,n,none⟩) 22 y)/\g.cell? ⟨w.heap.size,2,none⟩=some (.i p)/\g.cell? ⟨w.heap.size,3,none⟩=some (.u va)/\g.cell? ⟨w.heap.size,4,none⟩=some (.i k))/\P g) (first | exact u.out _ (PD.out _ fr) | exact u.out _ fr) (first | (go_at_call 159;with_reducible refine (HPL2.out _ ?_).mono ?_;(first | assumption | (exact PD.out _ fr) | (exact And.right fr));rintro r w8 ⟨rfl,p8⟩) | (go_at_call 160;with_reducible refine (HM2.out _ ?_).mono ?_;(first | assumption | (exact PD.out _ fr) | (exact And.right fr));rintro r w9 ⟨G,c,rfl,fr9,p9⟩));go_wp2_with fail;go_ret2;exact Ib D.out.1 D.out.2.1 D.out.2.2 fr9.out
               | false =>
                 have HM2:=dQ (HMF.out e x C.out HX.out tm tr);have D:Hid (V=fK k):=I.trans (by rw [tr];exact if_neg bc);clear I tm tr;go_wp2_with fail;refine wp_region_held_drew (S:=(λg=>(g.cell? ⟨w.heap.size,0,none⟩=some (.slice (some ⟨d,0,none⟩) f F)/\g.cell? ⟨w.heap.size,1,none⟩=some (.slice (some ⟨b,n,none⟩) 22 y)/\g.cell? ⟨w.heap.size,2,none⟩=some (.i p)/\g.cell? ⟨w.heap.size,3,none⟩=some (.u va)/\g.cell? ⟨w.heap.size,4,none⟩=some (.i k))/\P g)) ba (u.out _ (PD.out _ p4)) (λhHeld=>?_);refine wpAnyH_take (i:=0) (v:=.agg #[.slice (some ⟨d,0,none⟩) f F,.slice (some ⟨b,n,none⟩) 22 y,.i p,.u va,.i k]) rfl ba ba ba (λ_ _ _ h=>h) (Or.inl ⟨by rfl,?_⟩) fr ?_;·intro g hSw;go_simp
                 refine wpAnyH_take (i:=1) (v:=.u e) rfl ba ba ba (λ_ _ _ h=>h) (Or.inl ⟨by rfl,?_⟩) fr ?_;·intro g hSw;go_simp
                 refine wpAnyH_take (i:=2) (v:=.i (q:Int)) rfl ba ba ba (λ_ _ _ h=>h) (Or.inl ⟨by rfl,?_⟩) fr ?_;·intro g hSw;go_simp
                 refine wpAnyH_take (i:=4) (v:=.agg #[.slice (some ⟨d,0,none⟩) f F,.slice (some ⟨b,n,none⟩) 22 y,.i p,.u va,.i k]) rfl ba ba ba (λ_ _ _ h=>h) (Or.inl ⟨by rfl,?_⟩) fr ?_;·intro g hSw;go_simp
                 refine wpAnyH_take (i:=5) (v:=.u x) rfl ba ba ba (λ_ _ _ h=>h) (Or.inl ⟨by rfl,?_⟩) fr ?_;·intro g hSw;go_simp
                 refine wpAnyH_take (i:=6) (v:=.u e) rfl ba ba ba (λ_ _ _ h=>h) (Or.inl ⟨by rfl,?_⟩) fr ?_;·intro g hSw;go_simp
                 refine wpAnyH_ready (rs:=[3]) ba cp ?_;refine AllReadyH.cons rfl (λK hK=>?_) AllReadyH.nil;go_simp;refine (HPL2.out _ (PD.out _ p4)).mono ?_;rintro r w8 ⟨rfl,p8⟩;refine hK.out _ _ (u.out _ p8) (λhHeld2=>?_);refine wpAnyH_ready (rs:=[7]) ba cp ?_;refine AllReadyH.cons rfl (λK2 hK2=>?_) AllReadyH.nil;go_simp;refine (HM2.out _ p8).mono ?_;rintro r w9 ⟨rfl,p9⟩;exact ⟨rfl,xi D.out N.out.1 N.out.2 (B.out _ p9).2⟩
theorem FU:CE 109 #[.iface 189 (.i T)] G (.i T):=by
 have d:∀ (T:Int) (G:World),(Instr.typeAssert (.iface 189 (.i T)) 20 189 false).run prog G=.ok (.i T) G:=λT G=>ba
 go_enter func109,ntmps109;exact x8
theorem FY (p q r s:Addr) (w:World):CallsD prog 108 #[.pointer (some p),.pointer (some q),.pointer (some r),.pointer (some s)] .returning w λe f g=>e=.returned (.tuple #[])/\f=.returning/\g=w:=by
 have c:∀ w,(binOp .neq 20 .nilIface .nilIface).run prog w=.ok (.bool false) w:=λw=>ba
 refine callsD_of_wpS func108 rfl λb cs d=>?_;apply wpS_seq;apply wpS_region;simp [wpOpsS,go_sem,recoverD,d,ntmps108,Exit.thenS];refine wpS_of_wp ?_;go_wp2_with fail;cases b;simp_all [bodyPostS,results,results108]
structure Uy (w:World) (B g n rc:Nat):Prop where
 r0:w.heap[B]?=some (.cells #[.slice (some ⟨g,0,none⟩) n rc] 24 (0,0))
 r1:∃ v,w.heap[B+1]?=some (.cells #[v] 22 (0,0))
 r2:∃ v,w.heap[B+1+1]?=some (.cells #[v] 2 (0,0))
 r3:∃ v,w.heap[B+1+1+1]?=some (.cells #[v] 24 (0,0))
theorem uq (B:List PanicEntry) (w:World) (hF:Uy w d f F P) (hz:S.length=F) (u:1<=F) (hn:F<=1048576) (hs:Sl .u8 w (some ⟨f,0,none⟩) S): CallsD prog 108 #[.p d 0,.p (d+1) 0,.p (d+1+1) 0,.p (d+1+1+1) 0] (.panicking ({v:=.iface 189 (.i T),recovered:=false}::B)) w λe M l => e=.returned (.tuple #[])/\M=.panicking ({v:=.iface 189 (.i T),recovered:=true}::B)/\∃ (p:World) (g:Option Addr) (j:Nat),l4 w p S g F j/\l=((p.setCell ⟨d+1,0,none⟩ (.u 0)).setCell ⟨d+1+1,0,none⟩ (.i T)).setCell ⟨d+1+1+1,0,none⟩ (.slice g F j):=by
 have K:∀ (v:Value) (w:World),(binOp .neq 20 (.iface 189 v) .nilIface).run prog w=.ok (.bool true) w:=λv w=>ba
 obtain ⟨E,⟨N,n⟩,⟨O,G⟩,⟨o,H⟩⟩:=hF
 have W:w.cell? ⟨d,0,none⟩=some (.slice (some ⟨f,0,none⟩) F P):=by simp [World.cell?,E]
 have q:Hid (∀ l,Bw w l->Calls prog 49 #[.slice (some ⟨f,0,none⟩) F P] l λr b=>∃ (g:Option Addr) (j:Nat),r=.returned (.slice g F j)/\Hid (l4 w b S g F j) /\
  (b.cell? ⟨d+1,0,none⟩=some N/\b.frozen? ⟨d+1,0,none⟩=false)/\(b.cell? ⟨d+1+1,0,none⟩=some O/\b.frozen? ⟨d+1+1,0,none⟩=false)/\(b.cell? ⟨d+1+1+1,0,none⟩=some o/\b.frozen? ⟨d+1+1+1,0,none⟩=false)):=λl m=>(qn f F P S l hz u hn (hs.below m)).mono λr b ⟨g,j,J,e2,e3⟩=>by
  have A:=fT (aa m e3) n
  have C:=fT (aa m e3) G
  have D:=fT (aa m e3) H
  exact ⟨g,j,J,⟨cG e2 m.size,aa m e3⟩,⟨by simp [World.cell?,A],by simp [World.frozen?,A]⟩,⟨by simp [World.cell?,C],by simp [World.frozen?,C]⟩,⟨by simp [World.cell?,D],by simp [World.frozen?,D]⟩⟩
 have s:Hid (∀ w,CE 109 #[.iface 189 (.i T)] w (.i T)):=FU T
 have I:Bw w w.drew:=(Below.refl _ _).drew
 clear E n G H hz hn hs
 refine callsD_of_wpS func108 rfl λz cs L=>?_
 apply wpS_seq
 apply wpS_region
 simp [wpOpsS,go_sem,recoverD,L,ntmps108,Exit.thenS]
 refine wpS_of_wp ?_
 go_wp2_with fail
 ·go_region_with (first | (go_at_call 109;with_reducible refine (s.out _).mono ?_;rintro e X ⟨rfl,y⟩;subst y) | (go_at_call 49;with_reducible refine (q.out _ I).mono ?_;rintro e p ⟨g,j,rfl,t,⟨c,Q⟩,⟨U,R⟩,⟨V,zs⟩⟩))
  all_goals exact ⟨rfl,_,rfl,_,results_none rfl _ _ _,rfl,rfl,p,g,j,t.out,rfl⟩
theorem mr (h:n.ownsRow k R 1 (.slice e l W) l t) (p:Addr) (v:Value) (j:p.block<k):(n.setCell p v).ownsRow k R 1 (.slice e l W) l t:=by
 refine ⟨h.1,?_⟩;rcases h.2 with d|⟨g,cap,b,xs,d,f,i⟩;·exact .inl d
 ·exact .inr ⟨g,cap,b,xs,d,(Below.heap_setCell n p v g ab).trans f,i⟩
theorem NS (base:Nat):G.ownsRow base 5 1 (.slice none 0 0) 0 (([]:List Int).map (Value.int .u8)):=⟨rfl,.inl ⟨rfl,rfl⟩⟩
theorem NT {o1 o2 o3 o4:Obj} (hb:Below ((((n.alloc o1).alloc o2).alloc o3).alloc o4).heap.size ((((n.alloc o1).alloc o2).alloc o3).alloc o4) p): p.heap[n.heap.size]?=some o1/\p.heap[n.heap.size+1]?=some o2/\p.heap[n.heap.size+1+1]?=some o3/\p.heap[n.heap.size+1+1+1]?=some o4:=by
 have e2:=heap_alloc_new (n.alloc o1) o2
 have e3:=heap_alloc_new ((n.alloc o1).alloc o2) o3
 have e4:=heap_alloc_new (((n.alloc o1).alloc o2).alloc o3) o4
 rw [World.size_alloc] at e2
 rw [World.size_alloc,World.size_alloc] at e3
 rw [World.size_alloc,World.size_alloc,World.size_alloc] at e4
 exact ⟨fT hb ((Below.heap_alloc _ _ _ eh).trans ((Below.heap_alloc _ _ _ eh).trans ((Below.heap_alloc _ _ _ eh).trans (heap_alloc_new n o1)))),
  fT hb ((Below.heap_alloc _ _ _ eh).trans ((Below.heap_alloc _ _ _ eh).trans e2)),fT hb ((Below.heap_alloc _ _ _ eh).trans e3),fT hb e4⟩
theorem ma (h:n.heap[k]?=some (.cells #[E] R (0,0))):n.cell? ⟨k,0,none⟩=some E/\n.frozen? ⟨k,0,none⟩=false:=⟨by simp [World.cell?,h],by simp [World.frozen?,h]⟩
theorem Ds (hn:d<=1048576) (s:S.length=F) (hl:Sl .u64 G o S) (r:∀ j,U (S.getD j 0)) (t:nB d F S T C=false): CB 50 #[.slice q d f,.slice o F P,.i T,.u z,.i C] G (.tuple #[.u 0,.i (if jc C=true then dL C else 1),.slice none 0 0]):=by
 have HR:Hid (∀ G,CE 79 #[.slice q d f] G (.bool (bf d))):=λG=>fs q d f G hn;have N:Hid (∀ rcap,Bw G rcap->CB 78 #[.slice o F P,.i T] rcap (.bool (bn F S T))):=λrcap V=>fx o F P S T rcap s (hl.below V) r;have cap:Hid (∀ G,CE 106 #[.i C] G (.bool (jc C))):=λG=>by have:=lR C G;rw [ru] at this;exact this
 have kind:Hid (∀ G,CE 107 #[.i C] G (.i (if jc C=true then dL C else 1))):=λG=>by
  have:=o9 C G;have e:CZ C=if jc C=true then dL C else 1:=by
   by_cases h:1<=C/\C<=3;·rw [Hv C h.1 h.2,if_pos (by unfold jc;simpa using h)]
   ·rw [Nx C h,if_neg (by unfold jc;simpa using h)]
  rw [e] at this;exact this
 have D:(bf d&&bn F S T&&jc C)=false:=t;generalize (if jc C=true then dL C else 1)=fk at *;generalize jc C=X at *;generalize bf d=Z at *;generalize bn F S T=Y at *;clear hl s hn t r;have g:∀ H I J K,Bw G ((((G.alloc H).alloc I).alloc J).alloc K):=λH I J K=>((((Below.refl _ _).alloc (Nat.le_refl _) H).alloc cp I).alloc bv J).alloc bv K;cases Z with
 | false =>go_enter_defers func50,ntmps50;go_wp2_with fail;refine (HR.out _).mono ?_;rintro e M ⟨rfl,n⟩;subst n;go_wp2_with fail;refine (kind.out _).mono ?_;rintro e M ⟨rfl,n⟩;subst n;go_wp2_with fail;refine ⟨_,?_,rfl,g _ _ _ _⟩;simp [results,results50,go_sem]
 | true =>
   cases Y with
   | false =>go_enter_defers func50,ntmps50;go_wp2_with fail;refine (HR.out _).mono ?_;rintro e M ⟨rfl,n⟩;subst n;go_wp2_with fail;refine (N.out _ (g _ _ _ _)).mono ?_;rintro e w2 ⟨rfl,c⟩;obtain ⟨u,y,va,A⟩:=NT c;have ra:=dQ (aa (g _ _ _ _) c);obtain ⟨W,Q⟩:=ma u;obtain ⟨E,R⟩:=ma y;obtain ⟨m,l⟩:=ma va;obtain ⟨w,p⟩:=ma A;clear u y va A c;go_wp2_with fail;refine (kind.out _).mono ?_;rintro e O ⟨rfl,B⟩;have b:=B.symm;subst b;go_wp2_with fail;refine ⟨_,?_,rfl,((ra.out.setCell cp _).setCell bv _).setCell bv _⟩;simp [results,results50,go_sem,E,m,w]
   | true =>
     cases X with
     | false =>go_enter_defers func50,ntmps50;go_wp2_with fail;refine (HR.out _).mono ?_;rintro e M ⟨rfl,n⟩;subst n;go_wp2_with fail;refine (N.out _ (g _ _ _ _)).mono ?_;rintro e w2 ⟨rfl,c⟩;obtain ⟨u,y,va,A⟩:=NT c;have ra:=dQ (aa (g _ _ _ _) c);obtain ⟨W,Q⟩:=ma u;obtain ⟨E,R⟩:=ma y;obtain ⟨m,l⟩:=ma va;obtain ⟨w,p⟩:=ma A;clear u y va A c;go_wp2_with fail;refine (cap.out _).mono ?_;rintro e O ⟨rfl,B⟩;have b:=B.symm;subst b;go_wp2_with fail;refine (kind.out _).mono ?_;rintro e O ⟨rfl,B⟩;have b:=B.symm;subst b;go_wp2_with fail;refine ⟨_,?_,rfl,((ra.out.setCell cp _).setCell bv _).setCell bv _⟩;simp [results,results50,go_sem,E,m,w]
     | true=>cases D
theorem Ic (x:Int) (lv:Nat):(dp s T z C D x lv).code=0\/((dp s T z C D x lv).addr=0/\(dp s T z C D x lv).marked=false):=by
 unfold dp;split;·exact .inr ⟨rfl,rfl⟩
 ·split;·exact .inr ⟨rfl,rfl⟩
  ·split;·exact .inr ⟨rfl,rfl⟩
   ·split
    ·split;·exact .inl rfl
     ·exact .inr ⟨rfl,rfl⟩
    ·exact .inl rfl
theorem NU:∀ (a:Nat) (p:Int),(bO s d j T z C a p).code=0\/((bO s d j T z C a p).addr=0/\(bO s d j T z C a p).marked=false):=by
 intro a;induction a with
 | zero =>
   intro p;rw [bO];split
   ·split
    ·split;·exact .inr ⟨rfl,rfl⟩
     ·split;·exact .inr ⟨rfl,rfl⟩
      ·exact Ic _ _ _ _ _ _ _
    ·exact .inr ⟨rfl,rfl⟩
   ·exact .inr ⟨rfl,rfl⟩
 | succ a b =>
   intro p;rw [bO];split
   ·split
    ·split;·exact .inr ⟨rfl,rfl⟩
     ·split
      ·split;·exact .inr ⟨rfl,rfl⟩
       ·exact b _
      ·exact Ic _ _ _ _ _ _ _
    ·exact .inr ⟨rfl,rfl⟩
   ·exact .inr ⟨rfl,rfl⟩
theorem Qx (h:¬ (ct s d j T z C).code=0):(ct s d j T z C).addr=0/\bx s (ct s d j T z C)=s:=by
 have a:(ct s d j T z C).code=0\/((ct s d j T z C).addr=0/\(ct s d j T z C).marked=false):=by
  unfold ct;split;·exact .inl rfl
  ·split;·exact .inr ⟨rfl,rfl⟩
   ·exact NU _ _ _ _ _ _ _ _
 rcases a with a|⟨a,b⟩;·exact absurd a h
 ·exact ⟨a,by unfold bx;rw [b];rfl⟩
theorem Dt (p:Value) (h:n.cell? v=some E):(n.setCell v p).cell? v=some p:=World.cell?_setCell_same n v p h
theorem mG {p:Addr} (q:Value) (h:n.cell? v=some E) (a:p.block≠v.block):(n.setCell p q).cell? v=some E:=by rw [World.cell?_setCell_other n p v q (λe=>a (by rw [e]))];exact h
theorem AL (n rcap:Nat) (zs:List Int) (b j cap:Nat) (l:List Int) (p va kind:Int) (w:World) (W:Wk w d n rcap zs b j cap l p va kind): Calls prog 50 #[.slice (some ⟨d,0,none⟩) n rcap,.slice (some ⟨b,j,none⟩) 22 cap,.i p,.u va,.i kind] w λe m=>∃ (g:Option Addr) (c:Nat),e=.returned (.tuple #[.u (ct zs n l p va kind).addr,.i (ct zs n l p va kind).code,.slice g n c]) /\ m.ownsRow w.heap.size 5 1 (.slice g n c) n ((bx zs (ct zs n l p va kind)).map (Value.int .u8))/\Bw w m:=by
 have hbd:=gq W.hr;have HW:=dQ W;have HR:Hid (∀ w,CE 79 #[.slice (some ⟨d,0,none⟩) n rcap] w (.bool true)):=λw=>by have:=fs (some ⟨d,0,none⟩) n rcap w ab;rw [W.hr] at this;exact this
 have HG:Hid (∀ m,Bw w m->CB 78 #[.slice (some ⟨b,j,none⟩) 22 cap,.i p] m (.bool true)):=λm U=>by have:=fx (some ⟨b,j,none⟩) 22 cap l p m W.hlz (W.hl.below U) W.hU;rw [W.hg] at this;exact this
 have HK:Hid (∀ w,CE 106 #[.i kind] w (.bool true)):=λw=>by have:=lR kind w;rw [ru,decide_eq_true ⟨W.hk1,W.hk3⟩] at this;exact this
 have Q:Hid (∀ m,Bw w m->Calls prog 110 #[.agg #[.slice (some ⟨d,0,none⟩) n rcap,.slice (some ⟨b,j,none⟩) 22 cap,.i p,.u va,.i kind]] m λr D=>Qu (ct zs n l p va kind) zs n m r D):=λm U=>NR d n rcap zs b j cap l p va kind m (W.below U);have G:∀ B C K L,Bw w ((((w.alloc B).alloc C).alloc K).alloc L):=λB C K L=>((((Below.refl _ _).alloc (Nat.le_refl _) B).alloc cp C).alloc bv K).alloc bv L;have hmf:∀ (fn:Fn) (s cap:Array Value) (w:World),(Instr.makeFunc fn s cap).run prog w=.ok (.func fn s cap) w:=λ_ _ _ _=>rfl;have S:=dQ (Qx zs n l p va kind);generalize ct zs n l p va kind=V at *;clear W;go_enter_defers func50,ntmps50;go_wp2_with fail;refine (HR.out _).mono ?_;rintro e w1 ⟨rfl,X⟩;subst X;go_wp2_with fail;refine (HG.out _ (G _ _ _ _)).mono ?_;rintro e w2 ⟨rfl,A⟩;obtain ⟨q0,q1,q2,q3⟩:=NT A;have Q0:=dQ q0;have Q1:=dQ q1;have Q2:=dQ q2;have M:=dQ q3;have F:=dQ (aa (G _ _ _ _) A);obtain ⟨j0,f0⟩:=ma q0;clear q0 q1 q2 q3 A;go_wp2_with fail;refine (HK.out _).mono ?_;rintro e w3 ⟨rfl,Y⟩;have J:=Y.symm;subst J;have u:=dQ (F.out.alloc F.out.size (.cells #[.slice (some ⟨d,0,none⟩) n rcap,.slice (some ⟨b,j,none⟩) 22 cap,.i p,.u va,.i kind] 136));go_wp2_with fail;refine (Q.out _ u.out).mono ?_;rintro r O I;unfold Qu at I;by_cases N:V.code=0
 ·rw [if_pos N] at I;obtain ⟨g,c,rfl,E⟩:=I;have FR:=dQ E;have FS:=dQ E.2.size;obtain ⟨Z,f1⟩:=ma (fT E.2 (oG Q1.out _));obtain ⟨j2,f2⟩:=ma (fT E.2 (oG Q2.out _));obtain ⟨j3,f3⟩:=ma (fT E.2 (oG M.out _));clear E j0 f0;obtain ⟨o,z⟩:∃ o,V.addr=o:=⟨_,rfl⟩;rw [z];have P:=dQ z;clear z;go_wp2_with fail;go_region;go_wp2_with fail;refine leaves_cons (f:=108) (args:=#[.p w.heap.size 0,.p (w.heap.size+1) 0,.p (w.heap.size+1+1) 0,.p (w.heap.size+1+1+1) 0]) cp (by simp [go_sem]) ?_;refine (FY _ _ _ _ _).mono ?_;rintro e u' w9 ⟨rfl,rfl,rfl⟩;have H:w.heap.size+1+1+1<(w2.alloc (.cells #[.slice (some ⟨d,0,none⟩) n rcap,.slice (some ⟨b,j,none⟩) 22 cap,.i p,.u va,.i kind] 136)).heap.size:=(by have:=(Array.getElem?_eq_some_iff.1 M.out).1;rw [World.size_alloc];omega);have t1:=mG (p:=⟨w.heap.size+1+1+1,0,none⟩) (.slice g n c) (mG (p:=⟨w.heap.size+1+1,0,none⟩) (.i 0) (Dt (.u o) (mG (p:=⟨w.heap.size+1+1+1,0,none⟩) (.slice g n c) (Dt (.u o) Z) di)) di) di;have t2:=mG (p:=⟨w.heap.size+1+1+1,0,none⟩) (.slice g n c) (Dt (.i 0) (mG (p:=⟨w.heap.size+1,0,none⟩) (.u o) (mG (p:=⟨w.heap.size+1+1+1,0,none⟩) (.slice g n c) (mG (p:=⟨w.heap.size+1,0,none⟩) (.u o) j2 di) di) di)) di;have t3:=Dt (.slice g n c) (mG (p:=⟨w.heap.size+1+1,0,none⟩) (.i 0) (mG (p:=⟨w.heap.size+1,0,none⟩) (.u o) (Dt (.slice g n c) (mG (p:=⟨w.heap.size+1,0,none⟩) (.u o) j3 di)) di) di);refine ⟨.tuple #[.u o,.i 0,.slice g n c],?_,g,c,by rw [N,P.out],?_,?_⟩;·generalize (((((O.setCell ⟨w.heap.size+1,0,none⟩ (.u o)).setCell ⟨w.heap.size+1+1+1,0,none⟩ (.slice g n c)).setCell ⟨w.heap.size+1,0,none⟩ (.u o)).setCell ⟨w.heap.size+1+1,0,none⟩ (.i 0)).setCell ⟨w.heap.size+1+1+1,0,none⟩ (.slice g n c))=W9 at *;simp [results,results50,go_sem,t1,t2,t3]
  ·have B:=mr FR.out.1 ⟨w.heap.size+1,0,none⟩ (.u o) (by show w.heap.size+1<_;omega);have C:=mr B ⟨w.heap.size+1+1+1,0,none⟩ (.slice g n c) H;have K:=mr C ⟨w.heap.size+1,0,none⟩ (.u o) (by show w.heap.size+1<_;omega);have L:=mr K ⟨w.heap.size+1+1,0,none⟩ (.i 0) (by show w.heap.size+1+1<_;omega);have o5:=mr L ⟨w.heap.size+1+1+1,0,none⟩ (.slice g n c) H;exact dY (cG o5 u.out.size) (Below.refl _ _).drew
  ·exact ((((((aa u.out FR.out.2).setCell cp _).setCell bv _).setCell cp _).setCell bv _).setCell bv _).drew
 ·rw [if_neg N] at I;obtain ⟨rfl,q⟩:=I;have y:=dQ (aa u.out q);have HF:Hid (Uy O w.heap.size d n rcap):=⟨fT q (oG Q0.out _),⟨_,fT q (oG Q1.out _)⟩,⟨_,fT q (oG Q2.out _)⟩,⟨_,fT q (oG M.out _)⟩⟩;have R:=dQ (show w.heap.size+1+1+1<O.heap.size from (Array.getElem?_eq_some_iff.1 (fT q (oG M.out (.cells #[.slice (some ⟨d,0,none⟩) n rcap,.slice (some ⟨b,j,none⟩) 22 cap,.i p,.u va,.i kind] 136)))).1);refine leaves_cons (f:=108) (args:=#[.p w.heap.size 0,.p (w.heap.size+1) 0,.p (w.heap.size+1+1) 0,.p (w.heap.size+1+1+1) 0]) cp (by simp [go_sem]) ?_;refine (uq w.heap.size d n rcap zs V.code [] O HF.out HW.out.hz ab ab (HW.out.hs.below y.out)).mono ?_;rintro e u' w9 ⟨rfl,rfl,w8,g,T,t,rfl⟩;obtain ⟨_,⟨v1,r1⟩,⟨v2,r2⟩,⟨v3,r3⟩⟩:=HF.out;obtain ⟨Z,_⟩:=ma (fT t.2 r1);obtain ⟨j2,_⟩:=ma (fT t.2 r2);obtain ⟨j3,_⟩:=ma (fT t.2 r3);obtain ⟨h1,h2⟩:=S.out N;rw [h1,h2];refine ⟨.tuple #[.u 0,.i V.code,.slice g n T],?_,g,T,rfl,?_,?_⟩;·simp [results,results50,go_sem,Z,j2,j3]
  ·have B:=mr t.1 ⟨w.heap.size+1,0,none⟩ (.u 0) (by have:=R.out;simp;omega);have C:=mr B ⟨w.heap.size+1+1,0,none⟩ (.i V.code) (by have:=R.out;simp;omega);exact cG (mr C ⟨w.heap.size+1+1+1,0,none⟩ (.slice g n T) R.out) y.out.size
  ·exact (((aa y.out t.2).setCell cp _).setCell bv _).setCell bv _
def xj (n:Nat) (a:Option Addr) (c:Nat):Prop:=(∀ b d,a=some ⟨b,d,none⟩->d=0)/\n<=c/\c<=maxLen
theorem Du {c:Nat} {a:Option Addr} (h:w.ownsRow k R 1 (.slice a l c) l t):xj l a c:=by
 rcases h.2 with ⟨d,n⟩|⟨g,cap,i,d,_,_,j,base,_⟩
 ·injection d with e1 e2 e3
  subst e1 e3;exact ⟨λb f e=>(nomatch e),ab,Nat.zero_le _⟩
 ·injection d with e1 e2 e3
  subst e1 e3;exact ⟨λb f e=>by cases e;rfl,j,base⟩
theorem rG (ra:Option Addr) (n rcap:Nat) (zs:List Int) (B:Option Addr) (m cap:Nat) (l:List Int) (p va kind:Int) (w:World) (hz:zs.length=n) (hn:n<=1048576) (hs:Sl .u8 w ra zs) (A:∀ y ∈ zs,(Lit.int .u8 y).wf=true) (k:l.length=m) (hl:Sl .u64 w B l) (f:∀ j,U (l.getD j 0)) (z:U va) (F:qH w) (t:xj n ra rcap):Calls prog 50 #[.slice ra n rcap,.slice B m cap,.i p,.u va,.i kind] w λe s=>∃ (D:Option Addr) (c:Nat),e=.returned (.tuple #[.u (GG zs n m l p va kind),.i (GH zs n m l p va kind),.slice D (vM zs n m l p va kind).length c]) /\ s.ownsRow w.heap.size 5 1 (.slice D (vM zs n m l p va kind).length c) (vM zs n m l p va kind).length ((vM zs n m l p va kind).map (Value.int .u8))/\Bw w s:=by
 unfold GG GH vM;cases q:nB n m l p kind with
 | false =>simp only [Bool.false_eq_true,if_false];exact (Ds ra n rcap B m cap l p va kind w hn k hl f q).mono λe s h=>⟨none,0,h.1,NS s _,h.2⟩
 | true =>simp only [if_true];rw [kv,hz];have a:(bf n&&bn m l p&&jc kind)=true:=q;simp only [Bool.and_eq_true] at a;obtain ⟨⟨E,i⟩,u⟩:=a;have d:1<=kind/\kind<=3:=(by simpa [jc] using u);obtain ⟨rfl,I⟩:=gF i;have G:=gq E;obtain ⟨b,C,rfl,_,_⟩:=hl 0 ab;obtain ⟨g,o,rfl,_,_⟩:=hs 0 ab;obtain ⟨v,x,r⟩:=t;have H:=v g o rfl;subst H;exact AL g n rcap zs b C cap l p va kind w ⟨hz,E,hs,A,x,by unfold maxLen at r;omega,k,hl,f,i,z,d.1,d.2,F⟩
theorem Dy:CE 106 #[.i T] G (.bool (decide (1<=T/\T<=3))):=ru T ▸ lR T G
theorem Qy:(prog.info? 195).map (·.size)=some 9:=by kernel_rfl
theorem ya:CB 162 #[] G (.agg #[.i 3,.i 4,.i 6,.i 7,.i 8,.i 3,.i 7,.i 11,.i 2]):=by go_enter func162,ntmps162;go_wp2_with fail;exact bodyPost_ret (results_cell_row results162 _ _ _ _ _ _ _ rfl (heap_alloc_new _ _) underlying195 rfl Qy) rfl ⟨rfl,bal _ _⟩
theorem NV (h:U T) (w:World):CB 274 #[.agg #[.i 3,.i 4,.i 6,.i 7,.i 8,.i 3,.i 7,.i 11,.i 2],.u T] w (.i (wrap64 (dc T 11 2))):=by have d:Hid (∀ w,Calls prog 76 #[.u T,.i 11,.i 2] w λe c=>e=.returned (.u (dc T 11 2))/\c=w.drew):=λw=>bG T 11 2 h.1 h.2 ab ab w;clear h;generalize dc T 11 2=y at *;go_enter func274,ntmps274;go_wp2_with fail;refine (d.out _).mono ?_;rintro e f ⟨rfl,b⟩;subst b;go_wp2_with fail;go_ret;exact ⟨rfl,(bal _ _).drew⟩
theorem mt (kind:Int) (w:World) (hz:j.length=d) (hs:Sl .u64 w q j) (hl:∀ l,U (j.getD l 0)): CB 256 #[.slice q d f,.i T,.i kind] w (.i (Ln d j T kind)):=by
 have n:=λW (i:Bw w W)=>fx q d f j T W hz (hs.below i) hl;have g:=lR kind;rw [ru] at g;refine bC (S:=Bs w []) (args:=[.slice q d f,.i T,.i kind]) [] func256 ?_;unfold Ln;cases c:bn d j T;case true =>
  obtain ⟨rfl,s⟩:=gF c;rw [c] at n;obtain ⟨b,k,rfl,i,r⟩:=hs 0 ab;have cap:=hl 0;have a:=λW=>NV (j.getD 0 0) cap W;have o:gc j T kind=if ((kind != 1)&&!(bits .and .u64 (j.getD 0 0) 131072==0))=true then wrap64 (dc (j.getD 0 0) 11 2) else T:=by unfold gc;rw [Hi _ cap,Wh,Bool.not_not,<- ix (j.getD 0 0) 11 2 cap.1 cap.2 ab];rfl
  rw [o];unfold bne;generalize wrap64 (dc (j.getD 0 0) 11 2)=y at *;generalize j.getD 0 0=x at *;cases u:decide (1<=kind/\kind<=3)<;>cases v:(kind==1)<;>cases z:(bits .and .u64 x 131072==0)<;>rw [u] at g <;>
   exact bm (t:=6) Bs.eng {eq:=[(21,ak v),(25,ak z)],ov:=[(19,iL ⟨b,k,none⟩ (.u x) underlying22 rfl λW h=>(h.2.cell (by exact i)).trans r)],cv:=[(10,fQ n),(14,mI λW _=>g W),(28,fQ λW _=>ya W),(30,fQ λW _=>a W)]} 60 (Bs.start _ _) (λm h=>⟨rfl,h.2⟩)
 rw [c] at n;exact bm (t:=6) Bs.eng {cv:=[(10,fQ n)]} 60 (Bs.start _ _) (λm h=>⟨rfl,h.2⟩)
theorem AM (M:MV) (A:MA) (B r:Nat) (w:World) (a:M.cs.length=22) (hl:jR M) (h:Mp B r M A w):Calls prog 128 #[.p r 0] w λe b=>e=.returned (.tuple #[])/\Mp B r (iw M) A b/\Kx r (aG M A) (aG (iw M) A) w b:=by have d:=jy (M:=M) (M':=iw M) (A:=A) rfl (JI M) rfl rfl rfl;refine (xJ M A r B w.heap.size w a hl h.row h.fam h.ne).mono λe b ⟨i,j,k,c⟩=>⟨i,⟨j,k.low (Nat.le_refl _) c.size,?_,h.lo⟩,Kx.of_keepL c d⟩;intro q l e;obtain ⟨m,g,f⟩:=d q l;exact h.ne m g (by rw [f];exact e)
structure Vx (M:MV):Prop where
 h22:M.cs.length=22
 U9:U (M.cs.getD 9 0)
 bells:lK M=true
 ok:nY M.d.xs.length M.d.ys.length M.d.ir=true
 ram:bf M.ram.length=true
 len:jR M
 wram:∀ y ∈ M.ram,(Lit.int .u8 y).wf=true
 wd:dU M.d
 hd:U M.hd
theorem Mp.shape (h:Mp k l x L w) (B:0<x.ram.length):∃ g,L.ar=some ⟨g,0,none⟩/\x.ram.length<=L.cr/\L.cr<=9223372036854775807:=by
 have f:=h.fam.own (aD L.ar x.ram.length L.cr x.ram) dv;have d:=Du (w:=w) (a:=L.ar) (c:=L.cr) f;rcases f.2 with ⟨e,j⟩|⟨b,cap,i,e,_⟩;·have:x.ram.length=0:=j;omega
 ·have e2:Value.slice L.ar x.ram.length L.cr=.slice (some ⟨b,0,none⟩) x.ram.length cap:=e;injection e2 with e3
  exact ⟨b,e3,d.2.1,by have:=d.2.2;unfold maxLen at this;exact this⟩
theorem Tn {A:MA} (a:Vx x) (pa size:Int) (c:U pa) (h:Mp k l x A w):CB 208 #[.slice A.ar x.ram.length A.cr,.u pa,.i size] w (.tuple #[.u (mN x.ram x.ram.length pa size),.bool (gB x.ram.length pa size)]):=by obtain ⟨g,b,f,i⟩:=h.shape (Ft a.ram);have d:=h.fam.msl.ram;rw [b] at d;rw [b];exact qu g x.ram.length A.cr x.ram pa size w rfl a.len.ram d a.wram f i c.1 (by have:=c.2;omega)
theorem Kh (hm:Mp d f y m G) (B:Vx y) (L:jf z=true) (hk:C=1\/C=2\/C=3) (o:U T) (hx:U D): Calls prog 257 #[.p f 0,.u T,.i z,.i C,.u D] G λe a=>e=.returned (.tuple #[.u (CG y T z C D).1,.bool (CG y T z C D).2.1])/\∃ c,Mp d f (CG y T z C D).2.2 c a/\Kx f (aG y m) (aG (CG y T z C D).2.2 c) G a:=by
 have r:=B.len
 have q:vh y.d T z=jn y.d (gA T z):=by unfold vh;rw [B.ok];rfl
 have u:rN y.d T z D=fP y.d D (gA T z):=by unfold rN;rw [B.ok];rfl
 have x:=λa (h:Mp d f y m a)=>Tn (A:=m) (w:=a) B T z o h
 rcases hk with rfl|rfl|rfl
 ·refine (Qh y m d f T z D _ _ G hm x).mono λe a h=>?_
  unfold CG mN at *
  revert h
  cases gB y.ram.length T z<;>intro h<;>exact h
 ·obtain ⟨g,i⟩:∃ X,X=if (jn y.d (gA T z)).2.2=true then db y (jn y.d (gA T z)).2.1 else y:=⟨_,rfl⟩
  have p:g.cs.length=22:=by rw [i];split<;>exact B.h22
  have size:jR g:=by
   rw [i]
   have:=Mt y.d (gA T z) r.xs r.ys
   split
   ·exact ⟨r.x,r.cs,r.ram,this.1,this.2⟩
   ·exact r
  have w:∀ a,Mp d f y m a->Calls prog 276 #[.p f 5,.u T,.i z] a λe b=>e=.returned (.tuple #[.u (jn y.d (gA T z)).1,.bool (jn y.d (gA T z)).2.2])/\∃ c,Mp d f g c b/\Kx f (aG y m) (aG g c) a b:=λa h=>by
   rw [i]
   refine Qe y m d f T z _ (jn y.d (gA T z)).2.1 _ a h (λb k=>?_)
   have l:=uh y.d m.ai m.ci m.ao m.co T z b r.xs r.ys B.wd k.fam.msl.xs k.fam.msl.ys
   rw [q] at l
   exact l
  have v:=λ(c:MA) a (h:Mp d f g c a)=>AM g c d f a p size h
  refine (Qi y m d f T z D _ _ g (iw g) _ _ G hm x w v).mono λe a h=>?_
  have e3:iw g=if (jn y.d (gA T z)).2.2=true then cK (db y (jn y.d (gA T z)).2.1) else y:=by
   rw [i]
   cases A:(jn y.d (gA T z)).2.2 with
   | true=>rw [if_pos rfl,if_pos rfl];exact rl (Hg y.d _ B.ok A)
   | false=>rw [if_neg bc,if_neg bc];rw [rl B.ok];exact yP B.h22 B.U9 B.bells
  rw [e3] at h
  have kind:(jn y.d (gA T z)).2.2=false->(jn y.d (gA T z)).1=0:=SQ y.d _
  unfold CG mN at *
  revert h kind
  cases gB y.ram.length T z<;>cases (jn y.d (gA T z)).2.2<;>intro h kind
  ·rw [kind rfl] at h;exact h
  ·exact h
  ·exact h
  ·exact h
 ·obtain ⟨R,j⟩:∃ R,R=kC y.ram y.ram.length T z D:=⟨_,rfl⟩
  have s:R.length<=1048576:=by rw [j];exact DL _ _ _ _ _ rfl r.ram
  have n:=GA y.d D r.xs (zr B.ok).2.1 (gA T z)
  have t:=λa (h:Mp d f y m a)=>xu m.ar y.ram.length m.cr y.ram T z D a rfl r.ram h.fam.msl.ram o.1 (by have:=o.2;omega) hx.1 (by have:=hx.2;omega)
  unfold iN at t
  simp only [<- j] at t
  have I:=λa (h:Mp d f y m a)=>Qf y m d f T z D (fP y.d D (gA T z)).1 (fP y.d D (gA T z)).2 a h (λb k=>by
   have l:=sf y.d m.ai m.ci m.ao m.co T z D b r.xs r.ys B.wd k.fam.msl.xs k.fam.msl.ys
   rw [u] at l
   exact l)
  have v:∀ (X:MV) (c:MA) a,Mp d f X c a->(X=bU y R\/X=db y (fP y.d D (gA T z)).1)->Calls prog 128 #[.p f 0] a λe b=>e=.returned (.tuple #[])/\Mp d f (iw X) c b/\Kx f (aG X c) (aG (iw X) c) a b:=λX c a h M=>by
   rcases M with rfl|rfl
   ·exact AM _ c d f a B.h22 ⟨r.x,r.cs,s,r.xs,r.ys⟩ h
   ·exact AM _ c d f a B.h22 ⟨r.x,r.cs,r.ram,n.1,n.2⟩ h
  have F:∀ (X:MV) (c:MA) a,Mp d f X c a->(X=iw (bU y R)\/X=iw (db y (fP y.d D (gA T z)).1))->Calls prog 308 #[.p f 0,.u T] a λe b=>e=.returned (.tuple #[])/\Mp d f (nW X T) c b/\Kx f (aG X c) (aG (nW X T) c) a b:=λX c a h M=>by
   have K:U X.hd:=by rcases M with rfl|rfl<;>exact B.hd
   exact Nz X c d f T (lJ X T) a h (PL X T o K)
  have H:=λa (h:Mp d f y m a)=>Tb y m d f T z D R (fP y.d D (gA T z)).1 (gB y.ram.length T z) (fP y.d D (gA T z)).2 iw (λX=>nW X T) a h t I v F
  refine (Qg y _ m d f T z D _ G hm H).mono λe a h=>?_
  have E:iw (bU y R)=bU y R:=by
   have J:lK (bU y R)=true:=B.bells
   rw [rl (M:=bU y R) B.ok]
   exact yP (M:=bU y R) B.h22 B.U9 J
  have e2:(fP y.d D (gA T z)).2=true->iw (db y (fP y.d D (gA T z)).1)=cK (db y (fP y.d D (gA T z)).1):=λA=>rl (M:=db y (fP y.d D (gA T z)).1) (Hh y.d D T z B.ok A)
  have e4:gB y.ram.length T z=true->R=km y.ram (T-2147483648).toNat D z.toNat:=λA=>by rw [j];unfold kC;rw [A];rfl
  rw [E] at h
  unfold CG
  revert h e2 e4
  cases gB y.ram.length T z<;>cases (fP y.d D (gA T z)).2<;>intro h e2 e4
  ·exact h
  ·rw [e2 rfl] at h;exact h
  ·rw [e4 rfl] at h;exact h
  ·rw [e4 rfl] at h;exact h
structure Sa (w:World) (cs:Array Value) (W:World):Prop where
 m:W.heap[w.heap.size]?=some (.cells cs 32 (0,0))
 r:∃ old,old.size=14/\W.heap[w.heap.size+1]?=some (.cells old 32 (0,0))
 b:Bw w W
section
variable {w W W' : World} {cs : Array Value}
theorem Sa.below (h:Sa w cs W) (hb:Bw W W'):Sa w cs W' :=
 ⟨bq hb h.m,let ⟨o,a,b⟩:=h.r;⟨o,a,bq hb b⟩,aa h.b hb⟩
theorem Sa.out (h:Sa w cs W) (d:Array Value) (hd:d.size=14):Sa w cs (W.setRow (w.heap.size+1) d):=
 ⟨(setRow_other W _ _ d ab).trans h.m,let ⟨o,b,a⟩:=h.r;⟨d,hd,setRow_heap _ _ o _ _ _ a⟩,aR h.b ab d⟩
theorem Sa.ez:Ez (Sa w cs) [⟨w.heap.size,cs,[]⟩]:=
 ⟨λW h r a=>by rw [List.mem_singleton] at a;subst a;exact ⟨_,_,h.m⟩,λW h=>h.below (Below.refl _ _).drew⟩
theorem Sa.eng {P:Program} {fn:Func} {Rs:Ending->World->Prop}:nZ P (Sa w cs) (Sa w cs) [⟨w.heap.size,cs,[]⟩] true (bodyPost P fn Rs):=⟨λ_ h=>h,Sa.ez.rows,λ_=>Sa.ez.drew,cH⟩
theorem Sa.start:Sa w cs (bP w [(cs,32),(aj zeroM zeroA,32)]):=by obtain ⟨a,b⟩:=Bs.start w [(cs,32),(aj zeroM zeroA,32)];exact ⟨a 0 _ rfl,⟨_,rfl,a 1 _ rfl⟩,b⟩
theorem Sa.two (h:Sa w cs W):w.heap.size+2<=W.heap.size:=by obtain ⟨o,_,a⟩:=h.r;have:=(Array.getElem?_eq_some_iff.1 a).1;omega
end
structure Sc (w:World) (cs:Array Value) (B r:Nat) (M:MV) (A:MA) (W:World):Prop where
 a:Sa w cs W
 mp:Mp B r M A W
 lo:w.heap.size+2<=B
section
variable {w W W' : World} {cs : Array Value} {B r : Nat} {M : MV} {A : MA}
theorem Sc.below (h:Sc w cs B r M A W) (hb:Bw W W'):Sc w cs B r M A W':=⟨h.a.below hb,h.mp.below hb,h.lo⟩
theorem Sc.out (h:Sc w cs B r M A W) (d:Array Value) (hd:d.size=14):Sc w cs B r M A (W.setRow (w.heap.size+1) d):=by have a:=h.mp.lo;have f:=h.lo;refine ⟨h.a.out d hd,⟨(setRow_other W _ _ d ab).trans h.mp.row,?_,h.mp.ne,h.mp.lo⟩,h.lo⟩;exact (h.mp.fam.mono λk b c e=>setRow_other W _ _ d ab).low (Nat.le_refl _) lr
theorem Sc.ez:Ez (Sc w cs B r M A) [⟨w.heap.size,cs,[]⟩,⟨r,aj M A,[]⟩]:=
 ⟨λW h q a=>by
  simp only [List.mem_cons,List.not_mem_nil,or_false] at a
  rcases a with rfl|rfl
  ·exact ⟨_,_,h.a.m⟩
  ·exact ⟨_,_,h.mp.row⟩,λW h=>h.below (Below.refl _ _).drew⟩
theorem Sc.eng {P:Program} {fn:Func} {Rs:Ending->World->Prop}:nZ P (Sc w cs B r M A) (Sc w cs B r M A) [⟨w.heap.size,cs,[]⟩,⟨r,aj M A,[]⟩] true (bodyPost P fn Rs):=⟨λ_ h=>h,Sc.ez.rows,λ_=>Sc.ez.drew,cH⟩
end
theorem bA.set1 {g:Nat} (h:bA k l n b) (cs:Array Value) (L:g<k):bA k l (n.setRow g cs) b:=h.mono λB a _ _=>setRow_other n g B cs ab
theorem Dw.fam (h:bA k l n b) (d:Dw n p):bA k l p b:=by obtain ⟨j,rfl⟩:=d;exact h.mono λ_ _ _ _=>rfl
theorem Dw.size (d:Dw w n):n.heap.size=w.heap.size:=by obtain ⟨j,rfl⟩:=d;rfl
theorem Sa.dw (h:Sa n g p) (d:Dw p B):Sa n g B:=by obtain ⟨j,rfl⟩:=d;exact ⟨h.m,h.r,⟨h.b.os,h.b.tape,h.b.output,h.b.size,h.b.block⟩⟩
abbrev yb (w:World) (V:Int × MV × Int):Ending->World->Prop:=λe a=>∃ C,e=.returned (.tuple #[.u V.1,.agg (aj V.2.1 C),.i V.2.2])/\bA w.heap.size a.heap.size a (aG V.2.1 C)/\Bw w a
theorem Sc.fin {V:World} {cs:Array Value} {U:Int × MV × Int} (h:Sc n cs k l x L p) (a:Dw p B) (b:Dw (B.setRow (n.heap.size+1) (aj x L)) V) (d:U=(M,x,c)):yb n U (.returned (.tuple #[.u M,.agg (aj x L),.i c])) V:=by subst d;have f:=(a.fam h.mp.fam).set1 (g:=n.heap.size+1) (aj x L) (by have:=h.lo;omega);have e:=aR (h.a.dw a).b (g:=n.heap.size+1) ab (aj x L);refine ⟨L,rfl,(b.fam f).low (by have:=h.lo;omega) ?_,b.below e⟩;rw [b.size,setRow_size,a.size];exact Nat.le_refl _
theorem AN (A:MA) (addr size kind x:Int) (w:World) (hl:jR y) (hs:nR w y A) (r:MW y) (c:xe y size kind=false): Calls prog 220 #[.func (.func 50) #[] #[],.agg (aj y A),.u addr,.i size,.i kind,.u x] w (yb w (0,zeroM,99)):=by
 have f:=λW (h:Sa w (aj y A) W)=>hH y A W hl (hs.below h.b) r.cs;have g:=λW (_:Sa w (aj y A) W)=>gG size W;have e:=λW (_:Sa w (aj y A) W)=>Dy kind W;unfold xe at c;generalize dI y=i at *;generalize jf size=j at *;generalize decide (1<=kind/\kind<=3)=k at *;generalize n:(kind==1)=l at *;generalize q:(size != 4)=m at *;refine bC (S:=Sa w (aj y A)) [(aj y A,32),(aj zeroM zeroA,32)] func220 ?_;cases i;case' true =>
  cases j;case' true =>
   cases k;case' true =>
    cases l;case' false=>cases c
    case' true =>cases m;case' false=>cases c
 all_goals
  refine ae Sa.eng {eq:=[(37,ak n),(40,ak q)],cv:=[(23,jp Sa.below f),(27,ke g),(32,ke e)]} 300 Sa.start λt d=>?_
  refine mi (s:=12) (p:=13) (u:=14) (T:=32) (cs:=aj zeroM zeroA) (v1:=.u 0) (v2:=.i 99) Sa.ez d {} 40 (λW h=>h.out _ rfl) (λW h=>let ⟨o,a,b⟩:=h.r;⟨o,_,a,b⟩) ba (cN _ _) underlying32 rfl rfl ba ba ba λW V a b=>?_
  exact ⟨zeroA,rfl,jZ _ _ _,b.below (aR (d.dw a).b ab _)⟩
theorem Sa.fin {V:World} {cs:Array Value} {U:Int × MV × Int} (h:Sa n cs p) (f:bA k p.heap.size p (aG x L)) (j:n.heap.size+2<=k) (a:Dw p B) (b:Dw (B.setRow (n.heap.size+1) (aj x L)) V) (d:U=(M,x,c)):yb n U (.returned (.tuple #[.u M,.agg (aj x L),.i c])) V:=by subst d;have i:=(a.fam f).set1 (g:=n.heap.size+1) (aj x L) ab;have e:=aR (h.dw a).b (g:=n.heap.size+1) ab (aj x L);refine ⟨L,rfl,(b.fam i).low ab ?_,b.below e⟩;rw [b.size,setRow_size,a.size];exact Nat.le_refl _
theorem Sa.set (h:Sa n g p) (r:Nat) (hr:n.heap.size+2<=r) (d:Array Value):Sa n g (p.setRow r d):=
 ⟨(setRow_other p _ _ d ab).trans h.m,let ⟨o,a,b⟩:=h.r;⟨o,a,(setRow_other p _ _ d ab).trans b⟩,aR h.b ab d⟩
theorem yc (addr size kind x:Int) (w:World) (hl:jR y) (hs:nR w y m) (I:MW y) (hhd:U y.hd) (ha:U addr) (hx:U x) (hT:qH w) (hgd:xj y.ram.length m.ar m.cr) (hmk:dI y=true) (N:jf size=true) (L:1<=kind/\kind<=3) (b4 b5:Bool) (h4:(kind==1)=b4) (h5:(size != 4)=b5) (h45:(b4&&b5)=false): Calls prog 220 #[.func (.func 50) #[] #[],.agg (aj y m),.u addr,.i size,.i kind,.u x] w (yb w (aC y addr size kind x)):=by
 have HK:=λW (h:Sa w (aj y m) W)=>hH y m W hl (hs.below h.b) I.cs;have HS:=λW (_:Sa w (aj y m) W)=>gG size W;have HI:=λW (_:Sa w (aj y m) W)=>Dy kind W;rw [hmk] at HK;rw [N] at HS;rw [decide_eq_true L] at HI;obtain ⟨n,P,hpr,hr0,hd0,hb0⟩:=aI hmk;have f:kind=1\/kind=2\/kind=3:=ab
 have hs5:size=1\/size=2\/size=4\/size=8:=of_decide_eq_true N;have hp:=wo (I.cs 0) P hpr kind;obtain ⟨V,Y⟩:∃ V,V=aC y addr size kind x:=⟨_,rfl⟩;rw [<- Y];unfold aC at Y;have hwr:Uz.wrap size=size:=by rcases hs5 with rfl|rfl|rfl|rfl<;>decide +kernel
 have hmod:addr.tmod size=addr%size:=by rw [Int.tmod_eq_emod_of_nonneg ha.1]
 obtain ⟨p,Q⟩:∃ p,gc y.cs y.pr kind=p:=⟨_,rfl⟩;obtain ⟨G,hG⟩:∃ G,ct y.ram y.ram.length y.cs p addr kind=G:=⟨_,rfl⟩;have hga:U G.addr:=by rw [<- hG];exact uF _ _ _ _ _ _ ha
 have hlg:bn 22 y.cs p=true:=by unfold bn;rw [P,<- Q,hp];rfl
 have hwk:nB y.ram.length y.cs.length y.cs p kind=true:=by unfold nB;rw [hr0,n,hlg];unfold jc;simpa using L
 have HE:∀ W,Sa w (aj y m) W->CB 256 #[.slice m.ac y.cs.length m.cc,.i y.pr,.i kind] W (.i p):=λW h=>by have h:=mt m.ac y.cs.length m.cc y.cs y.pr kind W rfl (hs.cs.below h.b) I.cs;unfold Ln at h;rw [n,show bn 22 y.cs y.pr=true by unfold bn;rw [P,hpr];rfl,decide_eq_true L,Q] at h;rw [n];exact h
 have HW:∀ W,Sa w (aj y m) W->Calls prog 50 #[.slice m.ar y.ram.length m.cr,.slice m.ac y.cs.length m.cc,.i p,.u addr,.i kind] W λe c=>∃ D E,e=.returned (.tuple #[.u G.addr,.i G.code,.slice D (bx y.ram G).length E])/\bA W.heap.size c.heap.size c [aD D (bx y.ram G).length E (bx y.ram G)]/\Bw W c:=λW h=>by have h:=rG m.ar y.ram.length m.cr y.ram m.ac y.cs.length m.cc y.cs p addr kind W rfl hl.ram (hs.ram.below h.b) I.ram rfl (hs.cs.below h.b) I.cs ha (hT.below h.b) hgd;unfold GG GH vM at h;rw [hwk] at h;simp only [if_true,hG] at h;exact h.mono λe c ⟨D,E,h1,h2,h3⟩=>⟨D,E,h1,(bA.nil W.heap.size W.heap.size c).snoc (aD D (bx y.ram G).length E (bx y.ram G)) _ _ h2 (Nat.le_refl _) (Nat.le_refl _) (Nat.le_refl _) h3.size,h3⟩
 have HP:∀ W,Sa w (aj y m) W->CB 209 #[.slice m.ac y.cs.length m.cc,.i p,.u G.addr,.i size,.i kind] W (.bool (!Jm y.cs p G.addr size kind)):=λW h=>by have h:=kK m.ac y.cs.length m.cc y.cs p G.addr size kind W rfl (hs.cs.below h.b) I.cs hga (hT.below h.b);rw [n,MS y.cs p G.addr size kind hlg N (decide_eq_true L)] at h;rw [n];exact h
 have HCC:=λW (_:True)=>gZ kind f W;have HAC:=λW (_:True)=>nN kind f W;have qc:IntKind.i64.wrap ((if kind=1 then 0 else if kind=2 then 4 else 6)+16)=oH kind:=by rcases f with rfl | rfl | rfl<;>decide +kernel
 have qa:IntKind.i64.wrap ((if kind=2 then 5 else if kind=3 then 7 else 1)+16)=g8 kind:=by rcases f with rfl|rfl|rfl<;>decide +kernel
 have qg:IntKind.i64.wrap (G.code+16)=wrap64 (G.code+16):=by simp only [IntKind.wrap_i64,wrap64]
 rw [Q,hG] at Y;refine bC (S:=Sa w (aj y m)) [(aj y m,32),(aj zeroM zeroA,32)] func220 ?_;generalize h6:(addr%size != 0)=b6 at *;have h6':(addr.tmod size != 0)=b6:=by rw [hmod];exact h6
 cases b6 with
 | true =>
   cases b4<;>cases b5;case true.true=>cases h45
   all_goals
    refine aS (Rc:=λW e g=>∃ (a':Option Addr) (c':Nat),e=.returned (.slice a' y.ram.length c')/\g.ownsRow W.heap.size 5 1 (.slice a' y.ram.length c') y.ram.length (y.ram.map (Value.int .u8))/\Bw W g) Sa.eng {eq:=[(37,ak h4),(40,ak h5),(46,dG .u64 hwr),(48,ak h6')],ov:=[(47,OB .u64 addr size ab)],cv:=[(23,jp Sa.below HK),(27,ke HS),(32,ke HI)]} 300 Sa.start (λW h=>mR m.ar _ m.cr y.ram W rfl hl.ram (hs.ram.below h.b)) λi e w1 F B=>?_
    obtain ⟨a1,c1,rfl,ho1,l⟩:=B
    have J:=F.below l
    refine ⟨_,0,rfl,λ_=>J,?_⟩
    have F1:=(bA.nil i.heap.size i.heap.size w1).snoc (aD a1 y.ram.length c1 y.ram) _ w1.heap.size ho1 (Nat.le_refl _) (Nat.le_refl _) (Nat.le_refl _) l.size
    refine uA (Rc:=λW e g=>∃ C:MA,C.ar=a1/\C.cr=c1/\e=.returned (.agg (aj (um y y.ram) C))/\bA i.heap.size g.heap.size g (aG (um y y.ram) C)/\(∀ q ∈ aG (um y y.ram) C,∀ k,q.v.ownBlock=some k->W.heap.size<=k\/(Value.slice a1 y.ram.length c1).ownBlock=some k)/\Bw W g) Sa.ez J {} 60 (λW d=>pH y m y.ram a1 y.ram.length c1 i.heap.size W hl (hs.below (J.dw d).b) (by rw [d.size];exact d.fam F1) (by rw [d.size];exact l.size) rfl) λW1 e w2 d1 B=>?_
    obtain ⟨C,hC1,hC2,rfl,Z,F2n,H⟩:=B
    have O:=(J.dw d1).below H
    refine ⟨_,0,rfl,O,?_⟩
    refine mi (s:=12) (p:=13) (u:=14) (T:=32) (cs:=aj y C) (v1:=.u 0) (v2:=.i (oH kind)) Sa.ez O {eq:=[(56,dG .i64 qc)],cv:=[(55,ke λW _=>gZ kind f W)]} 60 (λW h=>h.out _ rfl) (λW h=>let ⟨o,a,b⟩:=h.r;⟨o,_,a,b⟩) ba (cN _ _) underlying32 rfl rfl ba ba ba λW V a b=>?_
    exact Sa.fin O Z F.two a b (by rw [Y,if_pos rfl])
 | false =>
   have r:V=if (G.code != 0)=true then (0,bU y (bx y.ram G),wrap64 (G.code+16)) else if Jm y.cs p G.addr size kind=true then (0,bU y (bx y.ram G),g8 kind) else if (CG (bU y (bx y.ram G)) G.addr size kind x).2.1=true then ((CG (bU y (bx y.ram G)) G.addr size kind x).1,(CG (bU y (bx y.ram G)) G.addr size kind x).2.2,0) else (0,(CG (bU y (bx y.ram G)) G.addr size kind x).2.2,g8 kind):=by rw [Y,if_neg bc];unfold zU;rw [SS]
   clear Y;have hRm:Vx (bU y (bx y.ram G)):=⟨n,I.cs 9,hb0,hd0,by show bf (bx y.ram G).length=true;rw [kv];exact hr0,⟨hl.x,hl.cs,by show (bx y.ram G).length<=_;rw [kv];exact hl.ram,hl.xs,hl.ys⟩,Ai y.ram I.ram G,⟨I.xs,I.ys⟩,hhd⟩;generalize h7:(G.code != 0)=b7 at *;generalize Jm y.cs p G.addr size kind=b8 at *;rcases hrch:CG (bU y (bx y.ram G)) G.addr size kind x with ⟨M,ok,X⟩;rw [hrch] at r;dsimp only at r;cases b4<;>cases b5;case true.true=>cases h45
   all_goals
    refine aS (Rc:=λW e g=>∃ D E,e=.returned (.tuple #[.u G.addr,.i G.code,.slice D (bx y.ram G).length E])/\bA W.heap.size g.heap.size g [aD D (bx y.ram G).length E (bx y.ram G)]/\Bw W g) Sa.eng {eq:=[(37,ak h4),(40,ak h5),(46,dG .u64 hwr),(48,ak h6')],ov:=[(47,OB .u64 addr size ab)],cv:=[(23,jp Sa.below HK),(27,ke HS),(32,ke HI),(62,jp Sa.below HE)]} 300 Sa.start HW λi e w1 F B=>?_
    obtain ⟨D,E,rfl,F1,l⟩:=B
    have J:=F.below l
    refine ⟨_,0,rfl,λ_=>J,?_⟩
    refine uA (Rc:=λW e g=>∃ C:MA,C.ar=D/\C.cr=E/\e=.returned (.agg (aj (um y (bx y.ram G)) C))/\bA i.heap.size g.heap.size g (aG (um y (bx y.ram G)) C)/\(∀ q ∈ aG (um y (bx y.ram G)) C,∀ k,q.v.ownBlock=some k->W.heap.size<=k\/(Value.slice D (bx y.ram G).length E).ownBlock=some k)/\Bw W g) Sa.ez J {} 60 (λW d=>pH y m (bx y.ram G) D (bx y.ram G).length E i.heap.size W hl (hs.below (J.dw d).b) (by rw [d.size];exact d.fam F1) (by rw [d.size];exact l.size) rfl) λW1 e w2 d1 B=>?_
    obtain ⟨C,hC1,hC2,rfl,Z,F2n,H⟩:=B
    have O:=(J.dw d1).below H
    refine ⟨_,0,rfl,O,?_⟩
    refine QX (v:=λW=>.p W.heap.size 0) Sa.ez O {} 60 2 (λW=>W.alloc (.cells (aj zeroM zeroA) 32)) (λW d=>dD (z:=.agg (aj zeroM zeroA)) ba W) λA d2=>?_
    have S3:Sa w (aj y m) (A.alloc (.cells (aj zeroM zeroA) 32)):=(O.dw d2).below (bal _ _)
    refine ⟨S3,?_⟩
    have z2:A.heap.size=w2.heap.size:=d2.size
    have hN:=O.two
    refine Gq Sa.ez S3 {} 60 (λW=>W.setRow A.heap.size (aj (bU y (bx y.ram G)) C)) (λW d=>az (t:=32) (ty:=32) (old:=aj zeroM zeroA) (by obtain ⟨j,rfl⟩:=d;exact heap_alloc_new _ _) ba rfl (cN _ _)) λW3 d3=>?_
    refine ⟨(S3.dw d3).set _ ab _,?_⟩
    have S4:Sc w (aj y m) i.heap.size A.heap.size (bU y (bx y.ram G)) C (W3.setRow A.heap.size (aj (bU y (bx y.ram G)) C)):=by
     have z3:W3.heap.size=A.heap.size+1:=by rw [d3.size,World.size_alloc]
     refine ⟨(S3.dw d3).set _ ab _,⟨?_,?_,λq hq e=>?_,?_⟩,F.two⟩
     ·exact setRow_heap _ _ _ _ _ _ (by obtain ⟨j,rfl⟩:=d3;exact heap_alloc_new _ _)
     ·have f3:bA i.heap.size w2.heap.size W3 (aG (um y (bx y.ram G)) C):=d3.fam ((d2.fam Z).mono λk _ h2 h3=>(heap_alloc_old _ _ h3))
      exact (f3.mono λk _ h2 _=>setRow_other _ _ _ _ ab).low (Nat.le_refl _) (by rw [setRow_size,z3];omega)
     ·have:=Z.hi q hq _ e;omega
     ·have:=H.size;have:=d1.size;have:=l.size;omega
    refine aH (Sc w (aj y m) i.heap.size A.heap.size (bU y (bx y.ram G)) C) ?_
    clear Z F2n F1 H
    cases b7 with
    | true =>
      refine mi (s:=12) (p:=13) (u:=14) (T:=32) (cs:=aj (bU y (bx y.ram G)) C) (v1:=.u 0) (v2:=.i (wrap64 (G.code+16))) Sc.ez S4 {eq:=[(80,ak h7),(83,dG .i64 qg)]} 60 (λW h=>h.out _ rfl) (λW h=>let ⟨o,a,b⟩:=h.a.r;⟨o,_,a,b⟩) ba (cN _ _) underlying32 rfl rfl ba ba ba λW V a b=>?_
      exact S4.fin a b (by rw [r,if_pos rfl])
    | false =>
      have HP':=λW (h:Sc w (aj y m) i.heap.size A.heap.size (bU y (bx y.ram G)) C W)=>HP W h.a
      cases b8 with
      | true =>
        refine ae Sc.eng {eq:=[(80,ak h7)],cv:=[(90,jp Sc.below HP')]} 60 S4 λw5 K=>?_
        refine mi (s:=12) (p:=13) (u:=14) (T:=32) (cs:=aj (bU y (bx y.ram G)) C) (v1:=.u 0) (v2:=.i (g8 kind)) Sc.ez K {eq:=[(95,dG .i64 qa)],cv:=[(94,ke λW _=>nN kind f W)]} 60 (λW h=>h.out _ rfl) (λW h=>let ⟨o,a,b⟩:=h.a.r;⟨o,_,a,b⟩) ba (cN _ _) underlying32 rfl rfl ba ba ba λW V a b=>?_
        exact K.fin a b (by rw [r,if_neg bc,if_pos rfl])
      | false =>
        refine aS (Rc:=λW e g=>e=.returned (.tuple #[.u M,.bool ok])/\∃ A',Mp i.heap.size A.heap.size X A' g/\Kx A.heap.size (aG (bU y (bx y.ram G)) C) (aG X A') W g) Sc.eng {eq:=[(80,ak h7)],cv:=[(90,jp Sc.below HP')]} 60 S4 (λW h=>by have B:=Kh (bU y (bx y.ram G)) C i.heap.size A.heap.size G.addr size kind x W h.mp hRm N f hga hx;rw [hrch] at B;exact B) λW5 e w6 K B=>?_
        obtain ⟨rfl,A2,m6,k6⟩:=B
        have R:=K.mp.under k6
        have hlo:=K.lo
        have S6:Sc w (aj y m) i.heap.size A.heap.size X A2 w6:=by
         refine ⟨⟨(R.block _ ab).trans K.a.m,?_,K.a.b.trans ⟨R.os,R.tape,R.output,R.size,λk hk=>R.block k ab⟩⟩,m6,K.lo⟩
         obtain ⟨o,a,b⟩:=K.a.r
         exact ⟨o,a,(R.block _ ab).trans b⟩
        refine ⟨_,0,rfl,gh ba,?_⟩
        refine aH (Sc w (aj y m) i.heap.size A.heap.size X A2) ?_
        cases ok with
        | true =>
          refine mi (s:=12) (p:=13) (u:=14) (T:=32) (cs:=aj X A2) (v1:=.u M) (v2:=.i 0) Sc.ez S6 {} 60 (λW h=>h.out _ rfl) (λW h=>let ⟨o,a,b⟩:=h.a.r;⟨o,_,a,b⟩) ba (cN _ _) underlying32 rfl rfl ba ba ba λW V a b=>?_
          exact S6.fin a b (by rw [r,if_neg bc,if_neg bc,if_pos rfl])
        | false =>
          refine mi (s:=12) (p:=13) (u:=14) (T:=32) (cs:=aj X A2) (v1:=.u 0) (v2:=.i (g8 kind)) Sc.ez S6 {eq:=[(109,dG .i64 qa)],cv:=[(108,ke λW _=>nN kind f W)]} 60 (λW h=>h.out _ rfl) (λW h=>let ⟨o,a,b⟩:=h.a.r;⟨o,_,a,b⟩) ba (cN _ _) underlying32 rfl rfl ba ba ba λW V a b=>?_
          exact S6.fin a b (by rw [r,if_neg bc,if_neg bc,if_neg bc])
theorem AP (hl:jR y) (hs:nR G y m) (d:MW y) (c:U y.hd) (f:U T) (hx:U D) (e:qH G) (b:dI y=true->xj y.ram.length m.ar m.cr): Calls prog 220 #[.func (.func 50) #[] #[],.agg (aj y m),.u T,.i z,.i C,.u D] G (yb G (uJ y T z C D)):=by
 unfold uJ;cases a:xe y z C with
 | false=>rw [if_neg bc];exact AN y m T z C D G hl hs d a
 | true =>rw [if_pos rfl];unfold xe at a;simp only [Bool.and_eq_true,decide_eq_true_eq] at a;exact yc y m T z C D G hl hs d c f hx e (b a.1.1.1) a.1.1.1 a.1.1.2 a.1.2 _ _ rfl rfl (by simpa only [Bool.not_eq_true'] using a.2)
theorem Iv.ez:Ez (Iv a n V) V:=⟨λ_ h r bs=>(h.rows r bs).in_,λ_ h=>⟨λr bs=>h.rows r bs,h.ag.drew,h.sub,h.nd⟩⟩
theorem Iv.two {ds:Array Value} (d:iq ⟨k,g,[]⟩ n) (e:iq ⟨l,ds,[]⟩ n) (c:k≠l):Iv [k,l] n [⟨k,g,[]⟩,⟨l,ds,[]⟩] n :=
 ⟨λr a=>by
  simp only [List.mem_cons,List.not_mem_nil,or_false] at a
  rcases a with rfl|rfl
  ·exact d
  ·exact e,Ag.refl _ _,λr a=>by
  simp only [List.mem_cons,List.not_mem_nil,or_false] at a
  rcases a with rfl|rfl<;>simp,kc⟩
theorem nO (B:Iv [W] n V p) (f:bA k l n b) (d:W<k):bA k l p b:=f.mono λi L c a=>B.ag.block i a (by rw [List.mem_singleton];omega)
theorem uK {E:Nat} {c:Array Value} (a:Iv [k] n [⟨k,g,[]⟩] p) (cs:Iv [k,l] p V B) (f:bA W E p b) (hb:n.heap.size<=l) (R:n.heap.size<=W) (m:E<=p.heap.size) (hx:l<W\/E<=l) (W':k<n.heap.size) (row:iq ⟨k,c,[]⟩ B):Iv [k] n [⟨k,c,[]⟩] B/\bA n.heap.size B.heap.size B b:=by
 refine ⟨⟨λr d=>by rw [List.mem_singleton] at d;subst d;exact row,⟨cs.ag.os.trans a.ag.os,cs.ag.tape.trans a.ag.tape,cs.ag.output.trans a.ag.output,Nat.le_trans a.ag.size cs.ag.size,λi h e=>?_⟩,λr d=>by rw [List.mem_singleton] at d;subst d;simp,cp⟩,?_⟩;·rw [List.mem_singleton] at e;exact (cs.ag.block i (Nat.lt_of_lt_of_le h a.ag.size) l7).trans (a.ag.block i h (by rw [List.mem_singleton];exact e))
 ·exact (f.mono λi w o j=>cs.ag.block i j l7).low R (Nat.le_trans m cs.ag.size)
theorem Iv.dw (h:Iv a n V p) (d:Dw p B):Iv a n V B:=h.below (d.below (Below.refl _ _))
theorem Iv.set (h:Iv a n V p) {b:Nat} (hb:b ∉ a) (g:n.heap.size<=b) (cs:Array Value):Iv a n V (p.setRow b cs):=
 ⟨λr c=>let ⟨t,bs⟩:=h.rows r c;⟨t,(setRow_other p _ _ cs (λe=>hb (by rw [<- e];exact h.sub r c))).trans bs⟩,⟨h.ag.os,h.ag.tape,h.ag.output,by rw [setRow_size];exact h.ag.size,λk f d=>(setRow_other p _ _ cs ab).trans (h.ag.block k f d)⟩,h.sub,h.nd⟩
def nP (t:TV) (V:Int × MV × Int) (addr:Int):TV:=if V.2.2 != 0 then {t with up:=true,cz:=IntKind.i64.wrap (V.2.2-16),vl:=addr} else t
section
variable {w : World} {g : Nat} {M : MV} {A : MA} {t : TV}
theorem xk (V:Int × MV × Int) (addr size kind x:Int) (X:t.ld=.func (.func 50) #[] #[]) (h:iq ⟨g,bL M A t,[]⟩ w) (hA:∀ W,Iv [g] w [⟨g,bL M A t,[]⟩] W->Calls prog 220 #[.func (.func 50) #[] #[],.agg (aj M A),.u addr,.i size,.i kind,.u x] W (yb W V)):Calls prog 166 #[.p g 0,.u addr,.i size,.i kind,.u x] w λe w'=>∃ C,e=.returned (.tuple #[.u (if V.2.2 != 0 then 0 else V.1),.bool (!(V.2.2 != 0))])/\Iv [g] w [⟨g,bL V.2.1 C (nP t V addr),[]⟩] w'/\bA w.heap.size w'.heap.size w' (aG V.2.1 C):=by
 have c:g<w.heap.size:=let ⟨_,f⟩:=h;(Array.getElem?_eq_some_iff.1 f).1;refine gg (args:=[.p g 0,.u addr,.i size,.i kind,.u x]) (Iv [g] w [⟨g,bL M A t,[]⟩]) func166 ?_;refine aK 0 1 ?_;refine ae Iv.eng {eq:=[(19,⟨_,_,0,X⟩)]} 60 (Iv.one h) λl B=>?_;refine oE (i:=12) (j:=17) ?_ ?_
 ·refine nz (hA l B) λe w1 f=>?_;obtain ⟨C,rfl,F1,u⟩:=f;refine ⟨_,0,rfl,B.below u,?_⟩;refine QX (v:=λW=>.p W.heap.size 0) Iv.ez (B.below u) {} 60 2 (λW=>W.alloc (.cells (aj zeroM zeroA) 32)) (λW _=>dD (z:=.agg (aj zeroM zeroA)) ba W) λo O=>?_;have s:=((B.below u).dw O).below (bal o (.cells (aj zeroM zeroA) 32));refine ⟨s,?_⟩;have z2:=O.size;have s0:=B.ag.size;have s1:=u.size;refine Gq Iv.ez s {} 60 (λW=>W.setRow o.heap.size (aj V.2.1 C)) (λW d=>az (t:=32) (ty:=32) (old:=aj zeroM zeroA) (by obtain ⟨j,rfl⟩:=d;exact heap_alloc_new _ _) ba rfl (cN _ _)) λq r=>?_;have z3:q.heap.size=o.heap.size+1:=(by rw [r.size,World.size_alloc]);have D:=(s.dw r).set (b:=o.heap.size) (by rw [List.mem_singleton];omega) ab (aj V.2.1 C);refine ⟨D,?_⟩;have Y:iq ⟨o.heap.size,aj V.2.1 C,[]⟩ (q.setRow o.heap.size (aj V.2.1 C)):=⟨32,setRow_heap _ _ _ _ _ _ (by obtain ⟨j,rfl⟩:=r;exact heap_alloc_new _ _)⟩;have P:bA l.heap.size w1.heap.size (q.setRow o.heap.size (aj V.2.1 C)) (aG V.2.1 C):=(r.fam ((O.fam F1).mono λk _ _ s=>heap_alloc_old _ _ s)).mono λk _ _ _=>setRow_other _ _ _ _ ab;have z4:(q.setRow o.heap.size (aj V.2.1 C)).heap.size=q.heap.size:=setRow_size _ _ _;refine ae (td Iv.ez D) {} 60 (Dw.refl _) λK d5=>?_;refine aH (λ_=>True) ?_;refine aK 13 2 ?_;have E:=D.dw d5;have H:=d5.fam P;have z5:=d5.size;have Z:iq ⟨o.heap.size,aj V.2.1 C,[]⟩ K:=let ⟨T,S⟩:=Y;⟨T,by obtain ⟨j,rfl⟩:=d5;exact S⟩;have G:=Iv.two E.row1 Z ab;unfold nP;obtain ⟨y,m⟩:∃ y,(V.2.2 != 0)=y:=⟨_,rfl⟩;rw [m];cases y with
  | true =>refine fH (R1:=[⟨g,bL V.2.1 C t,[]⟩,⟨o.heap.size,aj V.2.1 C,[]⟩]) G {eq:=[(37,ak m)]} 60 (λW U=>kg (IntKind.i64.wrap (V.2.2-16)) addr (M:=V.2.1) (A:=C) (t:=t) (U.rows ⟨g,bL V.2.1 C t,[]⟩ cp)) λW6 e w7 I f=>⟨_,0,f.1,?_⟩;obtain ⟨R,Q⟩:=uK E I H ab ab ab ab c (I.rows ⟨g,bL V.2.1 C t,[]⟩ cp);refine iH (Iv.one f.2.row1) {} 40 λL a n p=>⟨.tuple #[.u 0,.bool false],lg,C,rfl,(R.then1 f.2).then1 n,?_⟩;exact (nO n (nO f.2 Q c) c).low (Nat.le_refl _) (Nat.le_trans f.2.ag.size n.ag.size)
  | false =>refine iH (R1:=[⟨g,bL V.2.1 C t,[]⟩,⟨o.heap.size,aj V.2.1 C,[]⟩]) G {eq:=[(37,ak m)]} 60 λL a n p=>⟨.tuple #[.u V.1,.bool true],la,C,rfl,?_⟩;exact uK E n H ab ab ab ab c (n.rows ⟨g,bL V.2.1 C t,[]⟩ cp)
 ·have J:=B.below (bal l (.cells (aj zeroM zeroA) 32));refine qN (v:=.p l.heap.size 0) 2 (dD (T:=32) (z:=.agg (aj zeroM zeroA)) ba l) J ?_;refine uA (Rc:=λW=>yb W V) Iv.ez J {} 60 (λW d=>hA W (J.dw d)) λW1 e w2 N f=>?_;obtain ⟨C,rfl,F2,F⟩:=f;have s:=(J.dw N).below F;refine ⟨_,0,rfl,s,?_⟩;have s0:=B.ag.size;have z1:W1.heap.size=l.heap.size+1:=(by rw [N.size,World.size_alloc]);have s2:=F.size;have q2:w2.heap[l.heap.size]?=some (.cells (aj zeroM zeroA) 32 (0,0)):=bq F (by obtain ⟨j,rfl⟩:=N;exact heap_alloc_new _ _);refine Gq Iv.ez s {} 60 (λW=>W.setRow l.heap.size (aj V.2.1 C)) (λW d=>az (t:=32) (ty:=32) (old:=aj zeroM zeroA) (by obtain ⟨j,rfl⟩:=d;exact q2) ba rfl (cN _ _)) λq r=>?_;have z3:=r.size;have D:=(s.dw r).set (b:=l.heap.size) (by rw [List.mem_singleton];omega) ab (aj V.2.1 C);refine ⟨D,?_⟩;have Y:iq ⟨l.heap.size,aj V.2.1 C,[]⟩ (q.setRow l.heap.size (aj V.2.1 C)):=⟨32,setRow_heap _ _ _ _ _ _ (by obtain ⟨j,rfl⟩:=r;exact q2)⟩;have P:bA W1.heap.size w2.heap.size (q.setRow l.heap.size (aj V.2.1 C)) (aG V.2.1 C):=(r.fam F2).mono λk _ _ _=>setRow_other _ _ _ _ ab;have z4:(q.setRow l.heap.size (aj V.2.1 C)).heap.size=q.heap.size:=setRow_size _ _ _;refine ae (td Iv.ez D) {} 60 (Dw.refl _) λK d5=>?_;refine aH (λ_=>True) ?_;refine aK 13 2 ?_;have E:=D.dw d5;have H:=d5.fam P;have z5:=d5.size;have Z:iq ⟨l.heap.size,aj V.2.1 C,[]⟩ K:=let ⟨T,S⟩:=Y;⟨T,by obtain ⟨j,rfl⟩:=d5;exact S⟩;have G:=Iv.two E.row1 Z ab;unfold nP;obtain ⟨y,m⟩:∃ y,(V.2.2 != 0)=y:=⟨_,rfl⟩;rw [m];cases y with
  | true =>refine fH (R1:=[⟨g,bL V.2.1 C t,[]⟩,⟨l.heap.size,aj V.2.1 C,[]⟩]) G {eq:=[(37,ak m)]} 60 (λW U=>kg (IntKind.i64.wrap (V.2.2-16)) addr (M:=V.2.1) (A:=C) (t:=t) (U.rows ⟨g,bL V.2.1 C t,[]⟩ cp)) λW6 e w7 I f=>⟨_,0,f.1,?_⟩;obtain ⟨R,Q⟩:=uK E I H ab ab ab ab c (I.rows ⟨g,bL V.2.1 C t,[]⟩ cp);refine iH (Iv.one f.2.row1) {} 40 λL a n p=>⟨.tuple #[.u 0,.bool false],lg,C,rfl,(R.then1 f.2).then1 n,?_⟩;exact (nO n (nO f.2 Q c) c).low (Nat.le_refl _) (Nat.le_trans f.2.ag.size n.ag.size)
  | false =>refine iH (R1:=[⟨g,bL V.2.1 C t,[]⟩,⟨l.heap.size,aj V.2.1 C,[]⟩]) G {eq:=[(37,ak m)]} 60 λL a n p=>⟨.tuple #[.u V.1,.bool true],la,C,rfl,?_⟩;exact uK E n H ab ab ab ab c (n.rows ⟨g,bL V.2.1 C t,[]⟩ cp)
end
section
variable {w : World} {g : Nat} {M : MV} {A : MA} {t : TV}
theorem Qz (V:Int × MV × Int) (f:Wf) (n:Int) (s:Bool) (u:t.fm=nh f n s) (addr x:Int) (k:t.ld=.func (.func 50) #[] #[]) (h:iq ⟨g,bL M A t,[]⟩ w) (r:∀ W,Iv [g] w [⟨g,bL M A t,[]⟩] W->Calls prog 220 #[.func (.func 50) #[] #[],.agg (aj M A),.u addr,.i n,.i 3,.u x] W (yb W V)):Calls prog 175 #[.p g 0,.u addr,.u x] w λe b=>∃ C,e=.returned (.bool (!(V.2.2 != 0)))/\Iv [g] w [⟨g,bL V.2.1 C (nP t V addr),[]⟩] b/\bA w.heap.size b.heap.size b (aG V.2.1 C):=by
 have j:g<w.heap.size:=let ⟨_,c⟩:=h;(Array.getElem?_eq_some_iff.1 c).1;refine gg (args:=[.p g 0,.u addr,.u x]) (Iv [g] w [⟨g,bL M A t,[]⟩]) func175 ?_;refine aK 0 1 ?_;cases f;all_goals
  refine ae Iv.eng {cv:=[(13,xq λW a=>rE _ n s u a.row1)]} 60 (Iv.one h) λm p=>?_
  refine oD (AB n s m) ba λe z c=>⟨_,0,c.1,gh ba,?_⟩
  have q:=p.below c.2
  refine aS (Rc:=λW e b=>∃ C,e=.returned (.tuple #[.u (if V.2.2 != 0 then 0 else V.1),.bool (!(V.2.2 != 0))])/\Iv [g] W [⟨g,bL V.2.1 C (nP t V addr),[]⟩] b/\bA W.heap.size b.heap.size b (aG V.2.1 C)) Iv.eng {} 60 q (λW a=>xk V addr n 3 x k a.row1 λW' i=>r W' (a.then1 i)) λW e B a c=>?_
  obtain ⟨C,rfl,l,o⟩:=c
  refine ⟨_,0,rfl,gh ba,?_⟩
  refine aH (λ_=>True) ?_
  exact vK (t:=6) (v:=.bool (!(V.2.2 != 0))) (Iv.one l.row1) {} 40 λy d=>⟨C,rfl,(a.then1 l).then1 d,(nO d o (Nat.lt_of_lt_of_le j a.ag.size)).low a.ag.size d.ag.size⟩
def tZ (t:TV) (V:Int × MV × Int) (addr:Int) (n:Nat) (s:Bool):TV:=if V.2.2 != 0 then nP t V addr else {t with rs:=if s then au (8*n) V.1 else V.1}
theorem To (V:Int × MV × Int) (f:Wf) (n:Nat) (s:Bool) (hn:n=1\/n=2\/n=4\/n=8) (D:t.fm=nh f n s) (addr:Int) (y:t.ld=.func (.func 50) #[] #[]) (h:iq ⟨g,bL M A t,[]⟩ w) (I:∀ W,Iv [g] w [⟨g,bL M A t,[]⟩] W->Calls prog 220 #[.func (.func 50) #[] #[],.agg (aj M A),.u addr,.i n,.i 2,.u 0] W (yb W V)):Calls prog 172 #[.p g 0,.u addr] w λe i=>∃ C,e=.returned (.tuple #[.u (if V.2.2 != 0 then 0 else V.1),.bool (!(V.2.2 != 0))])/\Iv [g] w [⟨g,bL V.2.1 C (tZ t V addr n s),[]⟩] i/\bA w.heap.size i.heap.size i (aG V.2.1 C):=by
 have j:g<w.heap.size:=let ⟨_,d⟩:=h;(Array.getElem?_eq_some_iff.1 d).1;have c:∀ W,Iv [g] w [⟨g,bL M A t,[]⟩] W->_:=λW b=>xk V addr n 2 0 y b.row1 λW' u=>I W' (b.then1 u);unfold tZ;unfold nP at *;obtain ⟨p,x⟩:∃ p,(V.2.2 != 0)=p:=⟨_,rfl⟩;simp only [x] at c ⊢;refine gg (args:=[.p g 0,.u addr]) (Iv [g] w [⟨g,bL M A t,[]⟩]) func172 ?_;refine aK 0 1 ?_;cases f;all_goals
  refine ae Iv.eng {cv:=[(12,xq λW b=>rE _ n s D b.row1)]} 60 (Iv.one h) λF H=>?_
  refine oD (AB n s F) ba λe K d=>⟨_,0,d.1,gh ba,?_⟩
  have B:=H.below d.2
  cases p
  ·refine aS (Rc:=λW e i=>∃ C,e=.returned (.tuple #[.u V.1,.bool true])/\Iv [g] W [⟨g,bL V.2.1 C t,[]⟩] i/\bA W.heap.size i.heap.size i (aG V.2.1 C)) Iv.eng {} 60 B c λW e E b d=>?_
   obtain ⟨C,rfl,k,q⟩:=d
   refine ⟨_,0,rfl,gh ba,?_⟩
   refine aH (Iv [g] E [⟨g,bL V.2.1 C t,[]⟩]) ?_
   have G:=(nO (Iv.one k.row1) q (Nat.lt_of_lt_of_le j b.ag.size)).low (B':=w.heap.size) b.ag.size (Nat.le_refl _)
   refine ae Iv.eng {cv:=[(20,xq λW b=>rE _ n s D b.row1)]} 60 (Iv.one k.row1) λz l=>?_
   refine oD (Kd n s V.1 hn z) ba λe L d=>⟨_,0,d.1,gh ba,?_⟩
   have o:=l.below d.2
   refine aH (λ_=>True) ?_
   refine iH (R1:=[⟨g,bL V.2.1 C {t with rs:=if s then au (8*n) V.1 else V.1},[]⟩]) (Iv.one o.row1) {} 60 λJ a r m=>⟨.tuple #[.u V.1,.bool true],by rw [results_tmp2 rfl,m.slot (v:=.u V.1) ba,m.slot (v:=.bool true) ba],C,rfl,((b.then1 k).then1 o).then1 r,?_⟩
   exact (nO r (nO o G j) j).low (Nat.le_refl _) (Nat.le_trans o.ag.size r.ag.size)
  ·refine aS (Rc:=λW e i=>∃ C,e=.returned (.tuple #[.u 0,.bool false])/\Iv [g] W [⟨g,bL V.2.1 C _,[]⟩] i/\bA W.heap.size i.heap.size i (aG V.2.1 C)) Iv.eng {} 60 B c λW e E b d=>?_
   obtain ⟨C,rfl,k,q⟩:=d
   refine ⟨_,0,rfl,gh ba,?_⟩
   refine aH (λ_=>True) ?_
   refine iH (Iv.one k.row1) {} 40 λz a l m=>⟨.tuple #[.u 0,.bool false],by rw [results_tmp2 rfl,m.slot (v:=.u 0) ba,m.slot (v:=.bool false) ba],C,rfl,(b.then1 k).then1 l,(nO l q (Nat.lt_of_lt_of_le j b.ag.size)).low b.ag.size l.ag.size⟩
end
def zi (t:TV) (code addr:Int):TV:=if code != 0 then {t with up:=true,cz:=code,vl:=addr} else t
section
variable {w : World} {g : Nat} {M : MV} {A : MA} {t : TV}
theorem Tp (to code z:Int) (zs:List Int) (addr kind:Int) (x:t.ld=.func (.func 50) #[] #[]) (h:iq ⟨g,bL M A t,[]⟩ w) (G:∀ W,Iv [g] w [⟨g,bL M A t,[]⟩] W->CB 256 #[.slice A.ac M.cs.length A.cc,.i M.pr,.i kind] W (.i z)) (s:∀ W,Iv [g] w [⟨g,bL M A t,[]⟩] W->Calls prog 50 #[.slice A.ar M.ram.length A.cr,.slice A.ac M.cs.length A.cc,.i z,.u addr,.i kind] W λe l=>∃ (b:Option Addr) (c:Nat),e=.returned (.tuple #[.u to,.i code,.slice b zs.length c])/\l.ownsRow W.heap.size 5 1 (.slice b zs.length c) zs.length (zs.map (Value.int .u8))/\Bw W l):Calls prog 232 #[.p g 0,.u addr,.i kind] w λe l=>∃ (b:Option Addr) (c:Nat),e=.returned (.tuple #[.u (if code != 0 then 0 else to),.bool (!(code != 0))])/\Iv [g] w [⟨g,bL {M with ram:=zs} {A with ar:=b,cr:=c} (zi t code addr),[]⟩] l/\l.ownsRow w.heap.size 5 1 (.slice b zs.length c) zs.length (zs.map (Value.int .u8)):=by
 have H:g<w.heap.size:=let ⟨_,d⟩:=h;(Array.getElem?_eq_some_iff.1 d).1;refine gg (args:=[.p g 0,.u addr,.i kind]) (Iv [g] w [⟨g,bL M A t,[]⟩]) func232 ?_;refine aK 0 1 ?_;refine aS Iv.eng {eq:=[(15,⟨_,_,0,x⟩)],cv:=[(37,jp Iv.below G)]} 60 (Iv.one h) s λJ e L B d=>?_;obtain ⟨b,c,rfl,I,u⟩:=d;have r:=B.below u;refine ⟨_,0,rfl,λ_=>r,?_⟩;refine ae (td Iv.ez r) {} 60 (Dw.refl _) λE y=>?_;refine aH (λ_=>True) ?_;have p:=r.dw y;have D:E.ownsRow w.heap.size 5 1 (.slice b zs.length c) zs.length (zs.map (Value.int .u8)):=by obtain ⟨j,rfl⟩:=y;exact eg (cG I B.ag.size) λk _=>rfl
 have keep:∀ {W V:World} {R:List Rw},Iv [g] W R V->W.ownsRow w.heap.size 5 1 (.slice b zs.length c) zs.length (zs.map (Value.int .u8))->V.ownsRow w.heap.size 5 1 (.slice b zs.length c) zs.length (zs.map (Value.int .u8)):=λ{W V R} k o=>eg o λi e=>k.ag.block i (o.lt i e).2 (by rw [List.mem_singleton];have:=(o.lt i e).1;omega);unfold zi;obtain ⟨q,f⟩:∃ q,(code != 0)=q:=⟨_,rfl⟩;rw [f];cases q with
 | true =>refine fH (R1:=[⟨g,bL {M with ram:=zs} {A with ar:=b,cr:=c} t,[]⟩]) (Iv.one p.row1) {eq:=[(50,ak f)]} 60 (λW s=>kg code addr s.row1) λK e N C d=>⟨_,0,d.1,?_⟩;exact iH (Iv.one d.2.row1) {} 40 λF a m n=>⟨.tuple #[.u 0,.bool false],by rw [results_tmp2 rfl,n.slot (v:=.u 0) ba,n.slot (v:=.bool false) ba],b,c,rfl,((p.then1 C).then1 d.2).then1 m,keep m (keep d.2 (keep C D))⟩
 | false =>exact iH (R1:=[⟨g,bL {M with ram:=zs} {A with ar:=b,cr:=c} t,[]⟩]) (Iv.one p.row1) {eq:=[(50,ak f)]} 60 λF a m n=>⟨.tuple #[.u to,.bool true],by rw [results_tmp2 rfl,n.slot (v:=.u to) ba,n.slot (v:=.bool true) ba],b,c,rfl,p.then1 m,keep m D⟩
end
def pW (op a y:Int):Int:=if op=88\/op=91 then bits .or .u64 a y else if op=89\/op=92 then bits .andNot .u64 a y else y
section
variable {w : World} {g : Nat} {M : MV} {A : MA} {t : TV}
theorem Ki {b o:Nat} {x:Int} (c:Int) (h:iq ⟨g,bL M A t,[]⟩ w) (l:t.op=87\/t.op=88\/t.op=89\/t.op=90\/t.op=91\/t.op=92) (f:A.ax=some ⟨b,o,none⟩) (j:0<=t.ra/\t.ra<M.x.length) (hb:b≠g) (hx:w.cell? ⟨b,o+t.ra.toNat,none⟩=some (.u x)):Calls prog 237 #[.p g 0,.u c] w λe d=>e=.returned (.u (pW t.op c (if 90<=t.op then Uz.wrap t.ra else x)))/\Iv [g] w [⟨g,bL M A t,[]⟩] d:=by
 have i:∀ (p:Addr) v,p.block=b->w.cell? p=some v->∀ W,Iv [g] w [⟨g,bL M A t,[]⟩] W->W.cell? p=some v:=λp v n m W a=>by rw [<- m];simp only [World.cell?,a.ag.block p.block (lH m) (by rw [n];simpa using hb)]
 refine gg (args:=[.p g 0,.u c]) (Iv [g] w [⟨g,bL M A t,[]⟩]) func237 ?_;refine aK 0 1 ?_;rcases l with q | q | q | q | q | q;·exact bm (t:=4) (v:=.u x) Iv.eng {eq:=[(12,dG .i64 q),(24,dG .i64 q)],cv:=[(7,xq λW a=>LC a.row1 f j hb (i _ _ rfl hx W a))]} 200 (Iv.one h) λd k=>⟨by simp [pW,q],k⟩
 ·exact bm (t:=4) (v:=.u (bits .or .u64 c x)) Iv.eng {eq:=[(12,dG .i64 q),(24,dG .i64 q)],cv:=[(7,xq λW a=>LC a.row1 f j hb (i _ _ rfl hx W a))]} 200 (Iv.one h) λd k=>⟨by simp [pW,q],k⟩
 ·exact bm (t:=4) (v:=.u (bits .andNot .u64 c x)) Iv.eng {eq:=[(12,dG .i64 q),(24,dG .i64 q)],cv:=[(7,xq λW a=>LC a.row1 f j hb (i _ _ rfl hx W a))]} 200 (Iv.one h) λd k=>⟨by simp [pW,q],k⟩
 ·exact bm (t:=4) (v:=.u (Uz.wrap t.ra)) Iv.eng {eq:=[(12,dG .i64 q),(24,dG .i64 q)],cv:=[(7,xq λW a=>LC a.row1 f j hb (i _ _ rfl hx W a))]} 200 (Iv.one h) λd k=>⟨by simp [pW,q],k⟩
 ·exact bm (t:=4) (v:=.u (bits .or .u64 c (Uz.wrap t.ra))) Iv.eng {eq:=[(12,dG .i64 q),(24,dG .i64 q)],cv:=[(7,xq λW a=>LC a.row1 f j hb (i _ _ rfl hx W a))]} 200 (Iv.one h) λd k=>⟨by simp [pW,q],k⟩
 ·exact bm (t:=4) (v:=.u (bits .andNot .u64 c (Uz.wrap t.ra))) Iv.eng {eq:=[(12,dG .i64 q),(24,dG .i64 q)],cv:=[(7,xq λW a=>LC a.row1 f j hb (i _ _ rfl hx W a))]} 200 (Iv.one h) λd k=>⟨by simp [pW,q],k⟩
theorem QA (cs:List Int) (pr pc:Int) (m:Bool) (h:iq ⟨g,bL M A t,[]⟩ w) (v:∀ W,Iv [g] w [⟨g,bL M A t,[]⟩] W->Calls prog 271 #[.slice A.ac M.cs.length A.cc,.i M.pr,.bool (t.op==96)] W λe d=>∃ (a:Option Addr) (c:Nat),e=.returned (.tuple #[.slice a cs.length c,.i pr,.u pc,.bool m])/\(m=true->d.ownsRow W.heap.size 22 1 (.slice a cs.length c) cs.length (cs.map (Value.int .u64)))/\Bw W d):Calls prog 238 #[.p g 0] w λe d=>e=.returned (.tuple #[])/\if m then ∃ (a:Option Addr) (c:Nat),Iv [g] w [⟨g,bL {M with cs:=cs,pr:=pr} {A with ac:=a,cc:=c} {t with nx:=pc},[]⟩] d/\d.ownsRow w.heap.size 22 1 (.slice a cs.length c) cs.length (cs.map (Value.int .u64)) else Iv [g] w [⟨g,bL M A {t with up:=true,cz:=2,vl:=t.wd},[]⟩] d:=by
 have y:g<w.heap.size:=let ⟨_,b⟩:=h;(Array.getElem?_eq_some_iff.1 b).1;refine gg (args:=[.p g 0]) (Iv [g] w [⟨g,bL M A t,[]⟩]) func238 ?_;refine aK 0 1 ?_;refine aS Iv.eng {} 60 (Iv.one h) v λB e E r b=>?_;obtain ⟨a,c,rfl,z,n⟩:=b;have f:=r.below n;refine ⟨_,0,rfl,λ_=>f,?_⟩;cases m with
 | true =>refine ae (td Iv.ez f) {} 60 (Dw.refl _) λp q=>?_;refine aH (λ_=>True) ?_;have l:=f.dw q;have o:p.ownsRow w.heap.size 22 1 (.slice a cs.length c) cs.length (cs.map (Value.int .u64)):=(by obtain ⟨j,rfl⟩:=q;exact eg (cG (z rfl) r.ag.size) λk _=>rfl);exact gp (R1:=[⟨g,bL {M with cs:=cs,pr:=pr} {A with ac:=a,cc:=c} {t with nx:=pc},[]⟩]) (Iv.one l.row1) {} 60 λC s=>⟨rfl,a,c,l.then1 s,eg o λi e=>s.ag.block i (o.lt i e).2 (by rw [List.mem_singleton];have:=(o.lt i e).1;omega)⟩
 | false =>refine aS Iv.eng {} 60 f (λW x=>px x.row1) λp e F l b=>⟨_,0,b.1,gh ba,?_⟩;refine aH (λ_=>True) ?_;exact pw (Iv.one b.2.row1) {} 40 λD u=>⟨rfl,(l.then1 b.2).then1 u⟩
end
theorem mu {P:Program} {S:World->Prop} {fn:Func} {Rs:Ending->World->Prop} {w:List KI} {F:Fr} (H:Hn P (λx=>x=n) (λx=>x=n)) (m:Nat) (hx:(ij w,(bp P [] H k false m w F).1.1,ij (bp P [] H k false m w F).1.2.1,(bp P [] H k false m w F).1.2.1.isEmpty)=(true,false,true,true)) (he:(bp P [] H k false m w F).2.map Prod.fst=(bp P [] H k false m w F).2.map Prod.snd) (hr:fn.results=#[]) (h:Rs (.returned (.tuple #[])) n):Wg P S (bodyPost P fn Rs) k w F n:=by simp only [Prod.mk.injEq] at hx;refine an (R:=[]) (by simp [ik]) H m (hx:=by rw [hx.1,hx.2.1,hx.2.2.1]) (he:=he) λa b=>?_;rw [List.isEmpty_iff.1 hx.2.2.2];exact bodyPost_end (results_none hr _ _ _) b.nod h
section
variable {w : World} {g : Nat} {M : MV} {A : MA} {t : TV}
theorem NW (h:iq ⟨g,bL M A t,[]⟩ w) (q:t.op=93):Calls prog 181 #[.p g 0] w λe d=>e=.returned (.tuple #[])/\Iv [g] w [⟨g,bL M A {t with up:=true,cz:=IntKind.i64.wrap (8+M.pr),vl:=0},[]⟩] d:=by refine gg (args:=[.p g 0]) (λ_=>True) func181 ?_;refine aK 0 1 ?_;refine fH (Iv.one h) {eq:=[(6,dG .i64 q)]} 80 (R1:=[⟨g,bL M A t,[]⟩]) (λW a=>kg (IntKind.i64.wrap (8+M.pr)) 0 a.row1) λW e d a c=>⟨_,0,c.1,?_⟩;exact gp (Iv.one c.2.row1) {} 40 λW' b=>⟨rfl,(a.then1 c.2).then1 b⟩
theorem Kj (h:iq ⟨g,bL M A t,[]⟩ w) (q:t.op=94):Calls prog 181 #[.p g 0] w λe d=>e=.returned (.tuple #[])/\Iv [g] w [⟨g,bL M A {t with up:=true,cz:=3,vl:=M.pc},[]⟩] d:=by refine gg (args:=[.p g 0]) (λ_=>True) func181 ?_;refine aK 0 1 ?_;refine fH (Iv.one h) {eq:=[(6,dG .i64 q)]} 80 (R1:=[⟨g,bL M A t,[]⟩]) (λW a=>kg 3 M.pc a.row1) λW e d a c=>⟨_,0,c.1,?_⟩;exact gp (Iv.one c.2.row1) {} 40 λW' b=>⟨rfl,(a.then1 c.2).then1 b⟩
theorem NY (h:iq ⟨g,bL M A t,[]⟩ w) (q:t.op=97\/t.op=98):Calls prog 181 #[.p g 0] w λe f=>e=.returned (.tuple #[])/\Iv [g] w [⟨g,if M.pr==0 then bL M A {t with up:=true,cz:=2,vl:=t.wd} else bL {M with wt:=t.op==97} A t,[]⟩] f:=by
 refine gg (args:=[.p g 0]) (λ_=>True) func181 ?_;refine aK 0 1 ?_;obtain ⟨p,c⟩:∃ p,(M.pr==0)=p:=⟨_,rfl⟩;rw [c];cases p with
 | true =>
   rcases q with q|q;all_goals
    refine fH (Iv.one h) {eq:=[(6,dG .i64 q),(39,ak c)]} 80 (R1:=[⟨g,bL M A t,[]⟩]) (λW b=>px b.row1) λW e f b d=>⟨_,0,d.1,?_⟩
    exact pw (Iv.one d.2.row1) {} 40 λW' a=>⟨rfl,(b.then1 d.2).then1 a⟩
 | false =>rcases q with q | q;all_goals exact gp (R1:=[⟨g,bL {M with wt:=t.op==97} A t,[]⟩]) (Iv.one h) {eq:=[(6,dG .i64 q),(39,ak c)]} 80 λW' a=>⟨rfl,a⟩
theorem Kk {Rc:World->Ending->World->Prop} (h:iq ⟨g,bL M A t,[]⟩ w) (q:t.op=95\/t.op=96) (d:∀ W,Iv [g] w [⟨g,bL M A t,[]⟩] W->Calls prog 238 #[.p g 0] W (Rc W)) (f:∀ W e a,Iv [g] w [⟨g,bL M A t,[]⟩] W->Rc W e a->e=.returned (.tuple #[])):Calls prog 181 #[.p g 0] w λe a=>e=.returned (.tuple #[])/\∃ W,Iv [g] w [⟨g,bL M A t,[]⟩] W/\Rc W e a:=by
 refine gg (args:=[.p g 0]) (λ_=>True) func181 ?_;refine aK 0 1 ?_;rcases q with q | q;all_goals
  refine fH (Iv.one h) {eq:=[(6,dG .i64 q)]} 80 (R1:=[⟨g,bL M A t,[]⟩]) d λW e a b c=>?_
  obtain rfl:=f W e a b c
  exact ⟨_,0,rfl,mu {} 40 ba ba rfl ⟨rfl,W,b,c⟩⟩
end
end Go.Proofs.YtfagphfjfhpmjaaGreatDoor
