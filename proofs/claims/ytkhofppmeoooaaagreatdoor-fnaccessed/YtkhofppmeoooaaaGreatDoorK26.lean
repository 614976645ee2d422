/- Own lemmas. -/
import Derived.Test.YtkhofppmeoooaaaGreatDoorK25
import Derived.Deep.RegionHeld3
import Derived.Deep.RegionWith
import Derived.Recover
namespace Go.Proofs.YtkhofppmeoooaaaGreatDoor
open Go.RowKit
set_option linter.unusedVariables false

def restV (zs:List Int) (n:Nat) (l:List Int) (p va k e x:Int) (lv:Nat):Fd :=
 if ptrB e=true then (if stopB e lv=true then pageF k else walkL zs n l p va k (lv - 1) (IntKind.u64.wrap (frameV e*4096))) else leafV l p va k e x lv

theorem ent_cases (zs:List Int) (n:Nat) (l:List Int) (p va k T:Int) (lv:Nat) :
 (entE zs n l k (pteAt T va lv)=gave (faultC k)∧walkL zs n l p va k lv T=faultF k)∨(entE zs n l k (pteAt T va lv)=gave (pageC k)∧walkL zs n l p va k lv T=pageF k) ∨
 (entE zs n l k (pteAt T va lv)=.returned (.tuple #[.int .u64 (pteAt T va lv),.int .u64 (pteV zs (pteAt T va lv))])∧okB n (pteAt T va lv) 8=true∧walkL zs n l p va k lv T=restV zs n l p va k (pteV zs (pteAt T va lv)) (pteAt T va lv) lv):=by
 rw [walkL_step]
 unfold entE restV
 generalize pteAt T va lv=x
 by_cases h1:okB n x 8=true
 ·rw [if_pos h1,if_pos h1]
  by_cases h2:permRest l 1 x (lastOf x 8) 2 4 0=true
  ·rw [if_pos h2,if_pos h2]
   by_cases h3:badB (pteV zs x)=true
   ·rw [if_pos h3,if_pos h3]
    exact .inr (.inl ⟨rfl,rfl⟩)
   ·rw [if_neg h3,if_neg h3]
    exact .inr (.inr ⟨rfl,h1,rfl⟩)
  ·rw [if_neg h2,if_neg h2]
   exact .inl ⟨rfl,rfl⟩
 ·rw [if_neg h1,if_neg h1]
  exact .inl ⟨rfl,rfl⟩

def fdQ (V:Fd) (zs:List Int) (n:Nat) (w:World) (r:Ending) (w':World):Prop :=
 if V.code=0 then ∃ (a':Option Addr) (c:Nat),r=.returned (.tuple #[.int .u64 V.addr,.slice a' n c])∧Fresh w w' (markB zs V) a' n c else r=gave V.code∧Below w.heap.size w w'

theorem fd_page {V:Fd} {zs:List Int} {n:Nat} {w w':World} {k:Int} (h:V=pageF k) (h1:1≤k) (h3:k≤3) (hb:Below w.heap.size w w'):fdQ V zs n w (gave (pageC k)) w':=by
 subst h
 have hk:k=1∨k=2∨k=3:=by omega
 unfold fdQ
 rw [if_neg]
 ·exact ⟨rfl,hb⟩
 ·rcases hk with rfl | rfl | rfl<;>decide

theorem fd_fault {V:Fd} {zs:List Int} {n:Nat} {w w':World} {k:Int} (h:V=faultF k) (h1:1≤k) (h3:k≤3) (hb:Below w.heap.size w w'):fdQ V zs n w (gave (faultC k)) w':=by
 subst h
 have hk:k=1∨k=2∨k=3:=by omega
 unfold fdQ
 rw [if_neg]
 ·exact ⟨rfl,hb⟩
 ·rcases hk with rfl | rfl | rfl<;>decide

theorem fd_ok {V:Fd} {zs ms:List Int} {n:Nat} {w w':World} {ad:Int} {a':Option Addr} {c:Nat} (h:V.code=0) (ha:V.addr=ad) (hm:markB zs V=ms) (hf:Fresh w w' ms a' n c):fdQ V zs n w (.returned (.tuple #[.int .u64 ad,.slice a' n c])) w':=by
 unfold fdQ
 rw [if_pos h,ha,hm]
 exact ⟨_,_,rfl,hf⟩

theorem leaf_no {l:List Int} {p va k e x:Int} {lv:Nat} (h:(offB e lv||noKind l k e||noPriv l p k e)=true):leafV l p va k e x lv=pageF k:=by
 unfold leafV
 cases h1:offB e lv
 ·cases h2:noKind l k e
  ·cases h3:noPriv l p k e
   ·rw [h1,h2,h3] at h;cases h
   ·rfl
  ·rfl
 ·rfl

theorem leaf_go {l:List Int} {p va k e x:Int} {lv:Nat} (h:(offB e lv||noKind l k e||noPriv l p k e)=false):offB e lv=false ∧
 leafV l p va k e x lv=(if (wantV e k != e)=true then (if permRest l 1 x (lastOf x 8) 3 4 0=true then ⟨leadV e va lv,0,true,x,wantV e k⟩ else faultF k) else ⟨leadV e va lv,0,false,0,0⟩):=by
 unfold leafV
 cases h1:offB e lv
 ·cases h2:noKind l k e
  ·cases h3:noPriv l p k e
   ·exact ⟨rfl,rfl⟩
   ·rw [h1,h2,h3] at h;cases h
  ·rw [h1,h2] at h;cases h
 ·rw [h1] at h;cases h

set_option maxRecDepth 100000 in
set_option maxHeartbeats 6400000 in
theorem lead_any (g n rc:Nat) (zs:List Int) (b off lc:Nat) (l:List Int) (p va k:Int) (w:World) (W:Wk w g n rc zs b off lc l p va k) :
 Calls Tryz.prog 49 #[.agg #[.slice (some ⟨g,0,none⟩) n rc,.slice (some ⟨b,off,none⟩) 22 lc,.int .i64 p,.int .u64 va,.int .i64 k]] w fun r w'=>fdQ (walkV zs n l p va k) zs n w r w':=by
 have HW:Hid (Wk w g n rc zs b off lc l p va k):=W
 have hbd:=ramOkB_bd W.hr
 have hB0:∀ o m,Below w.heap.size w ((w.alloc o).drewN m):=fun o m=>below_drN ((Below.refl _ _).alloc (Nat.le_refl _) _) m
 have c15:∀ o,(w.alloc o).cell? ⟨b,off+15,none⟩=some (.int .u64 (l.getD 15 0)):=fun o=>(W.below (hB0 o 0)).at 15 (by omega)
 have us:=W.hU 15
 have HPF:Hid (∀ w,Calls Tryz.prog 86 #[.agg #[.slice (some ⟨g,0,none⟩) n rc,.slice (some ⟨b,off,none⟩) 22 lc,.int .i64 p,.int .u64 va,.int .i64 k]] w fun e w'=>e=gave (pageC k)∧Below w.heap.size w w'):=fun w=>pageFault_any _ _ _ _ _ _ _ _ W.hk1 W.hk3 w
 have HB60:Hid (∀ w,Calls Tryz.prog 28 #[.int .u64 (l.getD 15 0),.int .i64 60,.int .i64 4] w fun r w'=>r=.returned (.int .u64 (fld (l.getD 15 0) 60 4))∧w'=w.drew):=fun w=>bitsAt_any _ 60 4 us.1 us.2 (by omega) (by omega) w
 have HB0:Hid (∀ w,Calls Tryz.prog 28 #[.int .u64 (l.getD 15 0),.int .i64 0,.int .i64 44] w fun r w'=>r=.returned (.int .u64 (fld (l.getD 15 0) 0 44))∧w'=w.drew):=fun w=>bitsAt_any _ 0 44 us.1 us.2 (by omega) (by omega) w
 have HWD:Hid (∀ w,Calls Tryz.prog 11 #[.int .u64 va,.int .i64 39] w fun r w'=>r=.returned (.int .u64 (widen 39 va))∧∃ m,w'=w.drewN m):=fun w=>(implWiden_any va 39 (by omega) (by omega) w).mono fun _ _ h=>⟨h.1,0,h.2⟩
 have FT:Hid (IntKind.u64.wrap (fld (l.getD 15 0) 0 44*4096)=topT l):=top_eq l us
 have FV:walkV zs n l p va k=if ((p==3)||(fld (l.getD 15 0) 60 4==0))=true then ⟨va,0,false,0,0⟩ else if (widen 39 va != va)=true then pageF k else walkL zs n l p va k 2 (topT l):=by
  rw [satp_eq _ us]
  rfl
 have HPV:Hid (privB p=true):=(legalB_parts W.hg).2
 generalize walkV zs n l p va k=V at *
 generalize l.getD 15 0=s at *
 obtain ⟨P,hP⟩:∃ P:World→Prop,P=fun w'=>w'.heap[w.heap.size]?=some (.cells #[.slice (some ⟨g,0,none⟩) n rc,.slice (some ⟨b,off,none⟩) 22 lc,.int .i64 p,.int .u64 va,.int .i64 k] 76 (0,0))∧Below w.heap.size w w':=⟨_,rfl⟩
 have PM:Hid (∀ w',P w'→w'.heap[w.heap.size]?=some (.cells #[.slice (some ⟨g,0,none⟩) n rc,.slice (some ⟨b,off,none⟩) 22 lc,.int .i64 p,.int .u64 va,.int .i64 k] 76 (0,0))∧Below w.heap.size w w'):=by
  subst hP
  exact fun w' h=>h
 have PI:Hid (∀ w',w'.heap[w.heap.size]?=some (.cells #[.slice (some ⟨g,0,none⟩) n rc,.slice (some ⟨b,off,none⟩) 22 lc,.int .i64 p,.int .u64 va,.int .i64 k] 76 (0,0))→Below w.heap.size w w'→P w'):=by
  subst hP
  exact fun w' h h2=>⟨h,h2⟩
 clear hP
 have P0:Hid (∀ m,P ((w.alloc (.cells #[.slice (some ⟨g,0,none⟩) n rc,.slice (some ⟨b,off,none⟩) 22 lc,.int .i64 p,.int .u64 va,.int .i64 k] 76)).drewN m)):=fun m=>PI.out _ (heap_alloc_new w _) (hB0 _ _)
 have PB:Hid (∀ w1 w2,P w1→Below w1.heap.size w1 w2→P w2):=fun w1 w2 h hb=>PI.out _ (stays hb (PM.out _ h).1) (below_trans (PM.out _ h).2 hb)
 have PD:Hid (∀ w1,P w1→P w1.drew):=fun w1 h=>PB.out _ _ h (below_drN (Below.refl _ _) 1)
 have KS:Hid (∀ w',P w'→(w'.cell? ⟨w.heap.size,0,none⟩=some (.slice (some ⟨g,0,none⟩) n rc)∧w'.cell? ⟨w.heap.size,1,none⟩=some (.slice (some ⟨b,off,none⟩) 22 lc)∧w'.cell? ⟨w.heap.size,2,none⟩=some (.int .i64 p)∧w'.cell? ⟨w.heap.size,3,none⟩=some (.int .u64 va)∧w'.cell? ⟨w.heap.size,4,none⟩=some (.int .i64 k))∧P w'):=fun w' h=>⟨cells5 (PM.out _ h).1,h⟩
 have HCL:Hid (∀ w',P w'→Calls Tryz.prog 41 #[.slice (some ⟨g,0,none⟩) n rc] w' fun r w''=>∃ (a':Option Addr) (c:Nat),r=.returned (.slice a' n c)∧Hid (Fresh w w'' zs a' n c)∧P w''):=fun w' h=>(cloneW_any g n rc zs w' W.hz (by omega) (by omega) (W.hs.below (PM.out _ h).2)).mono fun r w'' ⟨a',c,e1,e2,e3⟩=>⟨a',c,e1,⟨own_low e2 (PM.out _ h).2.size,below_trans (PM.out _ h).2 e3⟩,PB.out _ _ h e3⟩
 have HK:Hid (1≤k∧k≤3):=⟨W.hk1,W.hk3⟩
 have HEN:Hid (∀ (T:Int) (lv:Nat) (w':World),lv≤2→P w'→Calls Tryz.prog 87 #[.agg #[.slice (some ⟨g,0,none⟩) n rc,.slice (some ⟨b,off,none⟩) 22 lc,.int .i64 p,.int .u64 va,.int .i64 k],.int .u64 T,.int .i64 (lv:Int)] w' fun e w''=>e=entE zs n l k (pteAt T va lv)∧P w''):=fun T lv w' hlv h=>(entryIn_any g n rc zs b off lc l p va k T lv hlv w' (W.below (PM.out _ h).2)).mono fun r w'' h2=>⟨h2.1,PB.out _ _ h h2.2⟩
 have HTB:Hid (∀ (e:Int) (lv:Nat) (w':World),U e→P w'→Calls Tryz.prog 89 #[.agg #[.slice (some ⟨g,0,none⟩) n rc,.slice (some ⟨b,off,none⟩) 22 lc,.int .i64 p,.int .u64 va,.int .i64 k],.int .u64 e,.int .i64 (lv:Int)] w' fun r w''=>r=tabE k e lv∧P w''):=fun e lv w' he h=>(tableOf_any g n rc b off lc p va k e lv he W.hk1 W.hk3 w').mono fun r w'' h2=>⟨h2.1,PB.out _ _ h h2.2⟩
 have HCK:Hid (p=0∨p=1→∀ (e:Int) (lv:Nat) (w':World),lv≤2→U e→P w'→Calls Tryz.prog 90 #[.agg #[.slice (some ⟨g,0,none⟩) n rc,.slice (some ⟨b,off,none⟩) 22 lc,.int .i64 p,.int .u64 va,.int .i64 k],.int .u64 e,.int .i64 (lv:Int)] w' fun r w''=>r=chkE l p k e lv∧P w''):=fun hp e lv w' hlv he h=>(checkLeaf_any g n rc zs b off lc l p va k e lv hlv he hp w' (W.below (PM.out _ h).2)).mono fun r w'' h2=>⟨h2.1,PB.out _ _ h h2.2⟩
 have HPL:Hid (∀ (e:Int) (lv:Nat),lv≤2→U e→offB e lv=false→∀ (w':World),P w'→Calls Tryz.prog 91 #[.agg #[.slice (some ⟨g,0,none⟩) n rc,.slice (some ⟨b,off,none⟩) 22 lc,.int .i64 p,.int .u64 va,.int .i64 k],.int .u64 e,.int .i64 (lv:Int)] w' fun r w''=>r=.returned (.int .u64 (leadV e va lv))∧P w''):=fun e lv hlv he h0 w' h=>(place_w g n rc b off lc p va k e lv hlv he W.hva h0 w').mono fun r w'' h2=>⟨h2.1,PB.out _ _ h h2.2⟩
 have HMN:Hid (∀ (e x:Int),U e→(wantV e k != e)=false→∀ (w':World),P w'→Calls Tryz.prog 92 #[.agg #[.slice (some ⟨g,0,none⟩) n rc,.slice (some ⟨b,off,none⟩) 22 lc,.int .i64 p,.int .u64 va,.int .i64 k],.int .u64 x,.int .u64 e] w' fun r w''=>∃ (a':Option Addr) (c:Nat),r=.returned (.slice a' n c)∧Hid (Fresh w w'' zs a' n c)∧P w''):=fun e x he hm w' h=>(marked_no g n rc zs b off lc l p va k e x he hm w' (W.below (PM.out _ h).2)).mono fun r w'' ⟨a',c,e1,e2,e3⟩=>⟨a',c,e1,⟨own_low e2 (PM.out _ h).2.size,below_trans (PM.out _ h).2 e3⟩,PB.out _ _ h e3⟩
 have HMY:Hid (∀ (e x:Int),U e→okB n x 8=true→(wantV e k != e)=true→permRest l 1 x (lastOf x 8) 3 4 0=true→∀ (w':World),P w'→Calls Tryz.prog 92 #[.agg #[.slice (some ⟨g,0,none⟩) n rc,.slice (some ⟨b,off,none⟩) 22 lc,.int .i64 p,.int .u64 va,.int .i64 k],.int .u64 x,.int .u64 e] w' fun r w''=>∃ (a':Option Addr) (c:Nat),r=.returned (.slice a' n c)∧Hid (Fresh w w'' (put zs (x - 2147483648).toNat (wantV e k) 8) a' n c)∧P w''):=fun e x he hx hm hp w' h=>(marked_yes g n rc zs b off lc l p va k e x he hx hm w' (W.below (PM.out _ h).2)).mono fun r w'' h2=>by
  unfold mrkQ at h2
  rw [if_pos hp] at h2
  obtain ⟨a',c,e1,e2,e3⟩:=h2
  exact ⟨a',c,e1,⟨own_low e2 (PM.out _ h).2.size,below_trans (PM.out _ h).2 e3⟩,PB.out _ _ h e3⟩
 have HMF:Hid (∀ (e x:Int),U e→okB n x 8=true→(wantV e k != e)=true→permRest l 1 x (lastOf x 8) 3 4 0=false→∀ (w':World),P w'→Calls Tryz.prog 92 #[.agg #[.slice (some ⟨g,0,none⟩) n rc,.slice (some ⟨b,off,none⟩) 22 lc,.int .i64 p,.int .u64 va,.int .i64 k],.int .u64 x,.int .u64 e] w' fun r w''=>r=.panicked [{ v:=.iface 116 (.int .i64 (faultC k)),recovered:=false }]∧P w''):=fun e x he hx hm hp w' h=>(marked_yes g n rc zs b off lc l p va k e x he hx hm w' (W.below (PM.out _ h).2)).mono fun r w'' h2=>by
  unfold mrkQ at h2
  rw [if_neg (by rw [hp];decide)] at h2
  exact ⟨h2.1,PB.out _ _ h h2.2⟩
 have HLF:Hid (∀ (e:Int) (w':World),U e→Calls Tryz.prog 88 #[.int .u64 e] w' fun r w''=>r=.returned (.bool (!ptrB e))∧w''=w'):=fun e w' he=>isLeaf_any e he w'
 have HU:Hid (∀ x,U (pteV zs x)):=fun x=>U_pte zs W.hw x
 clear W
 cases t1:(p==3) with
 | true =>
  have F1:V=⟨va,0,false,0,0⟩:=by rw [t1] at FV;exact FV.trans (if_pos rfl)
  have F2:Hid (V.code=0∧V.addr=va∧markB zs V=zs):=by subst F1;exact ⟨rfl,rfl,rfl⟩
  clear F1 FV
  go_enter Tryz.func49,Tryz.ntmps49
  go_wp2_with fail
  have p0:=P0.out 0
  obtain ⟨⟨k0,k1,k2,k3,k4⟩,_⟩:=KS.out _ p0
  go_region_held3 (fun w'=>(w'.cell? ⟨w.heap.size,0,none⟩=some (.slice (some ⟨g,0,none⟩) n rc)∧w'.cell? ⟨w.heap.size,1,none⟩=some (.slice (some ⟨b,off,none⟩) 22 lc)∧w'.cell? ⟨w.heap.size,2,none⟩=some (.int .i64 p)∧w'.cell? ⟨w.heap.size,3,none⟩=some (.int .u64 va)∧w'.cell? ⟨w.heap.size,4,none⟩=some (.int .i64 k))∧P w') (first | exact KS.out _ (PD.out _ (by assumption)) | exact KS.out _ (by assumption)) (first | (go_at_call 41;with_reducible refine (HCL.out _ ?_).mono ?_;(first | assumption | (exact PD.out _ (by assumption)) | (exact And.right (by assumption)));rintro e w8 ⟨a',c,rfl,fr8,p8⟩))
  go_wp2_with fail
  go_ret2
  exact fd_ok F2.out.1 F2.out.2.1 F2.out.2.2 fr8.out
 | false =>
  have hp01:p=0∨p=1:=by
   have h1:=HPV.out
   have h2:¬ p=3:=by simpa using t1
   unfold privB at h1
   simp only [Bool.or_eq_true,beq_iff_eq] at h1
   omega
  have HCK2:=HCK.out hp01
  have HCK3:Hid (∀ (e:Int) (lv:Nat) (w':World),lv≤2→U e→P w'→Calls Tryz.prog 90 #[.agg #[.slice (some ⟨g,0,none⟩) n rc,.slice (some ⟨b,off,none⟩) 22 lc,.int .i64 p,.int .u64 va,.int .i64 k],.int .u64 e,.int .i64 (lv:Int)] w' fun r w''=>r=chkE l p k e lv∧P w''):=HCK2
  clear HCK HCK2 hp01 HPV
  rw [t1] at FV
  cases t2:(fld s 60 4==0) with
  | true =>
   have F1:V=⟨va,0,false,0,0⟩:=by rw [t2] at FV;exact FV.trans (if_pos rfl)
   have F2:Hid (V.code=0∧V.addr=va∧markB zs V=zs):=by subst F1;exact ⟨rfl,rfl,rfl⟩
   clear F1 FV
   go_enter Tryz.func49,Tryz.ntmps49
   go_wp2_with fail
   refine (HB60.out _).mono ?_
   rintro r w1 ⟨rfl,hw1⟩
   have p1:P w1:=by rw [hw1];exact P0.out 1
   have HP1:Hid (P w1):=p1
   clear hw1 c15 p1
   obtain ⟨⟨k0,k1,k2,k3,k4⟩,_⟩:=KS.out _ HP1.out
   go_wp2_with fail
   have p0:=HP1.out
   go_region_held3 (fun w'=>(w'.cell? ⟨w.heap.size,0,none⟩=some (.slice (some ⟨g,0,none⟩) n rc)∧w'.cell? ⟨w.heap.size,1,none⟩=some (.slice (some ⟨b,off,none⟩) 22 lc)∧w'.cell? ⟨w.heap.size,2,none⟩=some (.int .i64 p)∧w'.cell? ⟨w.heap.size,3,none⟩=some (.int .u64 va)∧w'.cell? ⟨w.heap.size,4,none⟩=some (.int .i64 k))∧P w') (first | exact KS.out _ (PD.out _ (by assumption)) | exact KS.out _ (by assumption)) (first | (go_at_call 41;with_reducible refine (HCL.out _ ?_).mono ?_;(first | assumption | (exact PD.out _ (by assumption)) | (exact And.right (by assumption)));rintro e w8 ⟨a',c,rfl,fr8,p8⟩))
   go_wp2_with fail
   go_ret2
   exact fd_ok F2.out.1 F2.out.2.1 F2.out.2.2 fr8.out
  | false =>
   rw [t2] at FV
   have FV1:V=if (widen 39 va != va)=true then pageF k else walkL zs n l p va k 2 (topT l):=FV.trans (if_neg (by decide))
   clear FV
   cases t3:(widen 39 va != va) with
   | true =>
    have F2:Hid (V=pageF k):=by rw [t3] at FV1;exact FV1.trans (if_pos rfl)
    clear FV1
    go_enter Tryz.func49,Tryz.ntmps49
    go_wp2_with fail
    refine (HB60.out _).mono ?_
    rintro r w1 ⟨rfl,hw1⟩
    have p1:P w1:=by rw [hw1];exact P0.out 1
    have HP1:Hid (P w1):=p1
    clear hw1 c15 p1
    obtain ⟨⟨k0,k1,k2,k3,k4⟩,_⟩:=KS.out _ HP1.out
    go_wp2_with fail
    go_quiet (first | (go_at_call 11;with_reducible refine Calls.quiet_of (HWD.out _)))
    go_wp2_with fail
    refine (HPF.out _).mono ?_
    rintro r w3 ⟨rfl,hb3⟩
    exact ⟨rfl,fd_page F2.out HK.out.1 HK.out.2 (below_trans (below_drN (PM.out _ HP1.out).2 _) hb3)⟩
   | false =>
    have F1:Hid (walkL zs n l p va k 2 (topT l)=V):=by rw [t3] at FV1;exact (FV1.trans (if_neg (by decide))).symm
    clear FV1
    have EC0:=ent_cases zs n l p va k (topT l) 2
    rw [F1.out] at EC0
    have EC1:=hid_mk EC0
    clear EC0 F1
    go_enter Tryz.func49,Tryz.ntmps49
    go_wp2_with fail
    refine (HB60.out _).mono ?_
    rintro r w1 ⟨rfl,hw1⟩
    have p1:P w1:=by rw [hw1];exact P0.out 1
    have HP1:Hid (P w1):=p1
    clear hw1 c15 p1
    obtain ⟨⟨k0,k1,k2,k3,k4⟩,_⟩:=KS.out _ HP1.out
    go_wp2_with fail
    go_quiet (first | (go_at_call 11;with_reducible refine Calls.quiet_of (HWD.out _)))
    go_wp2_with fail
    refine (HB0.out _).mono ?_
    rintro r w6 ⟨rfl,hw6⟩
    have p6:P w6:=by rw [hw6];exact PD.out _ (PB.out _ _ HP1.out (below_drN (Below.refl _ _) _))
    have HP6:Hid (P w6):=p6
    clear hw6 p6 k0 k1 k2 k3 k4
    obtain ⟨⟨k0,k1,k2,k3,k4⟩,_⟩:=KS.out _ HP6.out
    go_wp2_with fail
    rw [FT.out]
    refine (HEN.out (topT l) 2 _ (by omega) HP6.out).mono ?_
    rintro r w2 ⟨hr,p2⟩
    have HP2:Hid (P w2):=p2
    clear p2 k0 k1 k2 k3 k4
    rcases EC1.out with ⟨h1,h2⟩ | ⟨h1,h2⟩ | ⟨h1,h2,h3⟩
    ·rw [h1] at hr
     subst hr
     exact ⟨rfl,fd_fault h2 HK.out.1 HK.out.2 (PM.out _ HP2.out).2⟩
    ·rw [h1] at hr
     subst hr
     exact ⟨rfl,fd_page h2 HK.out.1 HK.out.2 (PM.out _ HP2.out).2⟩
    ·rw [h1] at hr
     subst hr
     have HX:Hid (okB n (pteAt (topT l) va 2) 8=true):=h2
     have HV:Hid (V=restV zs n l p va k (pteV zs (pteAt (topT l) va 2)) (pteAt (topT l) va 2) 2):=h3
     have HUE:=hid_mk (HU.out (pteAt (topT l) va 2))
     clear h1 h2 h3 EC1
     generalize pteV zs (pteAt (topT l) va 2)=e0 at *
     generalize pteAt (topT l) va 2=x0 at *
     obtain ⟨⟨k0,k1,k2,k3,k4⟩,_⟩:=KS.out _ HP2.out
     go_wp2_with fail
     clear k0 k1 k2 k3 k4
     go_loopw [6,7,8] (fun lvv av ev wr=>∃ (lv:Nat) (x e:Int),lv≤2∧lvv=.int .i64 lv∧av=.int .u64 x∧ev=.int .u64 e∧Hid (U e)∧Hid (okB n x 8=true)∧Hid (V=restV zs n l p va k e x lv)∧Hid (P wr)) (fun lvv _ _ _=>(intOf lvv).toNat)
     case atStart=>exact ⟨2,x0,e0,by omega,rfl,rfl,rfl,HUE,HX,HV,HP2⟩
     case round =>
      clear HUE HX HV HP2
      obtain ⟨lv,x,e,hlv,rfl,rfl,rfl,HUE,HX,HV,HP⟩:=hrel
      obtain ⟨⟨k0,k1,k2,k3,k4⟩,_⟩:=KS.out _ HP.out
      go_wp2_with fail
      refine (HLF.out e _ HUE.out).mono ?_
      rintro r w3 ⟨rfl,hw3⟩
      have hw3':=hw3.symm
      subst hw3'
      cases tp:ptrB e with
      | true =>
       have HV1:V=if stopB e lv=true then pageF k else walkL zs n l p va k (lv - 1) (IntKind.u64.wrap (frameV e*4096)):=HV.out.trans (by unfold restV;rw [tp];exact if_pos rfl)
       clear HV
       have TE:tabE k e lv=if stopB e lv=true then gave (pageC k) else .returned (.int .u64 (IntKind.u64.wrap (frameV e*4096))):=rfl
       have HTB2:=hid_mk (HTB.out e lv wr HUE.out HP.out)
       generalize tabE k e lv=te at *
       cases ts:stopB e lv with
       | true =>
        have HV2:Hid (V=pageF k):=HV1.trans (if_pos ts)
        have TE2:Hid (te=gave (pageC k)):=TE.trans (if_pos ts)
        clear HV1 TE
        go_wp2_with fail
        refine HTB2.out.mono ?_
        rintro r w4 ⟨hr,p4⟩
        rw [TE2.out] at hr
        subst hr
        exact ⟨rfl,fd_page HV2.out HK.out.1 HK.out.2 (PM.out _ p4).2⟩
       | false =>
        have tsn:¬ stopB e lv=true:=by rw [ts];decide
        have HV2:Hid (V=walkL zs n l p va k (lv - 1) (IntKind.u64.wrap (frameV e*4096))):=HV1.trans (if_neg tsn)
        have TE2:Hid (te=.returned (.int .u64 (IntKind.u64.wrap (frameV e*4096)))):=TE.trans (if_neg tsn)
        clear HV1 TE tsn
        have h0:1≤lv:=by
         rcases Nat.eq_zero_or_pos lv with h | h
         ·subst h
          have:stopB e 0=true:=rfl
          rw [this] at ts
          cases ts
         ·exact h
        obtain ⟨m,hm⟩:∃ m,lv=m+1:=⟨lv - 1,by omega⟩
        have HM:Hid ((lv:Int) - 1=(m:Int)):=by show _=_;omega
        have EC0:=ent_cases zs n l p va k (IntKind.u64.wrap (frameV e*4096)) m
        have HV3:=HV2.out
        rw [show lv - 1=m from by omega] at HV3
        rw [← HV3] at EC0
        have EC1:=hid_mk EC0
        have HMB:=hid_mk (show m≤2∧m < lv from ⟨by omega,by omega⟩)
        clear EC0 HV2 HV3 hm
        generalize IntKind.u64.wrap (frameV e*4096)=T at *
        go_wp2_with fail
        refine HTB2.out.mono ?_
        rintro r w4 ⟨hr,p4⟩
        rw [TE2.out] at hr
        subst hr
        have HP4:Hid (P w4):=p4
        clear p4 k0 k1 k2 k3 k4
        obtain ⟨⟨k0,k1,k2,k3,k4⟩,_⟩:=KS.out _ HP4.out
        go_wp2_with fail
        rw [HM.out]
        refine (HEN.out T m _ HMB.out.1 HP4.out).mono ?_
        rintro r w5 ⟨hr,p5⟩
        have HP5:Hid (P w5):=p5
        clear p5 k0 k1 k2 k3 k4
        rcases EC1.out with ⟨h1,h2⟩ | ⟨h1,h2⟩ | ⟨h1,h2,h3⟩
        ·rw [h1] at hr
         subst hr
         exact ⟨rfl,fd_fault h2 HK.out.1 HK.out.2 (PM.out _ HP5.out).2⟩
        ·rw [h1] at hr
         subst hr
         exact ⟨rfl,fd_page h2 HK.out.1 HK.out.2 (PM.out _ HP5.out).2⟩
        ·rw [h1] at hr
         subst hr
         have HX5:=hid_mk h2
         have HV5:=hid_mk h3
         have HU5:=hid_mk (HU.out (pteAt T va m))
         clear h1 h2 h3 EC1
         generalize pteV zs (pteAt T va m)=e5 at *
         generalize pteAt T va m=x5 at *
         go_wp2_with fail
         go_roundw
         case rel=>exact ⟨m,x5,e5,HMB.out.1,rfl,rfl,rfl,HU5,HX5,HV5,HP5⟩
         case measure=>have:=HMB.out.2;simp [intOf];omega
      | false =>
       have HV1:V=leafV l p va k e x lv:=HV.out.trans (by unfold restV;rw [tp];exact if_neg (by decide))
       have CE:chkE l p k e lv=if (offB e lv||noKind l k e||noPriv l p k e)=true then gave (pageC k) else .returned (.tuple #[]):=rfl
       have HCK4:=hid_mk (HCK3.out e lv wr hlv HUE.out HP.out)
       clear HV HCK3
       generalize chkE l p k e lv=ce at *
       cases tc:(offB e lv||noKind l k e||noPriv l p k e) with
       | true =>
        have HV2:=hid_mk (HV1.trans (leaf_no tc))
        have CE2:Hid (ce=gave (pageC k)):=CE.trans (if_pos tc)
        clear HV1 CE tc
        go_wp2_with fail
        refine HCK4.out.mono ?_
        rintro r w4 ⟨hr,p4⟩
        rw [CE2.out] at hr
        subst hr
        exact ⟨rfl,fd_page HV2.out HK.out.1 HK.out.2 (PM.out _ p4).2⟩
       | false =>
        obtain ⟨hoff,hlf⟩:=leaf_go (va:=va) (x:=x) tc
        have HV2:=HV1.trans hlf
        have CE2:Hid (ce=.returned (.tuple #[])):=CE.trans (if_neg (by rw [tc];decide))
        have HPL2:=hid_mk (HPL.out e lv hlv HUE.out hoff)
        clear HV1 CE tc hlf hoff
        generalize leadV e va lv=ad at *
        go_wp2_with fail
        refine HCK4.out.mono ?_
        rintro r w4 ⟨hr,p4⟩
        rw [CE2.out] at hr
        subst hr
        clear k0 k1 k2 k3 k4
        obtain ⟨⟨k0,k1,k2,k3,k4⟩,_⟩:=KS.out _ p4
        cases tm:(wantV e k != e) with
        | false =>
         have HM2:=hid_mk (HMN.out e x HUE.out tm)
         have F1:V=⟨ad,0,false,0,0⟩:=HV2.trans (by rw [tm];exact if_neg (by decide))
         have F2:Hid (V.code=0∧V.addr=ad∧markB zs V=zs):=by subst F1;exact ⟨rfl,rfl,rfl⟩
         clear F1 HV2 tm
         go_wp2_with fail
         go_region_held3 (fun w'=>(w'.cell? ⟨w.heap.size,0,none⟩=some (.slice (some ⟨g,0,none⟩) n rc)∧w'.cell? ⟨w.heap.size,1,none⟩=some (.slice (some ⟨b,off,none⟩) 22 lc)∧w'.cell? ⟨w.heap.size,2,none⟩=some (.int .i64 p)∧w'.cell? ⟨w.heap.size,3,none⟩=some (.int .u64 va)∧w'.cell? ⟨w.heap.size,4,none⟩=some (.int .i64 k))∧P w') (first | exact KS.out _ (PD.out _ (by assumption)) | exact KS.out _ (by assumption)) (first | (go_at_call 91;with_reducible refine (HPL2.out _ ?_).mono ?_;(first | assumption | (exact PD.out _ (by assumption)) | (exact And.right (by assumption)));rintro r w8 ⟨rfl,p8⟩) | (go_at_call 92;with_reducible refine (HM2.out _ ?_).mono ?_;(first | assumption | (exact PD.out _ (by assumption)) | (exact And.right (by assumption)));rintro r w9 ⟨a',c,rfl,fr9,p9⟩))
         go_wp2_with fail
         go_ret2
         exact fd_ok F2.out.1 F2.out.2.1 F2.out.2.2 fr9.out
        | true =>
         have HV3:V=if permRest l 1 x (lastOf x 8) 3 4 0=true then ⟨ad,0,true,x,wantV e k⟩ else faultF k:=HV2.trans (by rw [tm];exact if_pos rfl)
         clear HV2
         cases tr:permRest l 1 x (lastOf x 8) 3 4 0 with
         | true =>
          have HM2:=hid_mk (HMY.out e x HUE.out HX.out tm tr)
          have F1:V=⟨ad,0,true,x,wantV e k⟩:=HV3.trans (by rw [tr];exact if_pos rfl)
          have F2:Hid (V.code=0∧V.addr=ad∧markB zs V=put zs (x - 2147483648).toNat (wantV e k) 8):=by subst F1;exact ⟨rfl,rfl,rfl⟩
          clear F1 HV3 tm tr
          generalize put zs (x - 2147483648).toNat (wantV e k) 8=ms at *
          go_wp2_with fail
          go_region_held3 (fun w'=>(w'.cell? ⟨w.heap.size,0,none⟩=some (.slice (some ⟨g,0,none⟩) n rc)∧w'.cell? ⟨w.heap.size,1,none⟩=some (.slice (some ⟨b,off,none⟩) 22 lc)∧w'.cell? ⟨w.heap.size,2,none⟩=some (.int .i64 p)∧w'.cell? ⟨w.heap.size,3,none⟩=some (.int .u64 va)∧w'.cell? ⟨w.heap.size,4,none⟩=some (.int .i64 k))∧P w') (first | exact KS.out _ (PD.out _ (by assumption)) | exact KS.out _ (by assumption)) (first | (go_at_call 91;with_reducible refine (HPL2.out _ ?_).mono ?_;(first | assumption | (exact PD.out _ (by assumption)) | (exact And.right (by assumption)));rintro r w8 ⟨rfl,p8⟩) | (go_at_call 92;with_reducible refine (HM2.out _ ?_).mono ?_;(first | assumption | (exact PD.out _ (by assumption)) | (exact And.right (by assumption)));rintro r w9 ⟨a',c,rfl,fr9,p9⟩))
          go_wp2_with fail
          go_ret2
          exact fd_ok F2.out.1 F2.out.2.1 F2.out.2.2 fr9.out
         | false =>
          have HM2:=hid_mk (HMF.out e x HUE.out HX.out tm tr)
          have F2:Hid (V=faultF k):=HV3.trans (by rw [tr];exact if_neg (by decide))
          clear HV3 tm tr
          go_wp2_with fail
          refine wp_region_held_drew (S:=(fun w'=>(w'.cell? ⟨w.heap.size,0,none⟩=some (.slice (some ⟨g,0,none⟩) n rc)∧w'.cell? ⟨w.heap.size,1,none⟩=some (.slice (some ⟨b,off,none⟩) 22 lc)∧w'.cell? ⟨w.heap.size,2,none⟩=some (.int .i64 p)∧w'.cell? ⟨w.heap.size,3,none⟩=some (.int .u64 va)∧w'.cell? ⟨w.heap.size,4,none⟩=some (.int .i64 k))∧P w')) (by kernel_rfl) (KS.out _ (PD.out _ p4)) (fun hHeld=>?_)
          refine wpAnyH_take (i:=0) (v:=.agg #[.slice (some ⟨g,0,none⟩) n rc,.slice (some ⟨b,off,none⟩) 22 lc,.int .i64 p,.int .u64 va,.int .i64 k]) rfl (by kernel_rfl) (by kernel_rfl) (by kernel_rfl) (fun _ _ _ h=>h) (Or.inl ⟨by rfl,?_⟩) (by assumption) ?_
          ·intro w' hSw
           go_simp
          refine wpAnyH_take (i:=1) (v:=.int .u64 e) rfl (by kernel_rfl) (by kernel_rfl) (by kernel_rfl) (fun _ _ _ h=>h) (Or.inl ⟨by rfl,?_⟩) (by assumption) ?_
          ·intro w' hSw
           go_simp
          refine wpAnyH_take (i:=2) (v:=.int .i64 (lv:Int)) rfl (by kernel_rfl) (by kernel_rfl) (by kernel_rfl) (fun _ _ _ h=>h) (Or.inl ⟨by rfl,?_⟩) (by assumption) ?_
          ·intro w' hSw
           go_simp
          refine wpAnyH_take (i:=4) (v:=.agg #[.slice (some ⟨g,0,none⟩) n rc,.slice (some ⟨b,off,none⟩) 22 lc,.int .i64 p,.int .u64 va,.int .i64 k]) rfl (by kernel_rfl) (by kernel_rfl) (by kernel_rfl) (fun _ _ _ h=>h) (Or.inl ⟨by rfl,?_⟩) (by assumption) ?_
          ·intro w' hSw
           go_simp
          refine wpAnyH_take (i:=5) (v:=.int .u64 x) rfl (by kernel_rfl) (by kernel_rfl) (by kernel_rfl) (fun _ _ _ h=>h) (Or.inl ⟨by rfl,?_⟩) (by assumption) ?_
          ·intro w' hSw
           go_simp
          refine wpAnyH_take (i:=6) (v:=.int .u64 e) rfl (by kernel_rfl) (by kernel_rfl) (by kernel_rfl) (fun _ _ _ h=>h) (Or.inl ⟨by rfl,?_⟩) (by assumption) ?_
          ·intro w' hSw
           go_simp
          refine wpAnyH_ready (rs:=[3]) (by kernel_rfl) (by simp) ?_
          refine AllReadyH.cons rfl (fun K hK=>?_) AllReadyH.nil
          go_simp
          refine (HPL2.out _ (PD.out _ p4)).mono ?_
          rintro r w8 ⟨rfl,p8⟩
          refine hK.out _ _ (KS.out _ p8) (fun hHeld2=>?_)
          refine wpAnyH_ready (rs:=[7]) (by kernel_rfl) (by simp) ?_
          refine AllReadyH.cons rfl (fun K2 hK2=>?_) AllReadyH.nil
          go_simp
          refine (HM2.out _ p8).mono ?_
          rintro r w9 ⟨rfl,p9⟩
          exact ⟨rfl,fd_fault F2.out HK.out.1 HK.out.2 (PM.out _ p9).2⟩

theorem codeOf_any (c:Int) (w:World):Calls Tryz.prog 48 #[.iface 116 (.int .i64 c)] w fun r w'=>r=.returned (.int .i64 c)∧w'=w:=by
 have ta:∀ (c:Int) (w:World),(Instr.typeAssert (.iface 116 (.int .i64 c)) 20 116 false).run Tryz.prog w=.ok (.int .i64 c) w:=fun c w=>by kernel_rfl
 go_enter Tryz.func48,Tryz.ntmps48
 go_wp2_with fail
 go_ret
 exact ⟨rfl,rfl⟩

theorem catch_idle (p q r s:Addr) (w:World) :
 CallsD Tryz.prog 47 #[.pointer (some p),.pointer (some q),.pointer (some r),.pointer (some s)] .returning w fun e u' w'=>e=.returned (.tuple #[])∧u'=.returning∧w'=w:=by
 have hne:∀ w,(binOp .neq 20 .nilIface .nilIface).run Tryz.prog w=.ok (.bool false) w:=fun w=>by kernel_rfl
 refine callsD_of_wpS Tryz.func47 rfl fun c₀ cs hu=>?_
 apply wpS_seq
 apply wpS_region
 simp [wpOpsS,go_sem,recoverD,hu,Tryz.ntmps47,Exit.thenS]
 refine wpS_of_wp ?_
 go_wp2_with fail
 cases c₀
 simp_all [bodyPostS,results,Tryz.results47]

structure Face (w:World) (B g n rc:Nat):Prop where
 r0:w.heap[B]?=some (.cells #[.slice (some ⟨g,0,none⟩) n rc] 22 (0,0))
 r1:∃ v,w.heap[B+1]?=some (.cells #[v] 24 (0,0))
 r2:∃ v,w.heap[B+1+1]?=some (.cells #[v] 2 (0,0))
 r3:∃ v,w.heap[B+1+1+1]?=some (.cells #[v] 22 (0,0))

theorem catch_panicking (B g n rc:Nat) (zs:List Int) (c:Int) (older:List PanicEntry) (w:World) (hF:Face w B g n rc) (hz:zs.length=n) (hn0:1≤n) (hn:n≤1048576) (hs:Sl .u8 w (some ⟨g,0,none⟩) zs) :
 CallsD Tryz.prog 47 #[.pointer (some ⟨B,0,none⟩),.pointer (some ⟨B+1,0,none⟩),.pointer (some ⟨B+1+1,0,none⟩),.pointer (some ⟨B+1+1+1,0,none⟩)] (.panicking ({ v:=.iface 116 (.int .i64 c),recovered:=false } :: older)) w fun e u' w' =>
  e=.returned (.tuple #[])∧u'=.panicking ({ v:=.iface 116 (.int .i64 c),recovered:=true } :: older)∧∃ (w8:World) (a':Option Addr) (c':Nat),Fresh w w8 zs a' n c'∧w'=((w8.setCell ⟨B+1,0,none⟩ (.int .u64 0)).setCell ⟨B+1+1,0,none⟩ (.int .i64 c)).setCell ⟨B+1+1+1,0,none⟩ (.slice a' n c'):=by
 have hne:∀ (v:Value) (w:World),(binOp .neq 20 (.iface 116 v) .nilIface).run Tryz.prog w=.ok (.bool true) w:=fun v w=>by kernel_rfl
 obtain ⟨r0,⟨v1,r1⟩,⟨v2,r2⟩,⟨v3,r3⟩⟩:=hF
 have k0:w.cell? ⟨B,0,none⟩=some (.slice (some ⟨g,0,none⟩) n rc):=by simp [World.cell?,r0]
 have HCL:Hid (∀ w',Below w.heap.size w w'→Calls Tryz.prog 41 #[.slice (some ⟨g,0,none⟩) n rc] w' fun r w''=>∃ (a':Option Addr) (c':Nat),r=.returned (.slice a' n c')∧Hid (Fresh w w'' zs a' n c') ∧
  (w''.cell? ⟨B+1,0,none⟩=some v1∧w''.frozen? ⟨B+1,0,none⟩=false)∧(w''.cell? ⟨B+1+1,0,none⟩=some v2∧w''.frozen? ⟨B+1+1,0,none⟩=false)∧(w''.cell? ⟨B+1+1+1,0,none⟩=some v3∧w''.frozen? ⟨B+1+1+1,0,none⟩=false)):=fun w' hb=>(cloneW_any g n rc zs w' hz hn0 hn (hs.below hb)).mono fun r w'' ⟨a',c',e1,e2,e3⟩=>by
  have q1:=stays (below_trans hb e3) r1
  have q2:=stays (below_trans hb e3) r2
  have q3:=stays (below_trans hb e3) r3
  exact ⟨a',c',e1,⟨own_low e2 hb.size,below_trans hb e3⟩,⟨by simp [World.cell?,q1],by simp [World.frozen?,q1]⟩,⟨by simp [World.cell?,q2],by simp [World.frozen?,q2]⟩,⟨by simp [World.cell?,q3],by simp [World.frozen?,q3]⟩⟩
 have HCO:Hid (∀ w,Calls Tryz.prog 48 #[.iface 116 (.int .i64 c)] w fun r w'=>r=.returned (.int .i64 c)∧w'=w):=codeOf_any c
 have BD:Below w.heap.size w w.drew:=(Below.refl _ _).drew
 clear r0 r1 r2 r3 hz hn hs
 refine callsD_of_wpS Tryz.func47 rfl fun c₀ cs hu=>?_
 apply wpS_seq
 apply wpS_region
 simp [wpOpsS,go_sem,recoverD,hu,Tryz.ntmps47,Exit.thenS]
 refine wpS_of_wp ?_
 go_wp2_with fail
 ·go_region_with (first | (go_at_call 48;with_reducible refine (HCO.out _).mono ?_;rintro e w1 ⟨rfl,hw1⟩;subst hw1) | (go_at_call 41;with_reducible refine (HCL.out _ BD).mono ?_;rintro e w8 ⟨a',c',rfl,fr8,⟨j1,f1⟩,⟨j2,f2⟩,⟨j3,f3⟩⟩))
  all_goals exact ⟨rfl,_,rfl,_,results_none rfl _ _ _,rfl,rfl,w8,a',c',fr8.out,rfl⟩

theorem own_set {w:World} {base n c:Nat} {t:TypeId} {a:Option Addr} {xs:List Value} (h:w.ownsRow base t 1 (.slice a n c) n xs) (p:Addr) (v:Value) (hp:p.block < base):(w.setCell p v).ownsRow base t 1 (.slice a n c) n xs:=by
 refine ⟨h.1,?_⟩
 rcases h.2 with h2 | ⟨g,cap,cur,h1,h2,h3,h4⟩
 ·exact .inl h2
 ·exact .inr ⟨g,cap,cur,h1,h2,(Below.heap_setCell w p v g (by omega)).trans h3,h4⟩

theorem own_nilB (w:World) (base:Nat):w.ownsRow base 5 1 (.slice none 0 0) 0 (([]:List Int).map (Value.int .u8)):=⟨rfl,.inl ⟨rfl,rfl⟩⟩

theorem rows4 {w w2:World} {o1 o2 o3 o4:Obj} (hb:Below ((((w.alloc o1).alloc o2).alloc o3).alloc o4).heap.size ((((w.alloc o1).alloc o2).alloc o3).alloc o4) w2) :
 w2.heap[w.heap.size]?=some o1∧w2.heap[w.heap.size+1]?=some o2∧w2.heap[w.heap.size+1+1]?=some o3∧w2.heap[w.heap.size+1+1+1]?=some o4:=by
 have e2:=heap_alloc_new (w.alloc o1) o2
 have e3:=heap_alloc_new ((w.alloc o1).alloc o2) o3
 have e4:=heap_alloc_new (((w.alloc o1).alloc o2).alloc o3) o4
 rw [World.size_alloc] at e2
 rw [World.size_alloc,World.size_alloc] at e3
 rw [World.size_alloc,World.size_alloc,World.size_alloc] at e4
 exact ⟨stays hb ((Below.heap_alloc _ _ _ (by simp only [World.size_alloc];omega)).trans ((Below.heap_alloc _ _ _ (by simp only [World.size_alloc];omega)).trans ((Below.heap_alloc _ _ _ (by simp only [World.size_alloc];omega)).trans (heap_alloc_new w o1)))),
  stays hb ((Below.heap_alloc _ _ _ (by simp only [World.size_alloc];omega)).trans ((Below.heap_alloc _ _ _ (by simp only [World.size_alloc];omega)).trans e2)),stays hb ((Below.heap_alloc _ _ _ (by simp only [World.size_alloc];omega)).trans e3),stays hb e4⟩

theorem cell1 {w:World} {g:Nat} {v:Value} {t:TypeId} (h:w.heap[g]?=some (.cells #[v] t (0,0))):w.cell? ⟨g,0,none⟩=some v∧w.frozen? ⟨g,0,none⟩=false:=⟨by simp [World.cell?,h],by simp [World.frozen?,h]⟩

set_option maxRecDepth 100000 in
set_option maxHeartbeats 3200000 in
theorem implWalk_no (ra:Option Addr) (n rcap:Nat) (la:Option Addr) (m cap:Nat) (l:List Int) (p va kind:Int) (w:World) (hn:n≤1048576) (hlz:l.length=m) (hl:Sl .u64 w la l) (hlU:∀ j,U (l.getD j 0)) (hok:walkOk n m l p kind=false) :
 Calls Tryz.prog 21 #[.slice ra n rcap,.slice la m cap,.int .i64 p,.int .u64 va,.int .i64 kind] w fun e w'=>e=.returned (.tuple #[.int .u64 0,.int .i64 (if kindIn kind=true then faultC kind else 1),.slice none 0 0])∧Below w.heap.size w w':=by
 have HR:Hid (∀ w,Calls Tryz.prog 31 #[.slice ra n rcap] w fun e w'=>e=.returned (.bool (ramOkB n))∧w'=w):=fun w=>implRamOk_any ra n rcap w hn
 have HG:Hid (∀ w',Below w.heap.size w w'→Calls Tryz.prog 30 #[.slice la m cap,.int .i64 p] w' fun e w''=>e=.returned (.bool (legalB m l p))∧Below w'.heap.size w' w''):=fun w' hb=>implLegal_any la m cap l p w' hlz (hl.below hb) hlU
 have HK:Hid (∀ w,Calls Tryz.prog 39 #[.int .i64 kind] w fun e w'=>e=.returned (.bool (kindIn kind))∧w'=w):=fun w=>by
  have:=kindOk_any kind w
  rw [kind_eq] at this
  exact this
 have HA:Hid (∀ w,Calls Tryz.prog 45 #[.int .i64 kind] w fun e w'=>e=.returned (.int .i64 (if kindIn kind=true then faultC kind else 1))∧w'=w):=fun w=>by
  have:=accessCode_any kind w
  have e:accC kind=if kindIn kind=true then faultC kind else 1:=by
   by_cases h:1≤kind∧kind≤3
   ·rw [accC_in kind h.1 h.2,if_pos (by unfold kindIn;simpa using h)]
   ·rw [accC_out kind h,if_neg (by unfold kindIn;simpa using h)]
  rw [e] at this
  exact this
 have OK0:(ramOkB n&&legalB m l p&&kindIn kind)=false:=hok
 generalize (if kindIn kind=true then faultC kind else 1)=fk at *
 generalize kindIn kind=kb at *
 generalize ramOkB n=rb at *
 generalize legalB m l p=lb at *
 clear hl hlz hn hok hlU
 have hB4:∀ o1 o2 o3 o4,Below w.heap.size w ((((w.alloc o1).alloc o2).alloc o3).alloc o4):=fun o1 o2 o3 o4=>((((Below.refl _ _).alloc (Nat.le_refl _) o1).alloc (by simp) o2).alloc (by simp;omega) o3).alloc (by simp;omega) o4
 cases rb with
 | false =>
  go_enter_defers Tryz.func21,Tryz.ntmps21
  go_wp2_with fail
  refine (HR.out _).mono ?_
  rintro e w1 ⟨rfl,hw1⟩
  subst hw1
  go_wp2_with fail
  refine (HA.out _).mono ?_
  rintro e w1 ⟨rfl,hw1⟩
  subst hw1
  go_wp2_with fail
  refine ⟨_,?_,rfl,hB4 _ _ _ _⟩
  simp [results,Tryz.results21,go_sem]
 | true =>
  cases lb with
  | false =>
   go_enter_defers Tryz.func21,Tryz.ntmps21
   go_wp2_with fail
   refine (HR.out _).mono ?_
   rintro e w1 ⟨rfl,hw1⟩
   subst hw1
   go_wp2_with fail
   refine (HG.out _ (hB4 _ _ _ _)).mono ?_
   rintro e w2 ⟨rfl,hb2⟩
   obtain ⟨q0,q1,q2,q3⟩:=rows4 hb2
   have HB2:=hid_mk (below_trans (hB4 _ _ _ _) hb2)
   obtain ⟨j0,f0⟩:=cell1 q0
   obtain ⟨j1,f1⟩:=cell1 q1
   obtain ⟨j2,f2⟩:=cell1 q2
   obtain ⟨j3,f3⟩:=cell1 q3
   clear q0 q1 q2 q3 hb2
   go_wp2_with fail
   refine (HA.out _).mono ?_
   rintro e w3 ⟨rfl,hw3⟩
   have hw3':=hw3.symm
   subst hw3'
   go_wp2_with fail
   refine ⟨_,?_,rfl,((HB2.out.setCell (by simp) _).setCell (by simp;omega) _).setCell (by simp;omega) _⟩
   simp [results,Tryz.results21,go_sem,j1,j2,j3]
  | true =>
   cases kb with
   | false =>
    go_enter_defers Tryz.func21,Tryz.ntmps21
    go_wp2_with fail
    refine (HR.out _).mono ?_
    rintro e w1 ⟨rfl,hw1⟩
    subst hw1
    go_wp2_with fail
    refine (HG.out _ (hB4 _ _ _ _)).mono ?_
    rintro e w2 ⟨rfl,hb2⟩
    obtain ⟨q0,q1,q2,q3⟩:=rows4 hb2
    have HB2:=hid_mk (below_trans (hB4 _ _ _ _) hb2)
    obtain ⟨j0,f0⟩:=cell1 q0
    obtain ⟨j1,f1⟩:=cell1 q1
    obtain ⟨j2,f2⟩:=cell1 q2
    obtain ⟨j3,f3⟩:=cell1 q3
    clear q0 q1 q2 q3 hb2
    go_wp2_with fail
    refine (HK.out _).mono ?_
    rintro e w3 ⟨rfl,hw3⟩
    have hw3':=hw3.symm
    subst hw3'
    go_wp2_with fail
    refine (HA.out _).mono ?_
    rintro e w3 ⟨rfl,hw3⟩
    have hw3':=hw3.symm
    subst hw3'
    go_wp2_with fail
    refine ⟨_,?_,rfl,((HB2.out.setCell (by simp) _).setCell (by simp;omega) _).setCell (by simp;omega) _⟩
    simp [results,Tryz.results21,go_sem,j1,j2,j3]
   | true=>cases OK0

end Go.Proofs.YtkhofppmeoooaaaGreatDoor

namespace Go.Proofs.YtkhofppmeoooaaaGreatDoor
open Go.RowKit
set_option linter.unusedVariables false

theorem leaf_fd (l:List Int) (p va k e x:Int) (lv:Nat):(leafV l p va k e x lv).code=0∨((leafV l p va k e x lv).addr=0∧(leafV l p va k e x lv).marked=false):=by
 unfold leafV
 split
 ·exact .inr ⟨rfl,rfl⟩
 ·split
  ·exact .inr ⟨rfl,rfl⟩
  ·split
   ·exact .inr ⟨rfl,rfl⟩
   ·split
    ·split
     ·exact .inl rfl
     ·exact .inr ⟨rfl,rfl⟩
    ·exact .inl rfl

theorem walkL_fd (zs:List Int) (n:Nat) (l:List Int) (p va k:Int):∀ (lv:Nat) (T:Int),(walkL zs n l p va k lv T).code=0∨((walkL zs n l p va k lv T).addr=0∧(walkL zs n l p va k lv T).marked=false):=by
 intro lv
 induction lv with
 | zero =>
  intro T
  rw [walkL]
  split
  ·split
   ·split
    ·exact .inr ⟨rfl,rfl⟩
    ·split
     ·exact .inr ⟨rfl,rfl⟩
     ·exact leaf_fd _ _ _ _ _ _ _
   ·exact .inr ⟨rfl,rfl⟩
  ·exact .inr ⟨rfl,rfl⟩
 | succ lv ih =>
  intro T
  rw [walkL]
  split
  ·split
   ·split
    ·exact .inr ⟨rfl,rfl⟩
    ·split
     ·split
      ·exact .inr ⟨rfl,rfl⟩
      ·exact ih _
     ·exact leaf_fd _ _ _ _ _ _ _
   ·exact .inr ⟨rfl,rfl⟩
  ·exact .inr ⟨rfl,rfl⟩

theorem walk_fd (zs:List Int) (n:Nat) (l:List Int) (p va k:Int) (h:¬ (walkV zs n l p va k).code=0):(walkV zs n l p va k).addr=0∧markB zs (walkV zs n l p va k)=zs:=by
 have h2:(walkV zs n l p va k).code=0∨((walkV zs n l p va k).addr=0∧(walkV zs n l p va k).marked=false):=by
  unfold walkV
  split
  ·exact .inl rfl
  ·split
   ·exact .inr ⟨rfl,rfl⟩
   ·exact walkL_fd _ _ _ _ _ _ _ _
 rcases h2 with h2 | ⟨h2,h3⟩
 ·exact absurd h2 h
 ·exact ⟨h2,by unfold markB;rw [h3];rfl⟩

theorem same1 {w:World} {p:Addr} {u:Value} (v:Value) (h:w.cell? p=some u):(w.setCell p v).cell? p=some v:=World.cell?_setCell_same w p v h

theorem other1 {w:World} {p q:Addr} {u:Value} (v:Value) (h:w.cell? q=some u) (hne:p.block≠q.block):(w.setCell p v).cell? q=some u:=by
 rw [World.cell?_setCell_other w p q v (fun e=>hne (by rw [e]))]
 exact h

set_option maxRecDepth 100000 in
set_option maxHeartbeats 3200000 in
theorem implWalk_yes (g n rcap:Nat) (zs:List Int) (b off cap:Nat) (l:List Int) (p va kind:Int) (w:World) (W:Wk w g n rcap zs b off cap l p va kind) :
 Calls Tryz.prog 21 #[.slice (some ⟨g,0,none⟩) n rcap,.slice (some ⟨b,off,none⟩) 22 cap,.int .i64 p,.int .u64 va,.int .i64 kind] w fun e w'=>∃ (a':Option Addr) (c:Nat),e=.returned (.tuple #[.int .u64 (walkV zs n l p va kind).addr,.int .i64 (walkV zs n l p va kind).code,.slice a' n c]) ∧
  w'.ownsRow w.heap.size 5 1 (.slice a' n c) n ((markB zs (walkV zs n l p va kind)).map (Value.int .u8))∧Below w.heap.size w w':=by
 have hbd:=ramOkB_bd W.hr
 have HW:=hid_mk W
 have HR:Hid (∀ w,Calls Tryz.prog 31 #[.slice (some ⟨g,0,none⟩) n rcap] w fun e w'=>e=.returned (.bool true)∧w'=w):=fun w=>by
  have:=implRamOk_any (some ⟨g,0,none⟩) n rcap w (by omega)
  rw [W.hr] at this
  exact this
 have HG:Hid (∀ w',Below w.heap.size w w'→Calls Tryz.prog 30 #[.slice (some ⟨b,off,none⟩) 22 cap,.int .i64 p] w' fun e w''=>e=.returned (.bool true)∧Below w'.heap.size w' w''):=fun w' hb=>by
  have:=implLegal_any (some ⟨b,off,none⟩) 22 cap l p w' W.hlz (W.hl.below hb) W.hU
  rw [W.hg] at this
  exact this
 have HK:Hid (∀ w,Calls Tryz.prog 39 #[.int .i64 kind] w fun e w'=>e=.returned (.bool true)∧w'=w):=fun w=>by
  have:=kindOk_any kind w
  rw [kind_eq,decide_eq_true ⟨W.hk1,W.hk3⟩] at this
  exact this
 have HLD:Hid (∀ w',Below w.heap.size w w'→Calls Tryz.prog 49 #[.agg #[.slice (some ⟨g,0,none⟩) n rcap,.slice (some ⟨b,off,none⟩) 22 cap,.int .i64 p,.int .u64 va,.int .i64 kind]] w' fun r w''=>fdQ (walkV zs n l p va kind) zs n w' r w''):=fun w' hb=>lead_any g n rcap zs b off cap l p va kind w' (W.below hb)
 have hB4:∀ o1 o2 o3 o4,Below w.heap.size w ((((w.alloc o1).alloc o2).alloc o3).alloc o4):=fun o1 o2 o3 o4=>((((Below.refl _ _).alloc (Nat.le_refl _) o1).alloc (by simp) o2).alloc (by simp;omega) o3).alloc (by simp;omega) o4
 have hmf:∀ (fn:Fn) (first cap:Array Value) (w:World),(Instr.makeFunc fn first cap).run Tryz.prog w=.ok (.func fn first cap) w:=fun _ _ _ _=>rfl
 have HNO:=hid_mk (walk_fd zs n l p va kind)
 generalize walkV zs n l p va kind=V at *
 clear W
 go_enter_defers Tryz.func21,Tryz.ntmps21
 go_wp2_with fail
 refine (HR.out _).mono ?_
 rintro e w1 ⟨rfl,hw1⟩
 subst hw1
 go_wp2_with fail
 refine (HG.out _ (hB4 _ _ _ _)).mono ?_
 rintro e w2 ⟨rfl,hb2⟩
 obtain ⟨q0,q1,q2,q3⟩:=rows4 hb2
 have Q0:=hid_mk q0
 have Q1:=hid_mk q1
 have Q2:=hid_mk q2
 have Q3:=hid_mk q3
 have HB2:=hid_mk (below_trans (hB4 _ _ _ _) hb2)
 obtain ⟨j0,f0⟩:=cell1 q0
 clear q0 q1 q2 q3 hb2
 go_wp2_with fail
 refine (HK.out _).mono ?_
 rintro e w3 ⟨rfl,hw3⟩
 have hw3':=hw3.symm
 subst hw3'
 have HB3:=hid_mk (HB2.out.alloc HB2.out.size (.cells #[.slice (some ⟨g,0,none⟩) n rcap,.slice (some ⟨b,off,none⟩) 22 cap,.int .i64 p,.int .u64 va,.int .i64 kind] 76))
 go_wp2_with fail
 refine (HLD.out _ HB3.out).mono ?_
 rintro r w4 hq
 unfold fdQ at hq
 by_cases hc:V.code=0
 ·rw [if_pos hc] at hq
  obtain ⟨a',c,rfl,fr⟩:=hq
  have FR:=hid_mk fr
  have FS:=hid_mk fr.2.size
  obtain ⟨j1,f1⟩:=cell1 (stays fr.2 (row_al Q1.out _))
  obtain ⟨j2,f2⟩:=cell1 (stays fr.2 (row_al Q2.out _))
  obtain ⟨j3,f3⟩:=cell1 (stays fr.2 (row_al Q3.out _))
  clear fr j0 f0
  obtain ⟨ad,had⟩:∃ ad,V.addr=ad:=⟨_,rfl⟩
  rw [had]
  have HAD:=hid_mk had
  clear had
  go_wp2_with fail
  go_region
  go_wp2_with fail
  refine leaves_cons (f:=47) (args:=#[.pointer (some ⟨w.heap.size,0,none⟩),.pointer (some ⟨w.heap.size+1,0,none⟩),.pointer (some ⟨w.heap.size+1+1,0,none⟩),.pointer (some ⟨w.heap.size+1+1+1,0,none⟩)]) (by simp) (by simp [go_sem]) ?_
  refine (catch_idle _ _ _ _ _).mono ?_
  rintro e u' w9 ⟨rfl,rfl,rfl⟩
  have hn3:w.heap.size+1+1+1 < (w2.alloc (.cells #[.slice (some ⟨g,0,none⟩) n rcap,.slice (some ⟨b,off,none⟩) 22 cap,.int .i64 p,.int .u64 va,.int .i64 kind] 76)).heap.size:=by
   have:=(Array.getElem?_eq_some_iff.1 Q3.out).1
   rw [World.size_alloc]
   omega
  have t1:=other1 (p:=⟨w.heap.size+1+1+1,0,none⟩) (.slice a' n c) (other1 (p:=⟨w.heap.size+1+1,0,none⟩) (.int .i64 0) (same1 (.int .u64 ad) (other1 (p:=⟨w.heap.size+1+1+1,0,none⟩) (.slice a' n c) (same1 (.int .u64 ad) j1) (by dsimp only;omega))) (by dsimp only;omega)) (by dsimp only;omega)
  have t2:=other1 (p:=⟨w.heap.size+1+1+1,0,none⟩) (.slice a' n c) (same1 (.int .i64 0) (other1 (p:=⟨w.heap.size+1,0,none⟩) (.int .u64 ad) (other1 (p:=⟨w.heap.size+1+1+1,0,none⟩) (.slice a' n c) (other1 (p:=⟨w.heap.size+1,0,none⟩) (.int .u64 ad) j2 (by dsimp only;omega)) (by dsimp only;omega)) (by dsimp only;omega))) (by dsimp only;omega)
  have t3:=same1 (.slice a' n c) (other1 (p:=⟨w.heap.size+1+1,0,none⟩) (.int .i64 0) (other1 (p:=⟨w.heap.size+1,0,none⟩) (.int .u64 ad) (same1 (.slice a' n c) (other1 (p:=⟨w.heap.size+1,0,none⟩) (.int .u64 ad) j3 (by dsimp only;omega))) (by dsimp only;omega)) (by dsimp only;omega))
  refine ⟨.tuple #[.int .u64 ad,.int .i64 0,.slice a' n c],?_,a',c,by rw [hc,HAD.out],?_,?_⟩
  ·generalize (((((w4.setCell ⟨w.heap.size+1,0,none⟩ (.int .u64 ad)).setCell ⟨w.heap.size+1+1+1,0,none⟩ (.slice a' n c)).setCell ⟨w.heap.size+1,0,none⟩ (.int .u64 ad)).setCell ⟨w.heap.size+1+1,0,none⟩ (.int .i64 0)).setCell ⟨w.heap.size+1+1+1,0,none⟩ (.slice a' n c))=W9 at *
   simp [results,Tryz.results21,go_sem,t1,t2,t3]
  ·have o1:=own_set FR.out.1 ⟨w.heap.size+1,0,none⟩ (.int .u64 ad) (by show w.heap.size+1 < _;omega)
   have o2:=own_set o1 ⟨w.heap.size+1+1+1,0,none⟩ (.slice a' n c) hn3
   have o3:=own_set o2 ⟨w.heap.size+1,0,none⟩ (.int .u64 ad) (by show w.heap.size+1 < _;omega)
   have o4:=own_set o3 ⟨w.heap.size+1+1,0,none⟩ (.int .i64 0) (by show w.heap.size+1+1 < _;omega)
   have o5:=own_set o4 ⟨w.heap.size+1+1+1,0,none⟩ (.slice a' n c) hn3
   exact ownsRow_below (own_low o5 HB3.out.size) (Below.refl _ _).drew
  ·exact ((((((below_trans HB3.out FR.out.2).setCell (by simp) _).setCell (by simp;omega) _).setCell (by simp) _).setCell (by simp;omega) _).setCell (by simp;omega) _).drew
 ·rw [if_neg hc] at hq
  obtain ⟨rfl,hb4⟩:=hq
  have HB4:=hid_mk (below_trans HB3.out hb4)
  have HF:Hid (Face w4 w.heap.size g n rcap):=⟨stays hb4 (row_al Q0.out _),⟨_,stays hb4 (row_al Q1.out _)⟩,⟨_,stays hb4 (row_al Q2.out _)⟩,⟨_,stays hb4 (row_al Q3.out _)⟩⟩
  have HN:=hid_mk (show w.heap.size+1+1+1 < w4.heap.size from (Array.getElem?_eq_some_iff.1 (stays hb4 (row_al Q3.out (.cells #[.slice (some ⟨g,0,none⟩) n rcap,.slice (some ⟨b,off,none⟩) 22 cap,.int .i64 p,.int .u64 va,.int .i64 kind] 76)))).1)
  refine leaves_cons (f:=47) (args:=#[.pointer (some ⟨w.heap.size,0,none⟩),.pointer (some ⟨w.heap.size+1,0,none⟩),.pointer (some ⟨w.heap.size+1+1,0,none⟩),.pointer (some ⟨w.heap.size+1+1+1,0,none⟩)]) (by simp) (by simp [go_sem]) ?_
  refine (catch_panicking w.heap.size g n rcap zs V.code [] w4 HF.out HW.out.hz (by omega) (by omega) (HW.out.hs.below HB4.out)).mono ?_
  rintro e u' w9 ⟨rfl,rfl,w8,a',c',fr8,rfl⟩
  obtain ⟨_,⟨v1,r1⟩,⟨v2,r2⟩,⟨v3,r3⟩⟩:=HF.out
  obtain ⟨j1,_⟩:=cell1 (stays fr8.2 r1)
  obtain ⟨j2,_⟩:=cell1 (stays fr8.2 r2)
  obtain ⟨j3,_⟩:=cell1 (stays fr8.2 r3)
  obtain ⟨h1,h2⟩:=HNO.out hc
  rw [h1,h2]
  refine ⟨.tuple #[.int .u64 0,.int .i64 V.code,.slice a' n c'],?_,a',c',rfl,?_,?_⟩
  ·simp [results,Tryz.results21,go_sem,j1,j2,j3]
  ·have o1:=own_set fr8.1 ⟨w.heap.size+1,0,none⟩ (.int .u64 0) (by have:=HN.out;simp;omega)
   have o2:=own_set o1 ⟨w.heap.size+1+1,0,none⟩ (.int .i64 V.code) (by have:=HN.out;simp;omega)
   exact own_low (own_set o2 ⟨w.heap.size+1+1+1,0,none⟩ (.slice a' n c') HN.out) HB4.out.size
  ·exact (((below_trans HB4.out fr8.2).setCell (by simp) _).setCell (by simp;omega) _).setCell (by simp;omega) _

def Goodly (n:Nat) (a:Option Addr) (c:Nat):Prop:=(∀ b off,a=some ⟨b,off,none⟩→off=0)∧n≤c∧c≤maxLen

theorem own_good {w:World} {base n c:Nat} {t:TypeId} {a:Option Addr} {xs:List Value} (h:w.ownsRow base t 1 (.slice a n c) n xs):Goodly n a c:=by
 rcases h.2 with ⟨h1,h2⟩ | ⟨g,cap,cur,h1,_,_,h3,h4,_⟩
 ·injection h1 with e1 e2 e3
  subst e1 e3
  exact ⟨fun b off e=>(nomatch e),by omega,Nat.zero_le _⟩
 ·injection h1 with e1 e2 e3
  subst e1 e3
  exact ⟨fun b off e=>by cases e;rfl,h3,h4⟩

theorem implWalk_any (ra:Option Addr) (n rcap:Nat) (zs:List Int) (la:Option Addr) (m cap:Nat) (l:List Int) (p va kind:Int) (w:World) (hz:zs.length=n) (hn:n≤1048576) (hs:Sl .u8 w ra zs) (hw8:∀ y ∈ zs,(Lit.int .u8 y).wf=true)
 (hlz:l.length=m) (hl:Sl .u64 w la l) (hlU:∀ j,U (l.getD j 0)) (hva:U va) (hT:Tab w) (hgd:Goodly n ra rcap) :
 Calls Tryz.prog 21 #[.slice ra n rcap,.slice la m cap,.int .i64 p,.int .u64 va,.int .i64 kind] w fun e w'=>∃ (a':Option Addr) (c:Nat),e=.returned (.tuple #[.int .u64 (walkA zs n m l p va kind),.int .i64 (walkC zs n m l p va kind),.slice a' (walkB zs n m l p va kind).length c]) ∧
  w'.ownsRow w.heap.size 5 1 (.slice a' (walkB zs n m l p va kind).length c) (walkB zs n m l p va kind).length ((walkB zs n m l p va kind).map (Value.int .u8))∧Below w.heap.size w w':=by
 unfold walkA walkC walkB
 cases hok:walkOk n m l p kind with
 | false =>
  simp only [Bool.false_eq_true,if_false]
  exact (implWalk_no ra n rcap la m cap l p va kind w hn hlz hl hlU hok).mono fun e w' h=>⟨none,0,h.1,own_nilB w' _,h.2⟩
 | true =>
  simp only [if_true]
  rw [mark_len,hz]
  have hok2:(ramOkB n&&legalB m l p&&kindIn kind)=true:=hok
  simp only [Bool.and_eq_true] at hok2
  obtain ⟨⟨hr,hlg⟩,hkb⟩:=hok2
  have hk2:1≤kind∧kind≤3:=by simpa [kindIn] using hkb
  obtain ⟨rfl,hp⟩:=legalB_parts hlg
  have hbd:=ramOkB_bd hr
  obtain ⟨b,off,rfl,_,_⟩:=hl 0 (by omega)
  obtain ⟨g,o,rfl,_,_⟩:=hs 0 (by omega)
  obtain ⟨hra,hrc,hrc2⟩:=hgd
  have ho:=hra g o rfl
  subst ho
  exact implWalk_yes g n rcap zs b off cap l p va kind w ⟨hz,hr,hs,hw8,hrc,by unfold maxLen at hrc2;omega,hlz,hl,hlU,hlg,hva,hk2.1,hk2.2,hT⟩

end Go.Proofs.YtkhofppmeoooaaaGreatDoor
