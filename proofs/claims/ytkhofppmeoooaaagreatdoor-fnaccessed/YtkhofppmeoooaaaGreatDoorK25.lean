/- Own lemmas. -/
import Derived.Test.YtkhofppmeoooaaaGreatDoorK04
import Derived.Test.YtkhofppmeoooaaaGreatDoorK06
import Derived.Test.YtkhofppmeoooaaaGreatDoorK15
import Derived.Test.YtkhofppmeoooaaaGreatDoorK22
import Derived.Test.YtkhofppmeoooaaaGreatDoorK23
import Derived.Test.YtkhofppmeoooaaaGreatDoorK24
import Derived.Recover
import Derived.Lib.SliceRun
namespace Go.Proofs.YtkhofppmeoooaaaGreatDoor
open Go.RowKit
set_option linter.unusedVariables false

def gave (c:Int):Ending:=.panicked [{ v:=.iface 116 (.int .i64 c),recovered:=false }]

def accC (k:Int):Int:=if k=2 then 5 else if k=3 then 7 else 1

theorem accC_in (k:Int) (h1:1≤k) (h3:k≤3):accC k=faultC k:=by
 have hk:k=1∨k=2∨k=3:=by omega
 rcases hk with rfl | rfl | rfl<;>rfl

theorem accC_out (k:Int) (h:¬ (1≤k∧k≤3)):accC k=1:=by
 unfold accC
 rw [if_neg (by omega),if_neg (by omega)]

theorem accessCode_any (k:Int) (w:World):Calls Tryz.prog 45 #[.int .i64 k] w fun e w'=>e=.returned (.int .i64 (accC k))∧w'=w:=by
 have F:Hid (accC k=if k=2 then 5 else if k=3 then 7 else 1):=(rfl:accC k=_)
 generalize accC k=v at *
 cases h2:(k==2) with
 | true =>
  have e2:k=2:=by simpa using h2
  have F2:Hid (v=5):=F.out.trans (if_pos e2)
  clear F
  go_enter Tryz.func45,Tryz.ntmps45
  go_wp2_with fail
  go_ret
  exact ⟨by rw [F2.out];rfl,rfl⟩
 | false =>
  have e2:¬ k=2:=by simpa using h2
  cases h3:(k==3) with
  | true =>
   have e3:k=3:=by simpa using h3
   have F2:Hid (v=7):=F.out.trans ((if_neg e2).trans (if_pos e3))
   clear F
   go_enter Tryz.func45,Tryz.ntmps45
   go_wp2_with fail
   go_ret
   exact ⟨by rw [F2.out];rfl,rfl⟩
  | false =>
   have e3:¬ k=3:=by simpa using h3
   have F2:Hid (v=1):=F.out.trans ((if_neg e2).trans (if_neg e3))
   clear F
   go_enter Tryz.func45,Tryz.ntmps45
   go_wp2_with fail
   go_ret
   exact ⟨by rw [F2.out];rfl,rfl⟩

theorem pageCode_any (k:Int) (h1:1≤k) (h3:k≤3) (w:World):Calls Tryz.prog 120 #[.int .i64 k] w fun e w'=>e=.returned (.int .i64 (pageC k))∧w'=w:=by
 have hk:k=1∨k=2∨k=3:=by omega
 rcases hk with rfl | rfl | rfl
 ·go_enter Tryz.func120,Tryz.ntmps120
  go_wp2_with fail
  go_ret
  exact ⟨rfl,rfl⟩
 ·go_enter Tryz.func120,Tryz.ntmps120
  go_wp2_with fail
  go_ret
  exact ⟨rfl,rfl⟩
 ·go_enter Tryz.func120,Tryz.ntmps120
  go_wp2_with fail
  go_ret
  exact ⟨rfl,rfl⟩

theorem accessFault_any (ra:Option Addr) (n rc:Nat) (la:Option Addr) (lc:Nat) (p va k:Int) (h1:1≤k) (h3:k≤3) (w:World) :
 Calls Tryz.prog 122 #[.agg #[.slice ra n rc,.slice la 22 lc,.int .i64 p,.int .u64 va,.int .i64 k]] w fun e w'=>e=gave (faultC k)∧Below w.heap.size w w':=by
 have HA:Hid (∀ w,Calls Tryz.prog 45 #[.int .i64 k] w fun e w'=>e=.returned (.int .i64 (faultC k))∧w'=w):=fun w=>by
  have:=accessCode_any k w
  rw [accC_in k h1 h3] at this
  exact this
 generalize faultC k=fk at *
 go_enter Tryz.func122,Tryz.ntmps122
 go_wp2_with fail
 refine (HA.out _).mono ?_
 rintro e w1 ⟨rfl,hw1⟩
 subst hw1
 go_wp2_with fail
 exact ⟨rfl,rfl,(Below.refl _ _).alloc (Nat.le_refl _) _⟩

theorem pageFault_any (ra:Option Addr) (n rc:Nat) (la:Option Addr) (lc:Nat) (p va k:Int) (h1:1≤k) (h3:k≤3) (w:World) :
 Calls Tryz.prog 86 #[.agg #[.slice ra n rc,.slice la 22 lc,.int .i64 p,.int .u64 va,.int .i64 k]] w fun e w'=>e=gave (pageC k)∧Below w.heap.size w w':=by
 have HA:Hid (∀ w,Calls Tryz.prog 120 #[.int .i64 k] w fun e w'=>e=.returned (.int .i64 (pageC k))∧w'=w):=fun w=>pageCode_any k h1 h3 w
 generalize pageC k=fk at *
 go_enter Tryz.func86,Tryz.ntmps86
 go_wp2_with fail
 refine (HA.out _).mono ?_
 rintro e w1 ⟨rfl,hw1⟩
 subst hw1
 go_wp2_with fail
 exact ⟨rfl,rfl,(Below.refl _ _).alloc (Nat.le_refl _) _⟩

structure Wk (w:World) (g n rc:Nat) (zs:List Int) (b off lc:Nat) (l:List Int) (p va k:Int):Prop where
 hz:zs.length=n
 hr:ramOkB n=true
 hs:Sl .u8 w (some ⟨g,0,none⟩) zs
 hw:∀ y ∈ zs,(Lit.int .u8 y).wf=true
 hc:n≤rc
 hc2:rc≤9223372036854775807
 hlz:l.length=22
 hl:Sl .u64 w (some ⟨b,off,none⟩) l
 hU:∀ j,U (l.getD j 0)
 hg:legalB 22 l p=true
 hva:U va
 hk1:1≤k
 hk3:k≤3
 hT:Tab w

theorem Wk.below {w w':World} {g n rc:Nat} {zs:List Int} {b off lc:Nat} {l:List Int} {p va k:Int} (h:Wk w g n rc zs b off lc l p va k) (hb:Below w.heap.size w w'):Wk w' g n rc zs b off lc l p va k :=
 ⟨h.hz,h.hr,h.hs.below hb,h.hw,h.hc,h.hc2,h.hlz,h.hl.below hb,h.hU,h.hg,h.hva,h.hk1,h.hk3,h.hT.below hb⟩

theorem Wk.at {w:World} {g n rc:Nat} {zs:List Int} {b off lc:Nat} {l:List Int} {p va k:Int} (h:Wk w g n rc zs b off lc l p va k) (j:Nat) (hj:j < 22):w.cell? ⟨b,off+j,none⟩=some (.int .u64 (l.getD j 0)):=by
 obtain ⟨b',off',e,_,hc⟩:=h.hl j (by rw [h.hlz];exact hj)
 simp only [Option.some.injEq,Addr.mk.injEq,and_true] at e
 obtain ⟨rfl,rfl⟩:=e
 exact hc

theorem Wk.one {w:World} {g n rc:Nat} {zs:List Int} {b off lc:Nat} {l:List Int} {p va k:Int} (h:Wk w g n rc zs b off lc l p va k):legalB 22 l 1=true:=by
 have:=h.hg
 unfold legalB at this ⊢
 rw [Bool.and_eq_true] at this
 rw [this.1]
 rfl

theorem cells5 {W:World} {g:Nat} {a b c d e:Value} {t:TypeId} {f:Nat × Nat} (h:W.heap[g]?=some (.cells #[a,b,c,d,e] t f)):W.cell? ⟨g,0,none⟩=some a∧W.cell? ⟨g,1,none⟩=some b∧W.cell? ⟨g,2,none⟩=some c∧W.cell? ⟨g,3,none⟩=some d∧W.cell? ⟨g,4,none⟩=some e:=by
 refine ⟨?_,?_,?_,?_,?_⟩<;>simp [World.cell?,h]

theorem stays {w w':World} (hb:Below w.heap.size w w') {g:Nat} {o:Obj} (h:w.heap[g]?=some o):w'.heap[g]?=some o:=by
 rw [hb.block g (Array.getElem?_eq_some_iff.1 h).1]
 exact h

theorem lowBits_any (lv:Nat) (h:lv≤2) (w:World):Calls Tryz.prog 121 #[.int .i64 (lv:Int)] w fun e w'=>e=.returned (.int .i64 ((12+9*lv:Nat):Int))∧w'=w:=by
 have:lv=0∨lv=1∨lv=2:=by omega
 rcases this with rfl | rfl | rfl
 ·go_enter Tryz.func121,Tryz.ntmps121
  go_wp2_with fail
  go_ret
  exact ⟨rfl,rfl⟩
 ·go_enter Tryz.func121,Tryz.ntmps121
  go_wp2_with fail
  go_ret
  exact ⟨rfl,rfl⟩
 ·go_enter Tryz.func121,Tryz.ntmps121
  go_wp2_with fail
  go_ret
  exact ⟨rfl,rfl⟩

def entE (zs:List Int) (n:Nat) (l:List Int) (k x:Int):Ending :=
 if okB n x 8=true then (if permRest l 1 x (lastOf x 8) 2 4 0=true then (if badB (pteV zs x)=true then gave (pageC k) else .returned (.tuple #[.int .u64 x,.int .u64 (pteV zs x)])) else gave (faultC k)) else gave (faultC k)

theorem U_pte (zs:List Int) (hw:∀ y ∈ zs,(Lit.int .u8 y).wf=true) (x:Int):U (pteV zs x):=by
 have:=le_bd8 zs (byte_bd hw) 8 (x - 2147483648).toNat (by omega)
 exact ⟨this.1,this.2⟩

set_option maxRecDepth 100000 in
set_option maxHeartbeats 1600000 in
theorem entryIn_any (g n rc:Nat) (zs:List Int) (b off lc:Nat) (l:List Int) (p va k T:Int) (lv:Nat) (hlv:lv≤2) (w:World) (W:Wk w g n rc zs b off lc l p va k) :
 Calls Tryz.prog 87 #[.agg #[.slice (some ⟨g,0,none⟩) n rc,.slice (some ⟨b,off,none⟩) 22 lc,.int .i64 p,.int .u64 va,.int .i64 k],.int .u64 T,.int .i64 (lv:Int)] w fun e w'=>e=entE zs n l k (pteAt T va lv)∧Below w.heap.size w w':=by
 have HW:Hid (Wk w g n rc zs b off lc l p va k):=W
 have hn:n≤1048576:=by have:=ramOkB_bd W.hr;omega
 obtain ⟨q,hq⟩:∃ q:Nat,q=12+9*lv:=⟨_,rfl⟩
 have HL:Hid (∀ w,Calls Tryz.prog 121 #[.int .i64 (lv:Int)] w fun e w'=>e=.returned (.int .i64 (q:Int))∧∃ m,w'=w.drewN m):=fun w=>by
  rw [hq]
  exact (lowBits_any lv hlv w).mono fun _ _ h=>⟨h.1,0,h.2⟩
 have HB:Hid (∀ w,Calls Tryz.prog 28 #[.int .u64 va,.int .i64 (q:Int),.int .i64 9] w fun e w'=>e=.returned (.int .u64 (fld va q 9))∧∃ m,w'=w.drewN m):=fun w=>(bitsAt_any va q 9 W.hva.1 W.hva.2 (by omega) (by omega) w).mono fun _ _ h=>⟨h.1,1,h.2⟩
 have PX:Hid (IntKind.u64.wrap (T+IntKind.u64.wrap (8*fld va q 9))=pteAt T va lv):=by
  show _=_
  rw [hq]
  exact pte_eq T va W.hva lv
 clear hq
 have UX:U (pteAt T va lv):=U_wrap _
 generalize pteAt T va lv=x at *
 have HLD:Hid (∀ w',Below w.heap.size w w'→Calls Tryz.prog 83 #[.slice (some ⟨g,0,none⟩) n rc,.int .u64 x,.int .i64 8] w' fun e w''=>e=.returned (.tuple #[.int .u64 (loadB zs n x 8),.bool (okB n x 8)])∧Below w'.heap.size w' w''):=fun w' hb =>
  implLoad_any g n rc zs x 8 w' W.hz hn (W.hs.below hb) W.hw W.hc W.hc2 UX.1 (by have:=UX.2;omega)
 have HPM:Hid (∀ w',Below w.heap.size w w'→Calls Tryz.prog 44 #[.slice (some ⟨b,off,none⟩) 22 lc,.int .i64 1,.int .u64 x,.int .i64 8,.int .i64 2] w' fun e w''=>e=.returned (.bool (permV 22 l 1 x 8 2))∧Below w'.heap.size w' w''):=fun w' hb =>
  implPermits_any (some ⟨b,off,none⟩) 22 lc l 1 x 8 2 w' W.hlz (W.hl.below hb) W.hU UX (W.hT.below hb)
 have HAF:Hid (∀ w,Calls Tryz.prog 122 #[.agg #[.slice (some ⟨g,0,none⟩) n rc,.slice (some ⟨b,off,none⟩) 22 lc,.int .i64 p,.int .u64 va,.int .i64 k]] w fun e w'=>e=gave (faultC k)∧Below w.heap.size w w'):=fun w=>accessFault_any _ _ _ _ _ _ _ _ W.hk1 W.hk3 w
 have HPF:Hid (∀ w,Calls Tryz.prog 86 #[.agg #[.slice (some ⟨g,0,none⟩) n rc,.slice (some ⟨b,off,none⟩) 22 lc,.int .i64 p,.int .u64 va,.int .i64 k]] w fun e w'=>e=gave (pageC k)∧Below w.heap.size w w'):=fun w=>pageFault_any _ _ _ _ _ _ _ _ W.hk1 W.hk3 w
 have hB0:∀ o m,Below w.heap.size w ((w.alloc o).drewN m):=fun o m=>below_drN ((Below.refl _ _).alloc (Nat.le_refl _) _) m
 have F:Hid (entE zs n l k x=if okB n x 8=true then (if permRest l 1 x (lastOf x 8) 2 4 0=true then (if badB (pteV zs x)=true then gave (pageC k) else .returned (.tuple #[.int .u64 x,.int .u64 (pteV zs x)])) else gave (faultC k)) else gave (faultC k)):=(rfl:entE zs n l k x=_)
 have hone:=W.one
 clear W
 go_enter Tryz.func87,Tryz.ntmps87
 go_wp2_with fail
 go_quiet (first | (go_at_call 121;with_reducible refine Calls.quiet_of (HL.out _)) | (go_at_call 28;with_reducible refine Calls.quiet_of (HB.out _)))
 rw [PX.out]
 go_wp2_with fail
 refine (HLD.out _ (hB0 _ _)).mono ?_
 rintro e w1 ⟨rfl,hb1⟩
 have B1:Hid (Below w.heap.size w w1):=below_trans (hB0 _ _) hb1
 have R1:Hid (w1.heap[w.heap.size]?=some (.cells #[.slice (some ⟨g,0,none⟩) n rc,.slice (some ⟨b,off,none⟩) 22 lc,.int .i64 p,.int .u64 va,.int .i64 k] 76 (0,0))):=stays hb1 (heap_alloc_new w _)
 obtain ⟨k0,k1,k2,k3,k4⟩:=cells5 R1.out
 clear hb1 hB0 HLD HL HB
 cases hok:okB n x 8 with
 | false =>
  rw [hok] at F
  have F2:Hid (entE zs n l k x=gave (faultC k)):=F.out.trans (if_neg (by decide))
  clear F HPM HPF
  go_wp2_with fail
  refine (HAF.out _).mono ?_
  rintro e w2 ⟨rfl,hb2⟩
  exact ⟨rfl,F2.out.symm,below_trans B1.out hb2⟩
 | true =>
  rw [hok,if_pos rfl] at F
  have hld:loadB zs n x 8=pteV zs x:=by unfold loadB pteV;rw [hok];rfl
  rw [hld]
  have hpe:=perm_eq n l x 2 hone hok (by omega) (by omega)
  go_wp2_with fail
  refine (HPM.out _ B1.out).mono ?_
  rintro e w2 ⟨rfl,hb2⟩
  rw [hpe]
  have B2:Hid (Below w.heap.size w w2):=below_trans B1.out hb2
  have R2:Hid (w2.heap[w.heap.size]?=some (.cells #[.slice (some ⟨g,0,none⟩) n rc,.slice (some ⟨b,off,none⟩) 22 lc,.int .i64 p,.int .u64 va,.int .i64 k] 76 (0,0))):=stays hb2 R1.out
  clear k0 k1 k2 k3 k4 hb2
  obtain ⟨k0,k1,k2,k3,k4⟩:=cells5 R2.out
  clear HPM hld hpe
  have UE:U (pteV zs x):=U_pte zs HW.out.hw x
  have BE:=bad_eq (pteV zs x) UE
  rw [← BE] at F
  clear BE
  generalize pteV zs x=en at *
  generalize permRest l 1 x (lastOf x 8) 2 4 0=pb at *
  cases pb with
  | false =>
   have F2:Hid (entE zs n l k x=gave (faultC k)):=F.out.trans (if_neg (by decide))
   clear F HPF
   go_wp2_with fail
   refine (HAF.out _).mono ?_
   rintro e w3 ⟨rfl,hb3⟩
   exact ⟨rfl,F2.out.symm,below_trans B2.out hb3⟩
  | true =>
   have F1:entE zs n l k x=if badP en=true then gave (pageC k) else .returned (.tuple #[.int .u64 x,.int .u64 en]):=F.out.trans (if_pos rfl)
   clear F HAF
   unfold badP at F1
   cases t1:(bits .and .u64 en 1==0) with
   | true =>
    rw [t1] at F1
    have F2:Hid (entE zs n l k x=gave (pageC k)):=F1.trans (if_pos rfl)
    clear F1
    cases t2:(bits .and .u64 en 6==4) with
    | true =>
     go_wp2_with fail
     refine (HPF.out _).mono ?_
     rintro e w3 ⟨rfl,hb3⟩
     exact ⟨rfl,F2.out.symm,below_trans B2.out hb3⟩
    | false =>
     go_wp2_with fail
     refine (HPF.out _).mono ?_
     rintro e w3 ⟨rfl,hb3⟩
     exact ⟨rfl,F2.out.symm,below_trans B2.out hb3⟩
   | false =>
    cases t2:(bits .and .u64 en 6==4) with
    | true =>
     rw [t1,t2] at F1
     have F2:Hid (entE zs n l k x=gave (pageC k)):=F1.trans (if_pos rfl)
     clear F1
     go_wp2_with fail
     refine (HPF.out _).mono ?_
     rintro e w3 ⟨rfl,hb3⟩
     exact ⟨rfl,F2.out.symm,below_trans B2.out hb3⟩
    | false =>
     cases t3:(bits .and .u64 en 18428729675200069632 != 0) with
     | true =>
      rw [t1,t2,t3] at F1
      have F2:Hid (entE zs n l k x=gave (pageC k)):=F1.trans (if_pos rfl)
      clear F1
      go_wp2_with fail
      refine (HPF.out _).mono ?_
      rintro e w3 ⟨rfl,hb3⟩
      exact ⟨rfl,F2.out.symm,below_trans B2.out hb3⟩
     | false =>
      rw [t1,t2,t3] at F1
      have F2:Hid (entE zs n l k x=.returned (.tuple #[.int .u64 x,.int .u64 en])):=F1.trans (if_neg (by decide))
      clear F1
      go_wp2_with fail
      go_ret2
      exact ⟨F2.out.symm,B2.out⟩

end Go.Proofs.YtkhofppmeoooaaaGreatDoor

namespace Go.Proofs.YtkhofppmeoooaaaGreatDoor
open Go.RowKit
set_option linter.unusedVariables false

theorem isLeaf_any (e:Int) (he:U e) (w:World):Calls Tryz.prog 88 #[.int .u64 e] w fun r w'=>r=.returned (.bool (!ptrB e))∧w'=w:=by
 have F:Hid ((bits .and .u64 e 10 != 0)=!ptrB e):=leaf_eq e he
 generalize (!ptrB e)=v at *
 go_enter Tryz.func88,Tryz.ntmps88
 go_wp2_with fail
 go_ret
 exact ⟨by rw [F.out];rfl,rfl⟩

theorem frameOf_any (e:Int) (he:U e) (w:World):Calls Tryz.prog 123 #[.int .u64 e] w fun r w'=>r=.returned (.int .u64 (fld e 10 44))∧w'=w.drew:=by
 have HB:Hid (∀ w,Calls Tryz.prog 28 #[.int .u64 e,.int .i64 10,.int .i64 44] w fun r w'=>r=.returned (.int .u64 (fld e 10 44))∧w'=w.drew):=fun w=>bitsAt_any e 10 44 he.1 he.2 (by omega) (by omega) w
 generalize fld e 10 44=f at *
 go_enter Tryz.func123,Tryz.ntmps123
 go_wp2_with fail
 refine (HB.out _).mono ?_
 rintro r w1 ⟨rfl,hw1⟩
 subst hw1
 go_wp2_with fail
 go_ret
 exact ⟨rfl,rfl⟩

def tabE (k e:Int) (lv:Nat):Ending:=if stopB e lv=true then gave (pageC k) else .returned (.int .u64 (IntKind.u64.wrap (frameV e*4096)))

theorem tableOf_any (g n rc:Nat) (b off lc:Nat) (p va k e:Int) (lv:Nat) (he:U e) (h1:1≤k) (h3:k≤3) (w:World) :
 Calls Tryz.prog 89 #[.agg #[.slice (some ⟨g,0,none⟩) n rc,.slice (some ⟨b,off,none⟩) 22 lc,.int .i64 p,.int .u64 va,.int .i64 k],.int .u64 e,.int .i64 (lv:Int)] w fun r w'=>r=tabE k e lv∧Below w.heap.size w w':=by
 have HPF:Hid (∀ w,Calls Tryz.prog 86 #[.agg #[.slice (some ⟨g,0,none⟩) n rc,.slice (some ⟨b,off,none⟩) 22 lc,.int .i64 p,.int .u64 va,.int .i64 k]] w fun e w'=>e=gave (pageC k)∧Below w.heap.size w w'):=fun w=>pageFault_any _ _ _ _ _ _ _ _ h1 h3 w
 have HF:Hid (∀ w,Calls Tryz.prog 123 #[.int .u64 e] w fun r w'=>r=.returned (.int .u64 (frameV e))∧w'=w.drew):=fun w=>by
  have:=frameOf_any e he w
  rw [frame_eq e he] at this
  exact this
 have F:tabE k e lv=if (((lv:Int)==0)||(bits .and .u64 e 208 != 0))=true then gave (pageC k) else .returned (.int .u64 (IntKind.u64.wrap (frameV e*4096))):=by
  rw [stop_eq e he lv]
  rfl
 have hB0:∀ o,Below w.heap.size w (w.alloc o):=fun o=>(Below.refl _ _).alloc (Nat.le_refl _) _
 generalize frameV e=f at *
 generalize tabE k e lv=v at *
 cases t1:((lv:Int)==0) with
 | true =>
  rw [t1] at F
  have F2:Hid (v=gave (pageC k)):=F.trans (if_pos rfl)
  clear F
  go_enter Tryz.func89,Tryz.ntmps89
  go_wp2_with fail
  refine (HPF.out _).mono ?_
  rintro r w3 ⟨rfl,hb3⟩
  exact ⟨rfl,F2.out.symm,below_trans (hB0 _) hb3⟩
 | false =>
  cases t2:(bits .and .u64 e 208 != 0) with
  | true =>
   rw [t1,t2] at F
   have F2:Hid (v=gave (pageC k)):=F.trans (if_pos rfl)
   clear F
   go_enter Tryz.func89,Tryz.ntmps89
   go_wp2_with fail
   refine (HPF.out _).mono ?_
   rintro r w3 ⟨rfl,hb3⟩
   exact ⟨rfl,F2.out.symm,below_trans (hB0 _) hb3⟩
  | false =>
   rw [t1,t2] at F
   have F2:Hid (v=.returned (.int .u64 (IntKind.u64.wrap (f*4096)))):=F.trans (if_neg (by decide))
   clear F
   go_enter Tryz.func89,Tryz.ntmps89
   go_wp2_with fail
   refine (HF.out _).mono ?_
   rintro r w1 ⟨rfl,hw1⟩
   subst hw1
   go_wp2_with fail
   go_ret
   exact ⟨F2.out.symm,below_drN (hB0 _) 1⟩

theorem kindMay_any (ra:Option Addr) (n rc:Nat) (b off lc:Nat) (p va k e x:Int) (h1:1≤k) (h3:k≤3) (w:World) (hc:∀ o,(w.alloc o).cell? ⟨b,off,none⟩=some (.int .u64 x)) :
 Calls Tryz.prog 124 #[.agg #[.slice ra n rc,.slice (some ⟨b,off,none⟩) 22 lc,.int .i64 p,.int .u64 va,.int .i64 k],.int .u64 e] w fun r w'=>r=.returned (.bool (kindP x k e))∧Below w.heap.size w w':=by
 have hB0:∀ o,Below w.heap.size w (w.alloc o):=fun o=>(Below.refl _ _).alloc (Nat.le_refl _) _
 have hk:k=1∨k=2∨k=3:=by omega
 rcases hk with rfl | rfl | rfl
 ·have F:Hid (kindP x 1 e=(bits .and .u64 e 8 != 0)):=(rfl:kindP x 1 e=_)
  generalize kindP x 1 e=v at *
  go_enter Tryz.func124,Tryz.ntmps124
  go_wp2_with fail
  go_ret
  exact ⟨by rw [F.out];rfl,hB0 _⟩
 ·have F:kindP x 2 e=((bits .and .u64 e 2 != 0)||((bits .and .u64 x 524288 != 0)&&(bits .and .u64 e 8 != 0))):=rfl
  generalize kindP x 2 e=v at *
  cases t1:(bits .and .u64 e 2 != 0)<;>cases t2:(bits .and .u64 x 524288 != 0)<;>cases t3:(bits .and .u64 e 8 != 0)
  all_goals
   rw [t1,t2,t3] at F
   have F2:=hid_mk F
   clear F
   go_enter Tryz.func124,Tryz.ntmps124
   go_wp2_with fail
   go_ret
   exact ⟨by rw [F2.out];rfl,hB0 _⟩
 ·have F:Hid (kindP x 3 e=(bits .and .u64 e 4 != 0)):=(rfl:kindP x 3 e=_)
  generalize kindP x 3 e=v at *
  go_enter Tryz.func124,Tryz.ntmps124
  go_wp2_with fail
  go_ret
  exact ⟨by rw [F.out];rfl,hB0 _⟩

theorem privMay_any (ra:Option Addr) (n rc:Nat) (b off lc:Nat) (p va k e x:Int) (w:World) (hc:∀ o,(w.alloc o).cell? ⟨b,off,none⟩=some (.int .u64 x)) :
 Calls Tryz.prog 125 #[.agg #[.slice ra n rc,.slice (some ⟨b,off,none⟩) 22 lc,.int .i64 p,.int .u64 va,.int .i64 k],.int .u64 e] w fun r w'=>r=.returned (.bool (privP x p k e))∧Below w.heap.size w w':=by
 have hB0:∀ o,Below w.heap.size w (w.alloc o):=fun o=>(Below.refl _ _).alloc (Nat.le_refl _) _
 have F:privP x p k e=if (bits .and .u64 e 16==0)=true then (p==1) else ((p==0)||((k != 1)&&(bits .and .u64 x 262144 != 0))):=rfl
 generalize privP x p k e=v at *
 cases t0:(bits .and .u64 e 16==0) with
 | true =>
  have F2:Hid (v=(p==1)):=by rw [t0] at F;exact F.trans (if_pos rfl)
  clear F
  go_enter Tryz.func125,Tryz.ntmps125
  go_wp2_with fail
  go_ret
  exact ⟨by rw [F2.out];rfl,hB0 _⟩
 | false =>
  have F1:v=((p==0)||((k != 1)&&(bits .and .u64 x 262144 != 0))):=by rw [t0] at F;exact F.trans (if_neg (by decide))
  clear F
  cases t1:(p==0)<;>cases t2:(k != 1)<;>cases t3:(bits .and .u64 x 262144 != 0)
  all_goals
   rw [t1,t2,t3] at F1
   have F2:=hid_mk F1
   clear F1
   go_enter Tryz.func125,Tryz.ntmps125
   go_wp2_with fail
   go_ret
   exact ⟨by rw [F2.out];rfl,hB0 _⟩

def chkE (l:List Int) (p k e:Int) (lv:Nat):Ending:=if (offB e lv||noKind l k e||noPriv l p k e)=true then gave (pageC k) else .returned (.tuple #[])

set_option maxRecDepth 100000 in
set_option maxHeartbeats 1600000 in
theorem checkLeaf_any (g n rc:Nat) (zs:List Int) (b off lc:Nat) (l:List Int) (p va k e:Int) (lv:Nat) (hlv:lv≤2) (he:U e) (hp:p=0∨p=1) (w:World) (W:Wk w g n rc zs b off lc l p va k) :
 Calls Tryz.prog 90 #[.agg #[.slice (some ⟨g,0,none⟩) n rc,.slice (some ⟨b,off,none⟩) 22 lc,.int .i64 p,.int .u64 va,.int .i64 k],.int .u64 e,.int .i64 (lv:Int)] w fun r w'=>r=chkE l p k e lv∧Below w.heap.size w w':=by
 have HW:Hid (Wk w g n rc zs b off lc l p va k):=W
 obtain ⟨q,hq⟩:∃ q:Nat,q=9*lv:=⟨_,rfl⟩
 have h9:Hid (9*(lv:Int)=(q:Int)):=by
  show _=_
  omega
 have HB:Hid (∀ w,Calls Tryz.prog 28 #[.int .u64 e,.int .i64 10,.int .i64 (q:Int)] w fun r w'=>r=.returned (.int .u64 (fld e 10 q))∧w'=w.drew):=fun w=>bitsAt_any e 10 q he.1 he.2 (by omega) (by omega) w
 have HPF:Hid (∀ w,Calls Tryz.prog 86 #[.agg #[.slice (some ⟨g,0,none⟩) n rc,.slice (some ⟨b,off,none⟩) 22 lc,.int .i64 p,.int .u64 va,.int .i64 k]] w fun e w'=>e=gave (pageC k)∧Below w.heap.size w w'):=fun w=>pageFault_any _ _ _ _ _ _ _ _ W.hk1 W.hk3 w
 have hB0:∀ o m,Below w.heap.size w ((w.alloc o).drewN m):=fun o m=>below_drN ((Below.refl _ _).alloc (Nat.le_refl _) _) m
 have HC:Hid (∀ w',Below w.heap.size w w'→∀ o,(w'.alloc o).cell? ⟨b,off,none⟩=some (.int .u64 (l.getD 0 0))):=fun w' hb o=>(W.below (below_trans hb ((Below.refl _ _).alloc (Nat.le_refl _) _))).at 0 (by omega)
 have HKM:Hid (∀ w',Below w.heap.size w w'→Calls Tryz.prog 124 #[.agg #[.slice (some ⟨g,0,none⟩) n rc,.slice (some ⟨b,off,none⟩) 22 lc,.int .i64 p,.int .u64 va,.int .i64 k],.int .u64 e] w' fun r w''=>r=.returned (.bool (!noKind l k e))∧Below w'.heap.size w' w''):=fun w' hb=>by
  have:=kindMay_any (some ⟨g,0,none⟩) n rc b off lc p va k e (l.getD 0 0) W.hk1 W.hk3 w' (HC.out w' hb)
  rw [kind_may l k e he (W.hU 0) W.hk1 W.hk3] at this
  exact this
 have HPM:Hid (∀ w',Below w.heap.size w w'→Calls Tryz.prog 125 #[.agg #[.slice (some ⟨g,0,none⟩) n rc,.slice (some ⟨b,off,none⟩) 22 lc,.int .i64 p,.int .u64 va,.int .i64 k],.int .u64 e] w' fun r w''=>r=.returned (.bool (!noPriv l p k e))∧Below w'.heap.size w' w''):=fun w' hb=>by
  have:=privMay_any (some ⟨g,0,none⟩) n rc b off lc p va k e (l.getD 0 0) w' (HC.out w' hb)
  rw [priv_may l p k e he (W.hU 0) hp] at this
  exact this
 have FO:(fld e 10 q != 0)=offB e lv:=by rw [hq];exact off_eq e he lv hlv
 have F:chkE l p k e lv=if (offB e lv||noKind l k e||noPriv l p k e)=true then gave (pageC k) else .returned (.tuple #[]):=rfl
 rw [← FO] at F
 generalize chkE l p k e lv=v at *
 generalize fld e 10 q=ff at *
 generalize noKind l k e=nk at *
 generalize noPriv l p k e=np at *
 clear W HC hq FO
 cases t1:(ff != 0) with
 | true =>
  rw [t1] at F
  have F2:Hid (v=gave (pageC k)):=F.trans (if_pos rfl)
  clear F
  go_enter Tryz.func90,Tryz.ntmps90
  go_wp2_with fail
  rw [h9.out]
  refine (HB.out _).mono ?_
  rintro r w1 ⟨rfl,hw1⟩
  subst hw1
  go_wp2_with fail
  refine (HPF.out _).mono ?_
  rintro r w3 ⟨rfl,hb3⟩
  exact ⟨rfl,F2.out.symm,below_trans (hB0 _ 1) hb3⟩
 | false =>
  cases nk with
  | true =>
   rw [t1] at F
   have F2:Hid (v=gave (pageC k)):=F.trans (if_pos rfl)
   clear F
   go_enter Tryz.func90,Tryz.ntmps90
   go_wp2_with fail
   rw [h9.out]
   refine (HB.out _).mono ?_
   rintro r w1 ⟨rfl,hw1⟩
   subst hw1
   go_wp2_with fail
   refine (HKM.out _ (hB0 _ 1)).mono ?_
   rintro r w2 ⟨rfl,hb2⟩
   have R2:Hid (w2.heap[w.heap.size]?=some (.cells #[.slice (some ⟨g,0,none⟩) n rc,.slice (some ⟨b,off,none⟩) 22 lc,.int .i64 p,.int .u64 va,.int .i64 k] 76 (0,0))):=stays hb2 (heap_alloc_new w _)
   obtain ⟨k0,k1,k2,k3,k4⟩:=cells5 R2.out
   have B2:Hid (Below w.heap.size w w2):=below_trans (hB0 _ 1) hb2
   clear hb2
   go_wp2_with fail
   refine (HPF.out _).mono ?_
   rintro r w3 ⟨rfl,hb3⟩
   exact ⟨rfl,F2.out.symm,below_trans B2.out hb3⟩
  | false =>
   cases np with
   | true =>
    rw [t1] at F
    have F2:Hid (v=gave (pageC k)):=F.trans (if_pos rfl)
    clear F
    go_enter Tryz.func90,Tryz.ntmps90
    go_wp2_with fail
    rw [h9.out]
    refine (HB.out _).mono ?_
    rintro r w1 ⟨rfl,hw1⟩
    subst hw1
    go_wp2_with fail
    refine (HKM.out _ (hB0 _ 1)).mono ?_
    rintro r w2 ⟨rfl,hb2⟩
    have R2:Hid (w2.heap[w.heap.size]?=some (.cells #[.slice (some ⟨g,0,none⟩) n rc,.slice (some ⟨b,off,none⟩) 22 lc,.int .i64 p,.int .u64 va,.int .i64 k] 76 (0,0))):=stays hb2 (heap_alloc_new w _)
    obtain ⟨k0,k1,k2,k3,k4⟩:=cells5 R2.out
    have B2:Hid (Below w.heap.size w w2):=below_trans (hB0 _ 1) hb2
    clear hb2
    go_wp2_with fail
    refine (HPM.out _ B2.out).mono ?_
    rintro r w3 ⟨rfl,hb3⟩
    have R3:Hid (w3.heap[w.heap.size]?=some (.cells #[.slice (some ⟨g,0,none⟩) n rc,.slice (some ⟨b,off,none⟩) 22 lc,.int .i64 p,.int .u64 va,.int .i64 k] 76 (0,0))):=stays hb3 R2.out
    clear k0 k1 k2 k3 k4
    obtain ⟨k0,k1,k2,k3,k4⟩:=cells5 R3.out
    have B3:Hid (Below w.heap.size w w3):=below_trans B2.out hb3
    clear hb3
    go_wp2_with fail
    refine (HPF.out _).mono ?_
    rintro r w4 ⟨rfl,hb4⟩
    exact ⟨rfl,F2.out.symm,below_trans B3.out hb4⟩
   | false =>
    rw [t1] at F
    have F2:Hid (v=.returned (.tuple #[])):=F.trans (if_neg (by decide))
    clear F
    go_enter Tryz.func90,Tryz.ntmps90
    go_wp2_with fail
    rw [h9.out]
    refine (HB.out _).mono ?_
    rintro r w1 ⟨rfl,hw1⟩
    subst hw1
    go_wp2_with fail
    refine (HKM.out _ (hB0 _ 1)).mono ?_
    rintro r w2 ⟨rfl,hb2⟩
    have R2:Hid (w2.heap[w.heap.size]?=some (.cells #[.slice (some ⟨g,0,none⟩) n rc,.slice (some ⟨b,off,none⟩) 22 lc,.int .i64 p,.int .u64 va,.int .i64 k] 76 (0,0))):=stays hb2 (heap_alloc_new w _)
    obtain ⟨k0,k1,k2,k3,k4⟩:=cells5 R2.out
    have B2:Hid (Below w.heap.size w w2):=below_trans (hB0 _ 1) hb2
    clear hb2
    go_wp2_with fail
    refine (HPM.out _ B2.out).mono ?_
    rintro r w3 ⟨rfl,hb3⟩
    have B3:Hid (Below w.heap.size w w3):=below_trans B2.out hb3
    clear hb3
    go_wp2_with fail
    go_end0
    exact ⟨F2.out.symm,B3.out⟩

theorem place_w (g n rc:Nat) (b off lc:Nat) (p va k e:Int) (lv:Nat) (hlv:lv≤2) (he:U e) (hv:U va) (h0:offB e lv=false) (w:World) :
 Calls Tryz.prog 91 #[.agg #[.slice (some ⟨g,0,none⟩) n rc,.slice (some ⟨b,off,none⟩) 22 lc,.int .i64 p,.int .u64 va,.int .i64 k],.int .u64 e,.int .i64 (lv:Int)] w fun r w'=>r=.returned (.int .u64 (leadV e va lv))∧Below w.heap.size w w':=by
 obtain ⟨q,hq⟩:∃ q:Nat,q=12+9*lv:=⟨_,rfl⟩
 have HL:Hid (∀ w,Calls Tryz.prog 121 #[.int .i64 (lv:Int)] w fun e w'=>e=.returned (.int .i64 (q:Int))∧∃ m,w'=w.drewN m):=fun w=>by
  rw [hq]
  exact (lowBits_any lv hlv w).mono fun _ _ h=>⟨h.1,0,h.2⟩
 have HB:Hid (∀ w,Calls Tryz.prog 28 #[.int .u64 va,.int .i64 0,.int .i64 (q:Int)] w fun e w'=>e=.returned (.int .u64 (fld va 0 q))∧∃ m,w'=w.drewN m):=fun w=>(bitsAt_any va 0 q hv.1 hv.2 (by omega) (by omega) w).mono fun _ _ h=>⟨h.1,1,h.2⟩
 have HF:Hid (∀ w,Calls Tryz.prog 123 #[.int .u64 e] w fun r w'=>r=.returned (.int .u64 (fld e 10 44))∧∃ m,w'=w.drewN m):=fun w=>(frameOf_any e he w).mono fun _ _ h=>⟨h.1,1,h.2⟩
 have F:Hid (bits .or .u64 (IntKind.u64.wrap (fld e 10 44*4096)) (fld va 0 q)=leadV e va lv):=by
  show _=_
  rw [hq]
  exact lead_eq e va he hv lv hlv h0
 have hB0:∀ o m,Below w.heap.size w ((w.alloc o).drewN m):=fun o m=>below_drN ((Below.refl _ _).alloc (Nat.le_refl _) _) m
 generalize leadV e va lv=v at *
 clear hq h0
 go_enter Tryz.func91,Tryz.ntmps91
 go_wp2_with fail
 go_quiet (first | (go_at_call 121;with_reducible refine Calls.quiet_of (HL.out _)) | (go_at_call 28;with_reducible refine Calls.quiet_of (HB.out _)) | (go_at_call 123;with_reducible refine Calls.quiet_of (HF.out _)))
 go_wp2_with fail
 go_ret
 exact ⟨by rw [F.out];rfl,hB0 _ _⟩

def Fresh (w w':World) (zs:List Int) (a':Option Addr) (n c:Nat):Prop:=w'.ownsRow w.heap.size 5 1 (.slice a' n c) n (zs.map (Value.int .u8))∧Below w.heap.size w w'

theorem cloneW_any (g n rc:Nat) (zs:List Int) (w:World) (hz:zs.length=n) (hn0:1≤n) (hn:n≤1048576) (hs:Sl .u8 w (some ⟨g,0,none⟩) zs) :
 Calls Tryz.prog 41 #[.slice (some ⟨g,0,none⟩) n rc] w fun r w'=>∃ (a':Option Addr) (c:Nat),r=.returned (.slice a' n c)∧Fresh w w' zs a' n c:=by
 have qT:∀ (w:World) (a:Option Addr) (n c n' c':Nat),(binOp .eql 22 (.slice a n c) (.slice none n' c')).run Tryz.prog w=.ok (.bool a.isNone) w:=fun w a n c n' c'=>Lib.run_eql_slice_nil w _ _ a n c n' c' Tryz.underlying22
 obtain ⟨i0,hi,hz0,hz1,hz2⟩:=info_parts Tryz.info5
 have H1C:Hid (∀ u ∈ zs.map (Value.int .u8),u.oneCell'=true):=ints_oneCell _ _
 have hb9:(0+n)*1≤140737488355328:=by omega
 have hm9:0+n≤maxLen:=by unfold maxLen;omega
 have hlen:(zs.map (Value.int .u8)).length=n*1:=by rw [List.length_map,hz];omega
 have hE:=own_emptyB w w.heap.size (Nat.le_refl _) (.cells #[] 5 (0,0)) rfl
 have HNEWS:Hid (∀ (o:Obj) (j:Nat) (u:Value),(zs.map (Value.int .u8))[j]?=some u→(w.alloc o).cell? ((⟨g,0,none⟩:Addr).add j)=some u):=fun o j u hu=>news_of hs o j u hu
 clear hs
 go_enter Tryz.func41,Tryz.ntmps41
 go_wp2_with (first
  | (at_builtin;refine wpList_append_own _ rfl (.tmp 5) (.tmp 6) 22 rfl _ 5 i0 (.int .u8 0) 1 1 Tryz.underlying22 hi hz0 hz1 hz2 rfl (by decide) _ 0 [] (by rfl) hE ⟨g,0,none⟩ n rc (zs.map (Value.int .u8)) rfl hlen (HNEWS.out _) H1C.out hm9 hb9 (by simp) ?_;intro v' w3 hown1 hgrow1 hnil1;simp only [Nat.zero_add,List.nil_append] at hown1;obtain ⟨g',cp,hv,hg⟩:=own_shape hown1 (by omega);rw [hv] at hown1 ⊢;have OWN:Hid (w3.ownsRow w.heap.size 5 1 (.slice (some ⟨g',0,none⟩) n cp) n (zs.map (Value.int .u8))):=hown1;have B3:Hid (Below w.heap.size w w3):=below_app hgrow1;clear hnil1 hgrow1 hown1 hv hg))
 go_ret
 exact ⟨_,_,rfl,OWN.out,B3.out⟩

set_option maxRecDepth 100000 in
set_option maxHeartbeats 1600000 in
theorem marked_no (g n rc:Nat) (zs:List Int) (b off lc:Nat) (l:List Int) (p va k e x:Int) (he:U e) (hm:(wantV e k != e)=false) (w:World) (W:Wk w g n rc zs b off lc l p va k) :
 Calls Tryz.prog 92 #[.agg #[.slice (some ⟨g,0,none⟩) n rc,.slice (some ⟨b,off,none⟩) 22 lc,.int .i64 p,.int .u64 va,.int .i64 k],.int .u64 x,.int .u64 e] w fun r w'=>∃ (a':Option Addr) (c:Nat),r=.returned (.slice a' n c)∧Fresh w w' zs a' n c:=by
 have hbd:=ramOkB_bd W.hr
 have HC:Hid (∀ o,Calls Tryz.prog 41 #[.slice (some ⟨g,0,none⟩) n rc] (w.alloc o) fun r w'=>∃ (a':Option Addr) (c:Nat),r=.returned (.slice a' n c)∧Fresh (w.alloc o) w' zs a' n c):=fun o=>cloneW_any g n rc zs (w.alloc o) W.hz (by omega) (by omega) (W.hs.below ((Below.refl _ _).alloc (Nat.le_refl _) _))
 have hB0:∀ o,Below w.heap.size w (w.alloc o):=fun o=>(Below.refl _ _).alloc (Nat.le_refl _) _
 have HF:Hid (∀ o w' a' c,Fresh (w.alloc o) w' zs a' n c→Fresh w w' zs a' n c):=fun o w' a' c h=>⟨own_low h.1 (by simp),below_trans (hB0 o) h.2⟩
 have hme:=mark_eq e k he
 rw [hm] at hme
 have h192:bits .or .u64 64 128=192:=by decide +kernel
 clear W
 cases t:(k==3) with
 | true =>
  have e3:k=3:=by simpa using t
  have hmp:marksP k=192:=if_pos e3
  rw [hmp] at hme
  have hme2:(bits .and .u64 e 192==192)=true:=hme
  clear hme hmp e3
  go_enter Tryz.func92,Tryz.ntmps92
  go_wp2_with fail
  refine (HC.out _).mono ?_
  rintro r w1 ⟨a',c,rfl,hf⟩
  go_wp2_with fail
  go_ret
  exact ⟨_,_,rfl,HF.out _ _ _ _ hf⟩
 | false =>
  have e3:¬ k=3:=by simpa using t
  have hmp:marksP k=64:=if_neg e3
  rw [hmp] at hme
  have hme2:(bits .and .u64 e 64==64)=true:=hme
  clear hme hmp e3
  go_enter Tryz.func92,Tryz.ntmps92
  go_wp2_with fail
  refine (HC.out _).mono ?_
  rintro r w1 ⟨a',c,rfl,hf⟩
  go_wp2_with fail
  go_ret
  exact ⟨_,_,rfl,HF.out _ _ _ _ hf⟩

def mrkQ (l:List Int) (k e x:Int) (n:Nat) (zs:List Int) (w:World) (r:Ending) (w':World):Prop :=
 if permRest l 1 x (lastOf x 8) 3 4 0=true then ∃ (a':Option Addr) (c:Nat),r=.returned (.slice a' n c)∧Fresh w w' (put zs (x - 2147483648).toNat (wantV e k) 8) a' n c else r=gave (faultC k)∧Below w.heap.size w w'

set_option maxRecDepth 100000 in
set_option maxHeartbeats 1600000 in
theorem marked_yes (g n rc:Nat) (zs:List Int) (b off lc:Nat) (l:List Int) (p va k e x:Int) (he:U e) (hx:okB n x 8=true) (hm:(wantV e k != e)=true) (w:World) (W:Wk w g n rc zs b off lc l p va k) :
 Calls Tryz.prog 92 #[.agg #[.slice (some ⟨g,0,none⟩) n rc,.slice (some ⟨b,off,none⟩) 22 lc,.int .i64 p,.int .u64 va,.int .i64 k],.int .u64 x,.int .u64 e] w fun r w'=>mrkQ l k e x n zs w r w':=by
 have hbd:=ramOkB_bd W.hr
 have UX:U x:=by obtain ⟨_,_,h1,h2,_,_,_,h4⟩:=okB_true hx;exact ⟨by omega,by omega⟩
 have HAF:Hid (∀ w,Calls Tryz.prog 122 #[.agg #[.slice (some ⟨g,0,none⟩) n rc,.slice (some ⟨b,off,none⟩) 22 lc,.int .i64 p,.int .u64 va,.int .i64 k]] w fun e w'=>e=gave (faultC k)∧Below w.heap.size w w'):=fun w=>accessFault_any _ _ _ _ _ _ _ _ W.hk1 W.hk3 w
 have hB0:∀ o,Below w.heap.size w (w.alloc o):=fun o=>(Below.refl _ _).alloc (Nat.le_refl _) _
 have HPM:Hid (∀ o,Calls Tryz.prog 44 #[.slice (some ⟨b,off,none⟩) 22 lc,.int .i64 1,.int .u64 x,.int .i64 8,.int .i64 3] (w.alloc o) fun e w''=>e=.returned (.bool (permRest l 1 x (lastOf x 8) 3 4 0))∧Below (w.alloc o).heap.size (w.alloc o) w''):=fun o=>by
  have:=implPermits_any (some ⟨b,off,none⟩) 22 lc l 1 x 8 3 (w.alloc o) W.hlz (W.hl.below (hB0 o)) W.hU UX (W.hT.below (hB0 o))
  rw [perm_eq n l x 3 W.one hx (by omega) (by omega)] at this
  exact this
 have HST:Hid (∀ w',Below w.heap.size w w'→Calls Tryz.prog 113 #[.slice (some ⟨g,0,none⟩) n rc,.int .u64 x,.int .i64 8,.int .u64 (wantV e k)] w' fun r w''=>∃ (a':Option Addr) (c:Nat),r=.returned (.tuple #[.slice a' n c,.bool true])∧Fresh w w'' (put zs (x - 2147483648).toNat (wantV e k) 8) a' n c):=fun w' hb=>by
  obtain ⟨_,_,h1,h2,_,_,_,h4⟩:=okB_true hx
  obtain ⟨f,hf⟩:∃ f:Nat,x=2147483648+(f:Int):=⟨(x - 2147483648).toNat,by omega⟩
  subst hf
  have hu:=U_want e k
  have:=implStore_n (some ⟨g,0,none⟩) n rc f 8 zs (wantV e k) w' W.hz (by omega) (W.hs.below hb) hx hu.1 (by have:=hu.2;omega)
  rw [show (2147483648+(f:Int) - 2147483648).toNat=f from by omega]
  exact this.mono fun r w'' h=>⟨_,_,h.1,own_low h.2.1 hb.size,below_trans hb h.2.2⟩
 have F:Hid (∀ r w',mrkQ l k e x n zs w r w'=if permRest l 1 x (lastOf x 8) 3 4 0=true then ∃ (a':Option Addr) (c:Nat),r=.returned (.slice a' n c)∧Fresh w w' (put zs (x - 2147483648).toNat (wantV e k) 8) a' n c else r=gave (faultC k)∧Below w.heap.size w w'):=fun r w'=>rfl
 have hme:=mark_eq e k he
 have hwe:=want_eq e k
 rw [hm] at hme
 have h192:bits .or .u64 64 128=192:=by decide +kernel
 generalize permRest l 1 x (lastOf x 8) 3 4 0=pb at *
 generalize put zs (x - 2147483648).toNat (wantV e k) 8=ms at *
 generalize mrkQ l k e x n zs w=Q at *
 generalize wantV e k=we at *
 clear W hm
 obtain ⟨mk,hmk,t⟩:∃ mk,marksP k=mk∧(((k==3)=true∧mk=192)∨((k==3)=false∧mk=64)):=by
  refine ⟨_,rfl,?_⟩
  by_cases h3:k=3
  ·exact .inl ⟨by simpa using h3,if_pos h3⟩
  ·exact .inr ⟨by simpa using h3,if_neg h3⟩
 rw [hmk] at hme hwe
 have HWE:Hid (bits .or .u64 e mk=we):=hwe
 clear hwe hmk
 rcases t with ⟨t,rfl⟩ | ⟨t,rfl⟩
 ·have hme2:(bits .and .u64 e 192==192)=false:=hme
  clear hme
  cases pb with
  | false =>
   go_enter Tryz.func92,Tryz.ntmps92
   go_wp2_with fail
   refine (HPM.out _).mono ?_
   rintro r w1 ⟨rfl,hb1⟩
   have R1:Hid (w1.heap[w.heap.size]?=some (.cells #[.slice (some ⟨g,0,none⟩) n rc,.slice (some ⟨b,off,none⟩) 22 lc,.int .i64 p,.int .u64 va,.int .i64 k] 76 (0,0))):=stays hb1 (heap_alloc_new w _)
   obtain ⟨k0,k1,k2,k3,k4⟩:=cells5 R1.out
   have B1:Hid (Below w.heap.size w w1):=below_trans (hB0 _) hb1
   clear hb1
   go_wp2_with fail
   refine (HAF.out _).mono ?_
   rintro r w3 ⟨rfl,hb3⟩
   exact ⟨rfl,Eq.mpr ((F.out _ _).trans (if_neg (by decide))) ⟨rfl,below_trans B1.out hb3⟩⟩
  | true =>
   go_enter Tryz.func92,Tryz.ntmps92
   go_wp2_with fail
   refine (HPM.out _).mono ?_
   rintro r w1 ⟨rfl,hb1⟩
   have R1:Hid (w1.heap[w.heap.size]?=some (.cells #[.slice (some ⟨g,0,none⟩) n rc,.slice (some ⟨b,off,none⟩) 22 lc,.int .i64 p,.int .u64 va,.int .i64 k] 76 (0,0))):=stays hb1 (heap_alloc_new w _)
   obtain ⟨k0,k1,k2,k3,k4⟩:=cells5 R1.out
   have B1:Hid (Below w.heap.size w w1):=below_trans (hB0 _) hb1
   clear hb1
   go_wp2_with fail
   rw [HWE.out]
   refine (HST.out _ B1.out).mono ?_
   rintro r w3 ⟨a',c,rfl,hf⟩
   go_wp2_with fail
   exact Eq.mpr ((F.out _ _).trans (if_pos (by decide))) ⟨_,_,rfl,hf⟩
 ·have hme2:(bits .and .u64 e 64==64)=false:=hme
  clear hme
  cases pb with
  | false =>
   go_enter Tryz.func92,Tryz.ntmps92
   go_wp2_with fail
   refine (HPM.out _).mono ?_
   rintro r w1 ⟨rfl,hb1⟩
   have R1:Hid (w1.heap[w.heap.size]?=some (.cells #[.slice (some ⟨g,0,none⟩) n rc,.slice (some ⟨b,off,none⟩) 22 lc,.int .i64 p,.int .u64 va,.int .i64 k] 76 (0,0))):=stays hb1 (heap_alloc_new w _)
   obtain ⟨k0,k1,k2,k3,k4⟩:=cells5 R1.out
   have B1:Hid (Below w.heap.size w w1):=below_trans (hB0 _) hb1
   clear hb1
   go_wp2_with fail
   refine (HAF.out _).mono ?_
   rintro r w3 ⟨rfl,hb3⟩
   exact ⟨rfl,Eq.mpr ((F.out _ _).trans (if_neg (by decide))) ⟨rfl,below_trans B1.out hb3⟩⟩
  | true =>
   go_enter Tryz.func92,Tryz.ntmps92
   go_wp2_with fail
   refine (HPM.out _).mono ?_
   rintro r w1 ⟨rfl,hb1⟩
   have R1:Hid (w1.heap[w.heap.size]?=some (.cells #[.slice (some ⟨g,0,none⟩) n rc,.slice (some ⟨b,off,none⟩) 22 lc,.int .i64 p,.int .u64 va,.int .i64 k] 76 (0,0))):=stays hb1 (heap_alloc_new w _)
   obtain ⟨k0,k1,k2,k3,k4⟩:=cells5 R1.out
   have B1:Hid (Below w.heap.size w w1):=below_trans (hB0 _) hb1
   clear hb1
   go_wp2_with fail
   rw [HWE.out]
   refine (HST.out _ B1.out).mono ?_
   rintro r w3 ⟨a',c,rfl,hf⟩
   go_wp2_with fail
   exact Eq.mpr ((F.out _ _).trans (if_pos (by decide))) ⟨_,_,rfl,hf⟩

end Go.Proofs.YtkhofppmeoooaaaGreatDoor
