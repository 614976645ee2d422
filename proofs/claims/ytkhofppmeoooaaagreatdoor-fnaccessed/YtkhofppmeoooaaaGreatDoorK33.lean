/- Own lemmas. -/
import Derived.Test.YtkhofppmeoooaaaGreatDoorK04
import Derived.Test.YtkhofppmeoooaaaGreatDoorK11
import Derived.Test.YtkhofppmeoooaaaGreatDoorK22
namespace Go.Proofs.YtkhofppmeoooaaaGreatDoor
open Go.RowKit
set_option linter.unusedVariables false

theorem kindOk_e (k:Int) (w:World):Calls Tryz.prog 39 #[.int .i64 k] w fun e w'=>e=.returned (.bool (decide (1≤k∧k≤3)))∧w'=w:=by
 by_cases h1:k=1
 ·subst h1
  go_enter Tryz.func39,Tryz.ntmps39
  go_wp2_with fail
  go_ret
  exact ⟨rfl,rfl⟩
 ·have t1:(k==1)=false:=by simpa using h1
  by_cases h2:k=2
  ·subst h2
   go_enter Tryz.func39,Tryz.ntmps39
   go_wp2_with fail
   go_ret
   exact ⟨rfl,rfl⟩
  ·have t2:(k==2)=false:=by simpa using h2
   by_cases h3:k=3
   ·subst h3
    go_enter Tryz.func39,Tryz.ntmps39
    go_wp2_with fail
    go_ret
    exact ⟨rfl,rfl⟩
   ·have t3:(k==3)=false:=by simpa using h3
    have F:Hid (decide (1≤k∧k≤3)=false):=by show _=_;simp;omega
    clear h1 h2 h3
    generalize decide (1≤k∧k≤3)=v at *
    go_enter Tryz.func39,Tryz.ntmps39
    go_wp2_with fail
    go_ret
    exact ⟨by rw [F.out];rfl,rfl⟩

theorem side_sz:(Tryz.prog.info? 104).map (·.size)=some 9:=by kernel_rfl

theorem machineSide_e (w:World):Calls Tryz.prog 77 #[] w fun e w'=>e=.returned (.agg #[.int .i64 3,.int .i64 4,.int .i64 6,.int .i64 7,.int .i64 8,.int .i64 3,.int .i64 7,.int .i64 11,.int .i64 2])∧Below w.heap.size w w':=by
 go_enter Tryz.func77,Tryz.ntmps77
 go_wp2_with fail
 exact bodyPost_ret (results_cell_row Tryz.results77 _ _ _ _ _ _ _ rfl (heap_alloc_new _ _) Tryz.underlying104 rfl side_sz) rfl ⟨rfl,(Below.refl _ _).alloc (Nat.le_refl _) _⟩

theorem origin_e (s:Int) (h:U s) (w:World):Calls Tryz.prog 78 #[.agg #[.int .i64 3,.int .i64 4,.int .i64 6,.int .i64 7,.int .i64 8,.int .i64 3,.int .i64 7,.int .i64 11,.int .i64 2],.int .u64 s] w fun e w'=>e=.returned (.int .i64 (wrap64 (fld s 11 2)))∧Below w.heap.size w w':=by
 have HB:Hid (∀ w,Calls Tryz.prog 28 #[.int .u64 s,.int .i64 11,.int .i64 2] w fun e w'=>e=.returned (.int .u64 (fld s 11 2))∧w'=w.drew):=fun w=>bitsAt_any s 11 2 h.1 h.2 (by omega) (by omega) w
 clear h
 generalize fld s 11 2=y at *
 go_enter Tryz.func78,Tryz.ntmps78
 go_wp2_with fail
 refine (HB.out _).mono ?_
 rintro e w1 ⟨rfl,hw1⟩
 subst hw1
 go_wp2_with fail
 go_ret
 exact ⟨rfl,((Below.refl _ _).alloc (Nat.le_refl _) _).drew⟩

theorem implEffective_any (a:Option Addr) (n cap:Nat) (l:List Int) (p kind:Int) (w:World) (hz:l.length=n) (hs:Sl .u64 w a l) (hl:∀ j,U (l.getD j 0)) :
 Calls Tryz.prog 43 #[.slice a n cap,.int .i64 p,.int .i64 kind] w fun e w'=>e=.returned (.int .i64 (effB n l p kind))∧Below w.heap.size w w':=by
 have HL:Hid (Calls Tryz.prog 30 #[.slice a n cap,.int .i64 p] w fun e w'=>e=.returned (.bool (legalB n l p))∧Below w.heap.size w w'):=implLegal_any a n cap l p w hz hs hl
 have HK:Hid (∀ w,Calls Tryz.prog 39 #[.int .i64 kind] w fun e w'=>e=.returned (.bool (decide (1≤kind∧kind≤3)))∧w'=w):=kindOk_e kind
 have F:effB n l p kind=if (legalB n l p&&decide (1≤kind∧kind≤3))=true then effV l p kind else -1:=rfl
 cases hlg:legalB n l p with
 | false =>
  rw [hlg] at HL F
  have F2:Hid (effB n l p kind=-1):=F
  generalize effB n l p kind=v at *
  clear hs hz F hl
  go_enter Tryz.func43,Tryz.ntmps43
  go_wp2_with fail
  refine HL.out.mono ?_
  rintro e w1 ⟨rfl,hb1⟩
  go_wp2_with fail
  go_ret
  exact ⟨by rw [F2.out];rfl,hb1⟩
 | true =>
  obtain ⟨rfl,hpv⟩:=legalB_parts hlg
  rw [hlg] at HL F
  obtain ⟨b,off,rfl,hb,hc⟩:=hs 0 (by omega)
  have hu:=hl 0
  have HO:Hid (∀ w,Calls Tryz.prog 78 #[.agg #[.int .i64 3,.int .i64 4,.int .i64 6,.int .i64 7,.int .i64 8,.int .i64 3,.int .i64 7,.int .i64 11,.int .i64 2],.int .u64 (l.getD 0 0)] w fun e w'=>e=.returned (.int .i64 (wrap64 (fld (l.getD 0 0) 11 2)))∧Below w.heap.size w w'):=origin_e (l.getD 0 0) hu
  have HM:Hid (∀ w,Calls Tryz.prog 77 #[] w fun e w'=>e=.returned (.agg #[.int .i64 3,.int .i64 4,.int .i64 6,.int .i64 7,.int .i64 8,.int .i64 3,.int .i64 7,.int .i64 11,.int .i64 2])∧Below w.heap.size w w'):=machineSide_e
  have FE:effV l p kind=if ((kind != 1)&&!(bits .and .u64 (l.getD 0 0) 131072==0))=true then wrap64 (fld (l.getD 0 0) 11 2) else p:=by
   unfold effV
   rw [bitQ1 _ hu,m17,Bool.not_not]
   have e1:=bitsAt_eq (l.getD 0 0) 11 2 hu.1 hu.2 (by omega)
   rw [← e1]
   rfl
  have HC:Hid (w.cell? ⟨b,off,none⟩=some (.int .u64 (l.getD 0 0))):=hc
  generalize effB 22 l p kind=v at *
  generalize effV l p kind=u at *
  generalize l.getD 0 0=x at *
  cases hq:decide (1≤kind∧kind≤3) with
  | false =>
   rw [hq] at HK F
   have F2:Hid (v=-1):=F
   clear F FE hs hz hl hc hu
   go_enter Tryz.func43,Tryz.ntmps43
   go_wp2_with fail
   refine HL.out.mono ?_
   rintro e w1 ⟨rfl,hb1⟩
   go_wp2_with fail
   refine (HK.out _).mono ?_
   rintro e w2 ⟨rfl,hw2⟩
   have hw2':=hw2.symm
   subst hw2'
   go_wp2_with fail
   go_ret
   exact ⟨by rw [F2.out];rfl,hb1⟩
  | true =>
   rw [hq] at HK F
   have F1:v=u:=F
   subst F1
   clear F hs hz hl hc hu hq
   cases t1:(kind==1) with
   | true =>
    have F2:Hid (v=p):=by show v=p;rw [FE,bne,t1];rfl
    clear FE
    go_enter Tryz.func43,Tryz.ntmps43
    go_wp2_with fail
    refine HL.out.mono ?_
    rintro e w1 ⟨rfl,hb1⟩
    go_wp2_with fail
    refine (HK.out _).mono ?_
    rintro e w2 ⟨rfl,hw2⟩
    have hw2':=hw2.symm
    subst hw2'
    have c0:w1.cell? ⟨b,off,none⟩=some (.int .u64 x):=(hb1.cell (by exact hb)).trans HC.out
    go_wp2_with fail
    go_ret
    exact ⟨by rw [F2.out];rfl,hb1⟩
   | false =>
    cases t2:(bits .and .u64 x 131072==0) with
    | true =>
     have F2:Hid (v=p):=by show v=p;rw [FE,bne,t1,t2];rfl
     clear FE
     go_enter Tryz.func43,Tryz.ntmps43
     go_wp2_with fail
     refine HL.out.mono ?_
     rintro e w1 ⟨rfl,hb1⟩
     go_wp2_with fail
     refine (HK.out _).mono ?_
     rintro e w2 ⟨rfl,hw2⟩
     have hw2':=hw2.symm
     subst hw2'
     have c0:w1.cell? ⟨b,off,none⟩=some (.int .u64 x):=(hb1.cell (by exact hb)).trans HC.out
     go_wp2_with fail
     go_ret
     exact ⟨by rw [F2.out];rfl,hb1⟩
    | false =>
     have F2:Hid (v=wrap64 (fld x 11 2)):=by show v=_;rw [FE,bne,t1,t2];rfl
     clear FE
     go_enter Tryz.func43,Tryz.ntmps43
     go_wp2_with fail
     refine HL.out.mono ?_
     rintro e w1 ⟨rfl,hb1⟩
     go_wp2_with fail
     refine (HK.out _).mono ?_
     rintro e w2 ⟨rfl,hw2⟩
     have hw2':=hw2.symm
     subst hw2'
     have c0:w1.cell? ⟨b,off,none⟩=some (.int .u64 x):=(hb1.cell (by exact hb)).trans HC.out
     go_wp2_with fail
     refine (HM.out _).mono ?_
     rintro e w3 ⟨rfl,hb3⟩
     go_wp2_with fail
     refine (HO.out _).mono ?_
     rintro e w4 ⟨rfl,hb4⟩
     go_wp2_with fail
     go_ret
     exact ⟨by rw [F2.out];rfl,below_trans (below_trans hb1 hb3) hb4⟩

end Go.Proofs.YtkhofppmeoooaaaGreatDoor
