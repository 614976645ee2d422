/- Own lemmas. -/
import Derived.Test.YtbajeckeeekhnaaGreatK04
import Derived.Test.YtbajeckeeekhnaaGreatK08
import Derived.Test.YtbajeckeeekhnaaGreatK14
import Derived.Test.YtbajeckeeekhnaaGreatK15
import Derived.Test.YtbajeckeeekhnaaGreatK41
import Derived.Test.YtbajeckeeekhnaaGreatK43
import Derived.Deep.Cut
import Derived.Deep.CutRange
namespace Go.Proofs.YtbajeckeeekhnaaGreat
open Go.RowKit
set_option linter.unusedVariables false

def Rg (w0:World) (g:Nat) (a:Option Addr) (n cap:Nat) (w wr:World):Prop :=
 ∃ zs:List Int,(∀ j,U (zs.getD j 0))∧wr.ownsRow w.heap.size 24 1 (.slice (some ⟨w.heap.size,0,none⟩) 22 22) 22 (zs.map (Value.int .u64))∧Cs w0 g a n cap w wr∧g < w.heap.size

theorem Rg.next {w0:World} {g:Nat} {a:Option Addr} {n cap:Nat} {w wr wx:World} (h:Rg w0 g a n cap w wr) (k:Cs w0 g a n cap wr wx):Rg w0 g a n cap w wx:=by
 obtain ⟨zs,hu,ho,hc,hg⟩:=h
 refine ⟨zs,hu,kept_of ho k.2 ?_,hc.trans k,hg⟩
 intro j hj hne
 simp [Value.ownBlock] at hj hne
 omega

theorem Rg.cur {w0:World} {g:Nat} {a:Option Addr} {n cap:Nat} {w wr:World} (h:Rg w0 g a n cap w wr):Cur w0 wr g a n cap:=by
 obtain ⟨zs,hu,ho,hc,hg⟩:=h
 exact hc.1

theorem getD_set (zs:List Int) (k j:Nat) (y:Int) (hu:∀ j,U (zs.getD j 0)) (hy:U y):U ((zs.set k y).getD j 0):=by
 by_cases hkj:k=j
 ·subst hkj
  by_cases hl:k < zs.length
  ·have e:(zs.set k y).getD k 0=y:=by simp [List.getD,hl]
   rw [e];exact hy
  ·have e:(zs.set k y).getD k 0=0:=by simp [List.getD,hl]
   rw [e];constructor<;>decide
 ·have e:(zs.set k y).getD j 0=zs.getD j 0:=by simp [List.getD,hkj]
  rw [e];exact hu j

theorem Rg.put {w0:World} {g:Nat} {a:Option Addr} {n cap:Nat} {w wr:World} (h:Rg w0 g a n cap w wr) (k:Nat) (y:Int) (hy:U y):Rg w0 g a n cap w (wr.setCell ⟨w.heap.size,k,none⟩ (.int .u64 y)):=by
 obtain ⟨zs,hu,ho,hc,hg⟩:=h
 have hst:=ho.stored k (.int .u64 y)
 rw [map_set_u64] at hst
 refine ⟨zs.set k y,fun j=>getD_set zs k j y hu hy,hst.1,⟨?_,?_⟩,hg⟩
 ·obtain ⟨i,x,hi,hrow⟩:=hc.1.row
  refine ⟨hc.1.new,hc.1.below.setCell ?_ _,i,x,hi,?_⟩
  ·show w0.heap.size≤w.heap.size
   have:=hc.1.new;omega
  ·rw [heap_setCell_other _ _ _ _ (by show g≠w.heap.size;omega)];exact hrow
 ·refine ⟨hc.2.os,hc.2.tape,hc.2.output,by simpa [World.setCell] using hc.2.size,fun j hj hne=>?_⟩
  rw [heap_setCell_other _ _ _ _ (by show j≠w.heap.size;omega)]
  exact hc.2.block j hj hne

theorem Rg.cell {w0:World} {g:Nat} {a:Option Addr} {n cap:Nat} {w wr:World} (h:Rg w0 g a n cap w wr) (k:Nat) (hk:k < 22):∃ v,U v∧wr.cell? ⟨w.heap.size,k,none⟩=some (.int .u64 v)∧wr.frozen? ⟨w.heap.size,k,none⟩=false:=by
 obtain ⟨zs,hu,ho,hc,hg⟩:=h
 have hl:zs.length=22:=by have:=ho.1;simpa using this
 obtain ⟨b,off,e,_,hcl⟩:=own_sl ho k (by omega)
 simp only [Option.some.injEq,Addr.mk.injEq,and_true] at e
 obtain ⟨rfl,rfl⟩:=e
 rw [Nat.zero_add] at hcl
 exact ⟨_,hu k,hcl,ho.frozenAt k⟩

theorem U_legal (p x:Int) (h:U x):U (legal p x):=by
 unfold legal
 split
 ·unfold mst;split<;>exact U_bits _ _ _
 ·split
  ·exact U_bits _ _ _
  ·split
   ·exact U_bits _ _ _
   ·split
    ·exact U_bits _ _ _
    ·split
     ·exact U_bits _ _ _
     ·split
      ·exact U_bits _ _ _
      ·split
       ·exact U_bits _ _ _
       ·split
        ·exact U_bits _ _ _
        ·split
         ·exact U_bits _ _ _
         ·exact h

theorem U0:U 0:=⟨by decide,by decide⟩

theorem zeros_at (m j:Nat):(List.replicate m (0:Int)).getD j 0=0:=by
 by_cases hj:j < m
 ·simp [List.getD,hj]
 ·simp [List.getD,hj]

theorem zeros_U (j:Nat):U ((List.replicate 22 (0:Int)).getD j 0):=by
 rw [zeros_at];exact U0

theorem l4Legal_U (p x:Int) (h:U x) (w:World):Calls Tryz.prog 55 #[.int .i64 p,.int .u64 x] w fun e w'=>∃ v,e=.returned (.int .u64 v)∧Hid (U v)∧w'=w :=
 (l4Legal_any p x w).mono fun e w' h2=>⟨_,h2.1,U_legal p x h,h2.2⟩

set_option maxRecDepth 20000 in
set_option maxHeartbeats 6400000 in
theorem l4DrawCsrs_c {w0:World} {g:Nat} {a:Option Addr} {n cap:Nat} {zs:List Int} (hcd:Code w0 a n zs) (w:World) (hc:Cur w0 w g a n cap) :
 Calls Tryz.prog 39 #[.pointer (some ⟨g,0,none⟩)] w fun e w'=>e=.returned (.slice (some ⟨w.heap.size,0,none⟩) 22 22)∧Hid (Rg w0 g a n cap w w'):=by
 have HD:Hid (Code w0 a n zs):=hcd
 have HC:Hid (Cur w0 w g a n cap):=hc
 clear hcd hc
 go_enter Tryz.func39,Tryz.ntmps39
 go_wp2_with fail
 refine (specNewCsrs_any _).mono ?_
 rintro e w1 ⟨rfl,ho1,hb1⟩
 have R1:Hid (Rg w0 g a n cap w w1):=⟨List.replicate 22 0,zeros_U,ho1,Cs.of_below HC.out hb1,HC.out.lt⟩
 clear ho1 hb1
 go_wp2_with fail
 refine (l1Below_c HD.out 16 (by omega) _ R1.out.cur).mono ?_
 rintro e w2 ⟨m,rfl,⟨hm0,hm1⟩,hs2⟩
 have R2:Hid (Rg w0 g a n cap w w2):=R1.out.next hs2.out
 obtain ⟨mm,rfl⟩:=Int.eq_ofNat_of_zero_le hm0
 clear R1 hs2
 go_wp2_with fail
 go_loopw [4] (fun i wr=>∃ k:Nat,k≤16∧i=.int .i64 k∧Hid (Rg w0 g a n cap w wr)) (fun i _=>(intOf i).toNat)
 case atStart=>exact ⟨mm,by omega,rfl,R2⟩
 case round =>
  obtain ⟨k,hk,rfl,hR⟩:=hrel
  by_cases hlt:0 < k
  ·go_wp2_with fail
   refine (l1Below_c HD.out 22 (by omega) _ hR.out.cur).mono ?_
   rintro e w3 ⟨p,rfl,⟨hp0,hp1⟩,hs3⟩
   have R3:Hid (Rg w0 g a n cap w w3):=hR.out.next hs3.out
   obtain ⟨pp,rfl⟩:=Int.eq_ofNat_of_zero_le hp0
   clear hs3 hR
   go_wp2_with fail
   refine (l1DrawWord_c HD.out _ R3.out.cur).mono ?_
   rintro e w4 ⟨x,rfl,hx,hs4⟩
   have R4:Hid (Rg w0 g a n cap w w4):=R3.out.next hs4.out
   have HX:Hid (U x):=hx
   clear hs4 R3 hx
   obtain ⟨j,rfl⟩:∃ j,k=j+1:=⟨k - 1,by omega⟩
   by_cases h4:pp=4∨pp=10
   ·rcases h4 with rfl | rfl
    ·go_wp2_with fail
     refine (l1Below_c HD.out 512 (by omega) _ R4.out.cur).mono ?_
     rintro e w5 ⟨y,rfl,⟨hy0,hy1⟩,hs5⟩
     have R5:Hid (Rg w0 g a n cap w w5):=R4.out.next hs5.out
     clear hs5 R4
     go_wp2_with fail
     refine (l1Below_c HD.out 2 (by omega) _ R5.out.cur).mono ?_
     rintro e w6 ⟨z,rfl,⟨hz0,hz1⟩,hs6⟩
     have R6:Hid (Rg w0 g a n cap w w6):=R5.out.next hs6.out
     clear hs6 R5 HX
     obtain ⟨v9,_,hc9,hf9⟩:=R6.out.cell 4 (by omega)
     go_wp2_with fail
     refine (l4Legal_U _ _ ?_ _).mono ?_
     ·first | exact U_wrap _ | (constructor<;>omega)
     rintro e wl ⟨lv,rfl,HLV,hwl⟩
     have hwl2:=hwl.symm
     subst hwl2
     go_wp2_with fail
     go_roundw
     case rel=>exact ⟨j,by omega,by go_num,R6.out.put 4 _ HLV.out⟩
     case measure=>simp [intOf]
    ·go_wp2_with fail
     refine (l1Below_c HD.out 512 (by omega) _ R4.out.cur).mono ?_
     rintro e w5 ⟨y,rfl,⟨hy0,hy1⟩,hs5⟩
     have R5:Hid (Rg w0 g a n cap w w5):=R4.out.next hs5.out
     clear hs5 R4
     go_wp2_with fail
     refine (l1Below_c HD.out 2 (by omega) _ R5.out.cur).mono ?_
     rintro e w6 ⟨z,rfl,⟨hz0,hz1⟩,hs6⟩
     have R6:Hid (Rg w0 g a n cap w w6):=R5.out.next hs6.out
     clear hs6 R5 HX
     obtain ⟨v9,_,hc9,hf9⟩:=R6.out.cell 10 (by omega)
     go_wp2_with fail
     refine (l4Legal_U _ _ ?_ _).mono ?_
     ·first | exact U_wrap _ | (constructor<;>omega)
     rintro e wl ⟨lv,rfl,HLV,hwl⟩
     have hwl2:=hwl.symm
     subst hwl2
     go_wp2_with fail
     go_roundw
     case rel=>exact ⟨j,by omega,by go_num,R6.out.put 10 _ HLV.out⟩
     case measure=>simp [intOf]
   by_cases h16:pp=16
   ·subst h16
    go_wp2_with fail
    go_loopw [6,7] (fun y i wx=>∃ (q:Nat) (v:Int),q≤4∧y=.int .u64 v∧U v∧i=.int .i64 q∧Hid (Rg w0 g a n cap w wx)) (fun _ i _=>4 - (intOf i).toNat)
    case atStart=>exact ⟨0,0,by omega,rfl,U0,rfl,R4⟩
    case round =>
     obtain ⟨q,v,hq,rfl,hv,rfl,hR⟩:=hrel
     have HVV:Hid (U v):=hv
     clear hv
     by_cases hq4:q < 4
     ·go_wp2_with fail
      have HA:=Cs.alloc hR.out.cur (.cells #[.int .u64 0,.int .u64 15,.int .u64 31,.int .u64 27,.int .u64 25,.int .u64 7,.int .u64 24,.int .u64 159,.int .u64 143,.int .u64 153] 24)
      refine (l1Below_c HD.out 10 (by omega) _ HA.1).mono ?_
      rintro e w5 ⟨y,rfl,⟨hy0,hy1⟩,hs5⟩
      obtain ⟨yy,rfl⟩:=Int.eq_ofNat_of_zero_le hy0
      obtain ⟨v2,hv2,hcell⟩:=few_words [0,15,31,27,25,7,24,159,143,153] 24 (hs5.out.keep (heap_alloc_new _ _) (Nat.ne_of_gt hR.out.cur.lt)) (by intro x hx;simp at hx;constructor<;>omega) (k:=yy) (by simp;omega)
      have R5:Hid (Rg w0 g a n cap w w5):=(hR.out.next HA).next hs5.out
      clear hs5 hR HA hv2
      go_wp2_with fail
      go_roundw
      case rel=>exact ⟨q+1,_,by omega,rfl,U_bits _ _ _,by go_num,R5⟩
      case measure=>simp [intOf];omega
     ·go_wp2_with fail
      refine (l1Once_c HD.out 3 (by omega) _ hR.out.cur).mono ?_
      rintro e w5 ⟨c,rfl,hs5⟩
      have R5:Hid (Rg w0 g a n cap w w5):=hR.out.next hs5.out
      clear hs5 hR
      cases c with
      | true =>
       obtain ⟨v9,_,hc9,hf9⟩:=R5.out.cell 16 (by omega)
       go_wp2_with fail
       refine (l4Legal_U _ _ ?_ _).mono ?_
       ·first | exact HVV.out | exact U_bits _ _ _
       rintro e wl ⟨lv,rfl,HLV,hwl⟩
       have hwl2:=hwl.symm
       subst hwl2
       go_wp2_with fail
       go_roundw
       case rel=>exact ⟨j,by omega,by go_num,R5.out.put 16 _ HLV.out⟩
       case measure=>simp [intOf]
       | false =>
         obtain ⟨v9,_,hc9,hf9⟩:=R5.out.cell 16 (by omega)
         go_wp2_with fail
         refine (l4Legal_U _ _ ?_ _).mono ?_
         ·first | exact U_bits _ _ _ | exact HVV.out
         rintro e wl ⟨lv,rfl,HLV,hwl⟩
         have hwl2:=hwl.symm
         subst hwl2
         go_wp2_with fail
         go_roundw
         case rel=>exact ⟨j,by omega,by go_num,R5.out.put 16 _ HLV.out⟩
         case measure=>simp [intOf]
   by_cases h17:pp=17∨pp=18∨pp=19∨pp=20
   ·rcases h17 with rfl | rfl | rfl | rfl
    ·go_wp2_with fail
     refine (l1Below_c HD.out 2048 (by omega) _ R4.out.cur).mono ?_
     rintro e w5 ⟨y,rfl,⟨hy0,hy1⟩,hs5⟩
     have R5:Hid (Rg w0 g a n cap w w5):=R4.out.next hs5.out
     clear hs5 R4
     go_wp2_with fail
     refine (l1Once_c HD.out 2 (by omega) _ R5.out.cur).mono ?_
     rintro e w6 ⟨c,rfl,hs6⟩
     have R6:Hid (Rg w0 g a n cap w w6):=R5.out.next hs6.out
     clear hs6 R5 HX
     cases c with
     | _ =>
       go_wp2_with fail
       refine (l1Once_c HD.out 3 (by omega) _ R6.out.cur).mono ?_
       rintro e w7 ⟨c,rfl,hs7⟩
       have R7:Hid (Rg w0 g a n cap w w7):=R6.out.next hs7.out
       clear hs7 R6
       cases c with
       | _ =>
         obtain ⟨v9,_,hc9,hf9⟩:=R7.out.cell 17 (by omega)
         go_wp2_with fail
         refine (l4Legal_U _ _ ?_ _).mono ?_
         ·first | exact U_wrap _ | (constructor<;>omega)
         rintro e wl ⟨lv,rfl,HLV,hwl⟩
         have hwl2:=hwl.symm
         subst hwl2
         go_wp2_with fail
         go_roundw
         case rel=>exact ⟨j,by omega,by go_num,R7.out.put 17 _ HLV.out⟩
         case measure=>simp [intOf]
    ·go_wp2_with fail
     refine (l1Below_c HD.out 2048 (by omega) _ R4.out.cur).mono ?_
     rintro e w5 ⟨y,rfl,⟨hy0,hy1⟩,hs5⟩
     have R5:Hid (Rg w0 g a n cap w w5):=R4.out.next hs5.out
     clear hs5 R4
     go_wp2_with fail
     refine (l1Once_c HD.out 2 (by omega) _ R5.out.cur).mono ?_
     rintro e w6 ⟨c,rfl,hs6⟩
     have R6:Hid (Rg w0 g a n cap w w6):=R5.out.next hs6.out
     clear hs6 R5 HX
     cases c with
     | _ =>
       go_wp2_with fail
       refine (l1Once_c HD.out 3 (by omega) _ R6.out.cur).mono ?_
       rintro e w7 ⟨c,rfl,hs7⟩
       have R7:Hid (Rg w0 g a n cap w w7):=R6.out.next hs7.out
       clear hs7 R6
       cases c with
       | _ =>
         obtain ⟨v9,_,hc9,hf9⟩:=R7.out.cell 18 (by omega)
         go_wp2_with fail
         refine (l4Legal_U _ _ ?_ _).mono ?_
         ·first | exact U_wrap _ | (constructor<;>omega)
         rintro e wl ⟨lv,rfl,HLV,hwl⟩
         have hwl2:=hwl.symm
         subst hwl2
         go_wp2_with fail
         go_roundw
         case rel=>exact ⟨j,by omega,by go_num,R7.out.put 18 _ HLV.out⟩
         case measure=>simp [intOf]
    ·go_wp2_with fail
     refine (l1Below_c HD.out 2048 (by omega) _ R4.out.cur).mono ?_
     rintro e w5 ⟨y,rfl,⟨hy0,hy1⟩,hs5⟩
     have R5:Hid (Rg w0 g a n cap w w5):=R4.out.next hs5.out
     clear hs5 R4
     go_wp2_with fail
     refine (l1Once_c HD.out 2 (by omega) _ R5.out.cur).mono ?_
     rintro e w6 ⟨c,rfl,hs6⟩
     have R6:Hid (Rg w0 g a n cap w w6):=R5.out.next hs6.out
     clear hs6 R5 HX
     cases c with
     | _ =>
       go_wp2_with fail
       refine (l1Once_c HD.out 3 (by omega) _ R6.out.cur).mono ?_
       rintro e w7 ⟨c,rfl,hs7⟩
       have R7:Hid (Rg w0 g a n cap w w7):=R6.out.next hs7.out
       clear hs7 R6
       cases c with
       | _ =>
         obtain ⟨v9,_,hc9,hf9⟩:=R7.out.cell 19 (by omega)
         go_wp2_with fail
         refine (l4Legal_U _ _ ?_ _).mono ?_
         ·first | exact U_wrap _ | (constructor<;>omega)
         rintro e wl ⟨lv,rfl,HLV,hwl⟩
         have hwl2:=hwl.symm
         subst hwl2
         go_wp2_with fail
         go_roundw
         case rel=>exact ⟨j,by omega,by go_num,R7.out.put 19 _ HLV.out⟩
         case measure=>simp [intOf]
    ·go_wp2_with fail
     refine (l1Below_c HD.out 2048 (by omega) _ R4.out.cur).mono ?_
     rintro e w5 ⟨y,rfl,⟨hy0,hy1⟩,hs5⟩
     have R5:Hid (Rg w0 g a n cap w w5):=R4.out.next hs5.out
     clear hs5 R4
     go_wp2_with fail
     refine (l1Once_c HD.out 2 (by omega) _ R5.out.cur).mono ?_
     rintro e w6 ⟨c,rfl,hs6⟩
     have R6:Hid (Rg w0 g a n cap w w6):=R5.out.next hs6.out
     clear hs6 R5 HX
     cases c with
     | _ =>
       go_wp2_with fail
       refine (l1Once_c HD.out 3 (by omega) _ R6.out.cur).mono ?_
       rintro e w7 ⟨c,rfl,hs7⟩
       have R7:Hid (Rg w0 g a n cap w w7):=R6.out.next hs7.out
       clear hs7 R6
       cases c with
       | _ =>
         obtain ⟨v9,_,hc9,hf9⟩:=R7.out.cell 20 (by omega)
         go_wp2_with fail
         refine (l4Legal_U _ _ ?_ _).mono ?_
         ·first | exact U_wrap _ | (constructor<;>omega)
         rintro e wl ⟨lv,rfl,HLV,hwl⟩
         have hwl2:=hwl.symm
         subst hwl2
         go_wp2_with fail
         go_roundw
         case rel=>exact ⟨j,by omega,by go_num,R7.out.put 20 _ HLV.out⟩
         case measure=>simp [intOf]
   by_cases h15:pp=15
   ·subst h15
    go_wp2_with fail
    refine (l1Below_c HD.out 2 (by omega) _ R4.out.cur).mono ?_
    rintro e w5 ⟨y,rfl,⟨hy0,hy1⟩,hs5⟩
    have R5:Hid (Rg w0 g a n cap w w5):=R4.out.next hs5.out
    clear hs5 R4
    go_wp2_with fail
    refine (l1Below_c HD.out 2 (by omega) _ R5.out.cur).mono ?_
    rintro e w6 ⟨z,rfl,⟨hz0,hz1⟩,hs6⟩
    have R6:Hid (Rg w0 g a n cap w w6):=R5.out.next hs6.out
    clear hs6 R5 HX
    obtain ⟨v9,_,hc9,hf9⟩:=R6.out.cell 15 (by omega)
    go_wp2_with fail
    refine (l4Legal_U _ _ ?_ _).mono ?_
    ·first | exact U_wrap _ | (constructor<;>omega)
    rintro e wl ⟨lv,rfl,HLV,hwl⟩
    have hwl2:=hwl.symm
    subst hwl2
    go_wp2_with fail
    go_roundw
    case rel=>exact ⟨j,by omega,by go_num,R6.out.put 15 _ HLV.out⟩
    case measure=>simp [intOf]
   have d4:((pp:Int)==4)=false:=by simp;omega
   have d10:((pp:Int)==10)=false:=by simp;omega
   have d16:((pp:Int)==16)=false:=by simp;omega
   have d17:((pp:Int)==17)=false:=by simp;omega
   have d18:((pp:Int)==18)=false:=by simp;omega
   have d19:((pp:Int)==19)=false:=by simp;omega
   have d20:((pp:Int)==20)=false:=by simp;omega
   have d15:((pp:Int)==15)=false:=by simp;omega
   by_cases h9:pp=9
   ·subst h9
    clear h4 h16 h17 h15
    obtain ⟨v9,_,hc9,hf9⟩:=R4.out.cell 9 (by omega)
    go_wp2_with fail
    go_roundw
    case rel=>exact ⟨j,by omega,by go_num,R4.out.put 9 _ (U_bits _ _ _)⟩
    case measure=>simp [intOf]
   ·have d9:((pp:Int)==9)=false:=by simp;omega
    have hp22:pp < 22:=by omega
    clear h4 h16 h17 h15 h9
    obtain ⟨v9,_,hc9,hf9⟩:=R4.out.cell pp (by omega)
    go_wp2_with fail
    refine (l4Legal_U _ _ ?_ _).mono ?_
    ·exact HX.out
    rintro e wl ⟨lv,rfl,HLV,hwl⟩
    have hwl2:=hwl.symm
    subst hwl2
    go_wp2_with fail
    go_roundw
    case rel=>exact ⟨j,by omega,by go_num,R4.out.put pp _ HLV.out⟩
    case measure=>simp [intOf]
  ·have hk0:k=0:=by omega
   subst hk0
   go_wp2_with fail
   go_ret
   exact ⟨rfl,hR⟩

end Go.Proofs.YtbajeckeeekhnaaGreat

namespace Go.Proofs.YtbajeckeeekhnaaGreat
open Go.RowKit
set_option linter.unusedVariables false

theorem U_entry (f b:Int):U (entryV f b):=by
 unfold entryV
 split
 ·exact U0
 ·split
  ·exact U_bits _ _ _
  ·exact U0

theorem put_wfD (zs:List Int) (h:∀ y ∈ zs,(Lit.int .u8 y).wf=true) (f:Nat) (x:Int) (k:Nat):∀ y ∈ put zs f x k,(Lit.int .u8 y).wf=true:=fun y hy=>by
 have hb:=put_bd zs (fun z hz=>by have:=h z hz;simpa [Lit.wf,IntKind.min,IntKind.max,IntKind.signed,IntKind.bits] using this) f x k y hy
 exact wf8 hb.1 hb.2

theorem row_cell {W:World} {g:Nat} {cs:Array Value} {t:TypeId} (h:W.heap[g]?=some (.cells cs t (0,0))) (i:Nat):W.cell? ⟨g,i,none⟩=cs[i]?:=by simp [World.cell?,h]

def prM (M:MV) (v:Int):MV:={ M with pr:=v }

def pcM (M:MV) (v:Int):MV:={ M with pc:=v }

def hdM (M:MV) (v:Int):MV:={ M with hd:=v }

def hlM (M:MV) (v:Bool):MV:={ M with hl:=v }

def wtM (M:MV) (v:Bool):MV:={ M with wt:=v }

theorem Dm.setPr {w0:World} {g:Nat} {a:Option Addr} {n cap:Nat} {w:World} {r m:Nat} {M:MV} {A:MA} {wr:World} (h:Dm w0 g a n cap w r m M A wr) (v:Int) (hv:v=0∨v=1∨v=3):Dm w0 g a n cap w r m (prM M v) A (wr.setCell ⟨m,2,none⟩ (.int .i64 v)) :=
 h.setF 2 (.int .i64 v) (M':=prM M v) rfl rfl ⟨h.fit.x,h.fit.ux,h.fit.cs,h.fit.ucs,h.fit.ram,h.fit.bram,h.fit.d,h.fit.pc,h.fit.hd,hv⟩

theorem Dm.setPc {w0:World} {g:Nat} {a:Option Addr} {n cap:Nat} {w:World} {r m:Nat} {M:MV} {A:MA} {wr:World} (h:Dm w0 g a n cap w r m M A wr) (v:Int) (hv:U v):Dm w0 g a n cap w r m (pcM M v) A (wr.setCell ⟨m,0,none⟩ (.int .u64 v)) :=
 h.setF 0 (.int .u64 v) (M':=pcM M v) rfl rfl ⟨h.fit.x,h.fit.ux,h.fit.cs,h.fit.ucs,h.fit.ram,h.fit.bram,h.fit.d,hv,h.fit.hd,h.fit.pr⟩

theorem Dm.setHd {w0:World} {g:Nat} {a:Option Addr} {n cap:Nat} {w:World} {r m:Nat} {M:MV} {A:MA} {wr:World} (h:Dm w0 g a n cap w r m M A wr) (v:Int) (hv:U v):Dm w0 g a n cap w r m (hdM M v) A (wr.setCell ⟨m,11,none⟩ (.int .u64 v)) :=
 h.setF 11 (.int .u64 v) (M':=hdM M v) rfl rfl ⟨h.fit.x,h.fit.ux,h.fit.cs,h.fit.ucs,h.fit.ram,h.fit.bram,h.fit.d,h.fit.pc,hv,h.fit.pr⟩

theorem Dm.setHl {w0:World} {g:Nat} {a:Option Addr} {n cap:Nat} {w:World} {r m:Nat} {M:MV} {A:MA} {wr:World} (h:Dm w0 g a n cap w r m M A wr) (v:Bool):Dm w0 g a n cap w r m (hlM M v) A (wr.setCell ⟨m,12,none⟩ (.bool v)) :=
 h.setF 12 (.bool v) (M':=hlM M v) rfl rfl ⟨h.fit.x,h.fit.ux,h.fit.cs,h.fit.ucs,h.fit.ram,h.fit.bram,h.fit.d,h.fit.pc,h.fit.hd,h.fit.pr⟩

theorem Dm.setWt {w0:World} {g:Nat} {a:Option Addr} {n cap:Nat} {w:World} {r m:Nat} {M:MV} {A:MA} {wr:World} (h:Dm w0 g a n cap w r m M A wr) (v:Bool):Dm w0 g a n cap w r m (wtM M v) A (wr.setCell ⟨m,13,none⟩ (.bool v)) :=
 h.setF 13 (.bool v) (M':=wtM M v) rfl rfl ⟨h.fit.x,h.fit.ux,h.fit.cs,h.fit.ucs,h.fit.ram,h.fit.bram,h.fit.d,h.fit.pc,h.fit.hd,h.fit.pr⟩

theorem line_fit {M:MV} (h:Mf M):Mf (lineM M):=⟨h.x,h.ux,by simp [lineM,h.cs],set_U h.ucs 9 (U_wrap _),h.ram,h.bram,h.d,h.pc,h.hd,h.pr⟩

theorem mvc_oneM (M:MV) (A:MA):(mvc M A).all (·.oneCell')=true:=by simp [mvc,Value.oneCell']

theorem Dm.outM {w0:World} {g:Nat} {a:Option Addr} {n cap:Nat} {w:World} {m:Nat} {M:MV} {A:MA} {wr:World} (h:Dm w0 g a n cap w w.heap.size m M A wr) (cs:Array Value):Fam w.heap.size (wr.setRow w.heap.size cs).heap.size (wr.setRow w.heap.size cs) (mvF M A)∧Cs w0 g a n cap w (wr.setRow w.heap.size cs):=by
 have hb:Below w.heap.size wr (wr.setRow w.heap.size cs):=row_below (Below.refl _ _) (Nat.le_refl _) cs
 have hg:=h.gr
 have h0:=h.w0w
 obtain ⟨i,hh,hi,hrow⟩:=h.cu.1.row
 refine ⟨?_,⟨⟨h.cu.1.new,?_,i,hh,hi,(hb.block g hg).trans hrow⟩,⟨hb.os.trans h.cu.2.os,hb.tape.trans h.cu.2.tape,hb.output.trans h.cu.2.output,Nat.le_trans h.cu.2.size hb.size,fun k hk hne=>(hb.block k hk).trans (h.cu.2.block k hk hne)⟩⟩⟩
 ·exact (fam_setRow h.mp.fam w.heap.size (fun q hq e=>by have:=(h.mp.fam.own q hq).lt _ e;omega) cs).low (by omega) hb.size
 ·exact ⟨hb.os.trans h.cu.1.below.os,hb.tape.trans h.cu.1.below.tape,hb.output.trans h.cu.1.below.output,Nat.le_trans h.cu.1.below.size hb.size,fun k hk=>(hb.block k (by omega)).trans (h.cu.1.below.block k hk)⟩

theorem l1Put_dm {w0:World} {g:Nat} {a:Option Addr} {n cap:Nat} {w:World} {r m:Nat} {M:MV} {A:MA} {wr:World} (h:Dm w0 g a n cap w r m M A wr) (L:Nat) (hL:M.ram.length=L) (f:Nat) (x:Int) (hx:U x) (hf:f+8≤L) :
 Calls Tryz.prog 36 #[.slice A.ar L A.cr,.int .u64 (2147483648+(f:Int)),.int .i64 8,.int .u64 x] wr fun e w'=>e=.returned (.tuple #[])∧∃ M':MV,Hid (Dm w0 g a n cap w r m M' A w')∧Hid (M'.ram.length=L):=by
 subst hL
 have hr:=h.fit.ram
 have hok:okB M.ram.length (2147483648+(f:Int)) 8=true:=by
  have h1:ramOkB M.ram.length=true:=by rcases hr with e | e<;>rw [e]<;>decide
  have h2:sizeB 8=true:=by decide
  simp only [okB,h1,h2,Bool.true_and,decide_eq_true_eq]
  omega
 refine (l1Put_mp M A _ m _ 8 x wr (by rcases hr with e | e<;>rw [e]<;>omega) hok hx.1 (by have:=hx.2;omega) h.mp).mono fun e w' ⟨h1,h2,h3⟩=>⟨h1,_,dhid (h.step (h.mp.under h3) h2 ?_),dhid (put_len _ _ _ _)⟩
 exact ⟨h.fit.x,h.fit.ux,h.fit.cs,h.fit.ucs,(by show (put M.ram _ x _).length=4096∨(put M.ram _ x _).length=8192;rw [put_len];exact hr),put_wfD _ h.fit.bram _ _ _,h.fit.d,h.fit.pc,h.fit.hd,h.fit.pr⟩

set_option maxRecDepth 100000 in
set_option maxHeartbeats 6400000 in
theorem l7DrawPaged_4096 {zs:List Int} {w0:World} {g:Nat} {a:Option Addr} {n cap:Nat} {w:World} {r m:Nat} {M:MV} {A:MA} {wr:World} (hcd:Code w0 a n zs) (h:Dm w0 g a n cap w r m M A wr) (hL:M.ram.length=4096) :
 Calls Tryz.prog 40 #[.pointer (some ⟨g,0,none⟩),.pointer (some ⟨m,0,none⟩)] wr fun e w'=>e=.returned (.tuple #[])∧∃ M':MV,Hid (Dm w0 g a n cap w r m M' A w'):=by
 have HD:Hid (Code w0 a n zs):=hcd
 have HL:=dhid hL
 obtain ⟨bc,cc,ea,ec,cm,cells⟩:=h.atC
 obtain ⟨q15,r15⟩:=cells 15 (by omega)
 have c4:wr.cell? ⟨m,4,none⟩=some (.slice A.ar 4096 A.cr):=by rw [row_cell h.mp.row 4,← hL];rfl
 have c2:wr.cell? ⟨m,2,none⟩=some (.int .i64 M.pr):=row_cell h.mp.row 2
 have mbc:¬ m=bc:=fun e=>h.mp.ne (wRow A.ac M.cs.length A.cc M.cs) (by simp [mvF]) (by simp only [wRow];rw [ea,e];rfl)
 have mbd:¬ bc=m:=fun e=>mbc e.symm
 have SET:=dhid (fun v (hv:U v)=>h.setC bc ea 15 hv)
 clear hcd hL h cells ec
 go_enter Tryz.func40,Tryz.ntmps40
 go_upto_if 30 with fail
 generalize hv:IntKind.u64.wrap (bits BinOp.or IntKind.u64 9223372036854775808 524289 - 1)=v15
 have D1:Hid (∃ M:MV,Dm w0 g a n cap w r m M A (wr.setCell ⟨bc,15,none⟩ (.int .u64 v15))∧M.ram.length=4096):=⟨_,SET.out v15 (by rw [← hv];exact U_wrap _),HL.out⟩
 generalize wr.setCell ⟨bc,15,none⟩ (.int .u64 v15)=w1 at D1 ⊢
 generalize (M.pr==0)=p0
 clear hv SET mbc mbd c2 c4 q15 r15 cm ea
 go_cut [6] from 7 (fun v wc=>∃ b:Int,v=.int .i64 b∧∃ (M:MV),Hid (Dm w0 g a n cap w r m M A wc)∧Hid (M.ram.length=4096))
 case first =>
  obtain ⟨M1,d1,l1⟩:=D1.out
  cases p0
  ·go_wp2_with fail
   go_meet
   exact ⟨207,rfl,M1,d1,l1⟩
  ·go_wp2_with fail
   go_meet
   exact ⟨223,rfl,M1,d1,l1⟩
 case rest =>
  clear D1 HL
  obtain ⟨b1,rfl,M,DN,HL⟩:=hcut
  go_wp2_with fail
  refine (l1Once_c HD.out 2 (by omega) _ DN.out.cur).mono ?_
  rintro e w2 ⟨c2,rfl,hs2⟩
  have D2:=dhid (DN.out.next hs2.out)
  clear hs2 DN
  go_upto_if 32 with fail
  go_cut [6] from 7 (fun v wc=>∃ b:Int,v=.int .i64 b∧∃ (M:MV),Hid (Dm w0 g a n cap w r m M A wc)∧Hid (M.ram.length=4096))
  case first =>
   cases c2
   ·go_wp2_with fail
    go_meet
    exact ⟨b1,rfl,M,D2,HL⟩
   ·go_wp2_with fail
    go_meet
    exact ⟨_,rfl,M,D2,HL⟩
  case rest =>
   clear D2 HL
   obtain ⟨b2,rfl,M,DN,HL⟩:=hcut
   obtain ⟨z1,hz1⟩:∃ z,z=entryV 524288 b2:=⟨_,rfl⟩
   have HE:Hid (∀ w',Calls Tryz.prog 56 #[.int .u64 524288,.int .i64 b2] w' fun e w''=>e=.returned (.int .u64 z1)∧w''=w'):=fun w'=>by rw [hz1];exact specEntry_any _ _ w'
   have UZ:Hid (U z1):=by rw [hz1];exact U_entry _ _
   have c4:wc.cell? ⟨m,4,none⟩=some (.slice A.ar 4096 A.cr):=by rw [row_cell DN.out.mp.row 4,← HL.out];rfl
   have HP:=dhid (l1Put_dm (DN.out.below (Below.refl _ _).drew) 4096 HL.out 16 z1 UZ.out (by omega))
   clear hz1
   go_wp2_with fail
   go_cut [] from 7 (fun wc=>∃ (M:MV),Hid (Dm w0 g a n cap w r m M A wc)∧Hid (M.ram.length=4096))
   case first =>
    go_region_with (first | (go_at_call 56;with_reducible refine (HE.out _).mono ?_;rintro e wy ⟨rfl,rfl⟩) | (go_at_call 36;refine HP.out.mono ?_;rintro e wz ⟨rfl,M',DZ,HZ⟩))
    all_goals go_wp2_with fail
    all_goals go_meet
    all_goals exact ⟨M',DZ,HZ⟩
   case rest =>
    clear HL DN HE UZ c4 HP
    obtain ⟨M,DN,HL⟩:=hcut
    go_wp2_with fail
    refine (l1Once_c HD.out 2 (by omega) _ DN.out.cur).mono ?_
    rintro e w3 ⟨c3,rfl,hs3⟩
    have D3:=dhid (DN.out.next hs3.out)
    clear hs3 DN
    go_upto_if 45 with fail
    go_cut [] from 7 (fun wc=>∃ (M:MV),Hid (Dm w0 g a n cap w r m M A wc)∧Hid (M.ram.length=4096))
    case first =>
     cases c3
     ·go_wp2_with fail
      go_meet
      exact ⟨M,D3,HL⟩
     ·obtain ⟨z2,hz2⟩:∃ z,z=entryV 524288 223:=⟨_,rfl⟩
      have HE:Hid (∀ w',Calls Tryz.prog 56 #[.int .u64 524288,.int .i64 223] w' fun e w''=>e=.returned (.int .u64 z2)∧w''=w'):=fun w'=>by rw [hz2];exact specEntry_any _ _ w'
      have UZ:Hid (U z2):=by rw [hz2];exact U_entry _ _
      have c4:w3.cell? ⟨m,4,none⟩=some (.slice A.ar 4096 A.cr):=by rw [row_cell D3.out.mp.row 4,← HL.out];rfl
      have HP:=dhid (l1Put_dm (D3.out.below (Below.refl _ _).drew) 4096 HL.out 8 z2 UZ.out (by omega))
      clear hz2
      go_wp2_with fail
      go_region_with (first | (go_at_call 56;with_reducible refine (HE.out _).mono ?_;rintro e wy ⟨rfl,rfl⟩) | (go_at_call 36;refine HP.out.mono ?_;rintro e wz ⟨rfl,M',DZ,HZ⟩))
      all_goals go_wp2_with fail
      all_goals go_meet
      all_goals exact ⟨M',DZ,HZ⟩
    case rest =>
     clear D3 HL
     obtain ⟨M,DN,HL⟩:=hcut
     go_wp2_with fail
     refine (l1Once_c HD.out 3 (by omega) _ DN.out.cur).mono ?_
     rintro e w4 ⟨c4,rfl,hs4⟩
     have D4:=dhid (DN.out.next hs4.out)
     clear hs4 DN
     cases c4
     ·go_wp2_with fail
      refine bodyPost_end (results_none rfl _ _ _) rfl ?_
      exact ⟨rfl,M,D4⟩
     ·obtain ⟨z3,hz3⟩:∃ z,z=entryV 0 207:=⟨_,rfl⟩
      have HE:Hid (∀ w',Calls Tryz.prog 56 #[.int .u64 0,.int .i64 207] w' fun e w''=>e=.returned (.int .u64 z3)∧w''=w'):=fun w'=>by rw [hz3];exact specEntry_any _ _ w'
      have UZ:Hid (U z3):=by rw [hz3];exact U_entry _ _
      have c4:w4.cell? ⟨m,4,none⟩=some (.slice A.ar 4096 A.cr):=by rw [row_cell D4.out.mp.row 4,← HL.out];rfl
      have HP:=dhid (l1Put_dm (D4.out.below (Below.refl _ _).drew) 4096 HL.out 0 z3 UZ.out (by omega))
      clear hz3
      go_wp2_with fail
      go_region_with (first | (go_at_call 56;with_reducible refine (HE.out _).mono ?_;rintro e wy ⟨rfl,rfl⟩) | (go_at_call 36;refine HP.out.mono ?_;rintro e wz ⟨rfl,M',DZ,HZ⟩))
      all_goals go_wp2_with fail
      all_goals refine bodyPost_end (results_none rfl _ _ _) rfl ?_
      all_goals exact ⟨rfl,M',DZ⟩

set_option maxRecDepth 100000 in
set_option maxHeartbeats 6400000 in
theorem l7DrawPaged_8192 {zs:List Int} {w0:World} {g:Nat} {a:Option Addr} {n cap:Nat} {w:World} {r m:Nat} {M:MV} {A:MA} {wr:World} (hcd:Code w0 a n zs) (h:Dm w0 g a n cap w r m M A wr) (hL:M.ram.length=8192) :
 Calls Tryz.prog 40 #[.pointer (some ⟨g,0,none⟩),.pointer (some ⟨m,0,none⟩)] wr fun e w'=>e=.returned (.tuple #[])∧∃ M':MV,Hid (Dm w0 g a n cap w r m M' A w'):=by
 have HD:Hid (Code w0 a n zs):=hcd
 have HL:=dhid hL
 obtain ⟨bc,cc,ea,ec,cm,cells⟩:=h.atC
 obtain ⟨q15,r15⟩:=cells 15 (by omega)
 have c4:wr.cell? ⟨m,4,none⟩=some (.slice A.ar 8192 A.cr):=by rw [row_cell h.mp.row 4,← hL];rfl
 have c2:wr.cell? ⟨m,2,none⟩=some (.int .i64 M.pr):=row_cell h.mp.row 2
 have mbc:¬ m=bc:=fun e=>h.mp.ne (wRow A.ac M.cs.length A.cc M.cs) (by simp [mvF]) (by simp only [wRow];rw [ea,e];rfl)
 have mbd:¬ bc=m:=fun e=>mbc e.symm
 have SET:=dhid (fun v (hv:U v)=>h.setC bc ea 15 hv)
 clear hcd hL h cells ec
 go_enter Tryz.func40,Tryz.ntmps40
 go_upto_if 30 with fail
 generalize hv:IntKind.u64.wrap (bits BinOp.or IntKind.u64 9223372036854775808 524290 - 1)=v15
 have D1:Hid (∃ M:MV,Dm w0 g a n cap w r m M A (wr.setCell ⟨bc,15,none⟩ (.int .u64 v15))∧M.ram.length=8192):=⟨_,SET.out v15 (by rw [← hv];exact U_wrap _),HL.out⟩
 generalize wr.setCell ⟨bc,15,none⟩ (.int .u64 v15)=w1 at D1 ⊢
 generalize (M.pr==0)=p0
 clear hv SET mbc mbd c2 c4 q15 r15 cm ea
 go_cut [6] from 7 (fun v wc=>∃ b:Int,v=.int .i64 b∧∃ (M:MV),Hid (Dm w0 g a n cap w r m M A wc)∧Hid (M.ram.length=8192))
 case first =>
  obtain ⟨M1,d1,l1⟩:=D1.out
  cases p0
  ·go_wp2_with fail
   go_meet
   exact ⟨207,rfl,M1,d1,l1⟩
  ·go_wp2_with fail
   go_meet
   exact ⟨223,rfl,M1,d1,l1⟩
 case rest =>
  clear D1 HL
  obtain ⟨b1,rfl,M,DN,HL⟩:=hcut
  go_wp2_with fail
  refine (l1Once_c HD.out 2 (by omega) _ DN.out.cur).mono ?_
  rintro e w2 ⟨c2,rfl,hs2⟩
  have D2:=dhid (DN.out.next hs2.out)
  clear hs2 DN
  go_upto_if 32 with fail
  go_cut [6] from 7 (fun v wc=>∃ b:Int,v=.int .i64 b∧∃ (M:MV),Hid (Dm w0 g a n cap w r m M A wc)∧Hid (M.ram.length=8192))
  case first =>
   cases c2
   ·go_wp2_with fail
    go_meet
    exact ⟨b1,rfl,M,D2,HL⟩
   ·go_wp2_with fail
    go_meet
    exact ⟨_,rfl,M,D2,HL⟩
  case rest =>
   clear D2 HL
   obtain ⟨b2,rfl,M,DN,HL⟩:=hcut
   obtain ⟨z1,hz1⟩:∃ z,z=entryV 524288 b2:=⟨_,rfl⟩
   have HE:Hid (∀ w',Calls Tryz.prog 56 #[.int .u64 524288,.int .i64 b2] w' fun e w''=>e=.returned (.int .u64 z1)∧w''=w'):=fun w'=>by rw [hz1];exact specEntry_any _ _ w'
   have UZ:Hid (U z1):=by rw [hz1];exact U_entry _ _
   have c4:wc.cell? ⟨m,4,none⟩=some (.slice A.ar 8192 A.cr):=by rw [row_cell DN.out.mp.row 4,← HL.out];rfl
   have HP:=dhid (l1Put_dm (DN.out.below (Below.refl _ _).drew) 8192 HL.out 4112 z1 UZ.out (by omega))
   clear hz1
   go_wp2_with fail
   go_cut [] from 7 (fun wc=>∃ (M:MV),Hid (Dm w0 g a n cap w r m M A wc)∧Hid (M.ram.length=8192))
   case first =>
    go_region_with (first | (go_at_call 56;with_reducible refine (HE.out _).mono ?_;rintro e wy ⟨rfl,rfl⟩) | (go_at_call 36;refine HP.out.mono ?_;rintro e wz ⟨rfl,M',DZ,HZ⟩))
    all_goals go_wp2_with fail
    all_goals go_meet
    all_goals exact ⟨M',DZ,HZ⟩
   case rest =>
    clear HL DN HE UZ c4 HP
    obtain ⟨M,DN,HL⟩:=hcut
    go_wp2_with fail
    refine (l1Once_c HD.out 2 (by omega) _ DN.out.cur).mono ?_
    rintro e w3 ⟨c3,rfl,hs3⟩
    have D3:=dhid (DN.out.next hs3.out)
    clear hs3 DN
    go_upto_if 45 with fail
    go_cut [] from 7 (fun wc=>∃ (M:MV),Hid (Dm w0 g a n cap w r m M A wc)∧Hid (M.ram.length=8192))
    case first =>
     cases c3
     ·go_wp2_with fail
      go_meet
      exact ⟨M,D3,HL⟩
     ·obtain ⟨z2,hz2⟩:∃ z,z=entryV 524288 223:=⟨_,rfl⟩
      have HE:Hid (∀ w',Calls Tryz.prog 56 #[.int .u64 524288,.int .i64 223] w' fun e w''=>e=.returned (.int .u64 z2)∧w''=w'):=fun w'=>by rw [hz2];exact specEntry_any _ _ w'
      have UZ:Hid (U z2):=by rw [hz2];exact U_entry _ _
      have c4:w3.cell? ⟨m,4,none⟩=some (.slice A.ar 8192 A.cr):=by rw [row_cell D3.out.mp.row 4,← HL.out];rfl
      have HP:=dhid (l1Put_dm (D3.out.below (Below.refl _ _).drew) 8192 HL.out 4104 z2 UZ.out (by omega))
      clear hz2
      go_wp2_with fail
      go_region_with (first | (go_at_call 56;with_reducible refine (HE.out _).mono ?_;rintro e wy ⟨rfl,rfl⟩) | (go_at_call 36;refine HP.out.mono ?_;rintro e wz ⟨rfl,M',DZ,HZ⟩))
      all_goals go_wp2_with fail
      all_goals go_meet
      all_goals exact ⟨M',DZ,HZ⟩
    case rest =>
     clear D3 HL
     obtain ⟨M,DN,HL⟩:=hcut
     go_wp2_with fail
     refine (l1Once_c HD.out 3 (by omega) _ DN.out.cur).mono ?_
     rintro e w4 ⟨c4,rfl,hs4⟩
     have D4:=dhid (DN.out.next hs4.out)
     clear hs4 DN
     cases c4
     ·go_wp2_with fail
      refine bodyPost_end (results_none rfl _ _ _) rfl ?_
      exact ⟨rfl,M,D4⟩
     ·obtain ⟨z3,hz3⟩:∃ z,z=entryV 0 207:=⟨_,rfl⟩
      have HE:Hid (∀ w',Calls Tryz.prog 56 #[.int .u64 0,.int .i64 207] w' fun e w''=>e=.returned (.int .u64 z3)∧w''=w'):=fun w'=>by rw [hz3];exact specEntry_any _ _ w'
      have UZ:Hid (U z3):=by rw [hz3];exact U_entry _ _
      have c4:w4.cell? ⟨m,4,none⟩=some (.slice A.ar 8192 A.cr):=by rw [row_cell D4.out.mp.row 4,← HL.out];rfl
      have HP:=dhid (l1Put_dm (D4.out.below (Below.refl _ _).drew) 8192 HL.out 4096 z3 UZ.out (by omega))
      clear hz3
      go_wp2_with fail
      go_region_with (first | (go_at_call 56;with_reducible refine (HE.out _).mono ?_;rintro e wy ⟨rfl,rfl⟩) | (go_at_call 36;refine HP.out.mono ?_;rintro e wz ⟨rfl,M',DZ,HZ⟩))
      all_goals go_wp2_with fail
      all_goals refine bodyPost_end (results_none rfl _ _ _) rfl ?_
      all_goals exact ⟨rfl,M',DZ⟩

theorem l7DrawPaged_c {zs:List Int} {w0:World} {g:Nat} {a:Option Addr} {n cap:Nat} {w:World} {r m:Nat} {M:MV} {A:MA} {wr:World} (hcd:Code w0 a n zs) (h:Dm w0 g a n cap w r m M A wr) :
 Calls Tryz.prog 40 #[.pointer (some ⟨g,0,none⟩),.pointer (some ⟨m,0,none⟩)] wr fun e w'=>e=.returned (.tuple #[])∧∃ M':MV,Hid (Dm w0 g a n cap w r m M' A w'):=by
 rcases h.fit.ram with e | e
 ·exact l7DrawPaged_4096 hcd h e
 ·exact l7DrawPaged_8192 hcd h e

end Go.Proofs.YtbajeckeeekhnaaGreat
