/- Own lemmas. -/
import Derived.Test.YtbajeckeeekhnaaGreatK05
import Derived.Test.YtbajeckeeekhnaaGreatK06
import Derived.Test.YtbajeckeeekhnaaGreatK07
import Derived.OwnWalk
import Derived.BigQuiet
namespace Go.Proofs.YtbajeckeeekhnaaGreat
open Go.RowKit
set_option linter.unusedVariables false

theorem readV_cases (n:Int):n=3860∨n=769∨n=256∨n=260∨n=324∨((n==3860)=false∧(n==769)=false∧(n==256)=false∧(n==260)=false∧(n==324)=false):=by
 simp only [beq_eq_false_iff_ne];omega

set_option maxHeartbeats 1600000 in
theorem l4Read_any (a:Option Addr) (cap:Nat) (l:List Int) (n:Int) (w:World) (hz:l.length=22) (hs:Sl .u64 w a l) (hk:knownB n=true) :
 Calls Tryz.prog 89 #[.slice a 22 cap,.int .i64 n] w fun e w'=>e=.returned (.int .u64 (readV l n))∧Below w.heap.size w w':=by
 obtain ⟨b,off,rfl,hb0,c0⟩:=hs 0 (by omega)
 have cell:∀ j,j < 22→w.cell? ⟨b,off+j,none⟩=some (.int .u64 (l.getD j 0)):=by
  intro j hj
  obtain ⟨b',off',e,_,hc⟩:=hs j (by omega)
  simp only [Option.some.injEq,Addr.mk.injEq,and_true] at e
  obtain ⟨rfl,rfl⟩:=e
  exact hc
 rcases readV_cases n with rfl | rfl | rfl | rfl | rfl | ⟨d1,d2,d3,d4,d5⟩
 ·go_enter Tryz.func89,Tryz.ntmps89
  go_wp2_with fail
  go_ret
  exact ⟨rfl,Below.refl _ _⟩
 ·go_enter Tryz.func89,Tryz.ntmps89
  go_wp2_with fail
  go_ret
  exact ⟨rfl,Below.refl _ _⟩
 ·have F:Hid (readV l 256=bits .and .u64 (l.getD 0 0) 786722):=(rfl:readV l 256=_)
  have k0:=cell 0 (by omega)
  rw [Nat.add_zero] at k0
  clear cell c0
  generalize l.getD 0 0=y at *
  go_enter Tryz.func89,Tryz.ntmps89
  go_wp2_with fail
  go_ret
  exact ⟨by rw [F.out];rfl,Below.refl _ _⟩
 ·have F:Hid (readV l 260=bits .and .u64 (l.getD 3 0) (l.getD 2 0)):=(rfl:readV l 260=_)
  have k3:=cell 3 (by omega)
  have k2:=cell 2 (by omega)
  clear cell c0
  generalize l.getD 3 0=y at *
  generalize l.getD 2 0=z at *
  go_enter Tryz.func89,Tryz.ntmps89
  go_wp2_with fail
  go_quiet (fail)
  go_wp2_with fail
  go_ret
  exact ⟨by rw [F.out];rfl,⟨rfl,rfl,rfl,Nat.le_refl _,fun _ _=>rfl⟩⟩
 ·have F:Hid (readV l 324=bits .and .u64 (l.getD 9 0) (l.getD 2 0)):=(rfl:readV l 324=_)
  have k3:=cell 9 (by omega)
  have k2:=cell 2 (by omega)
  clear cell c0
  generalize l.getD 9 0=y at *
  generalize l.getD 2 0=z at *
  go_enter Tryz.func89,Tryz.ntmps89
  go_wp2_with fail
  go_quiet (fail)
  go_wp2_with fail
  go_ret
  exact ⟨by rw [F.out];rfl,⟨rfl,rfl,rfl,Nat.le_refl _,fun _ _=>rfl⟩⟩
 ·have hp:0≤placeV n:=by
   simp only [knownB,d1,d2,Bool.false_or,decide_eq_true_eq] at hk;exact hk
  have hb:=placeV_bd n
  obtain ⟨k,hk2⟩:∃ k:Nat,placeV n=(k:Int):=⟨(placeV n).toNat,by omega⟩
  have kk:k < 22:=by omega
  have F:Hid (readV l n=l.getD k 0):=by
   show _=_
   simp only [beq_eq_false_iff_ne] at d1 d2 d3 d4 d5
   unfold readV
   rw [if_neg d1,if_neg d2,if_neg d3,if_neg d4,if_neg d5,hk2,Int.toNat_natCast]
  have HP:Hid (∀ w,Calls Tryz.prog 91 #[.int .i64 n] w fun e w'=>e=.returned (.int .i64 (k:Int))∧Below w.heap.size w w'):=by rw [← hk2];exact specPlace_any n
  have KC:Hid (w.cell? ⟨b,off+k,none⟩=some (.int .u64 (l.getD k 0))):=cell k kk
  clear cell c0 hk2 hb hp hk
  generalize l.getD k 0=y at *
  go_enter Tryz.func89,Tryz.ntmps89
  go_wp2_with fail
  refine (HP.out _).mono ?_
  rintro e w1 ⟨rfl,hb1⟩
  have KC1:w1.cell? ⟨b,off+k,none⟩=some (.int .u64 y):=(hb1.cell (by exact hb0)).trans KC.out
  go_wp2_with fail
  go_ret
  exact ⟨by rw [F.out];rfl,hb1⟩

def leaveP (s:Int) (m:Bool):Int:=match m with | true=>wrap64 (bits .and .u64 (s / 2048) 3) | false=>wrap64 (bitAt s 8)

def leaveM (s:Int):Int:=bits .or .u64 (bits .or .u64 (bits .andNot .u64 s 6152) (IntKind.u64.wrap (bitAt s 7*8))) 128

def leaveS (s:Int) (m:Bool):Int:=match m with
 | true=>if (leaveP s true != 3)=true then bits .andNot .u64 (leaveM s) 131072 else leaveM s
 | false=>bits .or .u64 (bits .or .u64 (bits .andNot .u64 s 131330) (IntKind.u64.wrap (bitAt s 5*2))) 32

def leaveAt (l:List Int) (m:Bool):Int:=match m with | true=>l.getD 6 0 | false=>l.getD 12 0

set_option maxRecDepth 100000 in
set_option maxHeartbeats 3200000 in
theorem l5Leave_any (base g cap:Nat) (l:List Int) (m:Bool) (w:World) (h:Own w base g cap l) :
 Calls Tryz.prog 92 #[.slice (some ⟨g,0,none⟩) 22 cap,.bool m] w fun e w' =>
  e=.returned (.tuple #[.int .i64 (leaveP (l.getD 0 0) m),.int .u64 (leaveAt l m)])∧Own w' base g cap (l.set 0 (leaveS (l.getD 0 0) m))∧w.grownBy w' (some g):=by
 have H:Hid (Own w base g cap l):=h
 have c0:=h.cell 0 (by omega)
 clear h
 cases m with
 | true =>
   have L6:Hid (l.getD 6 0=leaveAt l true):=(rfl:l.getD 6 0=leaveAt l true)
   generalize leaveAt l true=l6 at *
   have hs0:leaveS (l.getD 0 0) true=if (leaveP (l.getD 0 0) true != 3)=true then bits .andNot .u64 (leaveM (l.getD 0 0)) 131072 else leaveM (l.getD 0 0):=rfl
   have hm0:leaveM (l.getD 0 0)=bits .or .u64 (bits .or .u64 (bits .andNot .u64 (l.getD 0 0) 6152) (IntKind.u64.wrap (bitAt (l.getD 0 0) 7*8))) 128:=rfl
   have hp0:wrap64 (bits .and .u64 (l.getD 0 0 / 2048) 3)=leaveP (l.getD 0 0) true:=rfl
   rw [hm0] at hs0
   clear hm0
   generalize leaveP (l.getD 0 0) true=pv at *
   generalize leaveS (l.getD 0 0) true=sv at *
   obtain ⟨s,hs⟩:∃ y,l.getD 0 0=y:=⟨_,rfl⟩
   rw [hs] at c0 hs0 hp0
   clear hs
   cases hc:(pv != 3) with
   | true =>
     rw [if_pos hc] at hs0
     have F:Hid (sv=bits .andNot .u64 (bits .or .u64 (bits .or .u64 (bits .andNot .u64 s 6152) (IntKind.u64.wrap (bitAt s 7*8))) 128) 131072):=hs0
     clear hs0
     go_enter Tryz.func92,Tryz.ntmps92
     go_wp2_with (first | (refine wpList_put rfl (.tmp 30) (.tmp 29) rfl rfl H.out 0 (by omega) _ rfl rfl ?_;intro w1 h1 g1;have H1:Hid (Own w1 _ _ _ _):=h1;have G1:Hid (w.grownBy w1 (some g)):=g1;clear h1 g1;have c:w1.cell? ⟨g,6,none⟩=some (.int .u64 l6):=by (have e:=H1.out.cell 6 (by omega);rw [set_get _ _ _ _ (by omega),L6.out] at e;exact e)) | (go_at_call 73;with_reducible refine (l5Bit7 _ _).mono ?_;rintro e wx ⟨rfl,hwx⟩;have hwy:=hwx.symm;subst hwy))
     go_quiet (fail)
     go_wp2_with fail
     go_ret2
     exact ⟨rfl,by rw [F.out];exact H1.out.below ⟨rfl,rfl,rfl,Nat.le_refl _,fun _ _=>rfl⟩,grown_trans G1.out ⟨rfl,rfl,rfl,Nat.le_refl _,fun _ _ _=>rfl⟩⟩
   | false =>
     rw [if_neg (by rw [hc];decide)] at hs0
     have F:Hid (sv=bits .or .u64 (bits .or .u64 (bits .andNot .u64 s 6152) (IntKind.u64.wrap (bitAt s 7*8))) 128):=hs0
     clear hs0
     go_enter Tryz.func92,Tryz.ntmps92
     go_wp2_with (first | (refine wpList_put rfl (.tmp 30) (.tmp 29) rfl rfl H.out 0 (by omega) _ rfl rfl ?_;intro w1 h1 g1;have H1:Hid (Own w1 _ _ _ _):=h1;have G1:Hid (w.grownBy w1 (some g)):=g1;clear h1 g1;have c:w1.cell? ⟨g,6,none⟩=some (.int .u64 l6):=by (have e:=H1.out.cell 6 (by omega);rw [set_get _ _ _ _ (by omega),L6.out] at e;exact e)) | (go_at_call 73;with_reducible refine (l5Bit7 _ _).mono ?_;rintro e wx ⟨rfl,hwx⟩;have hwy:=hwx.symm;subst hwy))
     go_quiet (fail)
     go_wp2_with fail
     go_ret2
     exact ⟨rfl,by rw [F.out];exact H1.out.below ⟨rfl,rfl,rfl,Nat.le_refl _,fun _ _=>rfl⟩,grown_trans G1.out ⟨rfl,rfl,rfl,Nat.le_refl _,fun _ _ _=>rfl⟩⟩
 | false =>
   have L12:Hid (l.getD 12 0=leaveAt l false):=(rfl:l.getD 12 0=leaveAt l false)
   generalize leaveAt l false=l12 at *
   have F0:leaveS (l.getD 0 0) false=bits .or .u64 (bits .or .u64 (bits .andNot .u64 (l.getD 0 0) 131330) (IntKind.u64.wrap (bitAt (l.getD 0 0) 5*2))) 32:=rfl
   have hp0:leaveP (l.getD 0 0) false=wrap64 (bitAt (l.getD 0 0) 8):=rfl
   rw [hp0]
   clear hp0
   generalize leaveS (l.getD 0 0) false=sv at *
   obtain ⟨s,hs⟩:∃ y,l.getD 0 0=y:=⟨_,rfl⟩
   rw [hs] at c0 F0 ⊢
   have F:Hid (sv=bits .or .u64 (bits .or .u64 (bits .andNot .u64 s 131330) (IntKind.u64.wrap (bitAt s 5*2))) 32):=F0
   clear F0 hs
   go_enter Tryz.func92,Tryz.ntmps92
   go_wp2_with (first | (refine wpList_put rfl (.tmp 46) (.tmp 45) rfl rfl H.out 0 (by omega) _ rfl rfl ?_;intro w1 h1 g1;have H1:Hid (Own w1 _ _ _ _):=h1;have G1:Hid (w.grownBy w1 (some g)):=g1;clear h1 g1;have c:w1.cell? ⟨g,12,none⟩=some (.int .u64 l12):=by (have e:=H1.out.cell 12 (by omega);rw [set_get _ _ _ _ (by omega),L12.out] at e;exact e)) | (go_at_call 73;with_reducible refine (l5Bit8 _ _).mono ?_;rintro e wx ⟨rfl,hwx⟩;have hwy:=hwx.symm;subst hwy) | (go_at_call 73;with_reducible refine (l5Bit5 _ _).mono ?_;rintro e wx ⟨rfl,hwx⟩;have hwy:=hwx.symm;subst hwy))
   go_quiet (fail)
   go_wp2_with fail
   go_ret2
   exact ⟨rfl,by rw [F.out];exact H1.out.below ⟨rfl,rfl,rfl,Nat.le_refl _,fun _ _=>rfl⟩,grown_trans G1.out ⟨rfl,rfl,rfl,Nat.le_refl _,fun _ _ _=>rfl⟩⟩

theorem enterL_len (l:List Int) (d:Bool) (p t pc v:Int):(enterL l d p t pc v).length=l.length:=by
 cases d<;>simp [enterL]

def ranks:List Nat:=[11,3,7,9,1,5]

def firstIn (x:Int):List Nat→Int
 | []=>-1
 | n :: r=>match (bitAt x n==1) with | true=>n | false=>firstIn x r

def firstV (x:Int):Int:=firstIn x ranks

def waitV (l:List Int):Int:=bits .and .u64 (l.getD 9 0) (l.getD 3 0)

def hearM (l:List Int) (p:Int):Bool:=(p != 3)||(bitAt (l.getD 0 0) 3==1)

def hearS (l:List Int) (p:Int):Bool:=(p==0)||((p==1)&&(bitAt (l.getD 0 0) 1==1))

def pendS (l:List Int) (p:Int):Int:=match hearS l p with
 | true=>firstV (bits .and .u64 (waitV l) (l.getD 2 0)) | false=>-1

def pendV (l:List Int) (p:Int):Int:=match (hearM l p&&decide (firstV (bits .andNot .u64 (waitV l) (l.getD 2 0)) ≥ 0)) with
 | true=>firstV (bits .andNot .u64 (waitV l) (l.getD 2 0)) | false=>pendS l p

theorem firstIn_bd (x:Int):∀ r:List Nat,firstIn x r=-1∨∃ n ∈ r,firstIn x r=(n:Int)∧(bitAt x n==1)=true:=by
 intro r
 induction r with
 | nil=>exact .inl rfl
 | cons n r ih =>
   unfold firstIn
   cases h:(bitAt x n==1) with
   | true=>exact .inr ⟨n,by simp,rfl,h⟩
   | false =>
     rcases ih with h | ⟨m,hm,h⟩
     ·exact .inl h
     ·exact .inr ⟨m,by simp [hm],h⟩

end Go.Proofs.YtbajeckeeekhnaaGreat
