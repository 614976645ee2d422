/- Own lemmas. -/
import Derived.Test.YtbajeckeeekhnaaGreatK01
import Derived.Test.YtbajeckeeekhnaaGreatK02
import Derived.Test.YtbajeckeeekhnaaGreatK03
import Derived.Test.YtbajeckeeekhnaaGreatK05
import Derived.Test.YtbajeckeeekhnaaGreatK08
import Derived.Test.YtbajeckeeekhnaaGreatK16
import Derived.BigQuiet
import Derived.OwnWalk
import Derived.Deep.Cut
namespace Go.Proofs.YtbajeckeeekhnaaGreat
open Go.RowKit
set_option linter.unusedVariables false

theorem and_i64 (z:Int) (m:Nat) (hm:m < 9223372036854775808):0≤bits .and .i64 z (m:Int)∧bits .and .i64 z (m:Int)≤m:=by
 have e:bits .and .i64 z (m:Int)=wrap64 (((BitVec.ofInt 64 z).toNat &&& m:Nat):Int):=by
  show IntKind.i64.wrap ((BitVec.ofInt 64 z &&& BitVec.ofInt 64 (m:Int)).toNat:Int)=_
  rw [BitVec.toNat_and,BitVec.ofInt_natCast,BitVec.toNat_ofNat,Nat.mod_eq_of_lt (show m < 2 ^ 64 by omega)]
  rw [IntKind.wrap_i64];unfold wrap64;rfl
 have h:(BitVec.ofInt 64 z).toNat &&& m≤m:=Nat.and_le_right
 rw [e]
 unfold wrap64
 omega

structure Code (w0:World) (a:Option Addr) (n:Nat) (zs:List Int):Prop where
 len:zs.length=n
 few:n≤4096
 sl:Sl .u8 w0 a zs
 bd:∀ y ∈ zs,(Lit.int .u8 y).wf=true

structure Cur (w0 w:World) (g:Nat) (a:Option Addr) (n cap:Nat):Prop where
 new:w0.heap.size≤g
 below:Below w0.heap.size w0 w
 row:∃ (i:Nat) (h:Int),i≤n∧w.heap[g]?=some (.cells #[.slice a n cap,.int .i64 (i:Int),.int .i64 h] 47 (0,0))

theorem grown_set (w:World) (g i:Nat) (v:Value):w.grownBy (w.setCell ⟨g,i,none⟩ v) (some g) :=
 ⟨rfl,rfl,rfl,by simp,fun k _ hk=>heap_setCell_other _ _ _ _ (by intro h;exact hk (by rw [h]))⟩

theorem grown_dN (w:World) (n:Nat) (row:Option Nat):w.grownBy (w.drewN n) row:=⟨rfl,rfl,rfl,Nat.le_refl _,fun _ _ _=>rfl⟩

theorem grown_alloc (w:World) (o:Obj) (row:Option Nat):w.grownBy (w.alloc o) row :=
 ⟨rfl,rfl,rfl,by simp,fun k hk _=>heap_alloc_old w o hk⟩

theorem Cur.grown {w0 w w':World} {g:Nat} {a:Option Addr} {n cap:Nat} (hc:Cur w0 w g a n cap) (hw:w.grownBy w' none):Cur w0 w' g a n cap:=by
 obtain ⟨i,h,hi,hrow⟩:=hc.row
 have lt:∀ k o,w.heap[k]?=some o→k < w.heap.size:=by
  intro k o hk
  by_cases hl:k < w.heap.size
  ·exact hl
  ·rw [Array.getElem?_eq_none (by omega)] at hk;cases hk
 refine ⟨hc.new,?_,i,h,hi,?_⟩
 ·exact ⟨hw.os.trans hc.below.os,hw.tape.trans hc.below.tape,hw.output.trans hc.below.output,Nat.le_trans hc.below.size hw.size,fun k hk=>(hw.block k (Nat.lt_of_lt_of_le hk hc.below.size) (by simp)).trans (hc.below.block k hk)⟩
 ·rw [hw.block g (lt _ _ hrow) (by simp)];exact hrow

theorem Cur.set2 {w0 w:World} {g:Nat} {a:Option Addr} {n cap:Nat} (hc:Cur w0 w g a n cap) (v:Int):Cur w0 (w.setCell ⟨g,2,none⟩ (.int .i64 v)) g a n cap:=by
 obtain ⟨i,h,hi,hrow⟩:=hc.row
 exact ⟨hc.new,hc.below.setCell hc.new _,i,v,hi,heap_setCell_same w g 2 _ _ _ hrow⟩

theorem Cur.set1 {w0 w:World} {g:Nat} {a:Option Addr} {n cap:Nat} (hc:Cur w0 w g a n cap) (j:Nat) (hj:j≤n):Cur w0 (w.setCell ⟨g,1,none⟩ (.int .i64 (j:Int))) g a n cap:=by
 obtain ⟨i,h,hi,hrow⟩:=hc.row
 exact ⟨hc.new,hc.below.setCell hc.new _,j,h,hj,heap_setCell_same w g 1 _ _ _ hrow⟩

theorem Cur.dN {w0 w:World} {g:Nat} {a:Option Addr} {n cap:Nat} (hc:Cur w0 w g a n cap) (m:Nat):Cur w0 (w.drewN m) g a n cap:=hc.grown (grown_dN w m none)

set_option maxHeartbeats 1600000 in
theorem l1Byte_any {w0:World} {g:Nat} {a:Option Addr} {n cap:Nat} {zs:List Int} (hcd:Code w0 a n zs) (w:World) (hc:Cur w0 w g a n cap) :
 Calls Tryz.prog 42 #[.pointer (some ⟨g,0,none⟩)] w fun e w'=>∃ x:Int,e=.returned (.int .i64 x)∧0≤x∧x≤255∧Cur w0 w' g a n cap∧w.grownBy w' (some g):=by
 obtain ⟨i,h,hi,hrow⟩:=hc.row
 have c2:=cell_of_row w g 2 _ _ _ hrow
 have f2:=frozen_of_row w g 2 _ _ hrow
 simp at c2
 have R:∀ v,(w.setCell ⟨g,2,none⟩ v).heap[g]?=some (.cells #[.slice a n cap,.int .i64 (i:Int),v] 47 (0,0)):=fun v=>heap_setCell_same w g 2 _ _ v hrow
 have K0:∀ v,(w.setCell ⟨g,2,none⟩ v).cell? ⟨g,0,none⟩=some (.slice a n cap):=fun v=>cell_of_row _ _ _ _ _ _ (R v)
 have K1:∀ v,(w.setCell ⟨g,2,none⟩ v).cell? ⟨g,1,none⟩=some (.int .i64 (i:Int)):=fun v=>cell_of_row _ _ _ _ _ _ (R v)
 have K2:∀ v,(w.setCell ⟨g,2,none⟩ v).cell? ⟨g,2,none⟩=some v:=fun v=>cell_of_row _ _ _ _ _ _ (R v)
 have F1:∀ v,(w.setCell ⟨g,2,none⟩ v).frozen? ⟨g,1,none⟩=false:=fun v=>frozen_of_row _ _ _ _ _ (R v)
 have HR:Hid (∀ v,(w.setCell ⟨g,2,none⟩ v).heap[g]?=some (.cells #[.slice a n cap,.int .i64 (i:Int),v] 47 (0,0))):=R
 have HC:Hid (Cur w0 w g a n cap):=hc
 have HD:Hid (Code w0 a n zs):=hcd
 clear R hrow hc hcd
 by_cases hlt:i < n
 ·obtain ⟨b,off,rfl,hb,hcl⟩:=HD.out.sl i (by rw [HD.out.len];exact hlt)
  have KC:∀ v,(w.setCell ⟨g,2,none⟩ v).cell? ⟨b,off+i,none⟩=some (.int .u8 (zs.getD i 0)):=fun v=>((HC.out.below.setCell HC.out.new v).cell (by exact hb)).trans hcl
  obtain ⟨y,hy⟩:∃ y,y=zs.getD i 0:=⟨_,rfl⟩
  rw [← hy] at KC
  clear hcl hy
  go_enter Tryz.func42,Tryz.ntmps42
  go_wp2_with fail
  go_quiet (fail)
  go_wp2_with fail
  go_quiet (fail)
  go_wp2_with fail
  go_quiet (fail)
  go_wp2_with fail
  have hi1:wrap64 ((i:Int)+1)=((i+1:Nat):Int):=by
   have:=HD.out.few
   unfold wrap64;omega
  rw [hi1]
  go_ret
  refine ⟨_,rfl,(and_i64 _ 255 (by omega)).1,(and_i64 _ 255 (by omega)).2,?_,?_⟩
  ·exact ((HC.out.set2 _).dN _).set1 _ (by omega)
  ·exact grown_trans (grown_trans (grown_set _ _ _ _) (grown_dN _ _ _)) (grown_set _ _ _ _)
 ·go_enter Tryz.func42,Tryz.ntmps42
  go_wp2_with fail
  go_quiet (fail)
  go_wp2_with fail
  go_quiet (fail)
  go_wp2_with fail
  go_ret
  refine ⟨_,rfl,(and_i64 _ 255 (by omega)).1,(and_i64 _ 255 (by omega)).2,?_,?_⟩
  ·exact ((HC.out.set2 _).dN _).dN _
  ·exact grown_trans (grown_trans (grown_set _ _ _ _) (grown_dN _ _ _)) (grown_dN _ _ _)

def Cs (w0:World) (g:Nat) (a:Option Addr) (n cap:Nat) (w w':World):Prop:=Cur w0 w' g a n cap∧w.grownBy w' (some g)

theorem Cs.trans {w0 w1 w2 w3:World} {g:Nat} {a:Option Addr} {n cap:Nat} (h:Cs w0 g a n cap w1 w2) (k:Cs w0 g a n cap w2 w3):Cs w0 g a n cap w1 w3:=⟨k.1,grown_trans h.2 k.2⟩

theorem Cs.refl {w0 w:World} {g:Nat} {a:Option Addr} {n cap:Nat} (h:Cur w0 w g a n cap):Cs w0 g a n cap w w:=⟨h,grown_refl _ _⟩

theorem l1Byte_c {w0:World} {g:Nat} {a:Option Addr} {n cap:Nat} {zs:List Int} (hcd:Code w0 a n zs) (w:World) (hc:Cur w0 w g a n cap) :
 Calls Tryz.prog 42 #[.pointer (some ⟨g,0,none⟩)] w fun e w'=>∃ x:Int,e=.returned (.int .i64 x)∧(0≤x∧x≤255)∧Hid (Cs w0 g a n cap w w') :=
 (l1Byte_any hcd w hc).mono fun e w' ⟨x,h1,h2,h3,h4,h5⟩=>⟨x,h1,⟨h2,h3⟩,⟨h4,h5⟩⟩

set_option maxHeartbeats 1600000 in
theorem l1Below_c {w0:World} {g:Nat} {a:Option Addr} {n cap:Nat} {zs:List Int} (hcd:Code w0 a n zs) (m:Int) (hm:0 < m) (w:World) (hc:Cur w0 w g a n cap) :
 Calls Tryz.prog 21 #[.pointer (some ⟨g,0,none⟩),.int .i64 m] w fun e w'=>∃ x:Int,e=.returned (.int .i64 x)∧(0≤x∧x < m)∧Hid (Cs w0 g a n cap w w'):=by
 have HD:Hid (Code w0 a n zs):=hcd
 have HC:Hid (Cur w0 w g a n cap):=hc
 have d1:decide (m≤0)=false:=by simp;omega
 have dz:¬ m=0:=by omega
 clear hcd hc
 by_cases hle:m≤256
 ·have d2:decide (m≤256)=true:=by simpa using hle
  go_enter Tryz.func21,Tryz.ntmps21
  go_wp2_with fail
  refine (l1Byte_c HD.out _ HC.out).mono ?_
  rintro e w1 ⟨x,rfl,⟨hx0,hx1⟩,hs⟩
  go_wp2_with fail
  go_ret
  refine ⟨_,rfl,?_,hs⟩
  exact ⟨Int.emod_nonneg _ dz,Int.emod_lt_of_pos _ hm⟩
 ·have d2:decide (m≤256)=false:=by simpa using hle
  go_enter Tryz.func21,Tryz.ntmps21
  go_wp2_with fail
  refine (l1Byte_c HD.out _ HC.out).mono ?_
  rintro e w1 ⟨x,rfl,⟨hx0,hx1⟩,hs1⟩
  go_wp2_with fail
  refine (l1Byte_c HD.out _ hs1.out.1).mono ?_
  rintro e w2 ⟨y,rfl,⟨hy0,hy1⟩,hs2⟩
  go_wp2_with fail
  refine (l1Byte_c HD.out _ hs2.out.1).mono ?_
  rintro e w3 ⟨z,rfl,⟨hz0,hz1⟩,hs3⟩
  go_wp2_with fail
  refine (l1Byte_c HD.out _ hs3.out.1).mono ?_
  rintro e w4 ⟨u,rfl,⟨hu0,hu1⟩,hs4⟩
  go_wp2_with fail
  go_ret
  refine ⟨_,rfl,?_,hs1.out.trans (hs2.out.trans (hs3.out.trans hs4.out))⟩
  exact ⟨Int.emod_nonneg _ dz,Int.emod_lt_of_pos _ hm⟩

theorem l1Once_c {w0:World} {g:Nat} {a:Option Addr} {n cap:Nat} {zs:List Int} (hcd:Code w0 a n zs) (m:Int) (hm:0 < m) (w:World) (hc:Cur w0 w g a n cap) :
 Calls Tryz.prog 20 #[.pointer (some ⟨g,0,none⟩),.int .i64 m] w fun e w'=>∃ c:Bool,e=.returned (.bool c)∧Hid (Cs w0 g a n cap w w'):=by
 have HD:Hid (Code w0 a n zs):=hcd
 have HC:Hid (Cur w0 w g a n cap):=hc
 clear hcd hc
 go_enter Tryz.func20,Tryz.ntmps20
 go_wp2_with fail
 refine (l1Below_c HD.out m hm _ HC.out).mono ?_
 rintro e w1 ⟨x,rfl,⟨hx0,hx1⟩,hs⟩
 go_wp2_with fail
 go_ret
 exact ⟨_,rfl,hs⟩

set_option maxHeartbeats 1600000 in
theorem l1New_c {a:Option Addr} {n:Nat} (cap:Nat) {zs:List Int} (w:World) (hcd:Code w a n zs) :
 Calls Tryz.prog 9 #[.slice a n cap] w fun e w'=>∃ g,e=.returned (.pointer (some ⟨g,0,none⟩))∧Hid (Cur w w' g a n cap):=by
 have HD:Hid (Code w a n zs):=hcd
 have hn:=hcd.few
 clear hcd
 go_enter Tryz.func9,Tryz.ntmps9
 go_wp2_with fail
 go_loopw [3,4] (fun h i wr=>∃ (k:Nat) (x:Int),k≤n∧h=.int .i64 x∧i=.int .i64 k∧Hid (Below w.heap.size w wr))
  (fun _ i _=>n - (intOf i).toNat)
 case atStart=>exact ⟨0,_,Nat.zero_le _,rfl,rfl,Below.refl _ _⟩
 case round =>
  obtain ⟨k,x,hk,rfl,rfl,hbel⟩:=hrel
  by_cases hlt:k < n
  ·obtain ⟨b,off,rfl,hb,hcl⟩:=HD.out.sl k (by rw [HD.out.len];exact hlt)
   have KC:wr.cell? ⟨b,off+k,none⟩=some (.int .u8 (zs.getD k 0)):=(hbel.out.cell (by exact hb)).trans hcl
   clear hcl
   go_wp2_with fail
   go_roundw
   case rel=>exact ⟨k+1,_,by omega,rfl,by go_num,hbel⟩
   case measure=>simp [intOf];omega
  ·go_wp2_with fail
   go_ret
   refine ⟨_,rfl,?_⟩
   exact ⟨hbel.out.size,hbel.out.alloc hbel.out.size _,0,x,Nat.zero_le _,heap_alloc_new _ _⟩

theorem wf64 {x:Int} (h0 : -9223372036854775808≤x) (h1:x≤9223372036854775807):(Lit.int .i64 x).wf=true:=by
 have hmin:IntKind.i64.min=-9223372036854775808:=rfl
 have hmax:IntKind.i64.max=9223372036854775807:=rfl
 simp only [Lit.wf,Bool.and_eq_true,decide_eq_true_eq]
 omega

theorem Cs.keep {w0 w w':World} {g:Nat} {a:Option Addr} {n cap:Nat} (h:Cs w0 g a n cap w w') {k:Nat} {o:Obj} (hk:w.heap[k]?=some o) (hne:k≠g):w'.heap[k]?=some o:=by
 by_cases hl:k < w.heap.size
 ·rw [h.2.block k hl (by simp [hne])];exact hk
 ·rw [Array.getElem?_eq_none (by omega)] at hk;cases hk

theorem Cur.lt {w0 w:World} {g:Nat} {a:Option Addr} {n cap:Nat} (h:Cur w0 w g a n cap):g < w.heap.size:=by
 obtain ⟨i,x,_,hrow⟩:=h.row
 by_cases hl:g < w.heap.size
 ·exact hl
 ·rw [Array.getElem?_eq_none (by omega)] at hrow;cases hrow

set_option maxHeartbeats 3200000 in
theorem l1DrawWord_c {w0:World} {g:Nat} {a:Option Addr} {n cap:Nat} {zs:List Int} (hcd:Code w0 a n zs) (w:World) (hc:Cur w0 w g a n cap) :
 Calls Tryz.prog 35 #[.pointer (some ⟨g,0,none⟩)] w fun e w'=>∃ x:Int,e=.returned (.int .u64 x)∧(0≤x∧x < 18446744073709551616)∧Hid (Cs w0 g a n cap w w'):=by
 have HD:Hid (Code w0 a n zs):=hcd
 have HC:Hid (Cur w0 w g a n cap):=hc
 clear hcd hc
 go_enter Tryz.func35,Tryz.ntmps35
 go_wp2_with fail
 go_loopw [3,4] (fun h i wr=>∃ (k:Nat) (x:Int),k≤8∧h=.int .u64 x∧i=.int .i64 k∧(0≤x∧x < 18446744073709551616)∧Hid (Cs w0 g a n cap w wr))
  (fun _ i _=>8 - (intOf i).toNat)
 case atStart=>exact ⟨0,0,Nat.zero_le _,rfl,rfl,by omega,Cs.refl HC.out⟩
 case round =>
  obtain ⟨k,x,hk,rfl,rfl,⟨hx0,hx1⟩,hs⟩:=hrel
  by_cases hlt:k < 8
  ·go_wp2_with fail
   refine (l1Byte_c HD.out _ hs.out.1).mono ?_
   rintro e w1 ⟨y,rfl,⟨hy0,hy1⟩,hs1⟩
   obtain ⟨z,hz⟩:∃ z,z=IntKind.u64.wrap (IntKind.u64.wrap (x*256)+y):=⟨_,rfl⟩
   go_wp2_with fail
   go_roundw
   case rel =>
    refine ⟨k+1,_,by omega,rfl,by go_num,?_,hs.out.trans hs1.out⟩
    rw [IntKind.wrap_u64];omega
   case measure=>simp [intOf];omega
  ·go_wp2_with fail
   refine (l1Below_c HD.out 5 (by omega) _ hs.out.1).mono ?_
   rintro e w1 ⟨y,rfl,⟨hy0,hy1⟩,hs1⟩
   have HS1:Hid (Cs w0 g a n cap w w1):=hs.out.trans hs1.out
   have hm:0≤x % 100∧x % 100 < 18446744073709551616:=by omega
   have hsh:0≤IntKind.u64.wrap (wrap64 x / 1099511627776)∧IntKind.u64.wrap (wrap64 x / 1099511627776) < 18446744073709551616:=by rw [IntKind.wrap_u64];omega
   obtain ⟨k,rfl⟩:=Int.eq_ofNat_of_zero_le hy0
   match k,hy1 with
   | 0,_ =>
     go_wp2_with fail
     have HA:Hid (Cur w0 (w1.alloc (.cells #[.int .u64 0,.int .u64 1,.int .u64 18446744073709551615,.int .u64 9223372036854775808,.int .u64 9223372036854775807,.int .u64 2147483648,.int .u64 2147483647,.int .u64 18446744071562067968,.int .u64 4294967295,.int .u64 64] 24)) g a n cap):=hs1.out.1.grown (grown_alloc _ _ _)
     refine (l1Below_c HD.out 10 (by omega) _ HA.out).mono ?_
     rintro e w2 ⟨y,rfl,⟨hx0,hx1⟩,hs2⟩
     obtain ⟨k,rfl⟩:=Int.eq_ofNat_of_zero_le hx0
     have hrow:w2.heap[w1.heap.size]?=some (.cells #[.int .u64 0,.int .u64 1,.int .u64 18446744073709551615,.int .u64 9223372036854775808,.int .u64 9223372036854775807,.int .u64 2147483648,.int .u64 2147483647,.int .u64 18446744071562067968,.int .u64 4294967295,.int .u64 64] 24 (0,0)):=hs2.out.keep (heap_alloc_new _ _) (Nat.ne_of_gt hs1.out.1.lt)
     obtain ⟨v,hv,hcell⟩:∃ v:Int,(0≤v∧v < 18446744073709551616)∧w2.cell? ⟨w1.heap.size,k,none⟩=some (.int .u64 v):=by
      have ec:=cell_of_row w2 w1.heap.size k _ _ _ hrow
      match k,hx1 with
      | 0,_=>exact ⟨_,by omega,ec⟩
      | 1,_=>exact ⟨_,by omega,ec⟩
      | 2,_=>exact ⟨_,by omega,ec⟩
      | 3,_=>exact ⟨_,by omega,ec⟩
      | 4,_=>exact ⟨_,by omega,ec⟩
      | 5,_=>exact ⟨_,by omega,ec⟩
      | 6,_=>exact ⟨_,by omega,ec⟩
      | 7,_=>exact ⟨_,by omega,ec⟩
      | 8,_=>exact ⟨_,by omega,ec⟩
      | 9,_=>exact ⟨_,by omega,ec⟩
      | k+10,h=>exact absurd h (by omega)
     have HV:Hid (0≤v∧v < 18446744073709551616):=hv
     have HS:Hid (Cs w0 g a n cap w w2):=⟨hs2.out.1,grown_trans HS1.out.2 (grown_trans (grown_alloc _ _ _) hs2.out.2)⟩
     clear hrow hv hs hs1 hs2 HA HC HS1
     go_wp2_with fail
     go_ret
     exact ⟨_,rfl,HV.out,HS⟩
   | 1,_ =>
     go_wp2_with fail
     go_ret
     exact ⟨_,rfl,hm,HS1⟩
   | 2,_ =>
     go_wp2_with fail
     go_ret
     exact ⟨_,rfl,hsh,HS1⟩
   | 3,_ =>
     go_wp2_with fail
     go_ret
     exact ⟨_,rfl,⟨hx0,hx1⟩,HS1⟩
   | 4,_ =>
     go_wp2_with fail
     go_ret
     exact ⟨_,rfl,⟨hx0,hx1⟩,HS1⟩
   | k+5,h=>exact absurd h (by omega)

theorem Cs.alloc {w0:World} {g:Nat} {a:Option Addr} {n cap:Nat} {w:World} (h:Cur w0 w g a n cap) (o:Obj):Cs w0 g a n cap w (w.alloc o):=⟨h.grown (grown_alloc _ _ _),grown_alloc _ _ _⟩

theorem few_words {w:World} {b k:Nat} (cs:List Int) (t:TypeId) (hr:w.heap[b]?=some (.cells (cs.map (Value.int .u64)).toArray t (0,0))) (hu:∀ x ∈ cs,U x) (hk:k < cs.length):∃ v,U v∧w.cell? ⟨b,k,none⟩=some (.int .u64 v):=by
 refine ⟨cs[k],hu _ (List.getElem_mem hk),?_⟩
 rw [cell_of_row _ _ _ _ _ _ hr]
 simp [List.getElem?_eq_getElem hk]

theorem few_ints {w:World} {b k:Nat} (cs:List Int) (t:TypeId) (hr:w.heap[b]?=some (.cells (cs.map (Value.int .i64)).toArray t (0,0))) (hu:∀ x ∈ cs,(Lit.int .i64 x).wf=true) (hk:k < cs.length):∃ v,(Lit.int .i64 v).wf=true∧w.cell? ⟨b,k,none⟩=some (.int .i64 v):=by
 refine ⟨cs[k],hu _ (List.getElem_mem hk),?_⟩
 rw [cell_of_row _ _ _ _ _ _ hr]
 simp [List.getElem?_eq_getElem hk]

theorem Cs.of_below {w0:World} {g:Nat} {a:Option Addr} {n cap:Nat} {w wx:World} (hc:Cur w0 w g a n cap) (hb:Below w.heap.size w wx):Cs w0 g a n cap w wx:=by
 have hg:=hc.lt
 obtain ⟨i,x,hi,hrow⟩:=hc.row
 exact ⟨⟨hc.new,below_trans hc.below hb,i,x,hi,by rw [hb.block g hg];exact hrow⟩,⟨hb.os,hb.tape,hb.output,hb.size,fun k hk _=>hb.block k hk⟩⟩

theorem infoI:(Tryz.prog.info? 2).map (fun i=>(i.zero,i.size,i.bytes))=some (some (.int .i64 0),1,8):=by kernel_rfl

set_option maxHeartbeats 1600000 in
theorem l4DrawNumber_c {w0:World} {g:Nat} {a:Option Addr} {n cap:Nat} {zs:List Int} (hcd:Code w0 a n zs) (w:World) (hc:Cur w0 w g a n cap) :
 Calls Tryz.prog 53 #[.pointer (some ⟨g,0,none⟩)] w fun e w'=>∃ x:Int,e=.returned (.int .i64 x)∧(Lit.int .i64 x).wf=true∧Hid (Cs w0 g a n cap w w'):=by
 have HD:Hid (Code w0 a n zs):=hcd
 have HC:Hid (Cur w0 w g a n cap):=hc
 obtain ⟨i0,hi,hz0,hz1,hz2⟩:=info_parts infoI
 have hb9:(22+5)*8≤140737488355328:=by omega
 have hm9:22+5≤maxLen:=by unfold maxLen;omega
 have h1c:∀ u ∈ ([256,260,324,3860,769]:List Int).map (Value.int .i64),u.oneCell'=true:=ints_oneCell _ _
 have hnews:∀ (W:World) (j:Nat) (u:Value),(([256,260,324,3860,769]:List Int).map (Value.int .i64))[j]?=some u→(W.alloc (.cells #[.int .i64 256,.int .i64 260,.int .i64 324,.int .i64 3860,.int .i64 769] 2)).cell? ((⟨W.heap.size,0,none⟩:Addr).add j)=some u:=by
  intro W j u hu
  rw [adds,Nat.zero_add,cell_of_row _ _ _ _ _ _ (heap_alloc_new _ _)]
  rw [← hu]
  simp
 have HN:Hid (∀ (W:World) (j:Nat) (u:Value),(([256,260,324,3860,769]:List Int).map (Value.int .i64))[j]?=some u→(W.alloc (.cells #[.int .i64 256,.int .i64 260,.int .i64 324,.int .i64 3860,.int .i64 769] 2)).cell? ((⟨W.heap.size,0,none⟩:Addr).add j)=some u):=hnews
 clear hcd hc hnews
 go_enter Tryz.func53,Tryz.ntmps53
 go_wp2_with fail
 refine (l4Numbers_any _).mono ?_
 rintro e w1 ⟨rfl,hw1⟩
 have ho1:w1.ownsRow w.heap.size 2 1 (.slice (some ⟨w.heap.size,0,none⟩) 22 22) 22 (csrNumbers.map (Value.int .i64)):=by
  rw [hw1];exact World.ownsRow_lit w _ 22 (Nat.le_refl _) (by unfold maxLen;omega) rfl
 have hb1:Below w.heap.size w w1:=by rw [hw1];exact (Below.refl _ _).alloc (Nat.le_refl _) _
 have hE:=ho1.alloc (.cells #[.int .i64 256,.int .i64 260,.int .i64 324,.int .i64 3860,.int .i64 769] 2)
 have hlt1:w.heap.size < w1.heap.size:=by rw [hw1];simp
 clear hw1 ho1
 go_wp2_with (at_builtin;refine wpList_append_own _ rfl (.tmp 4) (.tmp 5) 38 rfl _ 2 i0 (.int .i64 0) 1 8 Tryz.underlying38 hi hz0 hz1 hz2 rfl (by decide) _ 22 (csrNumbers.map (Value.int .i64)) (by rfl) hE ⟨w1.heap.size,0,none⟩ 5 5 (([256,260,324,3860,769]:List Int).map (Value.int .i64)) rfl rfl (HN.out _) h1c hm9 hb9 (by simp;omega) ?_;intro v' w2 hown1 hgrow1 hnil1)
 obtain ⟨g2,c2,hv2,hg2⟩:=own_shape hown1 (by omega)
 have B2:Below w.heap.size w w2:=Below.grown (hb1.alloc hb1.size _) hgrow1 (by simp;omega) (by intro k hk;simp [Value.ownBlock] at hk;omega)
 have HS2:Hid (Cs w0 g a n cap w w2):=Cs.of_below HC.out B2
 obtain ⟨L,hL⟩:∃ L,L=csrNumbers ++ ([256,260,324,3860,769]:List Int):=⟨_,rfl⟩
 rw [hv2,← List.map_append,← hL] at hown1
 have HWF:Hid (∀ x ∈ L,(Lit.int .i64 x).wf=true):=by rw [hL];show ∀ x ∈ _,_;decide
 have HLL:Hid (L.length=27):=by rw [hL];rfl
 have HO:Hid (w2.ownsRow w.heap.size 2 1 (.slice (some ⟨g2,0,none⟩) 27 c2) 27 (L.map (Value.int .i64))):=hown1
 have HNE:Hid (g < g2):=Nat.lt_of_lt_of_le HC.out.lt hg2
 rw [hv2]
 clear hL hown1 hgrow1 hnil1 hv2 hE hb1 hlt1 HN h1c hg2 B2
 go_wp2_with fail
 refine (l1Once_c HD.out 14 (by omega) _ HS2.out.1).mono ?_
 rintro e w3 ⟨c,rfl,hs3⟩
 cases c with
 | true =>
   go_wp2_with fail
   have HA:=Cs.alloc hs3.out.1 (.cells #[.int .i64 0,.int .i64 1,.int .i64 769,.int .i64 2816,.int .i64 3072,.int .i64 4095] 2)
   refine (l1Below_c HD.out 6 (by omega) _ HA.1).mono ?_
   rintro e w4 ⟨x,rfl,⟨hx0,hx1⟩,hs4⟩
   obtain ⟨k,rfl⟩:=Int.eq_ofNat_of_zero_le hx0
   obtain ⟨v,hv,hcell⟩:=few_ints [0,1,769,2816,3072,4095] 2 (hs4.out.keep (heap_alloc_new _ _) (Nat.ne_of_gt hs3.out.1.lt)) (by decide) (k:=k) (by simp;omega)
   have HV:Hid ((Lit.int .i64 v).wf=true):=hv
   have HS:Hid (Cs w0 g a n cap w w4):=HS2.out.trans (hs3.out.trans (HA.trans hs4.out))
   clear hv hs3 hs4 HA HC
   go_wp2_with fail
   go_ret
   exact ⟨_,rfl,HV.out,HS⟩
 | false =>
   go_wp2_with fail
   refine (l1Below_c HD.out 27 (by omega) _ hs3.out.1).mono ?_
   rintro e w4 ⟨x,rfl,⟨hx0,hx1⟩,hs4⟩
   obtain ⟨k,rfl⟩:=Int.eq_ofNat_of_zero_le hx0
   have hs34:=hs3.out.trans hs4.out
   have ho4:=kept_of HO.out hs34.2 (by intro j hj hne;have:=HNE.out;simp [Value.ownBlock] at hj hne;omega)
   obtain ⟨b,off,e,_,hcl⟩:=own_sl ho4 k (by have:=HLL.out;omega)
   simp only [Option.some.injEq,Addr.mk.injEq,and_true] at e
   obtain ⟨rfl,rfl⟩:=e
   rw [Nat.zero_add] at hcl
   have HV:Hid ((Lit.int .i64 (L.getD k 0)).wf=true):=by
    have hk:k < L.length:=by have:=HLL.out;omega
    have e:L.getD k 0=L[k]:=by simp [List.getD,List.getElem?_eq_getElem hk]
    show (Lit.int .i64 (L.getD k 0)).wf=true
    rw [e];exact HWF.out _ (List.getElem_mem hk)
   generalize L.getD k 0=v at *
   have HS:Hid (Cs w0 g a n cap w w4):=HS2.out.trans hs34
   clear ho4 hs34 hs3 hs4 HC
   go_wp2_with fail
   go_ret
   exact ⟨_,rfl,HV.out,HS⟩

def Rm (w0:World) (g:Nat) (a:Option Addr) (n cap:Nat) (w:World) (b m:Nat) (wr:World):Prop :=
 ∃ zs:List Int,(∀ y ∈ zs,(Lit.int .u8 y).wf=true)∧wr.ownsRow w.heap.size 5 1 (.slice (some ⟨b,0,none⟩) m m) m (zs.map (Value.int .u8))∧Cs w0 g a n cap w wr∧g < w.heap.size∧w.heap.size≤b

theorem Rm.next {w0:World} {g:Nat} {a:Option Addr} {n cap:Nat} {w wr wx:World} {b m:Nat} (h:Rm w0 g a n cap w b m wr) (k:Cs w0 g a n cap wr wx):Rm w0 g a n cap w b m wx:=by
 obtain ⟨zs,hu,ho,hc,hg,hb⟩:=h
 refine ⟨zs,hu,kept_of ho k.2 ?_,hc.trans k,hg,hb⟩
 intro j hj hne
 simp [Value.ownBlock] at hj hne
 omega

theorem Rm.cur {w0:World} {g:Nat} {a:Option Addr} {n cap:Nat} {w wr:World} {b m:Nat} (h:Rm w0 g a n cap w b m wr):Cur w0 wr g a n cap:=by
 obtain ⟨zs,hu,ho,hc,hg,hb⟩:=h
 exact hc.1

theorem wf8 {y:Int} (h0:0≤y) (h1:y≤255):(Lit.int .u8 y).wf=true:=by
 have hmin:IntKind.u8.min=0:=rfl
 have hmax:IntKind.u8.max=255:=rfl
 simp only [Lit.wf,Bool.and_eq_true,decide_eq_true_eq]
 omega

theorem zeros_wf (m:Nat):∀ y ∈ List.replicate m (0:Int),(Lit.int .u8 y).wf=true:=by
 intro y hy
 rw [(List.mem_replicate.mp hy).2];decide

theorem Fam.pushIn {B E:Nat} {w w':World} {a1:Option Addr} {n1 c1:Nat} {xs:List Int} {a2:Option Addr} {n2 c2:Nat} {ys:List Int} (h:Fam B E w (devF a1 n1 c1 xs a2 n2 c2 ys)) (hE:E≤w.heap.size) (gr:w.grownBy w' (Value.slice a1 n1 c1).ownBlock) {f:Option Addr} {m g:Nat} {zs:List Int} (ho:w'.ownsRow B 5 1 (.slice f m g) m (zs.map (Value.int .u8))) (hw:(Value.slice f m g).ownBlock=(Value.slice a1 n1 c1).ownBlock∨(Value.slice f m g).ownBlock=some w.heap.size):Fam B w'.heap.size w' (devF f m g zs a2 n2 c2 ys):=by
 have hne:=(List.pairwise_cons.1 h.ne).1 (bRow a2 n2 c2 ys) (List.mem_singleton.2 rfl)
 have h2:=h.own (bRow a2 n2 c2 ys) (by simp [devF])
 have hi2:=h.hi (bRow a2 n2 c2 ys) (by simp [devF])
 refine ⟨fun r hr=>?_,fun r hr k e=>?_,List.pairwise_cons.2 ⟨fun r hr k e e2=>?_,List.pairwise_singleton _ _⟩⟩
 ·rcases List.mem_cons.1 hr with rfl | hr
  ·exact ho
  ·rw [List.mem_singleton.1 hr]
   exact fown_of h2 (fun k e=>gr.block k (h2.lt k e).2 (fun e2=>hne k e2.symm e))
 ·rcases List.mem_cons.1 hr with rfl | hr
  ·exact (ho.lt k e).2
  ·rw [List.mem_singleton.1 hr] at e
   have:=(h2.lt k e).2
   have:=gr.size
   omega
 ·rw [List.mem_singleton.1 hr] at e2
  rcases hw with hw | hw
  ·exact hne k (hw.symm.trans e) e2
  ·have e3:some w.heap.size=some k:=hw.symm.trans e
   cases e3
   have:=hi2 _ e2
   omega

theorem push_run (ty:TypeId) {w:World} (base n:Nat) (v:Value) (zs:List Int) (hown:w.ownsRow base 5 1 v n (zs.map (Value.int .u8))) (hn:n≤1048576) (ad:Addr) (c:Nat) (b:Int) (hnews:∀ j u,[Value.int .u8 b][j]?=some u→w.cell? (ad.add j)=some u) (hbase:base≤w.heap.size) :
 ∃ a' c' w',(Builtin.append_ #[22,22] ty #[v,.slice (some ad) 1 c]).run Tryz.prog w=.ok (.slice a' (n+1) c') w'∧w'.ownsRow base 5 1 (.slice a' (n+1) c') (n+1) ((zs ++ [b]).map (Value.int .u8))∧w.grownBy w' v.ownBlock∧((Value.slice a' (n+1) c').ownBlock=v.ownBlock∨(Value.slice a' (n+1) c').ownBlock=some w.heap.size):=by
 obtain ⟨i0,hi,hz0,hz1,hz2⟩:=info_parts Tryz.info5
 obtain ⟨v',w',hr,h2,h3,h4⟩:=run_append_own (P:=Tryz.prog) w base 22 ty 5 i0 (.int .u8 0) 1 1 Tryz.underlying22 hi hz0 hz1 hz2 rfl (by decide) v n (zs.map (Value.int .u8)) hown ad 1 c [.int .u8 b] rfl hnews (by simp [Value.oneCell']) (by unfold maxLen;omega) (by omega) hbase
 have hw:=append_where ty hown ad c b hnews hn hr
 have hv:∃ a' c',v'=.slice a' (n+1) c':=by
  rcases h2.2 with ⟨_,e0⟩ | ⟨g',cap,cur,e,_⟩
  ·omega
  ·exact ⟨_,_,e⟩
 obtain ⟨a',c',rfl⟩:=hv
 exact ⟨a',c',w',hr,by rw [List.map_append];exact h2,h3,hw⟩

structure Dc (w0:World) (g:Nat) (a:Option Addr) (n cap:Nat) (w:World) (r b:Nat) (T:TypeId) (rs cs:Array Value) (wr:World):Prop where
 row:wr.heap[b]?=some (.cells cs T (0,0))
 res:wr.heap[r]?=some (.cells rs T (0,0))
 cu:Cs w0 g a n cap w wr
 glt:g < r
 rlt:r < b
 wle:w.heap.size≤r

theorem blk {w:World} {k:Nat} {o:Obj} (h:w.heap[k]?=some o):k < w.heap.size:=(Array.getElem?_eq_some_iff.1 h).1

theorem Dc.next {w0 w wr wx:World} {g:Nat} {a:Option Addr} {n cap r b:Nat} {T:TypeId} {rs cs:Array Value} (h:Dc w0 g a n cap w r b T rs cs wr) (k:Cs w0 g a n cap wr wx):Dc w0 g a n cap w r b T rs cs wx:=by
 have hg:=h.glt
 have hr:=h.rlt
 have keep:∀ j o,j≠g→wr.heap[j]?=some o→wx.heap[j]?=some o:=fun j o hj ho=>(k.2.block j (blk ho) (by simp;omega)).trans ho
 exact ⟨keep _ _ (by omega) h.row,keep _ _ (by omega) h.res,h.cu.trans k,hg,hr,h.wle⟩

theorem Dc.drew {w0 w wr:World} {g:Nat} {a:Option Addr} {n cap r b:Nat} {T:TypeId} {rs cs:Array Value} (h:Dc w0 g a n cap w r b T rs cs wr):Dc w0 g a n cap w r b T rs cs wr.drew:=⟨h.row,h.res,⟨h.cu.1.grown (grown_dN wr 1 none),grown_trans h.cu.2 (grown_dN wr 1 _)⟩,h.glt,h.rlt,h.wle⟩

theorem Cs.setc {w0 w wr:World} {g:Nat} {a:Option Addr} {n cap:Nat} (h:Cs w0 g a n cap w wr) (k i:Nat) (v:Value) (hk:w.heap.size≤k) (hg:g≠k) (hw0:w0.heap.size≤k):Cs w0 g a n cap w (wr.setCell ⟨k,i,none⟩ v):=by
 obtain ⟨j,x,hj,hrow⟩:=h.1.row
 refine ⟨⟨h.1.new,h.1.below.setCell hw0 v,j,x,hj,(Below.heap_setCell wr ⟨k,i,none⟩ v g hg).trans hrow⟩,h.2.os,h.2.tape,h.2.output,by rw [size_set];exact h.2.size,fun q hq hne=>?_⟩
 rw [Below.heap_setCell wr ⟨k,i,none⟩ v q (by dsimp only;omega)]
 exact h.2.block q hq hne

theorem Dc.put {w0 w wr:World} {g:Nat} {a:Option Addr} {n cap r b:Nat} {T:TypeId} {rs cs:Array Value} (h:Dc w0 g a n cap w r b T rs cs wr) (i:Nat) (v:Value):Dc w0 g a n cap w r b T rs (cs.setIfInBounds i v) (wr.setCell ⟨b,i,none⟩ v):=by
 have hg:=h.glt
 have hr:=h.rlt
 have hw:=h.wle
 have h0:=h.cu.1.new
 exact ⟨row_set h.row i v,row_far h.res ⟨b,i,none⟩ v (by dsimp only;omega),h.cu.setc b i v (by omega) (by omega) (by omega),hg,hr,hw⟩

theorem Dc.on {w0 w wr wx:World} {g E:Nat} {a:Option Addr} {n cap r b:Nat} {T:TypeId} {rs cs:Array Value} (h:Dc w0 g a n cap w r b T rs cs wr) (k:Keep (b+1) E wr wx):Dc w0 g a n cap w r b T rs cs wx:=by
 have hg:=h.glt
 have hr:=h.rlt
 have hw:=h.wle
 have hb:=blk h.row
 have h0:=h.cu.1.new
 obtain ⟨j,x,hj,hrow⟩:=h.cu.1.row
 have keep:∀ j o,j < b+1→wr.heap[j]?=some o→wx.heap[j]?=some o:=fun j o hj ho=>(k.block j (blk ho) (.inl hj)).trans ho
 exact ⟨keep _ _ (by omega) h.row,keep _ _ (by omega) h.res,⟨⟨h.cu.1.new,h.cu.1.below.trans (k.below (by omega) (by have:=h.cu.1.below.size;omega)),j,x,hj,keep _ _ (by omega) hrow⟩,k.os.trans h.cu.2.os,k.tape.trans h.cu.2.tape,k.output.trans h.cu.2.output,Nat.le_trans h.cu.2.size k.size,fun q hq hne=>(k.block q (by omega) (.inl (by omega))).trans (h.cu.2.block q hq hne)⟩,hg,hr,hw⟩

structure Dx (w0:World) (g:Nat) (a:Option Addr) (n cap:Nat) (w:World) (r b:Nat) (D:DV) (a1:Option Addr) (c1:Nat) (a2:Option Addr) (c2:Nat) (wr:World):Prop where
 c:Dc w0 g a n cap w r b 27 (dvc zeroD none 0 none 0) (dvc D a1 c1 a2 c2) wr
 fam:Fam (b+1) wr.heap.size wr (dvF D a1 c1 a2 c2)

theorem Dx.next {w0 w wr wx:World} {g:Nat} {a:Option Addr} {n cap r b:Nat} {D:DV} {a1:Option Addr} {c1:Nat} {a2:Option Addr} {c2:Nat} (h:Dx w0 g a n cap w r b D a1 c1 a2 c2 wr) (k:Cs w0 g a n cap wr wx):Dx w0 g a n cap w r b D a1 c1 a2 c2 wx:=by
 have hg:=h.c.glt
 have hr:=h.c.rlt
 exact ⟨h.c.next k,(h.fam.mono fun j h1 h2 h3=>k.2.block j h3 (by simp;omega)).low (Nat.le_refl _) k.2.size⟩

theorem Dx.drew {w0 w wr:World} {g:Nat} {a:Option Addr} {n cap r b:Nat} {D:DV} {a1:Option Addr} {c1:Nat} {a2:Option Addr} {c2:Nat} (h:Dx w0 g a n cap w r b D a1 c1 a2 c2 wr):Dx w0 g a n cap w r b D a1 c1 a2 c2 wr.drew:=⟨h.c.drew,h.fam.mono fun j _ _ _=>rfl⟩

theorem Dx.cur {w0 w wr:World} {g:Nat} {a:Option Addr} {n cap r b:Nat} {D:DV} {a1:Option Addr} {c1:Nat} {a2:Option Addr} {c2:Nat} (h:Dx w0 g a n cap w r b D a1 c1 a2 c2 wr):Cur w0 wr g a n cap:=h.c.cu.1

theorem dvc_in (D:DV) (a1:Option Addr) (c1:Nat) (a2:Option Addr) (c2:Nat) (zs:List Int) (f:Option Addr) (m c:Nat) (hm:zs.length=m):(dvc D a1 c1 a2 c2).setIfInBounds 3 (.slice f m c)=dvc ⟨D.t,D.cm,D.so,zs,D.ys,D.ir⟩ f c a2 c2:=by subst hm;rfl

theorem dvc_out (D:DV) (a1:Option Addr) (c1:Nat) (a2:Option Addr) (c2:Nat) (zs:List Int) (f:Option Addr) (m c:Nat) (hm:zs.length=m):(dvc D a1 c1 a2 c2).setIfInBounds 4 (.slice f m c)=dvc ⟨D.t,D.cm,D.so,D.xs,zs,D.ir⟩ a1 c1 f c:=by subst hm;rfl

theorem Dx.cmp {w0 w wr:World} {g:Nat} {a:Option Addr} {n cap r b:Nat} {D:DV} {a1:Option Addr} {c1:Nat} {a2:Option Addr} {c2:Nat} (h:Dx w0 g a n cap w r b D a1 c1 a2 c2 wr) (x:Int):Dx w0 g a n cap w r b ⟨D.t,x,D.so,D.xs,D.ys,D.ir⟩ a1 c1 a2 c2 (wr.setCell ⟨b,1,none⟩ (.int .u64 x)) :=
 ⟨h.c.put 1 (.int .u64 x),(h.fam.set ⟨b,1,none⟩ _ (.inl (by dsimp only;omega))).low (Nat.le_refl _) (by rw [size_set];exact Nat.le_refl _)⟩

theorem Fam.pushOut {B E:Nat} {w w':World} {a1:Option Addr} {n1 c1:Nat} {xs:List Int} {a2:Option Addr} {n2 c2:Nat} {ys:List Int} (h:Fam B E w (devF a1 n1 c1 xs a2 n2 c2 ys)) (hE:E≤w.heap.size) (gr:w.grownBy w' (Value.slice a2 n2 c2).ownBlock) {f:Option Addr} {m g:Nat} {zs:List Int} (ho:w'.ownsRow B 5 1 (.slice f m g) m (zs.map (Value.int .u8))) (hw:(Value.slice f m g).ownBlock=(Value.slice a2 n2 c2).ownBlock∨(Value.slice f m g).ownBlock=some w.heap.size):Fam B w'.heap.size w' (devF a1 n1 c1 xs f m g zs):=by
 have hne:=(List.pairwise_cons.1 h.ne).1 (bRow a2 n2 c2 ys) (List.mem_singleton.2 rfl)
 have h1:=h.own (bRow a1 n1 c1 xs) (by simp [devF])
 have hi1:=h.hi (bRow a1 n1 c1 xs) (by simp [devF])
 refine ⟨fun r hr=>?_,fun r hr k e=>?_,List.pairwise_cons.2 ⟨fun r hr k e e2=>?_,List.pairwise_singleton _ _⟩⟩
 ·rcases List.mem_cons.1 hr with rfl | hr
  ·exact fown_of h1 (fun k e=>gr.block k (h1.lt k e).2 (fun e2=>hne k e e2.symm))
  ·rw [List.mem_singleton.1 hr]
   exact ho
 ·rcases List.mem_cons.1 hr with rfl | hr
  ·have:=(h1.lt k e).2
   have:=gr.size
   omega
  ·rw [List.mem_singleton.1 hr] at e
   exact (ho.lt k e).2
 ·rw [List.mem_singleton.1 hr] at e2
  rcases hw with hw | hw
  ·exact hne k e (hw.symm.trans e2)
  ·have e3:some w.heap.size=some k:=hw.symm.trans e2
   cases e3
   have:=hi1 _ e
   omega

theorem Dx.pushIn {w0 w wr:World} {g:Nat} {a:Option Addr} {n cap r b:Nat} {D:DV} {a1:Option Addr} {c1:Nat} {a2:Option Addr} {c2:Nat} (h:Dx w0 g a n cap w r b D a1 c1 a2 c2 wr) (hl:D.xs.length≤1048576) (y:Int) (ty:TypeId):∃ (f:Option Addr) (q:Nat) (wx:World),(Builtin.append_ #[22,22] ty #[.slice a1 D.xs.length c1,.slice (some ⟨wr.heap.size,0,none⟩) 1 1]).run Tryz.prog (wr.alloc (.cells #[.int .u8 y] 5))=.ok (.slice f (D.xs.length+1) q) wx∧wx.cell? ⟨b,3,none⟩=some (.slice a1 D.xs.length c1)∧wx.frozen? ⟨b,3,none⟩=false ∧
 Dx w0 g a n cap w r b ⟨D.t,D.cm,D.so,D.xs ++ [y],D.ys,D.ir⟩ f q a2 c2 (wx.setCell ⟨b,3,none⟩ (.slice f (D.xs.length+1) q)):=by
 have hb:=blk h.c.row
 have FW:Fam (b+1) wr.heap.size (wr.alloc (.cells #[.int .u8 y] 5)) (devF a1 D.xs.length c1 D.xs a2 D.ys.length c2 D.ys):=h.fam.below ((Below.refl _ _).alloc (Nat.le_refl _) _)
 have how:=FW.own (bRow a1 D.xs.length c1 D.xs) (by simp [devF])
 obtain ⟨f,q,wx,hr,ho,gr,hw⟩:=push_run ty (b+1) D.xs.length _ D.xs how hl ⟨wr.heap.size,0,none⟩ 1 y (one_new8 wr y) (by rw [World.size_alloc];omega)
 have FX:=FW.pushIn (by rw [World.size_alloc];omega) gr ho hw
 have kp:Keep (b+1) wx.heap.size wr wx:=by
  have hs:=gr.size
  rw [World.size_alloc] at hs
  exact ⟨gr.os,gr.tape,gr.output,by omega,fun k hk hne=>(gr.block k (by rw [World.size_alloc];omega) (fun e=>by have:=(how.lt k e.symm).1;omega)).trans (Below.heap_alloc wr _ k hk)⟩
 have CX:=h.c.on kp
 refine ⟨f,q,wx,hr,(cells6 CX.row).2.2.2.1,froz CX.row 3,?_,?_⟩
 ·rw [← dvc_in D a1 c1 a2 c2 (D.xs ++ [y]) f (D.xs.length+1) q (by simp)]
  exact CX.put 3 _
 ·unfold dvF
  dsimp only
  rw [show (D.xs ++ [y]).length=D.xs.length+1 by simp]
  exact (FX.set ⟨b,3,none⟩ _ (.inl (by dsimp only;omega))).low (Nat.le_refl _) (by rw [size_set];exact Nat.le_refl _)

theorem Dx.pushOut {w0 w wr:World} {g:Nat} {a:Option Addr} {n cap r b:Nat} {D:DV} {a1:Option Addr} {c1:Nat} {a2:Option Addr} {c2:Nat} (h:Dx w0 g a n cap w r b D a1 c1 a2 c2 wr) (hl:D.ys.length≤1048576) (y:Int) (ty:TypeId):∃ (f:Option Addr) (q:Nat) (wx:World),(Builtin.append_ #[22,22] ty #[.slice a2 D.ys.length c2,.slice (some ⟨wr.heap.size,0,none⟩) 1 1]).run Tryz.prog (wr.alloc (.cells #[.int .u8 y] 5))=.ok (.slice f (D.ys.length+1) q) wx∧wx.cell? ⟨b,4,none⟩=some (.slice a2 D.ys.length c2)∧wx.frozen? ⟨b,4,none⟩=false ∧
 Dx w0 g a n cap w r b ⟨D.t,D.cm,D.so,D.xs,D.ys ++ [y],D.ir⟩ a1 c1 f q (wx.setCell ⟨b,4,none⟩ (.slice f (D.ys.length+1) q)):=by
 have hb:=blk h.c.row
 have FW:Fam (b+1) wr.heap.size (wr.alloc (.cells #[.int .u8 y] 5)) (devF a1 D.xs.length c1 D.xs a2 D.ys.length c2 D.ys):=h.fam.below ((Below.refl _ _).alloc (Nat.le_refl _) _)
 have how:=FW.own (bRow a2 D.ys.length c2 D.ys) (by simp [devF])
 obtain ⟨f,q,wx,hr,ho,gr,hw⟩:=push_run ty (b+1) D.ys.length _ D.ys how hl ⟨wr.heap.size,0,none⟩ 1 y (one_new8 wr y) (by rw [World.size_alloc];omega)
 have FX:=FW.pushOut (by rw [World.size_alloc];omega) gr ho hw
 have kp:Keep (b+1) wx.heap.size wr wx:=by
  have hs:=gr.size
  rw [World.size_alloc] at hs
  exact ⟨gr.os,gr.tape,gr.output,by omega,fun k hk hne=>(gr.block k (by rw [World.size_alloc];omega) (fun e=>by have:=(how.lt k e.symm).1;omega)).trans (Below.heap_alloc wr _ k hk)⟩
 have CX:=h.c.on kp
 refine ⟨f,q,wx,hr,(cells6 CX.row).2.2.2.2.1,froz CX.row 4,?_,?_⟩
 ·rw [← dvc_out D a1 c1 a2 c2 (D.ys ++ [y]) f (D.ys.length+1) q (by simp)]
  exact CX.put 4 _
 ·unfold dvF
  dsimp only
  rw [show (D.ys ++ [y]).length=D.ys.length+1 by simp]
  exact (FX.set ⟨b,4,none⟩ _ (.inl (by dsimp only;omega))).low (Nat.le_refl _) (by rw [size_set];exact Nat.le_refl _)

theorem Dx.newIn {w0 w wr wx:World} {g:Nat} {a:Option Addr} {n cap r b:Nat} {D:DV} {a1:Option Addr} {c1:Nat} {a2:Option Addr} {c2:Nat} (h:Dx w0 g a n cap w r b D a1 c1 a2 c2 wr) (f:Option Addr) (m q:Nat) (zs:List Int) (hz:zs.length=m) (ho:wx.ownsRow wr.heap.size 5 1 (.slice f m q) m (zs.map (Value.int .u8))) (hb:Below wr.heap.size wr wx):wx.cell? ⟨b,3,none⟩=some (.slice a1 D.xs.length c1)∧wx.frozen? ⟨b,3,none⟩=false∧Dx w0 g a n cap w r b ⟨D.t,D.cm,D.so,zs,D.ys,D.ir⟩ f q a2 c2 (wx.setCell ⟨b,3,none⟩ (.slice f m q)):=by
 have hbl:=blk h.c.row
 have CX:=h.c.on (Keep.of_below (E:=wx.heap.size) hb)
 refine ⟨(cells6 CX.row).2.2.2.1,froz CX.row 3,?_,?_⟩
 ·rw [← dvc_in D a1 c1 a2 c2 zs f m q hz]
  exact CX.put 3 _
 ·unfold dvF
  dsimp only
  rw [hz]
  exact ((Fam.newIn (h.fam.below hb) f m q zs _ wx.heap.size ho (Nat.le_refl _) (by omega) (Nat.le_refl _) hb.size).set ⟨b,3,none⟩ _ (.inl (by dsimp only;omega))).low (Nat.le_refl _) (by rw [size_set];exact Nat.le_refl _)

theorem Dx.newOut {w0 w wr wx:World} {g:Nat} {a:Option Addr} {n cap r b:Nat} {D:DV} {a1:Option Addr} {c1:Nat} {a2:Option Addr} {c2:Nat} (h:Dx w0 g a n cap w r b D a1 c1 a2 c2 wr) (f:Option Addr) (m q:Nat) (zs:List Int) (hz:zs.length=m) (ho:wx.ownsRow wr.heap.size 5 1 (.slice f m q) m (zs.map (Value.int .u8))) (hb:Below wr.heap.size wr wx):wx.cell? ⟨b,4,none⟩=some (.slice a2 D.ys.length c2)∧wx.frozen? ⟨b,4,none⟩=false∧Dx w0 g a n cap w r b ⟨D.t,D.cm,D.so,D.xs,zs,D.ir⟩ a1 c1 f q (wx.setCell ⟨b,4,none⟩ (.slice f m q)):=by
 have hbl:=blk h.c.row
 have CX:=h.c.on (Keep.of_below (E:=wx.heap.size) hb)
 refine ⟨(cells6 CX.row).2.2.2.2.1,froz CX.row 4,?_,?_⟩
 ·rw [← dvc_out D a1 c1 a2 c2 zs f m q hz]
  exact CX.put 4 _
 ·unfold dvF
  dsimp only
  rw [hz]
  exact ((Fam.newOut (h.fam.below hb) f m q zs _ wx.heap.size ho (Nat.le_refl _) (by omega) (Nat.le_refl _) hb.size).set ⟨b,4,none⟩ _ (.inl (by dsimp only;omega))).low (Nat.le_refl _) (by rw [size_set];exact Nat.le_refl _)

structure Fits (D:DV) (k1 k2:Nat):Prop where
 t:U D.t
 cm:U D.cm
 ir:D.ir=0∨D.ir=1
 by_:bytesOk D
 l1:D.xs.length≤k1
 l2:D.ys.length≤k2

end Go.Proofs.YtbajeckeeekhnaaGreat
