/- Own lemmas. -/
import Derived.Test.YtkhofppmeoooaaaGreatDoorK02
import Derived.Test.YtkhofppmeoooaaaGreatDoorK24
namespace Go.Proofs.YtkhofppmeoooaaaGreatDoor
open Go.RowKit
set_option linter.unusedVariables false

set_option maxRecDepth 100000 in
set_option maxHeartbeats 1600000 in
theorem likeDev_same (D:DV) (a1:Option Addr) (c1:Nat) (a2:Option Addr) (c2:Nat) (b1:Option Addr) (d1:Nat) (b2:Option Addr) (d2:Nat) (w:World) (h1:Sl .u8 w a1 D.xs) (h2:Sl .u8 w a2 D.ys) (h3:Sl .u8 w b1 D.xs) (h4:Sl .u8 w b2 D.ys) :
 Calls Tryz.prog 27 #[.agg #[.int .u64 D.t,.int .u64 D.cm,.bool D.so,.slice a1 D.xs.length c1,.slice a2 D.ys.length c2,.int .i64 D.ir],.agg #[.int .u64 D.t,.int .u64 D.cm,.bool D.so,.slice b1 D.xs.length d1,.slice b2 D.ys.length d2,.int .i64 D.ir]] w fun e w'=>e=.returned (.bool true)∧Below w.heap.size w w':=by
 have hB2:∀ o1 o2,Below w.heap.size w ((w.alloc o1).alloc o2):=fun o1 o2=>((Below.refl _ _).alloc (Nat.le_refl _) o1).alloc (by simp) o2
 have cv1:∀ o1 o2,(convert 22 9 (.slice a1 D.xs.length c1)).run Tryz.prog ((w.alloc o1).alloc o2)=.ok (.string (strOfNums D.xs)) ((w.alloc o1).alloc o2):=fun o1 o2=>conv_sl _ _ _ _ _ rfl (h1.below (hB2 o1 o2))
 have cv2:∀ o1 o2,(convert 22 9 (.slice a2 D.ys.length c2)).run Tryz.prog ((w.alloc o1).alloc o2)=.ok (.string (strOfNums D.ys)) ((w.alloc o1).alloc o2):=fun o1 o2=>conv_sl _ _ _ _ _ rfl (h2.below (hB2 o1 o2))
 have cv3:∀ o1 o2,(convert 22 9 (.slice b1 D.xs.length d1)).run Tryz.prog ((w.alloc o1).alloc o2)=.ok (.string (strOfNums D.xs)) ((w.alloc o1).alloc o2):=fun o1 o2=>conv_sl _ _ _ _ _ rfl (h3.below (hB2 o1 o2))
 have cv4:∀ o1 o2,(convert 22 9 (.slice b2 D.ys.length d2)).run Tryz.prog ((w.alloc o1).alloc o2)=.ok (.string (strOfNums D.ys)) ((w.alloc o1).alloc o2):=fun o1 o2=>conv_sl _ _ _ _ _ rfl (h4.below (hB2 o1 o2))
 clear h1 h2 h3 h4
 obtain ⟨t,cm,so,xs,ys,ir⟩:=D
 dsimp only at cv1 cv2 cv3 cv4 ⊢
 generalize strOfNums xs=sx at *
 generalize strOfNums ys=sy at *
 generalize xs.length=n1 at *
 generalize ys.length=n2 at *
 go_enter Tryz.func27,Tryz.ntmps27
 go_wp2_with fail
 go_ret
 exact ⟨rfl,hB2 _ _⟩

end Go.Proofs.YtkhofppmeoooaaaGreatDoor
