/- Own lemmas. -/
import Derived.Test.YtbajeckeeekhnaaGreatK01
import Derived.Test.YtbajeckeeekhnaaGreatK03
import Derived.Test.YtbajeckeeekhnaaGreatK04
import Derived.Test.YtbajeckeeekhnaaGreatK14
import Derived.Test.YtbajeckeeekhnaaGreatK15
import Derived.Test.YtbajeckeeekhnaaGreatK16
import Derived.Deep.RegionWith
import Derived.Lib.TrailingZeros
import Derived.Laws.Bits64b
import Derived.RangeFuncNested
import Derived.RangeFuncBound
import Derived.RangeFuncCalls
import Derived.RangeFuncLeaves
import Derived.RangeFuncBox
import Derived.Shelf.Abstract
import Derived.Shelf.RegionOpen
import Derived.WalkKit
import Derived.OwnWalkIn
import Derived.TacticsInMore
import Derived.LoopNIn
import Derived.LoopIn
namespace Go.Proofs.YtbajeckeeekhnaaGreat
open Go.RowKit
set_option linter.unusedVariables false

theorem xOk_any (a:Option Addr) (n c:Nat) (x:List Int) (w:World) (hx:x.length=n) (hs:Sl .u64 w a x) :
 Calls Tryz.prog 14 #[.slice a n c] w fun e w'=>e=.returned (.bool (regsB n x))∧w'=w:=by
 by_cases h:n=32
 ·subst h
  obtain ⟨b,off,rfl,hb,hc⟩:=hs 0 (by omega)
  have F:Hid (regsB 32 x=(x.getD 0 0==0)):=by show _=_;unfold regsB;simp
  have hc2:w.cell? ⟨b,off,none⟩=some (.int .u64 (x.getD 0 0)):=hc
  generalize regsB 32 x=V at *
  generalize x.getD 0 0=y at *
  clear hs hx hc
  go_enter Tryz.func14,Tryz.ntmps14
  go_wp2_with fail
  go_ret
  exact ⟨by rw [F.out];rfl,rfl⟩
 ·have F:Hid (regsB n x=false):=by show _=_;unfold regsB;rw [decide_eq_false h];rfl
  have d:((n:Int)==32)=false:=by simp;omega
  generalize regsB n x=V at *
  clear hs hx h
  go_enter Tryz.func14,Tryz.ntmps14
  go_wp2_with fail
  go_ret
  exact ⟨by rw [F.out];rfl,rfl⟩

theorem implBit2_9 (x:Int) (w:World):Calls Tryz.prog 13 #[.int .u64 x,.int .i64 0,.int .i64 2] w fun e w'=>e=.returned (.int .u64 (bits .and .u64 x 3))∧w'=w.drew:=by
 go_enter Tryz.func13,Tryz.ntmps13
 go_wp2_with fail
 go_region
 all_goals go_wp2_with fail
 all_goals go_ret
 all_goals exact ⟨rfl,rfl⟩

theorem lines_any (D:DV) (a1:Option Addr) (c1:Nat) (a2:Option Addr) (c2:Nat) (w:World) (hn1:D.xs.length≤1048576) (hn2:D.ys.length≤1048576) :
 Calls Tryz.prog 18 #[.agg #[.int .u64 D.t,.int .u64 D.cm,.bool D.so,.slice a1 D.xs.length c1,.slice a2 D.ys.length c2,.int .i64 D.ir]] w fun e w'=>e=.returned (.int .u64 (linesD D))∧Below w.heap.size w w':=by
 have HL:Hid (∀ w,Calls Tryz.prog 32 #[.agg #[.int .u64 D.t,.int .u64 D.cm,.bool D.so,.slice a1 D.xs.length c1,.slice a2 D.ys.length c2,.int .i64 D.ir]] w fun e w'=>e=.returned (.int .u64 (linesD D))∧Below w.heap.size w w'):=fun w=>implLines_any D a1 c1 a2 c2 w hn1 hn2
 have hB:∀ o,Below w.heap.size w (w.alloc o):=fun o=>(Below.refl _ _).alloc (Nat.le_refl _) o
 generalize linesD D=v at *
 clear hn1 hn2
 go_enter Tryz.func18,Tryz.ntmps18
 go_wp2_with fail
 refine (HL.out _).mono ?_
 rintro e w1 ⟨rfl,hb1⟩
 go_wp2_with fail
 go_ret
 exact ⟨rfl,below_trans (hB _) hb1⟩

set_option maxRecDepth 100000 in
set_option maxHeartbeats 6400000 in
theorem implMachineOk_any (M:MV) (A:MA) (w:World) (hl:MLen M) (hs:MSl w M A) (hU:∀ j,U (M.cs.getD j 0)) :
 Calls Tryz.prog 8 #[.agg (mvc M A)] w fun e w'=>e=.returned (.bool (machB M))∧Below w.heap.size w w':=by
 have hB:=fun W (_:Below w.heap.size w W)=>(implBit2_9 M.pc W).mono fun e w'' ⟨k1,k2⟩=>And.intro k1 (show Below W.heap.size W w'' by rw [k2];exact (Below.refl _ _).drew)
 have hR:=fun W hb=>xOk_any A.ax M.x.length A.cx _ W rfl (hs.x.below hb)
 have hL:=fun W hb=>implLegal_any A.ac M.cs.length A.cc _ M.pr W rfl (hs.cs.below hb) hU
 have hM:=fun W (_:Below w.heap.size w W)=>implRamOk_any A.ar M.ram.length A.cr W hl.ram
 have hD:=fun W (_:Below w.heap.size w W)=>implDevOk_any M.d.t M.d.cm M.d.so A.ai M.d.xs.length A.ci A.ao M.d.ys.length A.co M.d.ir W hl.xs hl.ys
 have hN:=fun W (_:Below w.heap.size w W)=>lines_any M.d A.ai A.ci A.ao A.co W hl.xs hl.ys
 have hE:machB M=((bits .and .u64 M.pc 3==0)&&regsB M.x.length M.x&&legalB M.cs.length M.cs M.pr&&ramOkB M.ram.length&&okD M.d.xs.length M.d.ys.length M.d.ir&&(M.hl||(M.hd==0))&&(bits .and .u64 (M.cs.getD 9 0) 2184==linesD M.d)):=by
  unfold machB bellsB linesD
  cases okD M.d.xs.length M.d.ys.length M.d.ir<;>simp
 rw [hE]
 clear hE
 generalize linesD M.d=ln at *
 generalize h1:(bits .and .u64 M.pc 3==0)=b1
 generalize regsB M.x.length M.x=b2 at *
 generalize h3:legalB M.cs.length M.cs M.pr=b3 at *
 generalize ramOkB M.ram.length=b4 at *
 generalize okD M.d.xs.length M.d.ys.length M.d.ir=b5 at *
 generalize h6:(M.hd==0)=b6
 generalize h7:(bits .and .u64 (M.cs.getD 9 0) 2184==ln)=b7
 cases b3 with
 | false =>
   refine wk_go (S:=Bs w [(mvc M A,29)]) [(mvc M A,29)] Tryz.func8 rfl (by kernel_rfl) (by kernel_rfl) ?_
   cases b1
   case' true=>cases b2
   all_goals exact wk_end (t:=2) (v:=.bool false) Bs.eng { eq:=[(6,eqB h1)],cv:=[(5,cvW hB),(10,cvE hR),(17,cvW hL)] } 300 (Bs.start _ _) (by kernel_rfl) (by kernel_rfl) rfl (fun w' h=>⟨by simp,h.2⟩)
 | true =>
   have h22:=legal_22 h3
   obtain ⟨cb,co,hac,hcb,hcc⟩:=hs.cs 9 (by omega)
   obtain ⟨pc,x,pr,cs,ram,d,hd,hh,wt⟩:=M
   dsimp only at *
   refine wk_go (S:=Bs w [(mvc ⟨pc,x,pr,cs,ram,d,hd,hh,wt⟩ A,29)]) [(mvc ⟨pc,x,pr,cs,ram,d,hd,hh,wt⟩ A,29)] Tryz.func8 rfl (by kernel_rfl) (by kernel_rfl) ?_
   have c9:∀ W,Bs w [(mvc ⟨pc,x,pr,cs,ram,d,hd,hh,wt⟩ A,29)] W→W.cell? ⟨cb,co+9,none⟩=some (.int .u64 (cs.getD 9 0)):=fun W h=>(h.2.cell (by exact hcb)).trans hcc
   cases b1
   case' true =>
    cases b2
    case' true =>
     cases b4
     case' true =>
      cases b5
      case' true=>cases hh<;>cases b6<;>cases b7
   all_goals exact wk_end (t:=2) (v:=.bool _) Bs.eng { eq:=[(6,eqB h1),(35,eqB h6),(47,eqB h7)],ov:=[(41,ovX cs.length A.cc .i64 9 hac (by omega) Tryz.underlying25 (by kernel_rfl)),(42,ovL _ _ Tryz.underlying24 rfl c9)],cv:=[(5,cvW hB),(10,cvE hR),(17,cvW hL),(22,cvE hM),(27,cvW hD),(46,cvW hN)] } 300 (Bs.start _ _) (by kernel_rfl) (by kernel_rfl) rfl (fun w' h=>⟨rfl,h.2⟩)

theorem ldV_okD (D:DV) (k:Nat) (h:okD D.xs.length D.ys.length D.ir=true) (hk:(ldV D k).2.2=true):okD (ldV D k).2.1.xs.length (ldV D k).2.1.ys.length (ldV D k).2.1.ir=true:=by
 have hb:=okD_bd h
 match k,hk with
 | 0,_=>exact h
 | 1,_=>exact h
 | 2,_=>exact h
 | 3,_ =>
   show okD (D.xs.drop 1).length D.ys.length D.ir=true
   unfold okD at h ⊢
   simp only [Bool.and_eq_true,decide_eq_true_eq,List.length_drop] at h ⊢
   omega
 | 4,_=>exact h
 | 5,_=>exact h

theorem bits_one (x:Int):0≤wrap64 (bits .and .u64 x 1)∧wrap64 (bits .and .u64 x 1)≤1:=by
 have l1:∀ i,i < 64→bt 1 i=decide (i=0):=by decide +kernel
 have l0:∀ i,i < 64→bt 0 i=false:=by decide +kernel
 have h:bits .and .u64 x 1=if bt x 0=true then 1 else 0:=by
  refine bt_ext _ _ (U_bits _ _ _) (by split<;>exact ⟨by omega,by omega⟩) fun i hi=>?_
  rw [bt_and,l1 i hi]
  by_cases h0:i=0
  ·subst h0
   cases bt x 0
   ·rw [if_neg (by decide),l0 0 (by omega)];rfl
   ·rw [if_pos rfl,l1 0 (by omega)];rfl
  ·rw [decide_eq_false h0,Bool.and_false]
   split
   ·rw [l1 i hi,decide_eq_false h0]
   ·rw [l0 i hi]
 rw [h]
 split<;>decide +kernel

theorem stV_okS (D:DV) (x addr size:Int) (h:okD D.xs.length D.ys.length D.ir=true):(stV D x (sel addr size)).2=true→okD (stV D x (sel addr size)).1.xs.length (stV D x (sel addr size)).1.ys.length (stV D x (sel addr size)).1.ir=true:=by
 have hm:=bits_one x
 have e4:=stV_4 D x
 obtain ⟨q,hq⟩:∃ q,q=wrap64 (bits .and .u64 x 1):=⟨_,rfl⟩
 rw [← hq] at e4 hm
 clear hq
 refine sel_cases addr size (fun k=>(stV D x k).2=true→okD (stV D x k).1.xs.length (stV D x k).1.ys.length (stV D x k).1.ir=true) ?_ ?_ ?_ ?_ ?_ ?_ ?_
 ·intro _ _;rw [stV_0];exact fun _=>h
 ·intro _ _;rw [stV_1];exact fun _=>h
 ·intro _ _;rw [stV_2];exact fun _=>h
 ·intro _ _
  by_cases hl:D.ys.length < 4096
  ·rw [stV_3r D x hl]
   intro _
   unfold okD at h ⊢
   simp only [Bool.and_eq_true,decide_eq_true_eq,List.length_append,List.length_singleton] at h ⊢
   omega
  ·rw [stV_3f D x hl];exact fun _=>h
 ·intro _ _
  rw [e4]
  intro _
  unfold okD at h ⊢
  simp only [Bool.and_eq_true,decide_eq_true_eq] at h ⊢
  exact ⟨h.1,hm⟩
 ·intro _ _;rw [stV_5];exact fun _=>h
 ·intro _ _ _ _ _ _;rw [stV_6];intro hk;cases hk

end Go.Proofs.YtbajeckeeekhnaaGreat
