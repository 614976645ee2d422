/- Own lemmas. -/
import Derived.Test.YtkhofppmeoooaaaGreatDoorK09
namespace Go.Proofs.YtkhofppmeoooaaaGreatDoor
open Go.RowKit
set_option linter.unusedVariables false

set_option maxRecDepth 100000 in
set_option maxHeartbeats 1600000 in
theorem implDevStore_0 (D:DV) (a1:Option Addr) (c1:Nat) (a2:Option Addr) (c2:Nat) (x:Int) (w:World) (hn1:D.xs.length≤1048576) (hn2:D.ys.length≤1048576) (hb:bytesOk D) (hs1:Sl .u8 w a1 D.xs) (hs2:Sl .u8 w a2 D.ys) (hok:okD D.xs.length D.ys.length D.ir=true) :
 Calls Tryz.prog 135 #[.agg #[.int .u64 D.t,.int .u64 D.cm,.bool D.so,.slice a1 D.xs.length c1,.slice a2 D.ys.length c2,.int .i64 D.ir],.int .u64 33554432,.int .i64 4,.int .u64 x] w fun e w'=>∃ (b1:Option Addr) (d1:Nat) (b2:Option Addr) (d2:Nat),e=.returned (.tuple #[.agg (dvc (stV D x 0).1 b1 d1 b2 d2),.bool (stV D x 0).2]) ∧
  Fam w.heap.size w'.heap.size w' (dvF (stV D x 0).1 b1 d1 b2 d2)∧Below w.heap.size w w':=by
 have HOK:Hid (∀ w,Calls Tryz.prog 32 #[.agg #[.int .u64 D.t,.int .u64 D.cm,.bool D.so,.slice a1 D.xs.length c1,.slice a2 D.ys.length c2,.int .i64 D.ir]] w fun e w'=>e=.returned (.bool (okD D.xs.length D.ys.length D.ir))∧Below w.heap.size w w'):=fun w=>implDevOk_any _ _ _ _ _ _ _ _ _ _ w hn1 hn2
 have HCP:Hid (∀ w',Below w.heap.size w w'→Calls Tryz.prog 76 #[.agg #[.int .u64 D.t,.int .u64 D.cm,.bool D.so,.slice a1 D.xs.length c1,.slice a2 D.ys.length c2,.int .i64 D.ir]] w' fun e w''=>∃ (b1:Option Addr) (d1:Nat) (b2:Option Addr) (d2:Nat),e=.returned (.agg #[.int .u64 D.t,.int .u64 D.cm,.bool D.so,.slice b1 D.xs.length d1,.slice b2 D.ys.length d2,.int .i64 D.ir])∧Fam w'.heap.size w''.heap.size w'' (devF b1 D.xs.length d1 D.xs b2 D.ys.length d2 D.ys)∧Below w'.heap.size w' w''):=fun w' hb=>copied_any _ _ _ _ _ _ _ _ _ _ D.xs D.ys w' rfl rfl hn1 hn2 (hs1.below hb) (hs2.below hb)
 have HP:Hid (∀ w,Calls Tryz.prog 136 #[.int .u64 33554432,.int .i64 4] w fun e w'=>e=.returned (.bool true)∧w'=w):=isPort_0
 have HBT:Hid (∀ w,Calls Tryz.prog 28 #[.int .u64 x,.int .i64 0,.int .i64 1] w fun e w'=>e=.returned (.int .u64 (bits .and .u64 x 1))∧w'=w.drew):=implBit_8 x
 rw [hok] at HOK
 have e0:stV D x 0=(⟨D.t,D.cm,bits .and .u64 x 1==1,D.xs,D.ys,D.ir⟩,true):=by rw [stV]
 rw [e0]
 clear hs1 hs2 hn1 hn2 hb hok e0
 generalize bits .and .u64 x 1=q at *
 obtain ⟨t,cm,so,xs,ys,ir⟩:=D
 dsimp only [dvc,dvF] at HOK HCP ⊢
 generalize xs.length=n1 at *
 generalize ys.length=n2 at *
 go_enter Tryz.func135,Tryz.ntmps135
 go_wp2_with fail
 refine (HOK.out _).mono ?_
 rintro e w1 ⟨rfl,hb1⟩
 obtain ⟨r0,r1⟩:=rows2 hb1
 have R0:=dhid r0
 have R1:=dhid r1
 have B1:=dhid (below_trans belowi hb1)
 obtain ⟨p0,p1,p2,p3,p4,p5⟩:=cells6 r0
 clear r0 r1 hb1
 go_wp2_with fail
 refine (HP.out _).mono ?_
 rintro e v1 ⟨rfl,hv1⟩
 have hq:=hv1.symm
 subst hq
 go_wp2_with fail
 refine (HCP.out _ B1.out).mono ?_
 rintro e w2 ⟨b1,d1,b2,d2,rfl,fm2,hb2⟩
 have FM2:=dhid fm2
 have S0:=dhid (dstays hb2 R0.out)
 have S1:=dhid (dstays hb2 R1.out)
 have B2:=dhid (below_trans B1.out hb2)
 have Z1:=dhid (show w.heap.size+1 < w1.heap.size∧w1.heap.size≤w2.heap.size from ⟨(Array.getElem?_eq_some_iff.1 R1.out).1,hb2.size⟩)
 have nd1:¬ w2.heap.size=w.heap.size+1:=by have:=Z1.out;omega
 have nd2:¬ w.heap.size+1=w2.heap.size:=by have:=Z1.out;omega
 clear fm2 hb2 p0 p1 p2 p3 p4 p5
 have u0:=fun o=>(cells6 (row_al8 S0.out o)).1
 have u1:=fun o=>(cells6 (row_al8 S0.out o)).2.1
 have u2:=fun o=>(cells6 (row_al8 S0.out o)).2.2.1
 have u3:=fun o=>(cells6 (row_al8 S0.out o)).2.2.2.1
 have u4:=fun o=>(cells6 (row_al8 S0.out o)).2.2.2.2.1
 have u5:=fun o=>(cells6 (row_al8 S0.out o)).2.2.2.2.2
 have s0:=fun o=>(cells6 (row_al8 S1.out o)).1
 have s1:=fun o=>(cells6 (row_al8 S1.out o)).2.1
 have s2:=fun o=>(cells6 (row_al8 S1.out o)).2.2.1
 have s3:=fun o=>(cells6 (row_al8 S1.out o)).2.2.2.1
 have s4:=fun o=>(cells6 (row_al8 S1.out o)).2.2.2.2.1
 have s5:=fun o=>(cells6 (row_al8 S1.out o)).2.2.2.2.2
 have y0:=fun o=>froz (row_al8 S1.out o) 0
 have y1:=fun o=>froz (row_al8 S1.out o) 1
 have y2:=fun o=>froz (row_al8 S1.out o) 2
 have y3:=fun o=>froz (row_al8 S1.out o) 3
 have y4:=fun o=>froz (row_al8 S1.out o) 4
 have y5:=fun o=>froz (row_al8 S1.out o) 5
 go_wp2_with fail
 refine (HBT.out _).mono ?_
 rintro e v2 ⟨rfl,hv2⟩
 subst hv2
 go_wp2_with fail
 have ZZ:=Z1.out
 have RS:=row_al8 S1.out (.cells #[.int .u64 t,.int .u64 cm,.bool (q==1),.slice b1 n1 d1,.slice b2 n2 d2,.int .i64 ir] 27)
 have A4:=(FM2.out.below ((Below.refl _ _).alloc (Nat.le_refl _) (.cells #[.int .u64 t,.int .u64 cm,.bool (q==1),.slice b1 n1 d1,.slice b2 n2 d2,.int .i64 ir] 27))).put6 (w.heap.size+1) (.inl Z1.out.1) (.int .u64 t) (.int .u64 cm) (.bool (q==1)) (.slice b1 n1 d1) (.slice b2 n2 d2) (.int .i64 ir)
 have T1:=row_put6 (RS) (.int .u64 t) (.int .u64 cm) (.bool (q==1)) (.slice b1 n1 d1) (.slice b2 n2 d2) (.int .i64 ir)
 exact bodyPost_ret (results_ct8 Tryz.results135 _ _ _ _ _ _ _ rfl (row_drew8 T1) Tryz.underlying27 rfl dev_size) rfl ⟨b1,d1,b2,d2,rfl,(A4.below (Below.refl _ _).drew).low (by have:=Z1.out;omega) (by simp only [size_set,size_drew8,World.size_alloc];omega),(below_put6 (B2.out.alloc B2.out.size _) (by omega) _ _ _ _ _ _).drew⟩

set_option maxRecDepth 100000 in
set_option maxHeartbeats 1600000 in
theorem implDevStore_1 (D:DV) (a1:Option Addr) (c1:Nat) (a2:Option Addr) (c2:Nat) (x:Int) (w:World) (hn1:D.xs.length≤1048576) (hn2:D.ys.length≤1048576) (hb:bytesOk D) (hs1:Sl .u8 w a1 D.xs) (hs2:Sl .u8 w a2 D.ys) (hok:okD D.xs.length D.ys.length D.ir=true) :
 Calls Tryz.prog 135 #[.agg #[.int .u64 D.t,.int .u64 D.cm,.bool D.so,.slice a1 D.xs.length c1,.slice a2 D.ys.length c2,.int .i64 D.ir],.int .u64 33570816,.int .i64 8,.int .u64 x] w fun e w'=>∃ (b1:Option Addr) (d1:Nat) (b2:Option Addr) (d2:Nat),e=.returned (.tuple #[.agg (dvc (stV D x 1).1 b1 d1 b2 d2),.bool (stV D x 1).2]) ∧
  Fam w.heap.size w'.heap.size w' (dvF (stV D x 1).1 b1 d1 b2 d2)∧Below w.heap.size w w':=by
 have HOK:Hid (∀ w,Calls Tryz.prog 32 #[.agg #[.int .u64 D.t,.int .u64 D.cm,.bool D.so,.slice a1 D.xs.length c1,.slice a2 D.ys.length c2,.int .i64 D.ir]] w fun e w'=>e=.returned (.bool (okD D.xs.length D.ys.length D.ir))∧Below w.heap.size w w'):=fun w=>implDevOk_any _ _ _ _ _ _ _ _ _ _ w hn1 hn2
 have HCP:Hid (∀ w',Below w.heap.size w w'→Calls Tryz.prog 76 #[.agg #[.int .u64 D.t,.int .u64 D.cm,.bool D.so,.slice a1 D.xs.length c1,.slice a2 D.ys.length c2,.int .i64 D.ir]] w' fun e w''=>∃ (b1:Option Addr) (d1:Nat) (b2:Option Addr) (d2:Nat),e=.returned (.agg #[.int .u64 D.t,.int .u64 D.cm,.bool D.so,.slice b1 D.xs.length d1,.slice b2 D.ys.length d2,.int .i64 D.ir])∧Fam w'.heap.size w''.heap.size w'' (devF b1 D.xs.length d1 D.xs b2 D.ys.length d2 D.ys)∧Below w'.heap.size w' w''):=fun w' hb=>copied_any _ _ _ _ _ _ _ _ _ _ D.xs D.ys w' rfl rfl hn1 hn2 (hs1.below hb) (hs2.below hb)
 have HP:Hid (∀ w,Calls Tryz.prog 136 #[.int .u64 33570816,.int .i64 8] w fun e w'=>e=.returned (.bool true)∧w'=w):=isPort_1
 rw [hok] at HOK
 have ek:stV D x 1=(⟨D.t,x,D.so,D.xs,D.ys,D.ir⟩,true):=by rw [stV]
 rw [ek]
 clear hs1 hs2 hn1 hn2 hb hok ek
 obtain ⟨t,cm,so,xs,ys,ir⟩:=D
 dsimp only [dvc,dvF] at HOK HCP ⊢
 generalize xs.length=n1 at *
 generalize ys.length=n2 at *
 go_enter Tryz.func135,Tryz.ntmps135
 go_wp2_with fail
 refine (HOK.out _).mono ?_
 rintro e w1 ⟨rfl,hb1⟩
 obtain ⟨r0,r1⟩:=rows2 hb1
 have R0:=dhid r0
 have R1:=dhid r1
 have B1:=dhid (below_trans belowi hb1)
 obtain ⟨p0,p1,p2,p3,p4,p5⟩:=cells6 r0
 clear r0 r1 hb1
 go_wp2_with fail
 refine (HP.out _).mono ?_
 rintro e v1 ⟨rfl,hv1⟩
 have hq:=hv1.symm
 subst hq
 go_wp2_with fail
 refine (HCP.out _ B1.out).mono ?_
 rintro e w2 ⟨b1,d1,b2,d2,rfl,fm2,hb2⟩
 have FM2:=dhid fm2
 have S0:=dhid (dstays hb2 R0.out)
 have S1:=dhid (dstays hb2 R1.out)
 have B2:=dhid (below_trans B1.out hb2)
 have Z1:=dhid (show w.heap.size+1 < w1.heap.size∧w1.heap.size≤w2.heap.size from ⟨(Array.getElem?_eq_some_iff.1 R1.out).1,hb2.size⟩)
 have nd1:¬ w2.heap.size=w.heap.size+1:=by have:=Z1.out;omega
 have nd2:¬ w.heap.size+1=w2.heap.size:=by have:=Z1.out;omega
 clear fm2 hb2 p0 p1 p2 p3 p4 p5
 have u0:=fun o=>(cells6 (row_al8 S0.out o)).1
 have u1:=fun o=>(cells6 (row_al8 S0.out o)).2.1
 have u2:=fun o=>(cells6 (row_al8 S0.out o)).2.2.1
 have u3:=fun o=>(cells6 (row_al8 S0.out o)).2.2.2.1
 have u4:=fun o=>(cells6 (row_al8 S0.out o)).2.2.2.2.1
 have u5:=fun o=>(cells6 (row_al8 S0.out o)).2.2.2.2.2
 have s0:=fun o=>(cells6 (row_al8 S1.out o)).1
 have s1:=fun o=>(cells6 (row_al8 S1.out o)).2.1
 have s2:=fun o=>(cells6 (row_al8 S1.out o)).2.2.1
 have s3:=fun o=>(cells6 (row_al8 S1.out o)).2.2.2.1
 have s4:=fun o=>(cells6 (row_al8 S1.out o)).2.2.2.2.1
 have s5:=fun o=>(cells6 (row_al8 S1.out o)).2.2.2.2.2
 have y0:=fun o=>froz (row_al8 S1.out o) 0
 have y1:=fun o=>froz (row_al8 S1.out o) 1
 have y2:=fun o=>froz (row_al8 S1.out o) 2
 have y3:=fun o=>froz (row_al8 S1.out o) 3
 have y4:=fun o=>froz (row_al8 S1.out o) 4
 have y5:=fun o=>froz (row_al8 S1.out o) 5
 go_wp2_with fail
 have ZZ:=Z1.out
 have RS:=row_al8 S1.out (.cells #[.int .u64 t,.int .u64 x,.bool so,.slice b1 n1 d1,.slice b2 n2 d2,.int .i64 ir] 27)
 have A4:=(FM2.out.below ((Below.refl _ _).alloc (Nat.le_refl _) (.cells #[.int .u64 t,.int .u64 x,.bool so,.slice b1 n1 d1,.slice b2 n2 d2,.int .i64 ir] 27))).put6 (w.heap.size+1) (.inl Z1.out.1) (.int .u64 t) (.int .u64 x) (.bool so) (.slice b1 n1 d1) (.slice b2 n2 d2) (.int .i64 ir)
 have T1:=row_put6 (RS) (.int .u64 t) (.int .u64 x) (.bool so) (.slice b1 n1 d1) (.slice b2 n2 d2) (.int .i64 ir)
 exact bodyPost_ret (results_ct8 Tryz.results135 _ _ _ _ _ _ _ rfl T1 Tryz.underlying27 rfl dev_size) rfl ⟨b1,d1,b2,d2,rfl,A4.low (by have:=Z1.out;omega) (by simp only [size_set,World.size_alloc];omega),below_put6 (B2.out.alloc B2.out.size _) (by omega) _ _ _ _ _ _⟩

set_option maxRecDepth 100000 in
set_option maxHeartbeats 1600000 in
theorem implDevStore_2 (D:DV) (a1:Option Addr) (c1:Nat) (a2:Option Addr) (c2:Nat) (x:Int) (w:World) (hn1:D.xs.length≤1048576) (hn2:D.ys.length≤1048576) (hb:bytesOk D) (hs1:Sl .u8 w a1 D.xs) (hs2:Sl .u8 w a2 D.ys) (hok:okD D.xs.length D.ys.length D.ir=true) :
 Calls Tryz.prog 135 #[.agg #[.int .u64 D.t,.int .u64 D.cm,.bool D.so,.slice a1 D.xs.length c1,.slice a2 D.ys.length c2,.int .i64 D.ir],.int .u64 33603576,.int .i64 8,.int .u64 x] w fun e w'=>∃ (b1:Option Addr) (d1:Nat) (b2:Option Addr) (d2:Nat),e=.returned (.tuple #[.agg (dvc (stV D x 2).1 b1 d1 b2 d2),.bool (stV D x 2).2]) ∧
  Fam w.heap.size w'.heap.size w' (dvF (stV D x 2).1 b1 d1 b2 d2)∧Below w.heap.size w w':=by
 have HOK:Hid (∀ w,Calls Tryz.prog 32 #[.agg #[.int .u64 D.t,.int .u64 D.cm,.bool D.so,.slice a1 D.xs.length c1,.slice a2 D.ys.length c2,.int .i64 D.ir]] w fun e w'=>e=.returned (.bool (okD D.xs.length D.ys.length D.ir))∧Below w.heap.size w w'):=fun w=>implDevOk_any _ _ _ _ _ _ _ _ _ _ w hn1 hn2
 have HCP:Hid (∀ w',Below w.heap.size w w'→Calls Tryz.prog 76 #[.agg #[.int .u64 D.t,.int .u64 D.cm,.bool D.so,.slice a1 D.xs.length c1,.slice a2 D.ys.length c2,.int .i64 D.ir]] w' fun e w''=>∃ (b1:Option Addr) (d1:Nat) (b2:Option Addr) (d2:Nat),e=.returned (.agg #[.int .u64 D.t,.int .u64 D.cm,.bool D.so,.slice b1 D.xs.length d1,.slice b2 D.ys.length d2,.int .i64 D.ir])∧Fam w'.heap.size w''.heap.size w'' (devF b1 D.xs.length d1 D.xs b2 D.ys.length d2 D.ys)∧Below w'.heap.size w' w''):=fun w' hb=>copied_any _ _ _ _ _ _ _ _ _ _ D.xs D.ys w' rfl rfl hn1 hn2 (hs1.below hb) (hs2.below hb)
 have HP:Hid (∀ w,Calls Tryz.prog 136 #[.int .u64 33603576,.int .i64 8] w fun e w'=>e=.returned (.bool true)∧w'=w):=isPort_2
 rw [hok] at HOK
 have ek:stV D x 2=(⟨x,D.cm,D.so,D.xs,D.ys,D.ir⟩,true):=by rw [stV]
 rw [ek]
 clear hs1 hs2 hn1 hn2 hb hok ek
 obtain ⟨t,cm,so,xs,ys,ir⟩:=D
 dsimp only [dvc,dvF] at HOK HCP ⊢
 generalize xs.length=n1 at *
 generalize ys.length=n2 at *
 go_enter Tryz.func135,Tryz.ntmps135
 go_wp2_with fail
 refine (HOK.out _).mono ?_
 rintro e w1 ⟨rfl,hb1⟩
 obtain ⟨r0,r1⟩:=rows2 hb1
 have R0:=dhid r0
 have R1:=dhid r1
 have B1:=dhid (below_trans belowi hb1)
 obtain ⟨p0,p1,p2,p3,p4,p5⟩:=cells6 r0
 clear r0 r1 hb1
 go_wp2_with fail
 refine (HP.out _).mono ?_
 rintro e v1 ⟨rfl,hv1⟩
 have hq:=hv1.symm
 subst hq
 go_wp2_with fail
 refine (HCP.out _ B1.out).mono ?_
 rintro e w2 ⟨b1,d1,b2,d2,rfl,fm2,hb2⟩
 have FM2:=dhid fm2
 have S0:=dhid (dstays hb2 R0.out)
 have S1:=dhid (dstays hb2 R1.out)
 have B2:=dhid (below_trans B1.out hb2)
 have Z1:=dhid (show w.heap.size+1 < w1.heap.size∧w1.heap.size≤w2.heap.size from ⟨(Array.getElem?_eq_some_iff.1 R1.out).1,hb2.size⟩)
 have nd1:¬ w2.heap.size=w.heap.size+1:=by have:=Z1.out;omega
 have nd2:¬ w.heap.size+1=w2.heap.size:=by have:=Z1.out;omega
 clear fm2 hb2 p0 p1 p2 p3 p4 p5
 have u0:=fun o=>(cells6 (row_al8 S0.out o)).1
 have u1:=fun o=>(cells6 (row_al8 S0.out o)).2.1
 have u2:=fun o=>(cells6 (row_al8 S0.out o)).2.2.1
 have u3:=fun o=>(cells6 (row_al8 S0.out o)).2.2.2.1
 have u4:=fun o=>(cells6 (row_al8 S0.out o)).2.2.2.2.1
 have u5:=fun o=>(cells6 (row_al8 S0.out o)).2.2.2.2.2
 have s0:=fun o=>(cells6 (row_al8 S1.out o)).1
 have s1:=fun o=>(cells6 (row_al8 S1.out o)).2.1
 have s2:=fun o=>(cells6 (row_al8 S1.out o)).2.2.1
 have s3:=fun o=>(cells6 (row_al8 S1.out o)).2.2.2.1
 have s4:=fun o=>(cells6 (row_al8 S1.out o)).2.2.2.2.1
 have s5:=fun o=>(cells6 (row_al8 S1.out o)).2.2.2.2.2
 have y0:=fun o=>froz (row_al8 S1.out o) 0
 have y1:=fun o=>froz (row_al8 S1.out o) 1
 have y2:=fun o=>froz (row_al8 S1.out o) 2
 have y3:=fun o=>froz (row_al8 S1.out o) 3
 have y4:=fun o=>froz (row_al8 S1.out o) 4
 have y5:=fun o=>froz (row_al8 S1.out o) 5
 go_wp2_with fail
 have ZZ:=Z1.out
 have RS:=row_al8 S1.out (.cells #[.int .u64 x,.int .u64 cm,.bool so,.slice b1 n1 d1,.slice b2 n2 d2,.int .i64 ir] 27)
 have A4:=(FM2.out.below ((Below.refl _ _).alloc (Nat.le_refl _) (.cells #[.int .u64 x,.int .u64 cm,.bool so,.slice b1 n1 d1,.slice b2 n2 d2,.int .i64 ir] 27))).put6 (w.heap.size+1) (.inl Z1.out.1) (.int .u64 x) (.int .u64 cm) (.bool so) (.slice b1 n1 d1) (.slice b2 n2 d2) (.int .i64 ir)
 have T1:=row_put6 (RS) (.int .u64 x) (.int .u64 cm) (.bool so) (.slice b1 n1 d1) (.slice b2 n2 d2) (.int .i64 ir)
 exact bodyPost_ret (results_ct8 Tryz.results135 _ _ _ _ _ _ _ rfl T1 Tryz.underlying27 rfl dev_size) rfl ⟨b1,d1,b2,d2,rfl,A4.low (by have:=Z1.out;omega) (by simp only [size_set,World.size_alloc];omega),below_put6 (B2.out.alloc B2.out.size _) (by omega) _ _ _ _ _ _⟩

set_option maxRecDepth 100000 in
set_option maxHeartbeats 1600000 in
theorem implDevStore_3 (D:DV) (a1:Option Addr) (c1:Nat) (a2:Option Addr) (c2:Nat) (x:Int) (w:World) (hn1:D.xs.length≤1048576) (hn2:D.ys.length≤1048576) (hb:bytesOk D) (hs1:Sl .u8 w a1 D.xs) (hs2:Sl .u8 w a2 D.ys) (hok:okD D.xs.length D.ys.length D.ir=true) :
 Calls Tryz.prog 135 #[.agg #[.int .u64 D.t,.int .u64 D.cm,.bool D.so,.slice a1 D.xs.length c1,.slice a2 D.ys.length c2,.int .i64 D.ir],.int .u64 268435456,.int .i64 1,.int .u64 x] w fun e w'=>∃ (b1:Option Addr) (d1:Nat) (b2:Option Addr) (d2:Nat),e=.returned (.tuple #[.agg (dvc (stV D x 3).1 b1 d1 b2 d2),.bool (stV D x 3).2]) ∧
  Fam w.heap.size w'.heap.size w' (dvF (stV D x 3).1 b1 d1 b2 d2)∧Below w.heap.size w w':=by
 have HOK:Hid (∀ w,Calls Tryz.prog 32 #[.agg #[.int .u64 D.t,.int .u64 D.cm,.bool D.so,.slice a1 D.xs.length c1,.slice a2 D.ys.length c2,.int .i64 D.ir]] w fun e w'=>e=.returned (.bool (okD D.xs.length D.ys.length D.ir))∧Below w.heap.size w w'):=fun w=>implDevOk_any _ _ _ _ _ _ _ _ _ _ w hn1 hn2
 have HCP:Hid (∀ w',Below w.heap.size w w'→Calls Tryz.prog 76 #[.agg #[.int .u64 D.t,.int .u64 D.cm,.bool D.so,.slice a1 D.xs.length c1,.slice a2 D.ys.length c2,.int .i64 D.ir]] w' fun e w''=>∃ (b1:Option Addr) (d1:Nat) (b2:Option Addr) (d2:Nat),e=.returned (.agg #[.int .u64 D.t,.int .u64 D.cm,.bool D.so,.slice b1 D.xs.length d1,.slice b2 D.ys.length d2,.int .i64 D.ir])∧Fam w'.heap.size w''.heap.size w'' (devF b1 D.xs.length d1 D.xs b2 D.ys.length d2 D.ys)∧Below w'.heap.size w' w''):=fun w' hb=>copied_any _ _ _ _ _ _ _ _ _ _ D.xs D.ys w' rfl rfl hn1 hn2 (hs1.below hb) (hs2.below hb)
 have HP:Hid (∀ w,Calls Tryz.prog 136 #[.int .u64 268435456,.int .i64 1] w fun e w'=>e=.returned (.bool true)∧w'=w):=isPort_3
 have HW:Hid (∀ w',Below w.heap.size w w'→Calls Tryz.prog 142 #[.slice a2 D.ys.length c2,.int .u8 (IntKind.u8.wrap x),.int .i64 4096] w' fun e w''=>∃ (a':Option Addr) (c':Nat),e=.returned (.slice a' (behind D.ys (IntKind.u8.wrap x) 4096).length c')∧w''.ownsRow w'.heap.size 5 1 (.slice a' (behind D.ys (IntKind.u8.wrap x) 4096).length c') (behind D.ys (IntKind.u8.wrap x) 4096).length ((behind D.ys (IntKind.u8.wrap x) 4096).map (Value.int .u8))∧Below w'.heap.size w' w''):=fun w' hb=>withBehind_any a2 _ c2 4096 D.ys (IntKind.u8.wrap x) w' rfl (by omega) (okD_bdi hok).2.1 (hs2.below hb)
 rw [hok] at HOK
 have e3:stV D x 3=(⟨D.t,D.cm,D.so,D.xs,behind D.ys (IntKind.u8.wrap x) 4096,D.ir⟩,true):=by rw [stV];rfl
 rw [e3]
 clear hs1 hs2 hn1 hn2 hb hok e3
 generalize behind D.ys (IntKind.u8.wrap x) 4096=zs at *
 obtain ⟨t,cm,so,xs,ys,ir⟩:=D
 dsimp only [dvc,dvF] at HOK HCP HW ⊢
 generalize hm:zs.length=m at *
 generalize xs.length=n1 at *
 generalize ys.length=n2 at *
 go_enter Tryz.func135,Tryz.ntmps135
 go_wp2_with fail
 refine (HOK.out _).mono ?_
 rintro e w1 ⟨rfl,hb1⟩
 obtain ⟨r0,r1⟩:=rows2 hb1
 have R0:=dhid r0
 have R1:=dhid r1
 have B1:=dhid (below_trans belowi hb1)
 obtain ⟨p0,p1,p2,p3,p4,p5⟩:=cells6 r0
 clear r0 r1 hb1
 go_wp2_with fail
 refine (HP.out _).mono ?_
 rintro e v1 ⟨rfl,hv1⟩
 have hq:=hv1.symm
 subst hq
 go_wp2_with fail
 refine (HCP.out _ B1.out).mono ?_
 rintro e w2 ⟨b1,d1,b2,d2,rfl,fm2,hb2⟩
 have FM2:=dhid fm2
 have S0:=dhid (dstays hb2 R0.out)
 have S1:=dhid (dstays hb2 R1.out)
 have B2:=dhid (below_trans B1.out hb2)
 have Z1:=dhid (show w.heap.size+1 < w1.heap.size∧w1.heap.size≤w2.heap.size from ⟨(Array.getElem?_eq_some_iff.1 R1.out).1,hb2.size⟩)
 have nd1:¬ w2.heap.size=w.heap.size+1:=by have:=Z1.out;omega
 have nd2:¬ w.heap.size+1=w2.heap.size:=by have:=Z1.out;omega
 clear fm2 hb2 p0 p1 p2 p3 p4 p5
 have u0:=fun o=>(cells6 (row_al8 S0.out o)).1
 have u1:=fun o=>(cells6 (row_al8 S0.out o)).2.1
 have u2:=fun o=>(cells6 (row_al8 S0.out o)).2.2.1
 have u3:=fun o=>(cells6 (row_al8 S0.out o)).2.2.2.1
 have u4:=fun o=>(cells6 (row_al8 S0.out o)).2.2.2.2.1
 have u5:=fun o=>(cells6 (row_al8 S0.out o)).2.2.2.2.2
 have s0:=fun o=>(cells6 (row_al8 S1.out o)).1
 have s1:=fun o=>(cells6 (row_al8 S1.out o)).2.1
 have s2:=fun o=>(cells6 (row_al8 S1.out o)).2.2.1
 have s3:=fun o=>(cells6 (row_al8 S1.out o)).2.2.2.1
 have s4:=fun o=>(cells6 (row_al8 S1.out o)).2.2.2.2.1
 have s5:=fun o=>(cells6 (row_al8 S1.out o)).2.2.2.2.2
 have y0:=fun o=>froz (row_al8 S1.out o) 0
 have y1:=fun o=>froz (row_al8 S1.out o) 1
 have y2:=fun o=>froz (row_al8 S1.out o) 2
 have y3:=fun o=>froz (row_al8 S1.out o) 3
 have y4:=fun o=>froz (row_al8 S1.out o) 4
 have y5:=fun o=>froz (row_al8 S1.out o) 5
 go_wp2_with fail
 refine (HW.out _ (B2.out.alloc B2.out.size _)).mono ?_
 rintro e w3 ⟨a',c',rfl,ow3,hb3⟩
 have OW:=dhid ow3
 have V5:=dhid (dstays hb3 (heap_alloc_new w2 _))
 have V1:=dhid (dstays hb3 (row_al8 S1.out _))
 have B3:=dhid (below_trans (B2.out.alloc B2.out.size _) hb3)
 have FM3:=dhid ((FM2.out.below ((Below.refl _ _).alloc (Nat.le_refl _) _)).below hb3)
 have Z3:=dhid (show w2.heap.size < w3.heap.size from (Array.getElem?_eq_some_iff.1 V5.out).1)
 obtain ⟨x0,x1,x2,x3,x4,x5⟩:=cells6 V5.out
 obtain ⟨f0,f1,f2,f3,f4,f5⟩:=froz6 V5.out
 clear u0 s0 y0 u1 s1 y1 u2 s2 y2 u3 s3 y3 u4 s4 y4 u5 s5 y5
 obtain ⟨s0,s1,s2,s3,s4,s5⟩:=cells6 V1.out
 obtain ⟨y0,y1,y2,y3,y4,y5⟩:=froz6 V1.out
 clear ow3 hb3
 go_wp2_with fail
 have OW2:=own_setNe OW.out ⟨w2.heap.size,4,none⟩ (.slice a' m c') (by simp only [World.size_alloc];omega)
 have ZZ:=Z3.out
 have A4:=((FM3.out.set ⟨w2.heap.size,4,none⟩ (.slice a' m c') (.inr (Nat.le_refl _))).newOut a' m c' zs _ w3.heap.size OW2 (by simp only [World.size_alloc];omega) (by have:=Z1.out;simp only [World.size_alloc];omega) (by rw [size_set];exact Nat.le_refl _) (by have:=Z3.out;omega)).put6 (w.heap.size+1) (.inl Z1.out.1) (.int .u64 t) (.int .u64 cm) (.bool so) (.slice b1 n1 d1) (.slice a' m c') (.int .i64 ir)
 have T1:=row_put6 (row_far V1.out ⟨w2.heap.size,4,none⟩ (.slice a' m c') nd2) (.int .u64 t) (.int .u64 cm) (.bool so) (.slice b1 n1 d1) (.slice a' m c') (.int .i64 ir)
 exact bodyPost_ret (results_ct8 Tryz.results135 _ _ _ _ _ _ _ rfl T1 Tryz.underlying27 rfl dev_size) rfl ⟨b1,d1,a',c',rfl,A4.low (by have:=Z1.out;omega) (by simp only [size_set];omega),below_put6 (B3.out.setCell (p:=⟨w2.heap.size,4,none⟩) (by have:=Z1.out;dsimp only;omega) _) (by omega) _ _ _ _ _ _⟩

set_option maxRecDepth 100000 in
set_option maxHeartbeats 1600000 in
theorem implDevStore_4 (D:DV) (a1:Option Addr) (c1:Nat) (a2:Option Addr) (c2:Nat) (x:Int) (w:World) (hn1:D.xs.length≤1048576) (hn2:D.ys.length≤1048576) (hb:bytesOk D) (hs1:Sl .u8 w a1 D.xs) (hs2:Sl .u8 w a2 D.ys) (hok:okD D.xs.length D.ys.length D.ir=true) :
 Calls Tryz.prog 135 #[.agg #[.int .u64 D.t,.int .u64 D.cm,.bool D.so,.slice a1 D.xs.length c1,.slice a2 D.ys.length c2,.int .i64 D.ir],.int .u64 268435457,.int .i64 1,.int .u64 x] w fun e w'=>∃ (b1:Option Addr) (d1:Nat) (b2:Option Addr) (d2:Nat),e=.returned (.tuple #[.agg (dvc (stV D x 4).1 b1 d1 b2 d2),.bool (stV D x 4).2]) ∧
  Fam w.heap.size w'.heap.size w' (dvF (stV D x 4).1 b1 d1 b2 d2)∧Below w.heap.size w w':=by
 have HOK:Hid (∀ w,Calls Tryz.prog 32 #[.agg #[.int .u64 D.t,.int .u64 D.cm,.bool D.so,.slice a1 D.xs.length c1,.slice a2 D.ys.length c2,.int .i64 D.ir]] w fun e w'=>e=.returned (.bool (okD D.xs.length D.ys.length D.ir))∧Below w.heap.size w w'):=fun w=>implDevOk_any _ _ _ _ _ _ _ _ _ _ w hn1 hn2
 have HCP:Hid (∀ w',Below w.heap.size w w'→Calls Tryz.prog 76 #[.agg #[.int .u64 D.t,.int .u64 D.cm,.bool D.so,.slice a1 D.xs.length c1,.slice a2 D.ys.length c2,.int .i64 D.ir]] w' fun e w''=>∃ (b1:Option Addr) (d1:Nat) (b2:Option Addr) (d2:Nat),e=.returned (.agg #[.int .u64 D.t,.int .u64 D.cm,.bool D.so,.slice b1 D.xs.length d1,.slice b2 D.ys.length d2,.int .i64 D.ir])∧Fam w'.heap.size w''.heap.size w'' (devF b1 D.xs.length d1 D.xs b2 D.ys.length d2 D.ys)∧Below w'.heap.size w' w''):=fun w' hb=>copied_any _ _ _ _ _ _ _ _ _ _ D.xs D.ys w' rfl rfl hn1 hn2 (hs1.below hb) (hs2.below hb)
 have HP:Hid (∀ w,Calls Tryz.prog 136 #[.int .u64 268435457,.int .i64 1] w fun e w'=>e=.returned (.bool true)∧w'=w):=isPort_4
 have HBT:Hid (∀ w,Calls Tryz.prog 28 #[.int .u64 x,.int .i64 0,.int .i64 1] w fun e w'=>e=.returned (.int .u64 (bits .and .u64 x 1))∧w'=w.drew):=implBit_8 x
 rw [hok] at HOK
 have e4:stV D x 4=(⟨D.t,D.cm,D.so,D.xs,D.ys,wrap64 (bits .and .u64 x 1)⟩,true):=by rw [stV]
 rw [e4]
 clear hs1 hs2 hn1 hn2 hb hok e4
 generalize bits .and .u64 x 1=q at *
 obtain ⟨q2,hq2⟩:∃ q2,q2=wrap64 q:=⟨_,rfl⟩
 rw [← hq2]
 have HQ:=dhid hq2
 clear hq2
 obtain ⟨t,cm,so,xs,ys,ir⟩:=D
 dsimp only [dvc,dvF] at HOK HCP ⊢
 generalize xs.length=n1 at *
 generalize ys.length=n2 at *
 go_enter Tryz.func135,Tryz.ntmps135
 go_wp2_with fail
 refine (HOK.out _).mono ?_
 rintro e w1 ⟨rfl,hb1⟩
 obtain ⟨r0,r1⟩:=rows2 hb1
 have R0:=dhid r0
 have R1:=dhid r1
 have B1:=dhid (below_trans belowi hb1)
 obtain ⟨p0,p1,p2,p3,p4,p5⟩:=cells6 r0
 clear r0 r1 hb1
 go_wp2_with fail
 refine (HP.out _).mono ?_
 rintro e v1 ⟨rfl,hv1⟩
 have hq:=hv1.symm
 subst hq
 go_wp2_with fail
 refine (HCP.out _ B1.out).mono ?_
 rintro e w2 ⟨b1,d1,b2,d2,rfl,fm2,hb2⟩
 have FM2:=dhid fm2
 have S0:=dhid (dstays hb2 R0.out)
 have S1:=dhid (dstays hb2 R1.out)
 have B2:=dhid (below_trans B1.out hb2)
 have Z1:=dhid (show w.heap.size+1 < w1.heap.size∧w1.heap.size≤w2.heap.size from ⟨(Array.getElem?_eq_some_iff.1 R1.out).1,hb2.size⟩)
 have nd1:¬ w2.heap.size=w.heap.size+1:=by have:=Z1.out;omega
 have nd2:¬ w.heap.size+1=w2.heap.size:=by have:=Z1.out;omega
 clear fm2 hb2 p0 p1 p2 p3 p4 p5
 have u0:=fun o=>(cells6 (row_al8 S0.out o)).1
 have u1:=fun o=>(cells6 (row_al8 S0.out o)).2.1
 have u2:=fun o=>(cells6 (row_al8 S0.out o)).2.2.1
 have u3:=fun o=>(cells6 (row_al8 S0.out o)).2.2.2.1
 have u4:=fun o=>(cells6 (row_al8 S0.out o)).2.2.2.2.1
 have u5:=fun o=>(cells6 (row_al8 S0.out o)).2.2.2.2.2
 have s0:=fun o=>(cells6 (row_al8 S1.out o)).1
 have s1:=fun o=>(cells6 (row_al8 S1.out o)).2.1
 have s2:=fun o=>(cells6 (row_al8 S1.out o)).2.2.1
 have s3:=fun o=>(cells6 (row_al8 S1.out o)).2.2.2.1
 have s4:=fun o=>(cells6 (row_al8 S1.out o)).2.2.2.2.1
 have s5:=fun o=>(cells6 (row_al8 S1.out o)).2.2.2.2.2
 have y0:=fun o=>froz (row_al8 S1.out o) 0
 have y1:=fun o=>froz (row_al8 S1.out o) 1
 have y2:=fun o=>froz (row_al8 S1.out o) 2
 have y3:=fun o=>froz (row_al8 S1.out o) 3
 have y4:=fun o=>froz (row_al8 S1.out o) 4
 have y5:=fun o=>froz (row_al8 S1.out o) 5
 go_wp2_with fail
 refine (HBT.out _).mono ?_
 rintro e v2 ⟨rfl,hv2⟩
 subst hv2
 go_wp2_with fail
 rw [← HQ.out]
 have ZZ:=Z1.out
 have RS:=row_al8 S1.out (.cells #[.int .u64 t,.int .u64 cm,.bool so,.slice b1 n1 d1,.slice b2 n2 d2,.int .i64 q2] 27)
 have A4:=(FM2.out.below ((Below.refl _ _).alloc (Nat.le_refl _) (.cells #[.int .u64 t,.int .u64 cm,.bool so,.slice b1 n1 d1,.slice b2 n2 d2,.int .i64 q2] 27))).put6 (w.heap.size+1) (.inl Z1.out.1) (.int .u64 t) (.int .u64 cm) (.bool so) (.slice b1 n1 d1) (.slice b2 n2 d2) (.int .i64 q2)
 have T1:=row_put6 (RS) (.int .u64 t) (.int .u64 cm) (.bool so) (.slice b1 n1 d1) (.slice b2 n2 d2) (.int .i64 q2)
 exact bodyPost_ret (results_ct8 Tryz.results135 _ _ _ _ _ _ _ rfl (row_drew8 T1) Tryz.underlying27 rfl dev_size) rfl ⟨b1,d1,b2,d2,rfl,(A4.below (Below.refl _ _).drew).low (by have:=Z1.out;omega) (by simp only [size_set,size_drew8,World.size_alloc];omega),(below_put6 (B2.out.alloc B2.out.size _) (by omega) _ _ _ _ _ _).drew⟩

set_option maxRecDepth 100000 in
set_option maxHeartbeats 1600000 in
theorem implDevStore_5 (D:DV) (a1:Option Addr) (c1:Nat) (a2:Option Addr) (c2:Nat) (x:Int) (w:World) (hn1:D.xs.length≤1048576) (hn2:D.ys.length≤1048576) (hb:bytesOk D) (hs1:Sl .u8 w a1 D.xs) (hs2:Sl .u8 w a2 D.ys) (hok:okD D.xs.length D.ys.length D.ir=true) :
 Calls Tryz.prog 135 #[.agg #[.int .u64 D.t,.int .u64 D.cm,.bool D.so,.slice a1 D.xs.length c1,.slice a2 D.ys.length c2,.int .i64 D.ir],.int .u64 268435461,.int .i64 1,.int .u64 x] w fun e w'=>∃ (b1:Option Addr) (d1:Nat) (b2:Option Addr) (d2:Nat),e=.returned (.tuple #[.agg (dvc (stV D x 5).1 b1 d1 b2 d2),.bool (stV D x 5).2]) ∧
  Fam w.heap.size w'.heap.size w' (dvF (stV D x 5).1 b1 d1 b2 d2)∧Below w.heap.size w w':=by
 have HOK:Hid (∀ w,Calls Tryz.prog 32 #[.agg #[.int .u64 D.t,.int .u64 D.cm,.bool D.so,.slice a1 D.xs.length c1,.slice a2 D.ys.length c2,.int .i64 D.ir]] w fun e w'=>e=.returned (.bool (okD D.xs.length D.ys.length D.ir))∧Below w.heap.size w w'):=fun w=>implDevOk_any _ _ _ _ _ _ _ _ _ _ w hn1 hn2
 have HCP:Hid (∀ w',Below w.heap.size w w'→Calls Tryz.prog 76 #[.agg #[.int .u64 D.t,.int .u64 D.cm,.bool D.so,.slice a1 D.xs.length c1,.slice a2 D.ys.length c2,.int .i64 D.ir]] w' fun e w''=>∃ (b1:Option Addr) (d1:Nat) (b2:Option Addr) (d2:Nat),e=.returned (.agg #[.int .u64 D.t,.int .u64 D.cm,.bool D.so,.slice b1 D.xs.length d1,.slice b2 D.ys.length d2,.int .i64 D.ir])∧Fam w'.heap.size w''.heap.size w'' (devF b1 D.xs.length d1 D.xs b2 D.ys.length d2 D.ys)∧Below w'.heap.size w' w''):=fun w' hb=>copied_any _ _ _ _ _ _ _ _ _ _ D.xs D.ys w' rfl rfl hn1 hn2 (hs1.below hb) (hs2.below hb)
 have HP:Hid (∀ w,Calls Tryz.prog 136 #[.int .u64 268435461,.int .i64 1] w fun e w'=>e=.returned (.bool true)∧w'=w):=isPort_5
 rw [hok] at HOK
 have ek:stV D x 5=(D,true):=by rw [stV]
 rw [ek]
 clear hs1 hs2 hn1 hn2 hb hok ek
 obtain ⟨t,cm,so,xs,ys,ir⟩:=D
 dsimp only [dvc,dvF] at HOK HCP ⊢
 generalize xs.length=n1 at *
 generalize ys.length=n2 at *
 go_enter Tryz.func135,Tryz.ntmps135
 go_wp2_with fail
 refine (HOK.out _).mono ?_
 rintro e w1 ⟨rfl,hb1⟩
 obtain ⟨r0,r1⟩:=rows2 hb1
 have R0:=dhid r0
 have R1:=dhid r1
 have B1:=dhid (below_trans belowi hb1)
 obtain ⟨p0,p1,p2,p3,p4,p5⟩:=cells6 r0
 clear r0 r1 hb1
 go_wp2_with fail
 refine (HP.out _).mono ?_
 rintro e v1 ⟨rfl,hv1⟩
 have hq:=hv1.symm
 subst hq
 go_wp2_with fail
 refine (HCP.out _ B1.out).mono ?_
 rintro e w2 ⟨b1,d1,b2,d2,rfl,fm2,hb2⟩
 have FM2:=dhid fm2
 have S0:=dhid (dstays hb2 R0.out)
 have S1:=dhid (dstays hb2 R1.out)
 have B2:=dhid (below_trans B1.out hb2)
 have Z1:=dhid (show w.heap.size+1 < w1.heap.size∧w1.heap.size≤w2.heap.size from ⟨(Array.getElem?_eq_some_iff.1 R1.out).1,hb2.size⟩)
 have nd1:¬ w2.heap.size=w.heap.size+1:=by have:=Z1.out;omega
 have nd2:¬ w.heap.size+1=w2.heap.size:=by have:=Z1.out;omega
 clear fm2 hb2 p0 p1 p2 p3 p4 p5
 have u0:=fun o=>(cells6 (row_al8 S0.out o)).1
 have u1:=fun o=>(cells6 (row_al8 S0.out o)).2.1
 have u2:=fun o=>(cells6 (row_al8 S0.out o)).2.2.1
 have u3:=fun o=>(cells6 (row_al8 S0.out o)).2.2.2.1
 have u4:=fun o=>(cells6 (row_al8 S0.out o)).2.2.2.2.1
 have u5:=fun o=>(cells6 (row_al8 S0.out o)).2.2.2.2.2
 have s0:=fun o=>(cells6 (row_al8 S1.out o)).1
 have s1:=fun o=>(cells6 (row_al8 S1.out o)).2.1
 have s2:=fun o=>(cells6 (row_al8 S1.out o)).2.2.1
 have s3:=fun o=>(cells6 (row_al8 S1.out o)).2.2.2.1
 have s4:=fun o=>(cells6 (row_al8 S1.out o)).2.2.2.2.1
 have s5:=fun o=>(cells6 (row_al8 S1.out o)).2.2.2.2.2
 have y0:=fun o=>froz (row_al8 S1.out o) 0
 have y1:=fun o=>froz (row_al8 S1.out o) 1
 have y2:=fun o=>froz (row_al8 S1.out o) 2
 have y3:=fun o=>froz (row_al8 S1.out o) 3
 have y4:=fun o=>froz (row_al8 S1.out o) 4
 have y5:=fun o=>froz (row_al8 S1.out o) 5
 go_wp2_with fail
 have ZZ:=Z1.out
 have RS:=row_al8 S1.out (.cells #[.int .u64 t,.int .u64 cm,.bool so,.slice b1 n1 d1,.slice b2 n2 d2,.int .i64 ir] 27)
 have A4:=(FM2.out.below ((Below.refl _ _).alloc (Nat.le_refl _) (.cells #[.int .u64 t,.int .u64 cm,.bool so,.slice b1 n1 d1,.slice b2 n2 d2,.int .i64 ir] 27))).put6 (w.heap.size+1) (.inl Z1.out.1) (.int .u64 t) (.int .u64 cm) (.bool so) (.slice b1 n1 d1) (.slice b2 n2 d2) (.int .i64 ir)
 have T1:=row_put6 (RS) (.int .u64 t) (.int .u64 cm) (.bool so) (.slice b1 n1 d1) (.slice b2 n2 d2) (.int .i64 ir)
 exact bodyPost_ret (results_ct8 Tryz.results135 _ _ _ _ _ _ _ rfl T1 Tryz.underlying27 rfl dev_size) rfl ⟨b1,d1,b2,d2,rfl,A4.low (by have:=Z1.out;omega) (by simp only [size_set,World.size_alloc];omega),below_put6 (B2.out.alloc B2.out.size _) (by omega) _ _ _ _ _ _⟩

set_option maxRecDepth 100000 in
set_option maxHeartbeats 1600000 in
theorem implDevStore_any (D:DV) (a1:Option Addr) (c1:Nat) (a2:Option Addr) (c2:Nat) (addr size x:Int) (w:World) (hn1:D.xs.length≤1048576) (hn2:D.ys.length≤1048576) (hb:bytesOk D) (hs1:Sl .u8 w a1 D.xs) (hs2:Sl .u8 w a2 D.ys) :
 Calls Tryz.prog 135 #[.agg #[.int .u64 D.t,.int .u64 D.cm,.bool D.so,.slice a1 D.xs.length c1,.slice a2 D.ys.length c2,.int .i64 D.ir],.int .u64 addr,.int .i64 size,.int .u64 x] w fun e w'=>∃ (b1:Option Addr) (d1:Nat) (b2:Option Addr) (d2:Nat),e=.returned (.tuple #[.agg (dvc (storeD D addr size x).1 b1 d1 b2 d2),.bool (storeD D addr size x).2]) ∧
  Fam w.heap.size w'.heap.size w' (dvF (storeD D addr size x).1 b1 d1 b2 d2)∧Below w.heap.size w w':=by
 have HOK:Hid (∀ w,Calls Tryz.prog 32 #[.agg #[.int .u64 D.t,.int .u64 D.cm,.bool D.so,.slice a1 D.xs.length c1,.slice a2 D.ys.length c2,.int .i64 D.ir]] w fun e w'=>e=.returned (.bool (okD D.xs.length D.ys.length D.ir))∧Below w.heap.size w w'):=fun w=>implDevOk_any _ _ _ _ _ _ _ _ _ _ w hn1 hn2
 cases hok:okD D.xs.length D.ys.length D.ir with
 | false =>
  have F:storeD D addr size x=(zeroD,false):=by unfold storeD;rw [hok];rfl
  rw [F]
  rw [hok] at HOK
  clear hs1 hs2 hb hn1 hn2 F hok
  obtain ⟨t,cm,so,xs,ys,ir⟩:=D
  dsimp only [dvc,dvF] at HOK ⊢
  generalize xs.length=n1 at *
  generalize ys.length=n2 at *
  go_enter Tryz.func135,Tryz.ntmps135
  go_wp2_with fail
  refine (HOK.out _).mono ?_
  rintro e w1 ⟨rfl,hb1⟩
  obtain ⟨r0,r1⟩:=rows2 hb1
  have R0:=dhid r0
  have R1:=dhid r1
  have B1:=dhid (below_trans belowi hb1)
  obtain ⟨s0,s1,s2,s3,s4,s5⟩:=cells6 r1
  obtain ⟨y0,y1,y2,y3,y4,y5⟩:=froz6 r1
  clear r0 r1 hb1
  go_wp2_with fail
  exact bodyPost_ret (results_ct8 Tryz.results135 _ _ _ _ _ _ _ rfl (row_put6 R1.out _ _ _ _ _ _) Tryz.underlying27 rfl dev_size) rfl ⟨none,0,none,0,rfl,fam_zero _ _ _,below_put6 B1.out (by omega) _ _ _ _ _ _⟩
 | true =>
  have F:storeD D addr size x=stV D x (sel addr size):=by unfold storeD;rw [hok];rfl
  rw [F]
  refine sel_cases addr size (fun k=>Calls Tryz.prog 135 #[.agg #[.int .u64 D.t,.int .u64 D.cm,.bool D.so,.slice a1 D.xs.length c1,.slice a2 D.ys.length c2,.int .i64 D.ir],.int .u64 addr,.int .i64 size,.int .u64 x] w fun e w'=>∃ (b1:Option Addr) (d1:Nat) (b2:Option Addr) (d2:Nat),e=.returned (.tuple #[.agg (dvc (stV D x k).1 b1 d1 b2 d2),.bool (stV D x k).2]) ∧
   Fam w.heap.size w'.heap.size w' (dvF (stV D x k).1 b1 d1 b2 d2)∧Below w.heap.size w w') ?_ ?_ ?_ ?_ ?_ ?_ ?_
  ·rintro rfl rfl
   exact implDevStore_0 D a1 c1 a2 c2 x w hn1 hn2 hb hs1 hs2 hok
  ·rintro rfl rfl
   exact implDevStore_1 D a1 c1 a2 c2 x w hn1 hn2 hb hs1 hs2 hok
  ·rintro rfl rfl
   exact implDevStore_2 D a1 c1 a2 c2 x w hn1 hn2 hb hs1 hs2 hok
  ·rintro rfl rfl
   exact implDevStore_3 D a1 c1 a2 c2 x w hn1 hn2 hb hs1 hs2 hok
  ·rintro rfl rfl
   exact implDevStore_4 D a1 c1 a2 c2 x w hn1 hn2 hb hs1 hs2 hok
  ·rintro rfl rfl
   exact implDevStore_5 D a1 c1 a2 c2 x w hn1 hn2 hb hs1 hs2 hok
  ·intro k0 k1 k2 k3 k4 k5
   have HP:Hid (∀ w,Calls Tryz.prog 136 #[.int .u64 addr,.int .i64 size] w fun e w'=>e=.returned (.bool false)∧w'=w):=isPort_6 addr size k0 k1 k2 k3 k4 k5
   have e6:stV D x 6=(zeroD,false):=by rw [stV]<;>omega
   rw [e6]
   rw [hok] at HOK
   clear hs1 hs2 hb hn1 hn2 F hok e6 k0 k1 k2 k3 k4 k5
   obtain ⟨t,cm,so,xs,ys,ir⟩:=D
   dsimp only [dvc,dvF] at HOK ⊢
   generalize xs.length=n1 at *
   generalize ys.length=n2 at *
   go_enter Tryz.func135,Tryz.ntmps135
   go_wp2_with fail
   refine (HOK.out _).mono ?_
   rintro e w1 ⟨rfl,hb1⟩
   obtain ⟨r0,r1⟩:=rows2 hb1
   have R0:=dhid r0
   have R1:=dhid r1
   have B1:=dhid (below_trans belowi hb1)
   obtain ⟨p0,p1,p2,p3,p4,p5⟩:=cells6 r0
   obtain ⟨s0,s1,s2,s3,s4,s5⟩:=cells6 r1
   obtain ⟨y0,y1,y2,y3,y4,y5⟩:=froz6 r1
   clear r0 r1 hb1
   go_wp2_with fail
   refine (HP.out _).mono ?_
   rintro e v1 ⟨rfl,hv1⟩
   have hq:=hv1.symm
   subst hq
   go_wp2_with fail
   exact bodyPost_ret (results_ct8 Tryz.results135 _ _ _ _ _ _ _ rfl (row_put6 R1.out _ _ _ _ _ _) Tryz.underlying27 rfl dev_size) rfl ⟨none,0,none,0,rfl,fam_zero _ _ _,below_put6 B1.out (by omega) _ _ _ _ _ _⟩

end Go.Proofs.YtkhofppmeoooaaaGreatDoor
