/- Own lemmas. -/
import Derived.Test.YtkhofppmeoooaaaGreatDoorK09
namespace Go.Proofs.YtkhofppmeoooaaaGreatDoor
open Go.RowKit
set_option linter.unusedVariables false

set_option maxRecDepth 100000 in
set_option maxHeartbeats 1600000 in
theorem implDevLoad_0 (D:DV) (a1:Option Addr) (c1:Nat) (a2:Option Addr) (c2:Nat) (w:World) (hn1:D.xs.length≤1048576) (hn2:D.ys.length≤1048576) (hb:bytesOk D) (hs1:Sl .u8 w a1 D.xs) (hs2:Sl .u8 w a2 D.ys) (hok:okD D.xs.length D.ys.length D.ir=true) :
 Calls Tryz.prog 119 #[.agg #[.int .u64 D.t,.int .u64 D.cm,.bool D.so,.slice a1 D.xs.length c1,.slice a2 D.ys.length c2,.int .i64 D.ir],.int .u64 33554432,.int .i64 4] w fun e w'=>∃ (b1:Option Addr) (d1:Nat) (b2:Option Addr) (d2:Nat),e=.returned (.tuple #[.int .u64 (ldV D 0).1,.agg (dvc (ldV D 0).2.1 b1 d1 b2 d2),.bool (ldV D 0).2.2]) ∧
  Fam w.heap.size w'.heap.size w' (dvF (ldV D 0).2.1 b1 d1 b2 d2)∧Below w.heap.size w w':=by
 have HOK:Hid (∀ w,Calls Tryz.prog 32 #[.agg #[.int .u64 D.t,.int .u64 D.cm,.bool D.so,.slice a1 D.xs.length c1,.slice a2 D.ys.length c2,.int .i64 D.ir]] w fun e w'=>e=.returned (.bool (okD D.xs.length D.ys.length D.ir))∧Below w.heap.size w w'):=fun w=>implDevOk_any _ _ _ _ _ _ _ _ _ _ w hn1 hn2
 have HCP:Hid (∀ w',Below w.heap.size w w'→Calls Tryz.prog 76 #[.agg #[.int .u64 D.t,.int .u64 D.cm,.bool D.so,.slice a1 D.xs.length c1,.slice a2 D.ys.length c2,.int .i64 D.ir]] w' fun e w''=>∃ (b1:Option Addr) (d1:Nat) (b2:Option Addr) (d2:Nat),e=.returned (.agg #[.int .u64 D.t,.int .u64 D.cm,.bool D.so,.slice b1 D.xs.length d1,.slice b2 D.ys.length d2,.int .i64 D.ir])∧Fam w'.heap.size w''.heap.size w'' (devF b1 D.xs.length d1 D.xs b2 D.ys.length d2 D.ys)∧Below w'.heap.size w' w''):=fun w' hb=>copied_any _ _ _ _ _ _ _ _ _ _ D.xs D.ys w' rfl rfl hn1 hn2 (hs1.below hb) (hs2.below hb)
 have HP:Hid (∀ w,Calls Tryz.prog 136 #[.int .u64 33554432,.int .i64 4] w fun e w'=>e=.returned (.bool true)∧w'=w):=isPort_0
 have HT:Hid (∀ w,Calls Tryz.prog 138 #[.agg #[.int .u64 D.t,.int .u64 D.cm,.bool D.so,.slice a1 D.xs.length c1,.slice a2 D.ys.length c2,.int .i64 D.ir],.int .u64 33554432] w fun e w'=>e=.returned (.int .u64 (oneIf D.so))∧Below w.heap.size w w'):=fun w=>told_0 _ _ _ _ _ _ _ _ _ _ w
 rw [hok] at HOK
 simp only [ldV]
 clear hs1 hs2 hn1 hn2 hb hok
 obtain ⟨t,cm,so,xs,ys,ir⟩:=D
 dsimp only [dvc,dvF] at HOK HCP HT ⊢
 generalize xs.length=n1 at *
 generalize ys.length=n2 at *
 generalize (oneIf so)=v at *
 go_enter Tryz.func119,Tryz.ntmps119
 go_wp2_with fail
 refine (HOK.out _).mono ?_
 rintro e w1 ⟨rfl,hb1⟩
 obtain ⟨r0,r1⟩:=rows2 hb1
 have R0:=dhid r0
 have R1:=dhid r1
 have B1:=dhid (below_trans belowi hb1)
 obtain ⟨p0,p1,p2,p3,p4,p5⟩:=cells6 r0
 clear r0 r1 hb1
 go_wp2_with fail
 refine (HP.out _).mono ?_
 rintro e v1 ⟨rfl,hv1⟩
 have hq:=hv1.symm
 subst hq
 go_wp2_with fail
 refine (HCP.out _ B1.out).mono ?_
 rintro e w2 ⟨b1,d1,b2,d2,rfl,fm2,hb2⟩
 have FM2:=dhid fm2
 have S0:=dhid (dstays hb2 R0.out)
 have S1:=dhid (dstays hb2 R1.out)
 have B2:=dhid (below_trans B1.out hb2)
 have Z1:=dhid (show w.heap.size+1 < w1.heap.size∧w1.heap.size≤w2.heap.size from ⟨(Array.getElem?_eq_some_iff.1 R1.out).1,hb2.size⟩)
 have nd1:¬ w2.heap.size=w.heap.size+1:=by have:=Z1.out;omega
 have nd2:¬ w.heap.size+1=w2.heap.size:=by have:=Z1.out;omega
 clear fm2 hb2 p0 p1 p2 p3 p4 p5
 have u0:=fun o=>(cells6 (row_al8 S0.out o)).1
 have u1:=fun o=>(cells6 (row_al8 S0.out o)).2.1
 have u2:=fun o=>(cells6 (row_al8 S0.out o)).2.2.1
 have u3:=fun o=>(cells6 (row_al8 S0.out o)).2.2.2.1
 have u4:=fun o=>(cells6 (row_al8 S0.out o)).2.2.2.2.1
 have u5:=fun o=>(cells6 (row_al8 S0.out o)).2.2.2.2.2
 have s0:=fun o=>(cells6 (row_al8 S1.out o)).1
 have s1:=fun o=>(cells6 (row_al8 S1.out o)).2.1
 have s2:=fun o=>(cells6 (row_al8 S1.out o)).2.2.1
 have s3:=fun o=>(cells6 (row_al8 S1.out o)).2.2.2.1
 have s4:=fun o=>(cells6 (row_al8 S1.out o)).2.2.2.2.1
 have s5:=fun o=>(cells6 (row_al8 S1.out o)).2.2.2.2.2
 have y0:=fun o=>froz (row_al8 S1.out o) 0
 have y1:=fun o=>froz (row_al8 S1.out o) 1
 have y2:=fun o=>froz (row_al8 S1.out o) 2
 have y3:=fun o=>froz (row_al8 S1.out o) 3
 have y4:=fun o=>froz (row_al8 S1.out o) 4
 have y5:=fun o=>froz (row_al8 S1.out o) 5
 go_wp2_with fail
 go_region_with (first | (go_at_call 138;with_reducible refine (HT.out _).mono ?_;rintro e w3 ⟨rfl,hb3⟩;have V5:=dhid (dstays hb3 (heap_alloc_new w2 _));have V1:=dhid (dstays hb3 (row_al8 S1.out _));have B3:=dhid (below_trans (B2.out.alloc B2.out.size _).drew hb3);have FM3:=dhid ((FM2.out.below ((Below.refl _ _).alloc (Nat.le_refl _) _).drew).below hb3);have Z3:=dhid (show w2.heap.size < w3.heap.size from (Array.getElem?_eq_some_iff.1 V5.out).1);obtain ⟨x0,x1,x2,x3,x4,x5⟩:=cells6 V5.out;obtain ⟨f0,f1,f2,f3,f4,f5⟩:=froz6 V5.out;clear u0 s0 y0 u1 s1 y1 u2 s2 y2 u3 s3 y3 u4 s4 y4 u5 s5 y5;obtain ⟨s0,s1,s2,s3,s4,s5⟩:=cells6 V1.out;obtain ⟨y0,y1,y2,y3,y4,y5⟩:=froz6 V1.out;clear hb3))
 all_goals go_wp2_with fail
 all_goals exact bodyPost_ret (results_tct8 Tryz.results119 _ _ _ _ _ _ _ rfl (row_put6 V1.out _ _ _ _ _ _) Tryz.underlying27 rfl dev_size) rfl ⟨b1,d1,b2,d2,rfl,(FM3.out.put6 (w.heap.size+1) (.inl Z1.out.1) _ _ _ _ _ _).low (by have:=Z1.out;omega) (by have:=Z3.out;simp only [size_set];omega),below_put6 B3.out (by omega) _ _ _ _ _ _⟩

set_option maxRecDepth 100000 in
set_option maxHeartbeats 1600000 in
theorem implDevLoad_1 (D:DV) (a1:Option Addr) (c1:Nat) (a2:Option Addr) (c2:Nat) (w:World) (hn1:D.xs.length≤1048576) (hn2:D.ys.length≤1048576) (hb:bytesOk D) (hs1:Sl .u8 w a1 D.xs) (hs2:Sl .u8 w a2 D.ys) (hok:okD D.xs.length D.ys.length D.ir=true) :
 Calls Tryz.prog 119 #[.agg #[.int .u64 D.t,.int .u64 D.cm,.bool D.so,.slice a1 D.xs.length c1,.slice a2 D.ys.length c2,.int .i64 D.ir],.int .u64 33570816,.int .i64 8] w fun e w'=>∃ (b1:Option Addr) (d1:Nat) (b2:Option Addr) (d2:Nat),e=.returned (.tuple #[.int .u64 (ldV D 1).1,.agg (dvc (ldV D 1).2.1 b1 d1 b2 d2),.bool (ldV D 1).2.2]) ∧
  Fam w.heap.size w'.heap.size w' (dvF (ldV D 1).2.1 b1 d1 b2 d2)∧Below w.heap.size w w':=by
 have HOK:Hid (∀ w,Calls Tryz.prog 32 #[.agg #[.int .u64 D.t,.int .u64 D.cm,.bool D.so,.slice a1 D.xs.length c1,.slice a2 D.ys.length c2,.int .i64 D.ir]] w fun e w'=>e=.returned (.bool (okD D.xs.length D.ys.length D.ir))∧Below w.heap.size w w'):=fun w=>implDevOk_any _ _ _ _ _ _ _ _ _ _ w hn1 hn2
 have HCP:Hid (∀ w',Below w.heap.size w w'→Calls Tryz.prog 76 #[.agg #[.int .u64 D.t,.int .u64 D.cm,.bool D.so,.slice a1 D.xs.length c1,.slice a2 D.ys.length c2,.int .i64 D.ir]] w' fun e w''=>∃ (b1:Option Addr) (d1:Nat) (b2:Option Addr) (d2:Nat),e=.returned (.agg #[.int .u64 D.t,.int .u64 D.cm,.bool D.so,.slice b1 D.xs.length d1,.slice b2 D.ys.length d2,.int .i64 D.ir])∧Fam w'.heap.size w''.heap.size w'' (devF b1 D.xs.length d1 D.xs b2 D.ys.length d2 D.ys)∧Below w'.heap.size w' w''):=fun w' hb=>copied_any _ _ _ _ _ _ _ _ _ _ D.xs D.ys w' rfl rfl hn1 hn2 (hs1.below hb) (hs2.below hb)
 have HP:Hid (∀ w,Calls Tryz.prog 136 #[.int .u64 33570816,.int .i64 8] w fun e w'=>e=.returned (.bool true)∧w'=w):=isPort_1
 have HT:Hid (∀ w,Calls Tryz.prog 138 #[.agg #[.int .u64 D.t,.int .u64 D.cm,.bool D.so,.slice a1 D.xs.length c1,.slice a2 D.ys.length c2,.int .i64 D.ir],.int .u64 33570816] w fun e w'=>e=.returned (.int .u64 D.cm)∧Below w.heap.size w w'):=fun w=>told_1 _ _ _ _ _ _ _ _ _ _ w
 rw [hok] at HOK
 simp only [ldV]
 clear hs1 hs2 hn1 hn2 hb hok
 obtain ⟨t,cm,so,xs,ys,ir⟩:=D
 dsimp only [dvc,dvF] at HOK HCP HT ⊢
 generalize xs.length=n1 at *
 generalize ys.length=n2 at *
 go_enter Tryz.func119,Tryz.ntmps119
 go_wp2_with fail
 refine (HOK.out _).mono ?_
 rintro e w1 ⟨rfl,hb1⟩
 obtain ⟨r0,r1⟩:=rows2 hb1
 have R0:=dhid r0
 have R1:=dhid r1
 have B1:=dhid (below_trans belowi hb1)
 obtain ⟨p0,p1,p2,p3,p4,p5⟩:=cells6 r0
 clear r0 r1 hb1
 go_wp2_with fail
 refine (HP.out _).mono ?_
 rintro e v1 ⟨rfl,hv1⟩
 have hq:=hv1.symm
 subst hq
 go_wp2_with fail
 refine (HCP.out _ B1.out).mono ?_
 rintro e w2 ⟨b1,d1,b2,d2,rfl,fm2,hb2⟩
 have FM2:=dhid fm2
 have S0:=dhid (dstays hb2 R0.out)
 have S1:=dhid (dstays hb2 R1.out)
 have B2:=dhid (below_trans B1.out hb2)
 have Z1:=dhid (show w.heap.size+1 < w1.heap.size∧w1.heap.size≤w2.heap.size from ⟨(Array.getElem?_eq_some_iff.1 R1.out).1,hb2.size⟩)
 have nd1:¬ w2.heap.size=w.heap.size+1:=by have:=Z1.out;omega
 have nd2:¬ w.heap.size+1=w2.heap.size:=by have:=Z1.out;omega
 clear fm2 hb2 p0 p1 p2 p3 p4 p5
 have u0:=fun o=>(cells6 (row_al8 S0.out o)).1
 have u1:=fun o=>(cells6 (row_al8 S0.out o)).2.1
 have u2:=fun o=>(cells6 (row_al8 S0.out o)).2.2.1
 have u3:=fun o=>(cells6 (row_al8 S0.out o)).2.2.2.1
 have u4:=fun o=>(cells6 (row_al8 S0.out o)).2.2.2.2.1
 have u5:=fun o=>(cells6 (row_al8 S0.out o)).2.2.2.2.2
 have s0:=fun o=>(cells6 (row_al8 S1.out o)).1
 have s1:=fun o=>(cells6 (row_al8 S1.out o)).2.1
 have s2:=fun o=>(cells6 (row_al8 S1.out o)).2.2.1
 have s3:=fun o=>(cells6 (row_al8 S1.out o)).2.2.2.1
 have s4:=fun o=>(cells6 (row_al8 S1.out o)).2.2.2.2.1
 have s5:=fun o=>(cells6 (row_al8 S1.out o)).2.2.2.2.2
 have y0:=fun o=>froz (row_al8 S1.out o) 0
 have y1:=fun o=>froz (row_al8 S1.out o) 1
 have y2:=fun o=>froz (row_al8 S1.out o) 2
 have y3:=fun o=>froz (row_al8 S1.out o) 3
 have y4:=fun o=>froz (row_al8 S1.out o) 4
 have y5:=fun o=>froz (row_al8 S1.out o) 5
 go_wp2_with fail
 go_region_with (first | (go_at_call 138;with_reducible refine (HT.out _).mono ?_;rintro e w3 ⟨rfl,hb3⟩;have V5:=dhid (dstays hb3 (heap_alloc_new w2 _));have V1:=dhid (dstays hb3 (row_al8 S1.out _));have B3:=dhid (below_trans (B2.out.alloc B2.out.size _).drew hb3);have FM3:=dhid ((FM2.out.below ((Below.refl _ _).alloc (Nat.le_refl _) _).drew).below hb3);have Z3:=dhid (show w2.heap.size < w3.heap.size from (Array.getElem?_eq_some_iff.1 V5.out).1);obtain ⟨x0,x1,x2,x3,x4,x5⟩:=cells6 V5.out;obtain ⟨f0,f1,f2,f3,f4,f5⟩:=froz6 V5.out;clear u0 s0 y0 u1 s1 y1 u2 s2 y2 u3 s3 y3 u4 s4 y4 u5 s5 y5;obtain ⟨s0,s1,s2,s3,s4,s5⟩:=cells6 V1.out;obtain ⟨y0,y1,y2,y3,y4,y5⟩:=froz6 V1.out;clear hb3))
 all_goals go_wp2_with fail
 all_goals exact bodyPost_ret (results_tct8 Tryz.results119 _ _ _ _ _ _ _ rfl (row_put6 V1.out _ _ _ _ _ _) Tryz.underlying27 rfl dev_size) rfl ⟨b1,d1,b2,d2,rfl,(FM3.out.put6 (w.heap.size+1) (.inl Z1.out.1) _ _ _ _ _ _).low (by have:=Z1.out;omega) (by have:=Z3.out;simp only [size_set];omega),below_put6 B3.out (by omega) _ _ _ _ _ _⟩

set_option maxRecDepth 100000 in
set_option maxHeartbeats 1600000 in
theorem implDevLoad_2 (D:DV) (a1:Option Addr) (c1:Nat) (a2:Option Addr) (c2:Nat) (w:World) (hn1:D.xs.length≤1048576) (hn2:D.ys.length≤1048576) (hb:bytesOk D) (hs1:Sl .u8 w a1 D.xs) (hs2:Sl .u8 w a2 D.ys) (hok:okD D.xs.length D.ys.length D.ir=true) :
 Calls Tryz.prog 119 #[.agg #[.int .u64 D.t,.int .u64 D.cm,.bool D.so,.slice a1 D.xs.length c1,.slice a2 D.ys.length c2,.int .i64 D.ir],.int .u64 33603576,.int .i64 8] w fun e w'=>∃ (b1:Option Addr) (d1:Nat) (b2:Option Addr) (d2:Nat),e=.returned (.tuple #[.int .u64 (ldV D 2).1,.agg (dvc (ldV D 2).2.1 b1 d1 b2 d2),.bool (ldV D 2).2.2]) ∧
  Fam w.heap.size w'.heap.size w' (dvF (ldV D 2).2.1 b1 d1 b2 d2)∧Below w.heap.size w w':=by
 have HOK:Hid (∀ w,Calls Tryz.prog 32 #[.agg #[.int .u64 D.t,.int .u64 D.cm,.bool D.so,.slice a1 D.xs.length c1,.slice a2 D.ys.length c2,.int .i64 D.ir]] w fun e w'=>e=.returned (.bool (okD D.xs.length D.ys.length D.ir))∧Below w.heap.size w w'):=fun w=>implDevOk_any _ _ _ _ _ _ _ _ _ _ w hn1 hn2
 have HCP:Hid (∀ w',Below w.heap.size w w'→Calls Tryz.prog 76 #[.agg #[.int .u64 D.t,.int .u64 D.cm,.bool D.so,.slice a1 D.xs.length c1,.slice a2 D.ys.length c2,.int .i64 D.ir]] w' fun e w''=>∃ (b1:Option Addr) (d1:Nat) (b2:Option Addr) (d2:Nat),e=.returned (.agg #[.int .u64 D.t,.int .u64 D.cm,.bool D.so,.slice b1 D.xs.length d1,.slice b2 D.ys.length d2,.int .i64 D.ir])∧Fam w'.heap.size w''.heap.size w'' (devF b1 D.xs.length d1 D.xs b2 D.ys.length d2 D.ys)∧Below w'.heap.size w' w''):=fun w' hb=>copied_any _ _ _ _ _ _ _ _ _ _ D.xs D.ys w' rfl rfl hn1 hn2 (hs1.below hb) (hs2.below hb)
 have HP:Hid (∀ w,Calls Tryz.prog 136 #[.int .u64 33603576,.int .i64 8] w fun e w'=>e=.returned (.bool true)∧w'=w):=isPort_2
 have HT:Hid (∀ w,Calls Tryz.prog 138 #[.agg #[.int .u64 D.t,.int .u64 D.cm,.bool D.so,.slice a1 D.xs.length c1,.slice a2 D.ys.length c2,.int .i64 D.ir],.int .u64 33603576] w fun e w'=>e=.returned (.int .u64 D.t)∧Below w.heap.size w w'):=fun w=>told_2 _ _ _ _ _ _ _ _ _ _ w
 rw [hok] at HOK
 simp only [ldV]
 clear hs1 hs2 hn1 hn2 hb hok
 obtain ⟨t,cm,so,xs,ys,ir⟩:=D
 dsimp only [dvc,dvF] at HOK HCP HT ⊢
 generalize xs.length=n1 at *
 generalize ys.length=n2 at *
 go_enter Tryz.func119,Tryz.ntmps119
 go_wp2_with fail
 refine (HOK.out _).mono ?_
 rintro e w1 ⟨rfl,hb1⟩
 obtain ⟨r0,r1⟩:=rows2 hb1
 have R0:=dhid r0
 have R1:=dhid r1
 have B1:=dhid (below_trans belowi hb1)
 obtain ⟨p0,p1,p2,p3,p4,p5⟩:=cells6 r0
 clear r0 r1 hb1
 go_wp2_with fail
 refine (HP.out _).mono ?_
 rintro e v1 ⟨rfl,hv1⟩
 have hq:=hv1.symm
 subst hq
 go_wp2_with fail
 refine (HCP.out _ B1.out).mono ?_
 rintro e w2 ⟨b1,d1,b2,d2,rfl,fm2,hb2⟩
 have FM2:=dhid fm2
 have S0:=dhid (dstays hb2 R0.out)
 have S1:=dhid (dstays hb2 R1.out)
 have B2:=dhid (below_trans B1.out hb2)
 have Z1:=dhid (show w.heap.size+1 < w1.heap.size∧w1.heap.size≤w2.heap.size from ⟨(Array.getElem?_eq_some_iff.1 R1.out).1,hb2.size⟩)
 have nd1:¬ w2.heap.size=w.heap.size+1:=by have:=Z1.out;omega
 have nd2:¬ w.heap.size+1=w2.heap.size:=by have:=Z1.out;omega
 clear fm2 hb2 p0 p1 p2 p3 p4 p5
 have u0:=fun o=>(cells6 (row_al8 S0.out o)).1
 have u1:=fun o=>(cells6 (row_al8 S0.out o)).2.1
 have u2:=fun o=>(cells6 (row_al8 S0.out o)).2.2.1
 have u3:=fun o=>(cells6 (row_al8 S0.out o)).2.2.2.1
 have u4:=fun o=>(cells6 (row_al8 S0.out o)).2.2.2.2.1
 have u5:=fun o=>(cells6 (row_al8 S0.out o)).2.2.2.2.2
 have s0:=fun o=>(cells6 (row_al8 S1.out o)).1
 have s1:=fun o=>(cells6 (row_al8 S1.out o)).2.1
 have s2:=fun o=>(cells6 (row_al8 S1.out o)).2.2.1
 have s3:=fun o=>(cells6 (row_al8 S1.out o)).2.2.2.1
 have s4:=fun o=>(cells6 (row_al8 S1.out o)).2.2.2.2.1
 have s5:=fun o=>(cells6 (row_al8 S1.out o)).2.2.2.2.2
 have y0:=fun o=>froz (row_al8 S1.out o) 0
 have y1:=fun o=>froz (row_al8 S1.out o) 1
 have y2:=fun o=>froz (row_al8 S1.out o) 2
 have y3:=fun o=>froz (row_al8 S1.out o) 3
 have y4:=fun o=>froz (row_al8 S1.out o) 4
 have y5:=fun o=>froz (row_al8 S1.out o) 5
 go_wp2_with fail
 go_region_with (first | (go_at_call 138;with_reducible refine (HT.out _).mono ?_;rintro e w3 ⟨rfl,hb3⟩;have V5:=dhid (dstays hb3 (heap_alloc_new w2 _));have V1:=dhid (dstays hb3 (row_al8 S1.out _));have B3:=dhid (below_trans (B2.out.alloc B2.out.size _).drew hb3);have FM3:=dhid ((FM2.out.below ((Below.refl _ _).alloc (Nat.le_refl _) _).drew).below hb3);have Z3:=dhid (show w2.heap.size < w3.heap.size from (Array.getElem?_eq_some_iff.1 V5.out).1);obtain ⟨x0,x1,x2,x3,x4,x5⟩:=cells6 V5.out;obtain ⟨f0,f1,f2,f3,f4,f5⟩:=froz6 V5.out;clear u0 s0 y0 u1 s1 y1 u2 s2 y2 u3 s3 y3 u4 s4 y4 u5 s5 y5;obtain ⟨s0,s1,s2,s3,s4,s5⟩:=cells6 V1.out;obtain ⟨y0,y1,y2,y3,y4,y5⟩:=froz6 V1.out;clear hb3))
 all_goals go_wp2_with fail
 all_goals exact bodyPost_ret (results_tct8 Tryz.results119 _ _ _ _ _ _ _ rfl (row_put6 V1.out _ _ _ _ _ _) Tryz.underlying27 rfl dev_size) rfl ⟨b1,d1,b2,d2,rfl,(FM3.out.put6 (w.heap.size+1) (.inl Z1.out.1) _ _ _ _ _ _).low (by have:=Z1.out;omega) (by have:=Z3.out;simp only [size_set];omega),below_put6 B3.out (by omega) _ _ _ _ _ _⟩

set_option maxRecDepth 100000 in
set_option maxHeartbeats 1600000 in
theorem implDevLoad_4 (D:DV) (a1:Option Addr) (c1:Nat) (a2:Option Addr) (c2:Nat) (w:World) (hn1:D.xs.length≤1048576) (hn2:D.ys.length≤1048576) (hb:bytesOk D) (hs1:Sl .u8 w a1 D.xs) (hs2:Sl .u8 w a2 D.ys) (hok:okD D.xs.length D.ys.length D.ir=true) :
 Calls Tryz.prog 119 #[.agg #[.int .u64 D.t,.int .u64 D.cm,.bool D.so,.slice a1 D.xs.length c1,.slice a2 D.ys.length c2,.int .i64 D.ir],.int .u64 268435457,.int .i64 1] w fun e w'=>∃ (b1:Option Addr) (d1:Nat) (b2:Option Addr) (d2:Nat),e=.returned (.tuple #[.int .u64 (ldV D 4).1,.agg (dvc (ldV D 4).2.1 b1 d1 b2 d2),.bool (ldV D 4).2.2]) ∧
  Fam w.heap.size w'.heap.size w' (dvF (ldV D 4).2.1 b1 d1 b2 d2)∧Below w.heap.size w w':=by
 have HOK:Hid (∀ w,Calls Tryz.prog 32 #[.agg #[.int .u64 D.t,.int .u64 D.cm,.bool D.so,.slice a1 D.xs.length c1,.slice a2 D.ys.length c2,.int .i64 D.ir]] w fun e w'=>e=.returned (.bool (okD D.xs.length D.ys.length D.ir))∧Below w.heap.size w w'):=fun w=>implDevOk_any _ _ _ _ _ _ _ _ _ _ w hn1 hn2
 have HCP:Hid (∀ w',Below w.heap.size w w'→Calls Tryz.prog 76 #[.agg #[.int .u64 D.t,.int .u64 D.cm,.bool D.so,.slice a1 D.xs.length c1,.slice a2 D.ys.length c2,.int .i64 D.ir]] w' fun e w''=>∃ (b1:Option Addr) (d1:Nat) (b2:Option Addr) (d2:Nat),e=.returned (.agg #[.int .u64 D.t,.int .u64 D.cm,.bool D.so,.slice b1 D.xs.length d1,.slice b2 D.ys.length d2,.int .i64 D.ir])∧Fam w'.heap.size w''.heap.size w'' (devF b1 D.xs.length d1 D.xs b2 D.ys.length d2 D.ys)∧Below w'.heap.size w' w''):=fun w' hb=>copied_any _ _ _ _ _ _ _ _ _ _ D.xs D.ys w' rfl rfl hn1 hn2 (hs1.below hb) (hs2.below hb)
 have HP:Hid (∀ w,Calls Tryz.prog 136 #[.int .u64 268435457,.int .i64 1] w fun e w'=>e=.returned (.bool true)∧w'=w):=isPort_4
 have HT:Hid (∀ w,Calls Tryz.prog 138 #[.agg #[.int .u64 D.t,.int .u64 D.cm,.bool D.so,.slice a1 D.xs.length c1,.slice a2 D.ys.length c2,.int .i64 D.ir],.int .u64 268435457] w fun e w'=>e=.returned (.int .u64 (IntKind.u64.wrap D.ir))∧Below w.heap.size w w'):=fun w=>told_4 _ _ _ _ _ _ _ _ _ _ w
 rw [hok] at HOK
 simp only [ldV]
 clear hs1 hs2 hn1 hn2 hb hok
 obtain ⟨t,cm,so,xs,ys,ir⟩:=D
 dsimp only [dvc,dvF] at HOK HCP HT ⊢
 generalize xs.length=n1 at *
 generalize ys.length=n2 at *
 generalize (IntKind.u64.wrap ir)=v at *
 go_enter Tryz.func119,Tryz.ntmps119
 go_wp2_with fail
 refine (HOK.out _).mono ?_
 rintro e w1 ⟨rfl,hb1⟩
 obtain ⟨r0,r1⟩:=rows2 hb1
 have R0:=dhid r0
 have R1:=dhid r1
 have B1:=dhid (below_trans belowi hb1)
 obtain ⟨p0,p1,p2,p3,p4,p5⟩:=cells6 r0
 clear r0 r1 hb1
 go_wp2_with fail
 refine (HP.out _).mono ?_
 rintro e v1 ⟨rfl,hv1⟩
 have hq:=hv1.symm
 subst hq
 go_wp2_with fail
 refine (HCP.out _ B1.out).mono ?_
 rintro e w2 ⟨b1,d1,b2,d2,rfl,fm2,hb2⟩
 have FM2:=dhid fm2
 have S0:=dhid (dstays hb2 R0.out)
 have S1:=dhid (dstays hb2 R1.out)
 have B2:=dhid (below_trans B1.out hb2)
 have Z1:=dhid (show w.heap.size+1 < w1.heap.size∧w1.heap.size≤w2.heap.size from ⟨(Array.getElem?_eq_some_iff.1 R1.out).1,hb2.size⟩)
 have nd1:¬ w2.heap.size=w.heap.size+1:=by have:=Z1.out;omega
 have nd2:¬ w.heap.size+1=w2.heap.size:=by have:=Z1.out;omega
 clear fm2 hb2 p0 p1 p2 p3 p4 p5
 have u0:=fun o=>(cells6 (row_al8 S0.out o)).1
 have u1:=fun o=>(cells6 (row_al8 S0.out o)).2.1
 have u2:=fun o=>(cells6 (row_al8 S0.out o)).2.2.1
 have u3:=fun o=>(cells6 (row_al8 S0.out o)).2.2.2.1
 have u4:=fun o=>(cells6 (row_al8 S0.out o)).2.2.2.2.1
 have u5:=fun o=>(cells6 (row_al8 S0.out o)).2.2.2.2.2
 have s0:=fun o=>(cells6 (row_al8 S1.out o)).1
 have s1:=fun o=>(cells6 (row_al8 S1.out o)).2.1
 have s2:=fun o=>(cells6 (row_al8 S1.out o)).2.2.1
 have s3:=fun o=>(cells6 (row_al8 S1.out o)).2.2.2.1
 have s4:=fun o=>(cells6 (row_al8 S1.out o)).2.2.2.2.1
 have s5:=fun o=>(cells6 (row_al8 S1.out o)).2.2.2.2.2
 have y0:=fun o=>froz (row_al8 S1.out o) 0
 have y1:=fun o=>froz (row_al8 S1.out o) 1
 have y2:=fun o=>froz (row_al8 S1.out o) 2
 have y3:=fun o=>froz (row_al8 S1.out o) 3
 have y4:=fun o=>froz (row_al8 S1.out o) 4
 have y5:=fun o=>froz (row_al8 S1.out o) 5
 go_wp2_with fail
 go_region_with (first | (go_at_call 138;with_reducible refine (HT.out _).mono ?_;rintro e w3 ⟨rfl,hb3⟩;have V5:=dhid (dstays hb3 (heap_alloc_new w2 _));have V1:=dhid (dstays hb3 (row_al8 S1.out _));have B3:=dhid (below_trans (B2.out.alloc B2.out.size _).drew hb3);have FM3:=dhid ((FM2.out.below ((Below.refl _ _).alloc (Nat.le_refl _) _).drew).below hb3);have Z3:=dhid (show w2.heap.size < w3.heap.size from (Array.getElem?_eq_some_iff.1 V5.out).1);obtain ⟨x0,x1,x2,x3,x4,x5⟩:=cells6 V5.out;obtain ⟨f0,f1,f2,f3,f4,f5⟩:=froz6 V5.out;clear u0 s0 y0 u1 s1 y1 u2 s2 y2 u3 s3 y3 u4 s4 y4 u5 s5 y5;obtain ⟨s0,s1,s2,s3,s4,s5⟩:=cells6 V1.out;obtain ⟨y0,y1,y2,y3,y4,y5⟩:=froz6 V1.out;clear hb3))
 all_goals go_wp2_with fail
 all_goals exact bodyPost_ret (results_tct8 Tryz.results119 _ _ _ _ _ _ _ rfl (row_put6 V1.out _ _ _ _ _ _) Tryz.underlying27 rfl dev_size) rfl ⟨b1,d1,b2,d2,rfl,(FM3.out.put6 (w.heap.size+1) (.inl Z1.out.1) _ _ _ _ _ _).low (by have:=Z1.out;omega) (by have:=Z3.out;simp only [size_set];omega),below_put6 B3.out (by omega) _ _ _ _ _ _⟩

set_option maxRecDepth 100000 in
set_option maxHeartbeats 1600000 in
theorem implDevLoad_5 (D:DV) (a1:Option Addr) (c1:Nat) (a2:Option Addr) (c2:Nat) (w:World) (hn1:D.xs.length≤1048576) (hn2:D.ys.length≤1048576) (hb:bytesOk D) (hs1:Sl .u8 w a1 D.xs) (hs2:Sl .u8 w a2 D.ys) (hok:okD D.xs.length D.ys.length D.ir=true) :
 Calls Tryz.prog 119 #[.agg #[.int .u64 D.t,.int .u64 D.cm,.bool D.so,.slice a1 D.xs.length c1,.slice a2 D.ys.length c2,.int .i64 D.ir],.int .u64 268435461,.int .i64 1] w fun e w'=>∃ (b1:Option Addr) (d1:Nat) (b2:Option Addr) (d2:Nat),e=.returned (.tuple #[.int .u64 (ldV D 5).1,.agg (dvc (ldV D 5).2.1 b1 d1 b2 d2),.bool (ldV D 5).2.2]) ∧
  Fam w.heap.size w'.heap.size w' (dvF (ldV D 5).2.1 b1 d1 b2 d2)∧Below w.heap.size w w':=by
 have HOK:Hid (∀ w,Calls Tryz.prog 32 #[.agg #[.int .u64 D.t,.int .u64 D.cm,.bool D.so,.slice a1 D.xs.length c1,.slice a2 D.ys.length c2,.int .i64 D.ir]] w fun e w'=>e=.returned (.bool (okD D.xs.length D.ys.length D.ir))∧Below w.heap.size w w'):=fun w=>implDevOk_any _ _ _ _ _ _ _ _ _ _ w hn1 hn2
 have HCP:Hid (∀ w',Below w.heap.size w w'→Calls Tryz.prog 76 #[.agg #[.int .u64 D.t,.int .u64 D.cm,.bool D.so,.slice a1 D.xs.length c1,.slice a2 D.ys.length c2,.int .i64 D.ir]] w' fun e w''=>∃ (b1:Option Addr) (d1:Nat) (b2:Option Addr) (d2:Nat),e=.returned (.agg #[.int .u64 D.t,.int .u64 D.cm,.bool D.so,.slice b1 D.xs.length d1,.slice b2 D.ys.length d2,.int .i64 D.ir])∧Fam w'.heap.size w''.heap.size w'' (devF b1 D.xs.length d1 D.xs b2 D.ys.length d2 D.ys)∧Below w'.heap.size w' w''):=fun w' hb=>copied_any _ _ _ _ _ _ _ _ _ _ D.xs D.ys w' rfl rfl hn1 hn2 (hs1.below hb) (hs2.below hb)
 have HP:Hid (∀ w,Calls Tryz.prog 136 #[.int .u64 268435461,.int .i64 1] w fun e w'=>e=.returned (.bool true)∧w'=w):=isPort_5
 have HT:Hid (∀ w,Calls Tryz.prog 138 #[.agg #[.int .u64 D.t,.int .u64 D.cm,.bool D.so,.slice a1 D.xs.length c1,.slice a2 D.ys.length c2,.int .i64 D.ir],.int .u64 268435461] w fun e w'=>e=.returned (.int .u64 (IntKind.u64.wrap (32+oneIf (decide (0 < D.xs.length)))))∧Below w.heap.size w w'):=fun w=>told_5 _ _ _ _ _ _ _ _ _ _ w
 rw [hok] at HOK
 simp only [ldV]
 clear hs1 hs2 hn1 hn2 hb hok
 obtain ⟨t,cm,so,xs,ys,ir⟩:=D
 dsimp only [dvc,dvF] at HOK HCP HT ⊢
 generalize xs.length=n1 at *
 generalize ys.length=n2 at *
 generalize (IntKind.u64.wrap (32+oneIf (decide (0 < n1))))=v at *
 go_enter Tryz.func119,Tryz.ntmps119
 go_wp2_with fail
 refine (HOK.out _).mono ?_
 rintro e w1 ⟨rfl,hb1⟩
 obtain ⟨r0,r1⟩:=rows2 hb1
 have R0:=dhid r0
 have R1:=dhid r1
 have B1:=dhid (below_trans belowi hb1)
 obtain ⟨p0,p1,p2,p3,p4,p5⟩:=cells6 r0
 clear r0 r1 hb1
 go_wp2_with fail
 refine (HP.out _).mono ?_
 rintro e v1 ⟨rfl,hv1⟩
 have hq:=hv1.symm
 subst hq
 go_wp2_with fail
 refine (HCP.out _ B1.out).mono ?_
 rintro e w2 ⟨b1,d1,b2,d2,rfl,fm2,hb2⟩
 have FM2:=dhid fm2
 have S0:=dhid (dstays hb2 R0.out)
 have S1:=dhid (dstays hb2 R1.out)
 have B2:=dhid (below_trans B1.out hb2)
 have Z1:=dhid (show w.heap.size+1 < w1.heap.size∧w1.heap.size≤w2.heap.size from ⟨(Array.getElem?_eq_some_iff.1 R1.out).1,hb2.size⟩)
 have nd1:¬ w2.heap.size=w.heap.size+1:=by have:=Z1.out;omega
 have nd2:¬ w.heap.size+1=w2.heap.size:=by have:=Z1.out;omega
 clear fm2 hb2 p0 p1 p2 p3 p4 p5
 have u0:=fun o=>(cells6 (row_al8 S0.out o)).1
 have u1:=fun o=>(cells6 (row_al8 S0.out o)).2.1
 have u2:=fun o=>(cells6 (row_al8 S0.out o)).2.2.1
 have u3:=fun o=>(cells6 (row_al8 S0.out o)).2.2.2.1
 have u4:=fun o=>(cells6 (row_al8 S0.out o)).2.2.2.2.1
 have u5:=fun o=>(cells6 (row_al8 S0.out o)).2.2.2.2.2
 have s0:=fun o=>(cells6 (row_al8 S1.out o)).1
 have s1:=fun o=>(cells6 (row_al8 S1.out o)).2.1
 have s2:=fun o=>(cells6 (row_al8 S1.out o)).2.2.1
 have s3:=fun o=>(cells6 (row_al8 S1.out o)).2.2.2.1
 have s4:=fun o=>(cells6 (row_al8 S1.out o)).2.2.2.2.1
 have s5:=fun o=>(cells6 (row_al8 S1.out o)).2.2.2.2.2
 have y0:=fun o=>froz (row_al8 S1.out o) 0
 have y1:=fun o=>froz (row_al8 S1.out o) 1
 have y2:=fun o=>froz (row_al8 S1.out o) 2
 have y3:=fun o=>froz (row_al8 S1.out o) 3
 have y4:=fun o=>froz (row_al8 S1.out o) 4
 have y5:=fun o=>froz (row_al8 S1.out o) 5
 go_wp2_with fail
 go_region_with (first | (go_at_call 138;with_reducible refine (HT.out _).mono ?_;rintro e w3 ⟨rfl,hb3⟩;have V5:=dhid (dstays hb3 (heap_alloc_new w2 _));have V1:=dhid (dstays hb3 (row_al8 S1.out _));have B3:=dhid (below_trans (B2.out.alloc B2.out.size _).drew hb3);have FM3:=dhid ((FM2.out.below ((Below.refl _ _).alloc (Nat.le_refl _) _).drew).below hb3);have Z3:=dhid (show w2.heap.size < w3.heap.size from (Array.getElem?_eq_some_iff.1 V5.out).1);obtain ⟨x0,x1,x2,x3,x4,x5⟩:=cells6 V5.out;obtain ⟨f0,f1,f2,f3,f4,f5⟩:=froz6 V5.out;clear u0 s0 y0 u1 s1 y1 u2 s2 y2 u3 s3 y3 u4 s4 y4 u5 s5 y5;obtain ⟨s0,s1,s2,s3,s4,s5⟩:=cells6 V1.out;obtain ⟨y0,y1,y2,y3,y4,y5⟩:=froz6 V1.out;clear hb3))
 all_goals go_wp2_with fail
 all_goals exact bodyPost_ret (results_tct8 Tryz.results119 _ _ _ _ _ _ _ rfl (row_put6 V1.out _ _ _ _ _ _) Tryz.underlying27 rfl dev_size) rfl ⟨b1,d1,b2,d2,rfl,(FM3.out.put6 (w.heap.size+1) (.inl Z1.out.1) _ _ _ _ _ _).low (by have:=Z1.out;omega) (by have:=Z3.out;simp only [size_set];omega),below_put6 B3.out (by omega) _ _ _ _ _ _⟩

set_option maxRecDepth 100000 in
set_option maxHeartbeats 1600000 in
theorem implDevLoad_3 (D:DV) (a1:Option Addr) (c1:Nat) (a2:Option Addr) (c2:Nat) (w:World) (hn1:D.xs.length≤1048576) (hn2:D.ys.length≤1048576) (hb:bytesOk D) (hs1:Sl .u8 w a1 D.xs) (hs2:Sl .u8 w a2 D.ys) (hok:okD D.xs.length D.ys.length D.ir=true) :
 Calls Tryz.prog 119 #[.agg #[.int .u64 D.t,.int .u64 D.cm,.bool D.so,.slice a1 D.xs.length c1,.slice a2 D.ys.length c2,.int .i64 D.ir],.int .u64 268435456,.int .i64 1] w fun e w'=>∃ (b1:Option Addr) (d1:Nat) (b2:Option Addr) (d2:Nat),e=.returned (.tuple #[.int .u64 (ldV D 3).1,.agg (dvc (ldV D 3).2.1 b1 d1 b2 d2),.bool (ldV D 3).2.2]) ∧
  Fam w.heap.size w'.heap.size w' (dvF (ldV D 3).2.1 b1 d1 b2 d2)∧Below w.heap.size w w':=by
 have HOK:Hid (∀ w,Calls Tryz.prog 32 #[.agg #[.int .u64 D.t,.int .u64 D.cm,.bool D.so,.slice a1 D.xs.length c1,.slice a2 D.ys.length c2,.int .i64 D.ir]] w fun e w'=>e=.returned (.bool (okD D.xs.length D.ys.length D.ir))∧Below w.heap.size w w'):=fun w=>implDevOk_any _ _ _ _ _ _ _ _ _ _ w hn1 hn2
 have HCP:Hid (∀ w',Below w.heap.size w w'→Calls Tryz.prog 76 #[.agg #[.int .u64 D.t,.int .u64 D.cm,.bool D.so,.slice a1 D.xs.length c1,.slice a2 D.ys.length c2,.int .i64 D.ir]] w' fun e w''=>∃ (b1:Option Addr) (d1:Nat) (b2:Option Addr) (d2:Nat),e=.returned (.agg #[.int .u64 D.t,.int .u64 D.cm,.bool D.so,.slice b1 D.xs.length d1,.slice b2 D.ys.length d2,.int .i64 D.ir])∧Fam w'.heap.size w''.heap.size w'' (devF b1 D.xs.length d1 D.xs b2 D.ys.length d2 D.ys)∧Below w'.heap.size w' w''):=fun w' hb=>copied_any _ _ _ _ _ _ _ _ _ _ D.xs D.ys w' rfl rfl hn1 hn2 (hs1.below hb) (hs2.below hb)
 have HP:Hid (∀ w,Calls Tryz.prog 136 #[.int .u64 268435456,.int .i64 1] w fun e w'=>e=.returned (.bool true)∧w'=w):=isPort_3
 have HF:Hid (∀ w',Below w.heap.size w w'→Calls Tryz.prog 137 #[.slice a1 D.xs.length c1] w' fun e w''=>∃ (a':Option Addr) (c':Nat),e=.returned (.tuple #[.int .u8 (D.xs.getD 0 0),.slice a' (D.xs.drop 1).length c'])∧w''.ownsRow w'.heap.size 5 1 (.slice a' (D.xs.drop 1).length c') (D.xs.drop 1).length ((D.xs.drop 1).map (Value.int .u8))∧Below w'.heap.size w' w''):=fun w' hb=>firstAndRest_any a1 _ c1 D.xs w' rfl (by have:=okD_bdi hok;omega) (hs1.below hb)
 rw [hok] at HOK
 simp only [ldV]
 have hw:=byte_bd hb.1 0
 have hwr:IntKind.u64.wrap (D.xs.getD 0 0)=D.xs.getD 0 0:=by
  exact byte_u64 _ hw.1 hw.2
 clear hs1 hs2 hn1 hn2 hb hok hw
 obtain ⟨t,cm,so,xs,ys,ir⟩:=D
 dsimp only [dvc,dvF] at HOK HCP HF hwr ⊢
 generalize xs.length=n1 at *
 generalize ys.length=n2 at *
 generalize xs.getD 0 0=v at *
 generalize xs.drop 1=zs at *
 generalize hm:zs.length=m at *
 go_enter Tryz.func119,Tryz.ntmps119
 go_wp2_with fail
 refine (HOK.out _).mono ?_
 rintro e w1 ⟨rfl,hb1⟩
 obtain ⟨r0,r1⟩:=rows2 hb1
 have R0:=dhid r0
 have R1:=dhid r1
 have B1:=dhid (below_trans belowi hb1)
 obtain ⟨p0,p1,p2,p3,p4,p5⟩:=cells6 r0
 clear r0 r1 hb1
 go_wp2_with fail
 refine (HP.out _).mono ?_
 rintro e v1 ⟨rfl,hv1⟩
 have hq:=hv1.symm
 subst hq
 go_wp2_with fail
 refine (HCP.out _ B1.out).mono ?_
 rintro e w2 ⟨b1,d1,b2,d2,rfl,fm2,hb2⟩
 have FM2:=dhid fm2
 have S0:=dhid (dstays hb2 R0.out)
 have S1:=dhid (dstays hb2 R1.out)
 have B2:=dhid (below_trans B1.out hb2)
 have Z1:=dhid (show w.heap.size+1 < w1.heap.size∧w1.heap.size≤w2.heap.size from ⟨(Array.getElem?_eq_some_iff.1 R1.out).1,hb2.size⟩)
 have nd1:¬ w2.heap.size=w.heap.size+1:=by have:=Z1.out;omega
 have nd2:¬ w.heap.size+1=w2.heap.size:=by have:=Z1.out;omega
 clear fm2 hb2 p0 p1 p2 p3 p4 p5
 have u0:=fun o=>(cells6 (row_al8 S0.out o)).1
 have u1:=fun o=>(cells6 (row_al8 S0.out o)).2.1
 have u2:=fun o=>(cells6 (row_al8 S0.out o)).2.2.1
 have u3:=fun o=>(cells6 (row_al8 S0.out o)).2.2.2.1
 have u4:=fun o=>(cells6 (row_al8 S0.out o)).2.2.2.2.1
 have u5:=fun o=>(cells6 (row_al8 S0.out o)).2.2.2.2.2
 have s0:=fun o=>(cells6 (row_al8 S1.out o)).1
 have s1:=fun o=>(cells6 (row_al8 S1.out o)).2.1
 have s2:=fun o=>(cells6 (row_al8 S1.out o)).2.2.1
 have s3:=fun o=>(cells6 (row_al8 S1.out o)).2.2.2.1
 have s4:=fun o=>(cells6 (row_al8 S1.out o)).2.2.2.2.1
 have s5:=fun o=>(cells6 (row_al8 S1.out o)).2.2.2.2.2
 have y0:=fun o=>froz (row_al8 S1.out o) 0
 have y1:=fun o=>froz (row_al8 S1.out o) 1
 have y2:=fun o=>froz (row_al8 S1.out o) 2
 have y3:=fun o=>froz (row_al8 S1.out o) 3
 have y4:=fun o=>froz (row_al8 S1.out o) 4
 have y5:=fun o=>froz (row_al8 S1.out o) 5
 go_wp2_with fail
 refine (HF.out _ (B2.out.alloc B2.out.size _)).mono ?_
 rintro e w3 ⟨a',c',rfl,ow3,hb3⟩
 have OW:=dhid ow3
 have V5:=dhid (dstays hb3 (heap_alloc_new w2 _))
 have V1:=dhid (dstays hb3 (row_al8 S1.out _))
 have B3:=dhid (below_trans (B2.out.alloc B2.out.size _) hb3)
 have FM3:=dhid ((FM2.out.below ((Below.refl _ _).alloc (Nat.le_refl _) _)).below hb3)
 have Z3:=dhid (show w2.heap.size < w3.heap.size from (Array.getElem?_eq_some_iff.1 V5.out).1)
 obtain ⟨x0,x1,x2,x3,x4,x5⟩:=cells6 V5.out
 obtain ⟨f0,f1,f2,f3,f4,f5⟩:=froz6 V5.out
 clear u0 s0 y0 u1 s1 y1 u2 s2 y2 u3 s3 y3 u4 s4 y4 u5 s5 y5
 obtain ⟨s0,s1,s2,s3,s4,s5⟩:=cells6 V1.out
 obtain ⟨y0,y1,y2,y3,y4,y5⟩:=froz6 V1.out
 clear ow3 hb3
 go_wp2_with fail
 go_region
 all_goals go_wp2_with fail
 have OW2:=own_setNe OW.out ⟨w2.heap.size,3,none⟩ (.slice a' m c') (by simp only [World.size_alloc];omega)
 have A4:=(((FM3.out.set ⟨w2.heap.size,3,none⟩ (.slice a' m c') (.inr (Nat.le_refl _))).newIn a' m c' zs _ w3.heap.size OW2 (by simp only [World.size_alloc];omega) (by have:=Z1.out;simp only [World.size_alloc];omega) (by rw [size_set];exact Nat.le_refl _) (by have:=Z3.out;omega)).put6 (w.heap.size+1) (.inl Z1.out.1) (.int .u64 t) (.int .u64 cm) (.bool so) (.slice a' m c') (.slice b2 n2 d2) (.int .i64 ir))
 have T1:=row_put6 (row_far V1.out ⟨w2.heap.size,3,none⟩ (.slice a' m c') nd2) (.int .u64 t) (.int .u64 cm) (.bool so) (.slice a' m c') (.slice b2 n2 d2) (.int .i64 ir)
 exact bodyPost_ret (results_tct8 Tryz.results119 _ _ _ _ _ _ _ rfl (row_drew8 T1) Tryz.underlying27 rfl dev_size) rfl ⟨a',c',b2,d2,rfl,(A4.below (Below.refl _ _).drew).low (by have:=Z1.out;omega) (by rw [size_drew8];simp only [size_set];exact Nat.le_refl _),(below_put6 (B3.out.setCell (p:=⟨w2.heap.size,3,none⟩) (by have:=Z1.out;dsimp only;omega) _) (by omega) _ _ _ _ _ _).drew⟩

set_option maxRecDepth 100000 in
set_option maxHeartbeats 1600000 in
theorem implDevLoad_any (D:DV) (a1:Option Addr) (c1:Nat) (a2:Option Addr) (c2:Nat) (addr size:Int) (w:World) (hn1:D.xs.length≤1048576) (hn2:D.ys.length≤1048576) (hb:bytesOk D) (hs1:Sl .u8 w a1 D.xs) (hs2:Sl .u8 w a2 D.ys) :
 Calls Tryz.prog 119 #[.agg #[.int .u64 D.t,.int .u64 D.cm,.bool D.so,.slice a1 D.xs.length c1,.slice a2 D.ys.length c2,.int .i64 D.ir],.int .u64 addr,.int .i64 size] w fun e w'=>∃ (b1:Option Addr) (d1:Nat) (b2:Option Addr) (d2:Nat),e=.returned (.tuple #[.int .u64 (loadD D addr size).1,.agg (dvc (loadD D addr size).2.1 b1 d1 b2 d2),.bool (loadD D addr size).2.2]) ∧
  Fam w.heap.size w'.heap.size w' (dvF (loadD D addr size).2.1 b1 d1 b2 d2)∧Below w.heap.size w w':=by
 have HOK:Hid (∀ w,Calls Tryz.prog 32 #[.agg #[.int .u64 D.t,.int .u64 D.cm,.bool D.so,.slice a1 D.xs.length c1,.slice a2 D.ys.length c2,.int .i64 D.ir]] w fun e w'=>e=.returned (.bool (okD D.xs.length D.ys.length D.ir))∧Below w.heap.size w w'):=fun w=>implDevOk_any _ _ _ _ _ _ _ _ _ _ w hn1 hn2
 cases hok:okD D.xs.length D.ys.length D.ir with
 | false =>
  have F:loadD D addr size=(0,zeroD,false):=by unfold loadD;rw [hok];rfl
  rw [F]
  rw [hok] at HOK
  clear hs1 hs2 hb hn1 hn2 F hok
  obtain ⟨t,cm,so,xs,ys,ir⟩:=D
  dsimp only [dvc,dvF] at HOK ⊢
  generalize xs.length=n1 at *
  generalize ys.length=n2 at *
  go_enter Tryz.func119,Tryz.ntmps119
  go_wp2_with fail
  refine (HOK.out _).mono ?_
  rintro e w1 ⟨rfl,hb1⟩
  obtain ⟨r0,r1⟩:=rows2 hb1
  have R0:=dhid r0
  have R1:=dhid r1
  have B1:=dhid (below_trans belowi hb1)
  obtain ⟨s0,s1,s2,s3,s4,s5⟩:=cells6 r1
  obtain ⟨y0,y1,y2,y3,y4,y5⟩:=froz6 r1
  clear r0 r1 hb1
  go_wp2_with fail
  exact bodyPost_ret (results_tct8 Tryz.results119 _ _ _ _ _ _ _ rfl (row_put6 R1.out _ _ _ _ _ _) Tryz.underlying27 rfl dev_size) rfl ⟨none,0,none,0,rfl,fam_zero _ _ _,below_put6 B1.out (by omega) _ _ _ _ _ _⟩
 | true =>
  have F:loadD D addr size=ldV D (sel addr size):=by unfold loadD;rw [hok];rfl
  rw [F]
  refine sel_cases addr size (fun k=>Calls Tryz.prog 119 #[.agg #[.int .u64 D.t,.int .u64 D.cm,.bool D.so,.slice a1 D.xs.length c1,.slice a2 D.ys.length c2,.int .i64 D.ir],.int .u64 addr,.int .i64 size] w fun e w'=>∃ (b1:Option Addr) (d1:Nat) (b2:Option Addr) (d2:Nat),e=.returned (.tuple #[.int .u64 (ldV D k).1,.agg (dvc (ldV D k).2.1 b1 d1 b2 d2),.bool (ldV D k).2.2]) ∧
   Fam w.heap.size w'.heap.size w' (dvF (ldV D k).2.1 b1 d1 b2 d2)∧Below w.heap.size w w') ?_ ?_ ?_ ?_ ?_ ?_ ?_
  ·rintro rfl rfl
   exact implDevLoad_0 D a1 c1 a2 c2 w hn1 hn2 hb hs1 hs2 hok
  ·rintro rfl rfl
   exact implDevLoad_1 D a1 c1 a2 c2 w hn1 hn2 hb hs1 hs2 hok
  ·rintro rfl rfl
   exact implDevLoad_2 D a1 c1 a2 c2 w hn1 hn2 hb hs1 hs2 hok
  ·rintro rfl rfl
   exact implDevLoad_3 D a1 c1 a2 c2 w hn1 hn2 hb hs1 hs2 hok
  ·rintro rfl rfl
   exact implDevLoad_4 D a1 c1 a2 c2 w hn1 hn2 hb hs1 hs2 hok
  ·rintro rfl rfl
   exact implDevLoad_5 D a1 c1 a2 c2 w hn1 hn2 hb hs1 hs2 hok
  ·intro k0 k1 k2 k3 k4 k5
   have HP:Hid (∀ w,Calls Tryz.prog 136 #[.int .u64 addr,.int .i64 size] w fun e w'=>e=.returned (.bool false)∧w'=w):=isPort_6 addr size k0 k1 k2 k3 k4 k5
   rw [hok] at HOK
   simp only [ldV]
   clear hs1 hs2 hb hn1 hn2 F hok k0 k1 k2 k3 k4 k5
   obtain ⟨t,cm,so,xs,ys,ir⟩:=D
   dsimp only [dvc,dvF] at HOK ⊢
   generalize xs.length=n1 at *
   generalize ys.length=n2 at *
   go_enter Tryz.func119,Tryz.ntmps119
   go_wp2_with fail
   refine (HOK.out _).mono ?_
   rintro e w1 ⟨rfl,hb1⟩
   obtain ⟨r0,r1⟩:=rows2 hb1
   have R0:=dhid r0
   have R1:=dhid r1
   have B1:=dhid (below_trans belowi hb1)
   obtain ⟨p0,p1,p2,p3,p4,p5⟩:=cells6 r0
   obtain ⟨s0,s1,s2,s3,s4,s5⟩:=cells6 r1
   obtain ⟨y0,y1,y2,y3,y4,y5⟩:=froz6 r1
   clear r0 r1 hb1
   go_wp2_with fail
   refine (HP.out _).mono ?_
   rintro e v1 ⟨rfl,hv1⟩
   have hq:=hv1.symm
   subst hq
   go_wp2_with fail
   exact bodyPost_ret (results_tct8 Tryz.results119 _ _ _ _ _ _ _ rfl (row_put6 R1.out _ _ _ _ _ _) Tryz.underlying27 rfl dev_size) rfl ⟨none,0,none,0,rfl,fam_zero _ _ _,below_put6 B1.out (by omega) _ _ _ _ _ _⟩

end Go.Proofs.YtkhofppmeoooaaaGreatDoor
