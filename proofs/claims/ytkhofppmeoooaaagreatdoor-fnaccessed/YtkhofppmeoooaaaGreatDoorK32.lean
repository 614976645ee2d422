/- Own lemmas. -/
import Derived.Test.YtkhofppmeoooaaaGreatDoorK07
namespace Go.Proofs.YtkhofppmeoooaaaGreatDoor
open Go.RowKit
set_option linter.unusedVariables false

def put2q (w:World) (r:Nat):World:=(w.setCell ⟨r,11,none⟩ (.int .u64 0)).setCell ⟨r,12,none⟩ (.bool false)

theorem Mp.freeq {B r:Nat} {M:MV} {A:MA} {w:World} (h:Mp B r M A w):Mp B r (freeM M) A (put2q w r)∧Kx r (mvF M A) (mvF (freeM M) A) w (put2q w r):=by
 refine ⟨⟨?_,Mp.fam_set (Mp.fam_set h.fam h.ne 11 _) h.ne 12 _,h.ne,h.lo⟩,(Kx.set w 11 _).trans (Kx.set _ 12 _)⟩
 have R0:=h.row
 unfold mvc at R0
 exact row_set (row_set R0 11 (.int .u64 0)) 12 (.bool false)

def ramA (A:MA) (a:Option Addr) (c:Nat):MA:=⟨A.ax,A.cx,A.ac,A.cc,a,c,A.ai,A.ci,A.ao,A.co⟩

theorem Mp.ram {B r:Nat} {M:MV} {A:MA} {w w':World} (h:Mp B r M A w) (hb:Below w.heap.size w w') (R:List Int) (a:Option Addr) (c:Nat) (ho:w'.ownsRow w.heap.size 5 1 (.slice a R.length c) R.length (R.map (Value.int .u8))):Mp B r (memM M R) (ramA A a c) (w'.setCell ⟨r,4,none⟩ (.slice a R.length c))∧Kx r (mvF M A) (mvF (memM M R) (ramA A a c)) w (w'.setCell ⟨r,4,none⟩ (.slice a R.length c)):=by
 have hlt:=h.lt
 have hB:B≤w.heap.size:=by have:=h.lo;omega
 have hf:=h.fam.below hb
 have h4:Fam B w.heap.size w' ([wRow A.ax M.x.length A.cx M.x,wRow A.ac M.cs.length A.cc M.cs] ++ [bRow A.ai M.d.xs.length A.ci M.d.xs,bRow A.ao M.d.ys.length A.co M.d.ys]):=hf.sub (by unfold mvF;simp)
 have hF:Fam B w'.heap.size w' (mvF (memM M R) (ramA A a c)):=h4.ins (q:=bRow a R.length c R) ho hB (Nat.le_refl _) hb.size
 have hown:∀ q ∈ mvF (memM M R) (ramA A a c),∀ k,q.v.ownBlock=some k→k < w.heap.size→∃ q0 ∈ mvF M A,q0.v.ownBlock=some k:=by
  intro q hq k e hk
  simp only [mvF,memM,ramA,List.mem_cons,List.not_mem_nil,or_false] at hq
  rcases hq with rfl | rfl | rfl | rfl | rfl
  ·exact ⟨wRow A.ax M.x.length A.cx M.x,by simp [mvF],e⟩
  ·exact ⟨wRow A.ac M.cs.length A.cc M.cs,by simp [mvF],e⟩
  ·have:=(ho.lt k e).1;omega
  ·exact ⟨bRow A.ai M.d.xs.length A.ci M.d.xs,by simp [mvF],e⟩
  ·exact ⟨bRow A.ao M.d.ys.length A.co M.d.ys,by simp [mvF],e⟩
 have hne:∀ q ∈ mvF (memM M R) (ramA A a c),q.v.ownBlock≠some r:=fun q hq e=>by
  obtain ⟨q0,h0,e0⟩:=hown q hq r e hlt
  exact h.ne q0 h0 e0
 have R0:=dstays hb h.row
 unfold mvc at R0
 have k1:Kx r (mvF M A) (mvF (memM M R) (ramA A a c)) w w':=⟨hb.os,hb.tape,hb.output,hb.size,fun k hk _ _=>hb.block k hk,hown⟩
 exact ⟨⟨row_set R0 4 (.slice a R.length c),Mp.fam_set hF hne 4 _,hne,h.lo⟩,k1.trans (Kx.set w' 4 _)⟩

set_option maxRecDepth 100000 in
set_option maxHeartbeats 6400000 in
theorem take_mp (M:MV) (A:MA) (B r:Nat) (addr size yd:Int) (D:DV) (is:Bool) (w:World) (hm:Mp B r M A w)
 (h8:∀ w',Mp B r M A w'→Calls Tryz.prog 119 #[.agg #[.int .u64 M.d.t,.int .u64 M.d.cm,.bool M.d.so,.slice A.ai M.d.xs.length A.ci,.slice A.ao M.d.ys.length A.co,.int .i64 M.d.ir],.int .u64 addr,.int .i64 size] w' fun e w''=>∃ (b1:Option Addr) (d1:Nat) (b2:Option Addr) (d2:Nat),e=.returned (.tuple #[.int .u64 yd,.agg #[.int .u64 D.t,.int .u64 D.cm,.bool D.so,.slice b1 D.xs.length d1,.slice b2 D.ys.length d2,.int .i64 D.ir],.bool is])∧Fam w'.heap.size w''.heap.size w'' (devF b1 D.xs.length d1 D.xs b2 D.ys.length d2 D.ys)∧Below w'.heap.size w' w'') :
 Calls Tryz.prog 84 #[.pointer (some ⟨r,5,none⟩),.int .u64 addr,.int .i64 size] w fun e w'=>e=.returned (.tuple #[.int .u64 yd,.bool is])∧∃ A',Mp B r (if is=true then devM M D else M) A' w'∧Kx r (mvF M A) (mvF (if is=true then devM M D else M) A') w w':=by
 have HM:=dhid hm
 have H8:=dhid h8
 obtain ⟨c0,c1,c2,c3,c4,c5,c6,c7,c8,c9,c10,c11,c12,c13⟩:=cells14 hm.row
 clear hm h8
 go_enter Tryz.func84,Tryz.ntmps84
 go_wp2_with fail
 refine (H8.out _ HM.out).mono ?_
 rintro e w5 ⟨b1,d1,b2,d2,rfl,fm5,hb5⟩
 have BB:=dhid (below_trans hb5 ((Below.refl _ _).alloc (Nat.le_refl _) (.cells #[.int .u64 D.t,.int .u64 D.cm,.bool D.so,.slice b1 D.xs.length d1,.slice b2 D.ys.length d2,.int .i64 D.ir] 27 (0,0))))
 have RN:Hid (Renew w (w5.alloc (.cells #[.int .u64 D.t,.int .u64 D.cm,.bool D.so,.slice b1 D.xs.length d1,.slice b2 D.ys.length d2,.int .i64 D.ir] 27 (0,0))) A.ai A.ci M.d.xs A.ao A.co M.d.ys b1 d1 D.xs b2 d2 D.ys):=Renew.below (.inr (.inr (.inr fm5))) ((Below.refl _ _).alloc (Nat.le_refl _) _)
 have ROW5:=dstays hb5 HM.out.row
 unfold mvc at ROW5
 have nb1:¬ r=w5.heap.size:=by have h1:=HM.out.lt;have h2:=hb5.size;omega
 have nb2:¬ w5.heap.size=r:=fun h=>nb1 h.symm
 clear c0 c1 c2 c3 c4 c5 c6 c7 c8 c9 c10 c11 c12 c13
 have c5:=fun o=>(cells14 (row_al8 ROW5 o)).2.2.2.2.2.1
 have c6:=fun o=>(cells14 (row_al8 ROW5 o)).2.2.2.2.2.2.1
 have c7:=fun o=>(cells14 (row_al8 ROW5 o)).2.2.2.2.2.2.2.1
 have c8:=fun o=>(cells14 (row_al8 ROW5 o)).2.2.2.2.2.2.2.2.1
 have c9:=fun o=>(cells14 (row_al8 ROW5 o)).2.2.2.2.2.2.2.2.2.1
 have c10:=fun o=>(cells14 (row_al8 ROW5 o)).2.2.2.2.2.2.2.2.2.2.1
 have f5:=fun o=>(froz14 (row_al8 ROW5 o)).2.2.2.2.2.1
 have f6:=fun o=>(froz14 (row_al8 ROW5 o)).2.2.2.2.2.2.1
 have f7:=fun o=>(froz14 (row_al8 ROW5 o)).2.2.2.2.2.2.2.1
 have f8:=fun o=>(froz14 (row_al8 ROW5 o)).2.2.2.2.2.2.2.2.1
 have f9:=fun o=>(froz14 (row_al8 ROW5 o)).2.2.2.2.2.2.2.2.2.1
 have f10:=fun o=>(froz14 (row_al8 ROW5 o)).2.2.2.2.2.2.2.2.2.2.1
 clear hb5 fm5 ROW5
 cases is with
 | false =>
  go_wp2_with fail
  refine bodyPost_ret (results_tmp2 rfl _ _ _) rfl ?_
  exact ⟨rfl,A,HM.out.below BB.out,Kx.of_below BB.out⟩
 | true =>
  obtain ⟨MPD,KXD⟩:=HM.out.dev BB.out D RN.out
  have MP7:=dhid MPD
  have KX7:=dhid KXD
  clear MPD KXD
  go_wp2_with fail
  refine bodyPost_ret (results_tmp2 rfl _ _ _) rfl ?_
  exact ⟨rfl,devA A b1 d1 b2 d2,MP7.out,KX7.out⟩

set_option maxRecDepth 100000 in
set_option maxHeartbeats 6400000 in
theorem give_mp (M:MV) (A:MA) (B r:Nat) (addr size x:Int) (D:DV) (is:Bool) (w:World) (hm:Mp B r M A w)
 (h8:∀ w',Mp B r M A w'→Calls Tryz.prog 135 #[.agg #[.int .u64 M.d.t,.int .u64 M.d.cm,.bool M.d.so,.slice A.ai M.d.xs.length A.ci,.slice A.ao M.d.ys.length A.co,.int .i64 M.d.ir],.int .u64 addr,.int .i64 size,.int .u64 x] w' fun e w''=>∃ (b1:Option Addr) (d1:Nat) (b2:Option Addr) (d2:Nat),e=.returned (.tuple #[.agg #[.int .u64 D.t,.int .u64 D.cm,.bool D.so,.slice b1 D.xs.length d1,.slice b2 D.ys.length d2,.int .i64 D.ir],.bool is])∧Fam w'.heap.size w''.heap.size w'' (devF b1 D.xs.length d1 D.xs b2 D.ys.length d2 D.ys)∧Below w'.heap.size w' w'') :
 Calls Tryz.prog 114 #[.pointer (some ⟨r,5,none⟩),.int .u64 addr,.int .i64 size,.int .u64 x] w fun e w'=>e=.returned (.bool is)∧∃ A',Mp B r (if is=true then devM M D else M) A' w'∧Kx r (mvF M A) (mvF (if is=true then devM M D else M) A') w w':=by
 have HM:=dhid hm
 have H8:=dhid h8
 obtain ⟨c0,c1,c2,c3,c4,c5,c6,c7,c8,c9,c10,c11,c12,c13⟩:=cells14 hm.row
 clear hm h8
 go_enter Tryz.func114,Tryz.ntmps114
 go_wp2_with fail
 refine (H8.out _ HM.out).mono ?_
 rintro e w5 ⟨b1,d1,b2,d2,rfl,fm5,hb5⟩
 have BB:=dhid (below_trans hb5 ((Below.refl _ _).alloc (Nat.le_refl _) (.cells #[.int .u64 D.t,.int .u64 D.cm,.bool D.so,.slice b1 D.xs.length d1,.slice b2 D.ys.length d2,.int .i64 D.ir] 27 (0,0))))
 have RN:Hid (Renew w (w5.alloc (.cells #[.int .u64 D.t,.int .u64 D.cm,.bool D.so,.slice b1 D.xs.length d1,.slice b2 D.ys.length d2,.int .i64 D.ir] 27 (0,0))) A.ai A.ci M.d.xs A.ao A.co M.d.ys b1 d1 D.xs b2 d2 D.ys):=Renew.below (.inr (.inr (.inr fm5))) ((Below.refl _ _).alloc (Nat.le_refl _) _)
 have ROW5:=dstays hb5 HM.out.row
 unfold mvc at ROW5
 have nb1:¬ r=w5.heap.size:=by have h1:=HM.out.lt;have h2:=hb5.size;omega
 have nb2:¬ w5.heap.size=r:=fun h=>nb1 h.symm
 clear c0 c1 c2 c3 c4 c5 c6 c7 c8 c9 c10 c11 c12 c13
 have c5:=fun o=>(cells14 (row_al8 ROW5 o)).2.2.2.2.2.1
 have c6:=fun o=>(cells14 (row_al8 ROW5 o)).2.2.2.2.2.2.1
 have c7:=fun o=>(cells14 (row_al8 ROW5 o)).2.2.2.2.2.2.2.1
 have c8:=fun o=>(cells14 (row_al8 ROW5 o)).2.2.2.2.2.2.2.2.1
 have c9:=fun o=>(cells14 (row_al8 ROW5 o)).2.2.2.2.2.2.2.2.2.1
 have c10:=fun o=>(cells14 (row_al8 ROW5 o)).2.2.2.2.2.2.2.2.2.2.1
 have f5:=fun o=>(froz14 (row_al8 ROW5 o)).2.2.2.2.2.1
 have f6:=fun o=>(froz14 (row_al8 ROW5 o)).2.2.2.2.2.2.1
 have f7:=fun o=>(froz14 (row_al8 ROW5 o)).2.2.2.2.2.2.2.1
 have f8:=fun o=>(froz14 (row_al8 ROW5 o)).2.2.2.2.2.2.2.2.1
 have f9:=fun o=>(froz14 (row_al8 ROW5 o)).2.2.2.2.2.2.2.2.2.1
 have f10:=fun o=>(froz14 (row_al8 ROW5 o)).2.2.2.2.2.2.2.2.2.2.1
 clear hb5 fm5 ROW5
 cases is with
 | false =>
  go_wp2_with fail
  go_ret
  exact ⟨rfl,A,HM.out.below BB.out,Kx.of_below BB.out⟩
 | true =>
  obtain ⟨MPD,KXD⟩:=HM.out.dev BB.out D RN.out
  have MP7:=dhid MPD
  have KX7:=dhid KXD
  clear MPD KXD
  go_wp2_with fail
  go_ret
  exact ⟨rfl,devA A b1 d1 b2 d2,MP7.out,KX7.out⟩

set_option maxRecDepth 100000 in
set_option maxHeartbeats 6400000 in
theorem letGo_mp (M:MV) (A:MA) (B r:Nat) (pa:Int) (hit:Bool) (w:World) (hm:Mp B r M A w) (hht:(M.hl&&(IntKind.u64.wrap (pa.tdiv 8)==IntKind.u64.wrap (M.hd.tdiv 8)))=hit) :
 Calls Tryz.prog 115 #[.pointer (some ⟨r,0,none⟩),.int .u64 pa] w fun e w'=>e=.returned (.tuple #[])∧Mp B r (if hit=true then freeM M else M) A w'∧Kx r (mvF M A) (mvF (if hit=true then freeM M else M) A) w w':=by
 have HM:=dhid hm
 obtain ⟨c0,c1,c2,c3,c4,c5,c6,c7,c8,c9,c10,c11,c12,c13⟩:=cells14 hm.row
 obtain ⟨f0,f1,f2,f3,f4,f5,f6,f7,f8,f9,f10,f11,f12,f13⟩:=froz14 hm.row
 clear hm
 obtain ⟨bh,hbh⟩:∃ b,b=M.hl:=⟨_,rfl⟩
 rw [← hbh] at c12 hht
 clear hbh
 cases bh with
 | false =>
  rw [Bool.false_and] at hht
  subst hht
  go_enter Tryz.func115,Tryz.ntmps115
  go_wp2_with fail
  refine bodyPost_end (results_none rfl _ _ _) rfl ?_
  exact ⟨rfl,HM.out,Kx.refl _ _ _⟩
 | true =>
  rw [Bool.true_and] at hht
  cases hit with
  | false =>
   go_enter Tryz.func115,Tryz.ntmps115
   go_wp2_with fail
   refine bodyPost_end (results_none rfl _ _ _) rfl ?_
   exact ⟨rfl,HM.out,Kx.refl _ _ _⟩
  | true =>
   go_enter Tryz.func115,Tryz.ntmps115
   go_wp2_with fail
   refine bodyPost_end (results_none rfl _ _ _) rfl ?_
   exact ⟨rfl,HM.out.freeq.1,HM.out.freeq.2⟩

set_option maxRecDepth 100000 in
set_option maxHeartbeats 6400000 in
theorem put_mp (M:MV) (A:MA) (B r:Nat) (pa size x:Int) (R:List Int) (D:DV) (ins is:Bool) (TL LG:MV→MV) (w:World) (hm:Mp B r M A w)
 (hS:∀ w',Mp B r M A w'→Calls Tryz.prog 113 #[.slice A.ar M.ram.length A.cr,.int .u64 pa,.int .i64 size,.int .u64 x] w' fun e w''=>∃ (a':Option Addr) (c':Nat),e=.returned (.tuple #[.slice a' R.length c',.bool ins])∧w''.ownsRow w'.heap.size 5 1 (.slice a' R.length c') R.length (R.map (Value.int .u8))∧Below w'.heap.size w' w'')
 (hV:∀ w',Mp B r M A w'→Calls Tryz.prog 114 #[.pointer (some ⟨r,5,none⟩),.int .u64 pa,.int .i64 size,.int .u64 x] w' fun e w''=>e=.returned (.bool is)∧∃ A',Mp B r (if is=true then devM M D else M) A' w''∧Kx r (mvF M A) (mvF (if is=true then devM M D else M) A') w' w'')
 (hT:∀ (X:MV) (A':MA) w',Mp B r X A' w'→(X=memM M R∨X=devM M D)→Calls Tryz.prog 85 #[.pointer (some ⟨r,0,none⟩)] w' fun e w''=>e=.returned (.tuple #[])∧Mp B r (TL X) A' w''∧Kx r (mvF X A') (mvF (TL X) A') w' w'')
 (hG:∀ (X:MV) (A':MA) w',Mp B r X A' w'→(X=TL (memM M R)∨X=TL (devM M D))→Calls Tryz.prog 115 #[.pointer (some ⟨r,0,none⟩),.int .u64 pa] w' fun e w''=>e=.returned (.tuple #[])∧Mp B r (LG X) A' w''∧Kx r (mvF X A') (mvF (LG X) A') w' w'') :
 Calls Tryz.prog 82 #[.pointer (some ⟨r,0,none⟩),.int .u64 pa,.int .i64 size,.int .u64 x] w fun e w'=>e=.returned (.bool (ins||is))∧∃ A',Mp B r (if ins=true then LG (TL (memM M R)) else if is=true then LG (TL (devM M D)) else M) A' w'∧Kx r (mvF M A) (mvF (if ins=true then LG (TL (memM M R)) else if is=true then LG (TL (devM M D)) else M) A') w w':=by
 have HM:=dhid hm
 have HS:=dhid hS
 have HV:=dhid hV
 have HTM:Hid (∀ (A':MA) w',Mp B r (memM M R) A' w'→Calls Tryz.prog 85 #[.pointer (some ⟨r,0,none⟩)] w' fun e w''=>e=.returned (.tuple #[])∧Mp B r (TL (memM M R)) A' w''∧Kx r (mvF (memM M R) A') (mvF (TL (memM M R)) A') w' w''):=fun A' w' h=>hT _ A' w' h (.inl rfl)
 have HTD:Hid (∀ (A':MA) w',Mp B r (devM M D) A' w'→Calls Tryz.prog 85 #[.pointer (some ⟨r,0,none⟩)] w' fun e w''=>e=.returned (.tuple #[])∧Mp B r (TL (devM M D)) A' w''∧Kx r (mvF (devM M D) A') (mvF (TL (devM M D)) A') w' w''):=fun A' w' h=>hT _ A' w' h (.inr rfl)
 have HGM:Hid (∀ (A':MA) w',Mp B r (TL (memM M R)) A' w'→Calls Tryz.prog 115 #[.pointer (some ⟨r,0,none⟩),.int .u64 pa] w' fun e w''=>e=.returned (.tuple #[])∧Mp B r (LG (TL (memM M R))) A' w''∧Kx r (mvF (TL (memM M R)) A') (mvF (LG (TL (memM M R))) A') w' w''):=fun A' w' h=>hG _ A' w' h (.inl rfl)
 have HGD:Hid (∀ (A':MA) w',Mp B r (TL (devM M D)) A' w'→Calls Tryz.prog 115 #[.pointer (some ⟨r,0,none⟩),.int .u64 pa] w' fun e w''=>e=.returned (.tuple #[])∧Mp B r (LG (TL (devM M D))) A' w''∧Kx r (mvF (TL (devM M D)) A') (mvF (LG (TL (devM M D))) A') w' w''):=fun A' w' h=>hG _ A' w' h (.inr rfl)
 obtain ⟨c0,c1,c2,c3,c4,c5,c6,c7,c8,c9,c10,c11,c12,c13⟩:=cells14 hm.row
 clear hm hS hV hT hG
 go_enter Tryz.func82,Tryz.ntmps82
 go_wp2_with fail
 refine (HS.out _ HM.out).mono ?_
 rintro e w5 ⟨a',c',rfl,ow5,hb5⟩
 have MP5:=dhid (HM.out.below hb5)
 have KX5:=dhid (Kx.of_below (r:=r) (L:=mvF M A) hb5)
 cases ins with
 | true =>
  obtain ⟨MPR,KXR⟩:=HM.out.ram hb5 R a' c' ow5
  have MP6:=dhid MPR
  have KX6:=dhid KXR
  clear c0 c1 c2 c3 c4 c5 c6 c7 c8 c9 c10 c11 c12 c13
  obtain ⟨c0,c1,c2,c3,c4,c5,c6,c7,c8,c9,c10,c11,c12,c13⟩:=cells14 MP5.out.row
  obtain ⟨f0,f1,f2,f3,f4,f5,f6,f7,f8,f9,f10,f11,f12,f13⟩:=froz14 MP5.out.row
  clear MPR KXR ow5 hb5
  go_wp2_with fail
  refine (HTM.out (ramA A a' c') _ MP6.out).mono ?_
  rintro e w7 ⟨rfl,mp7,kx7⟩
  have MP7:=dhid mp7
  have KX7:=dhid ((KX6.out).trans kx7)
  clear mp7 kx7
  go_wp2_with fail
  refine (HGM.out (ramA A a' c') _ MP7.out).mono ?_
  rintro e w8 ⟨rfl,mp8,kx8⟩
  have MP8:=dhid mp8
  have KX8:=dhid (KX7.out.trans kx8)
  clear mp8 kx8
  go_wp2_with fail
  go_ret
  exact ⟨rfl,(ramA A a' c'),MP8.out,KX8.out⟩
 | false =>
  clear ow5 hb5
  clear c0 c1 c2 c3 c4 c5 c6 c7 c8 c9 c10 c11 c12 c13
  obtain ⟨c0,c1,c2,c3,c4,c5,c6,c7,c8,c9,c10,c11,c12,c13⟩:=cells14 MP5.out.row
  go_wp2_with fail
  refine (HV.out _ MP5.out).mono ?_
  rintro e w6 ⟨rfl,A',mp6,kx6⟩
  have MP6:=dhid mp6
  have KX6:=dhid (KX5.out.trans kx6)
  clear mp6 kx6
  cases is with
  | false =>
   go_wp2_with fail
   go_ret
   exact ⟨rfl,A',MP6.out,KX6.out⟩
  | true =>
   have MP6b:Hid (Mp B r (devM M D) A' w6):=MP6.out
   have KX6b:Hid (Kx r (mvF M A) (mvF (devM M D) A') w w6):=KX6.out
   clear MP6 KX6
   go_wp2_with fail
   refine (HTD.out A' _ MP6b.out).mono ?_
   rintro e w7 ⟨rfl,mp7,kx7⟩
   have MP7:=dhid mp7
   have KX7:=dhid ((KX6b.out).trans kx7)
   clear mp7 kx7
   go_wp2_with fail
   refine (HGD.out A' _ MP7.out).mono ?_
   rintro e w8 ⟨rfl,mp8,kx8⟩
   have MP8:=dhid mp8
   have KX8:=dhid (KX7.out.trans kx8)
   clear mp8 kx8
   go_wp2_with fail
   go_ret
   exact ⟨rfl,A',MP8.out,KX8.out⟩

set_option maxRecDepth 100000 in
set_option maxHeartbeats 6400000 in
theorem reach_3 (M M3:MV) (A:MA) (B r:Nat) (pa size x:Int) (ok:Bool) (w:World) (hm:Mp B r M A w)
 (hP:∀ w',Mp B r M A w'→Calls Tryz.prog 82 #[.pointer (some ⟨r,0,none⟩),.int .u64 pa,.int .i64 size,.int .u64 x] w' fun e w''=>e=.returned (.bool ok)∧∃ A',Mp B r M3 A' w''∧Kx r (mvF M A) (mvF M3 A') w' w'') :
 Calls Tryz.prog 46 #[.pointer (some ⟨r,0,none⟩),.int .u64 pa,.int .i64 size,.int .i64 3,.int .u64 x] w fun e w'=>e=.returned (.tuple #[.int .u64 0,.bool ok])∧∃ A',Mp B r M3 A' w'∧Kx r (mvF M A) (mvF M3 A') w w':=by
 have HM:=dhid hm
 have HP:=dhid hP
 clear hm hP
 go_enter Tryz.func46,Tryz.ntmps46
 go_wp2_with fail
 refine (HP.out _ HM.out).mono ?_
 rintro e w5 ⟨rfl,A',mp5,kx5⟩
 have MP5:=dhid mp5
 have KX5:=dhid kx5
 clear mp5 kx5
 go_wp2_with fail
 refine bodyPost_ret (results_tmp2 rfl _ _ _) rfl ?_
 exact ⟨rfl,A',MP5.out,KX5.out⟩

set_option maxRecDepth 100000 in
set_option maxHeartbeats 6400000 in
theorem reach_1 (M:MV) (A:MA) (B r:Nat) (pa size x yl:Int) (ins:Bool) (w:World) (hm:Mp B r M A w)
 (hL:∀ w',Mp B r M A w'→Calls Tryz.prog 83 #[.slice A.ar M.ram.length A.cr,.int .u64 pa,.int .i64 size] w' fun e w''=>e=.returned (.tuple #[.int .u64 yl,.bool ins])∧Below w'.heap.size w' w'') :
 Calls Tryz.prog 46 #[.pointer (some ⟨r,0,none⟩),.int .u64 pa,.int .i64 size,.int .i64 1,.int .u64 x] w fun e w'=>e=.returned (.tuple #[.int .u64 (if ins=true then yl else 0),.bool (ins||false)])∧∃ A',Mp B r (if ins=true then M else M) A' w'∧Kx r (mvF M A) (mvF (if ins=true then M else M) A') w w':=by
 have HM:=dhid hm
 have HL:=dhid hL
 obtain ⟨c0,c1,c2,c3,c4,c5,c6,c7,c8,c9,c10,c11,c12,c13⟩:=cells14 hm.row
 clear hm hL
 go_enter Tryz.func46,Tryz.ntmps46
 go_wp2_with fail
 refine (HL.out _ HM.out).mono ?_
 rintro e w5 ⟨rfl,hb5⟩
 have MP5:=dhid (HM.out.below hb5)
 have KX5:=dhid (Kx.of_below (r:=r) (L:=mvF M A) hb5)
 clear hb5
 clear c0 c1 c2 c3 c4 c5 c6 c7 c8 c9 c10 c11 c12 c13
 obtain ⟨c0,c1,c2,c3,c4,c5,c6,c7,c8,c9,c10,c11,c12,c13⟩:=cells14 MP5.out.row
 cases ins with
 | true =>
  go_wp2_with fail
  refine bodyPost_ret (results_tmp2 rfl _ _ _) rfl ?_
  exact ⟨rfl,A,MP5.out,KX5.out⟩
 | false =>
  go_wp2_with fail
  refine bodyPost_ret (results_tmp2 rfl _ _ _) rfl ?_
  exact ⟨rfl,A,MP5.out,KX5.out⟩

set_option maxRecDepth 100000 in
set_option maxHeartbeats 6400000 in
theorem reach_2 (M:MV) (A:MA) (B r:Nat) (pa size x yl:Int) (ins:Bool) (M2 M3:MV) (yd:Int) (is:Bool) (w:World) (hm:Mp B r M A w)
 (hL:∀ w',Mp B r M A w'→Calls Tryz.prog 83 #[.slice A.ar M.ram.length A.cr,.int .u64 pa,.int .i64 size] w' fun e w''=>e=.returned (.tuple #[.int .u64 yl,.bool ins])∧Below w'.heap.size w' w'')
 (hK:∀ w',Mp B r M A w'→Calls Tryz.prog 84 #[.pointer (some ⟨r,5,none⟩),.int .u64 pa,.int .i64 size] w' fun e w''=>e=.returned (.tuple #[.int .u64 yd,.bool is])∧∃ A',Mp B r M2 A' w''∧Kx r (mvF M A) (mvF M2 A') w' w'')
 (hT:∀ (A':MA) w',Mp B r M2 A' w'→Calls Tryz.prog 85 #[.pointer (some ⟨r,0,none⟩)] w' fun e w''=>e=.returned (.tuple #[])∧Mp B r M3 A' w''∧Kx r (mvF M2 A') (mvF M3 A') w' w'') :
 Calls Tryz.prog 46 #[.pointer (some ⟨r,0,none⟩),.int .u64 pa,.int .i64 size,.int .i64 2,.int .u64 x] w fun e w'=>e=.returned (.tuple #[.int .u64 (if ins=true then yl else yd),.bool (ins||is)])∧∃ A',Mp B r (if ins=true then M else M3) A' w'∧Kx r (mvF M A) (mvF (if ins=true then M else M3) A') w w':=by
 have HM:=dhid hm
 have HL:=dhid hL
 have HK:=dhid hK
 have HT:=dhid hT
 clear hK hT
 obtain ⟨c0,c1,c2,c3,c4,c5,c6,c7,c8,c9,c10,c11,c12,c13⟩:=cells14 hm.row
 clear hm hL
 go_enter Tryz.func46,Tryz.ntmps46
 go_wp2_with fail
 refine (HL.out _ HM.out).mono ?_
 rintro e w5 ⟨rfl,hb5⟩
 have MP5:=dhid (HM.out.below hb5)
 have KX5:=dhid (Kx.of_below (r:=r) (L:=mvF M A) hb5)
 clear hb5
 clear c0 c1 c2 c3 c4 c5 c6 c7 c8 c9 c10 c11 c12 c13
 obtain ⟨c0,c1,c2,c3,c4,c5,c6,c7,c8,c9,c10,c11,c12,c13⟩:=cells14 MP5.out.row
 cases ins with
 | true =>
  go_wp2_with fail
  refine bodyPost_ret (results_tmp2 rfl _ _ _) rfl ?_
  exact ⟨rfl,A,MP5.out,KX5.out⟩
 | false =>
  go_wp2_with fail
  refine (HK.out _ MP5.out).mono ?_
  rintro e w6 ⟨rfl,A',mp6,kx6⟩
  have MP6:=dhid mp6
  have KX6:=dhid (KX5.out.trans kx6)
  clear mp6 kx6
  go_wp2_with fail
  refine (HT.out A' _ MP6.out).mono ?_
  rintro e w7 ⟨rfl,mp7,kx7⟩
  have MP7:=dhid mp7
  have KX7:=dhid (KX6.out.trans kx7)
  clear mp7 kx7
  go_wp2_with fail
  refine bodyPost_ret (results_tmp2 rfl _ _ _) rfl ?_
  exact ⟨rfl,A',MP7.out,KX7.out⟩

theorem crookedCode_9 (kind:Int) (hk:kind=1∨kind=2∨kind=3) (w:World):Calls Tryz.prog 42 #[.int .i64 kind] w fun e w'=>e=.returned (.int .i64 (if kind=1 then 0 else if kind=2 then 4 else 6))∧w'=w:=by
 rcases hk with rfl | rfl | rfl
 ·go_enter Tryz.func42,Tryz.ntmps42
  go_wp2_with fail
  go_ret
  exact ⟨rfl,rfl⟩
 ·go_enter Tryz.func42,Tryz.ntmps42
  go_wp2_with fail
  go_ret
  exact ⟨rfl,rfl⟩
 ·go_enter Tryz.func42,Tryz.ntmps42
  go_wp2_with fail
  go_ret
  exact ⟨rfl,rfl⟩

theorem accessCode_9 (kind:Int) (hk:kind=1∨kind=2∨kind=3) (w:World):Calls Tryz.prog 45 #[.int .i64 kind] w fun e w'=>e=.returned (.int .i64 (if kind=2 then 5 else if kind=3 then 7 else 1))∧w'=w:=by
 rcases hk with rfl | rfl | rfl
 ·go_enter Tryz.func45,Tryz.ntmps45
  go_wp2_with fail
  go_ret
  exact ⟨rfl,rfl⟩
 ·go_enter Tryz.func45,Tryz.ntmps45
  go_wp2_with fail
  go_ret
  exact ⟨rfl,rfl⟩
 ·go_enter Tryz.func45,Tryz.ntmps45
  go_wp2_with fail
  go_ret
  exact ⟨rfl,rfl⟩

end Go.Proofs.YtkhofppmeoooaaaGreatDoor
