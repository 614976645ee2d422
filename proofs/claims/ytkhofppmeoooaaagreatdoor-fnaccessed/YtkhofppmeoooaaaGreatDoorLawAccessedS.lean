/- Own lemmas. -/
import Derived.Test.YtkhofppmeoooaaaGreatDoorK27
import Derived.Test.YtkhofppmeoooaaaGreatDoorK31
import Derived.Test.YtkhofppmeoooaaaGreatDoorK36
import Derived.Test.YtkhofppmeoooaaaGreatDoorK38
import Derived.Test.YtkhofppmeoooaaaGreatDoorK39
namespace Go.Proofs.YtkhofppmeoooaaaGreatDoor.fnAccessed
open Go.RowKit
set_option linter.unusedVariables false

structure Vm (W:World) (b:Nat) (M:MV) (A:MA):Prop where
 row:W.heap[b]?=some (.cells #[.int .u64 M.pc,.slice A.ax M.x.length A.cx,.int .i64 M.pr,.slice A.ac M.cs.length A.cc,.slice A.ar M.ram.length A.cr,.int .u64 M.d.t,.int .u64 M.d.cm,.bool M.d.so,.slice A.ai M.d.xs.length A.ci,.slice A.ao M.d.ys.length A.co,.int .i64 M.d.ir,.int .u64 M.hd,.bool M.hl,.bool M.wt] 29 (0,0))
 sl:MSl W M A

theorem Vm.below {W W':World} {b:Nat} {M:MV} {A:MA} (h:Vm W b M A) (hb:Below W.heap.size W W'):Vm W' b M A:=⟨dstays hb h.row,h.sl.below hb⟩

theorem Vm.new {W:World} {M:MV} {A:MA} (h:MSl W M A):Vm (W.alloc (.cells #[.int .u64 M.pc,.slice A.ax M.x.length A.cx,.int .i64 M.pr,.slice A.ac M.cs.length A.cc,.slice A.ar M.ram.length A.cr,.int .u64 M.d.t,.int .u64 M.d.cm,.bool M.d.so,.slice A.ai M.d.xs.length A.ci,.slice A.ao M.d.ys.length A.co,.int .i64 M.d.ir,.int .u64 M.hd,.bool M.hl,.bool M.wt] 29)) W.heap.size M A:=⟨heap_alloc_new _ _,h.below ((Below.refl _ _).alloc (Nat.le_refl _) _)⟩

theorem zero_sl (W:World):MSl W zeroM zeroA:=⟨fun i hi=>absurd hi (Nat.not_lt_zero i),fun i hi=>absurd hi (Nat.not_lt_zero i),fun i hi=>absurd hi (Nat.not_lt_zero i),fun i hi=>absurd hi (Nat.not_lt_zero i),fun i hi=>absurd hi (Nat.not_lt_zero i)⟩

theorem zero_len:MLen zeroM:=⟨by simp [zeroM],by simp [zeroM],by simp [zeroM],by simp [zeroM,zeroD],by simp [zeroM,zeroD]⟩

theorem any_mw {M:MV} (h:Ma M):MW M:=⟨h.ucs,h.bram,h.d.by_.1,h.d.by_.2⟩

theorem any_gd {M:MV} (h:Ma M) (hm:machB M=true):Gd M:=⟨hm,any_mw h,h.ux,h.pc,h.hd⟩

theorem good_parts {M:MV} {n k:Int} (h:goodA M n k=true):machB M=true∧sizeB n=true∧(1≤k∧k≤3):=by
 unfold goodA at h
 simp only [Bool.and_eq_true,decide_eq_true_eq] at h
 exact ⟨h.1.1.1,h.1.1.2,h.1.2⟩

theorem acc_facts {M:MV} (h:Ma M) (a n k x:Int):(goodA M n k=false∧accessM M a n k x=(0,zeroM,99)) ∨
 (goodA M n k=true∧(accessM M a n k x).2.2≠99∧Gd (accessM M a n k x).2.1∧(accessM M a n k x).2.1.pc=M.pc∧(accessM M a n k x).2.1.x=M.x∧(accessM M a n k x).2.1.pr=M.pr ∧
  ((accessM M a n k x).2.2=0→k=3→2147483648≤a→(M.cs.getD 15 0 / 1152921504606846976==0)=true →
   (accessM (accessM M a n k x).2.1 a n 2 0).2.2≠0∨(widen (8*n.toNat) (accessM (accessM M a n k x).2.1 a n 2 0).1=widen (8*n.toNat) x∧(accessM (accessM M a n k x).2.1 a n 2 0).2.1=(accessM M a n k x).2.1))):=by
 cases hg:goodA M n k with
 | false=>exact Or.inl ⟨rfl,by unfold accessM;rw [hg];rfl⟩
 | true =>
  obtain ⟨hm,hn,hk⟩:=good_parts hg
  have e:accessM M a n k x=accV M a n k x:=by unfold accessM;rw [hg];rfl
  have hgd:=(any_gd h hm).acc a n k x
  have hs:=acc_same M a n k x
  rw [e]
  refine Or.inr ⟨rfl,?_,hgd,hs.1,hs.2.1,hs.2.2.1,?_⟩
  ·rcases acc_code M a n k x with h0 | ⟨c,hc,h0⟩<;>rw [h0]<;>omega
  ·intro h0 hk3 hge hst
   subst hk3
   have e2:accessM (accV M a n 3 x).2.1 a n 2 0=accV (accV M a n 3 x).2.1 a n 2 0:=by
    unfold accessM
    have:goodA (accV M a n 3 x).2.1 n 2=true:=by unfold goodA;rw [hgd.ok,hn];rfl
    rw [this];rfl
   rw [e2]
   exact acc_again hm hn hge hst h0

set_option maxRecDepth 100000 in
set_option maxHeartbeats 6400000 in
theorem walk (a0:Option Addr) (len0 cap0:Nat) (z0:List Int) (w:World) (w0:IsRow .u8 w a0 len0 cap0 z0) (hT:Tab w) :
 Calls Tryz.prog 3 #[.slice a0 len0 cap0] w fun e w'=>e=.returned (.bool true)∧Below w.heap.size w w':=by
 by_cases hbig:4096 < len0
 ·have hb:decide (4096 < len0)=true:=by simpa using hbig
  clear hT
  go_enter Tryz.func3,Tryz.ntmps3
  go_wp2_with fail
  refine (big_any a0 len0 cap0 _).mono ?_
  rintro e w1 ⟨rfl,hw1⟩
  subst hw1
  rw [hb]
  go_wp2_with fail
  go_ret
  exact ⟨rfl,Below.refl _ _⟩
 ·have hb:decide (4096 < len0)=false:=by simpa using hbig
  obtain ⟨zs,hcd⟩:=code_of w0 (by omega)
  have HD:Hid (Code w a0 len0 zs):=hcd
  have HT:=dhid hT
  clear hcd w0 hbig hT
  go_enter Tryz.func3,Tryz.ntmps3
  go_wp2_with fail
  refine (big_any a0 len0 cap0 _).mono ?_
  rintro e w1 ⟨rfl,hw1⟩
  have hw1':=hw1.symm
  subst hw1'
  rw [hb]
  clear hb
  go_wp2_with fail
  refine (DrawAccess_c cap0 _ HD.out).mono ?_
  rintro e w2 ⟨M,A,a,n,k,x,rfl,FA,SL,GG,ha,hx,HB⟩
  have HMW:=dhid (any_mw FA.out)
  have HLN:=dhid FA.out.len
  have HH:=dhid FA.out.hd
  have HA:=dhid ha
  have HX:=dhid hx
  have AF:=dhid (acc_facts FA.out a n k x)
  have UC:=dhid (fun j=>FA.out.ucs j)
  have HI:Hid (∀ w',Below w2.heap.size w2 w'→MSl w' M A→Calls Tryz.prog 6 #[.agg #[.int .u64 M.pc,.slice A.ax M.x.length A.cx,.int .i64 M.pr,.slice A.ac M.cs.length A.cc,.slice A.ar M.ram.length A.cr,.int .u64 M.d.t,.int .u64 M.d.cm,.bool M.d.so,.slice A.ai M.d.xs.length A.ci,.slice A.ao M.d.ys.length A.co,.int .i64 M.d.ir,.int .u64 M.hd,.bool M.hl,.bool M.wt],.int .u64 a,.int .i64 n,.int .i64 k,.int .u64 x] w' fun e w''=>∃ K:MA,e=.returned (.tuple #[.int .u64 (accessM M a n k x).1,.agg (mvc (accessM M a n k x).2.1 K),.int .i64 (accessM M a n k x).2.2])∧Fam w'.heap.size w''.heap.size w'' (mvF (accessM M a n k x).2.1 K)∧Below w'.heap.size w' w''):=fun w' hb hs=>implAccess_any M A a n k x w' HLN.out hs HMW.out HH.out HA.out HX.out (HT.out.below (below_trans HB.out hb)) GG.out
  have HS:Hid (∀ w',MSl w' M A→Calls Tryz.prog 7 #[.agg #[.int .u64 M.pc,.slice A.ax M.x.length A.cx,.int .i64 M.pr,.slice A.ac M.cs.length A.cc,.slice A.ar M.ram.length A.cr,.int .u64 M.d.t,.int .u64 M.d.cm,.bool M.d.so,.slice A.ai M.d.xs.length A.ci,.slice A.ao M.d.ys.length A.co,.int .i64 M.d.ir,.int .u64 M.hd,.bool M.hl,.bool M.wt],.int .u64 a,.int .i64 n,.int .i64 k,.int .u64 x] w' fun e w''=>∃ K:MA,e=.returned (.tuple #[.int .u64 (accessM M a n k x).1,.agg (mvc (accessM M a n k x).2.1 K),.int .i64 (accessM M a n k x).2.2])∧Fam w'.heap.size w''.heap.size w'' (mvF (accessM M a n k x).2.1 K)∧Below w'.heap.size w' w''):=fun w' hs=>specAccess_any M A a n k x w' HLN.out hs HMW.out HA.out HX.out
  have HI2:Hid (∀ (C:MA) w',Gd (accessM M a n k x).2.1→Goodly (accessM M a n k x).2.1.ram.length C.ar C.cr→Below w2.heap.size w2 w'→MSl w' (accessM M a n k x).2.1 C→Calls Tryz.prog 6 #[.agg (mvc (accessM M a n k x).2.1 C),.int .u64 a,.int .i64 n,.int .i64 2,.int .u64 0] w' fun e w''=>∃ K:MA,e=.returned (.tuple #[.int .u64 (accessM (accessM M a n k x).2.1 a n 2 0).1,.agg (mvc (accessM (accessM M a n k x).2.1 a n 2 0).2.1 K),.int .i64 (accessM (accessM M a n k x).2.1 a n 2 0).2.2])∧Fam w'.heap.size w''.heap.size w'' (mvF (accessM (accessM M a n k x).2.1 a n 2 0).2.1 K)∧Below w'.heap.size w' w''):=fun C w' hg hgd hb hs=>implAccess_any (accessM M a n k x).2.1 C a n 2 0 w' hg.len hs hg.mw hg.hd HA.out ⟨by decide,by decide⟩ (HT.out.below (below_trans HB.out hb)) (fun _=>hgd)
  have LZ:Hid ((accessM M a n k x).2.1=zeroM∨Gd (accessM M a n k x).2.1):=by
   rcases AF.out with h | h
   ·exact Or.inl (by rw [h.2])
   ·exact Or.inr h.2.2.1
  have CS15:Hid (goodA M n k=true→∀ w',MSl w' M A→∃ b o,A.ac=some ⟨b,o,none⟩∧M.cs.length=22∧w'.cell? ⟨b,o+15,none⟩=some (.int .u64 (M.cs.getD 15 0))):=fun hg w' hs=>by
   have h22:=(mach_parts (good_parts hg).1).1
   obtain ⟨b,o,e,_,hc⟩:=hs.cs 15 (by omega)
   exact ⟨b,o,e,h22,hc⟩
  have SZ:Hid (goodA M n k=true→n=1∨n=2∨n=4∨n=8):=fun hg=>by have:=(good_parts hg).2.1;unfold sizeB at this;exact of_decide_eq_true this
  have V3:=dhid (Vm.new SL.out)
  have B3:Hid (Below w2.heap.size w2 (w2.alloc (.cells #[.int .u64 M.pc,.slice A.ax M.x.length A.cx,.int .i64 M.pr,.slice A.ac M.cs.length A.cc,.slice A.ar M.ram.length A.cr,.int .u64 M.d.t,.int .u64 M.d.cm,.bool M.d.so,.slice A.ai M.d.xs.length A.ci,.slice A.ao M.d.ys.length A.co,.int .i64 M.d.ir,.int .u64 M.hd,.bool M.hl,.bool M.wt] 29))):=(Below.refl _ _).alloc (Nat.le_refl _) _
  clear HD HMW HH FA SL HT ha hx
  generalize accessM M a n k x=V at *
  obtain ⟨y,O,ec⟩:=V
  generalize accessM O a n 2 0=V2 at *
  obtain ⟨y2,O2,ec2⟩:=V2
  dsimp only [mvc] at HI HS HI2 AF LZ ⊢
  obtain ⟨c0,c1,c2,c3,c4,c5,c6,c7,c8,c9,c10,c11,c12,c13⟩:=cells14 V3.out.row
  go_wp2_with fail
  refine (HI.out _ B3.out V3.out.sl).mono ?_
  rintro e w4 ⟨C9,rfl,f4,hb4⟩
  have hx4:=below_trans hb4 ((Below.refl w4.heap.size w4).alloc (Nat.le_refl _) (.cells #[.int .u64 O.pc,.slice C9.ax O.x.length C9.cx,.int .i64 O.pr,.slice C9.ac O.cs.length C9.cc,.slice C9.ar O.ram.length C9.cr,.int .u64 O.d.t,.int .u64 O.d.cm,.bool O.d.so,.slice C9.ai O.d.xs.length C9.ci,.slice C9.ao O.d.ys.length C9.co,.int .i64 O.d.ir,.int .u64 O.hd,.bool O.hl,.bool O.wt] 29))
  have G9:Hid (Goodly O.ram.length C9.ar C9.cr):=own_good (f4.own (bRow C9.ar O.ram.length C9.cr O.ram) (by simp [mvF]))
  have V4:=dhid (V3.out.below hx4)
  have V9:=dhid (Vm.new f4.msl)
  have B4:=dhid (below_trans B3.out hx4)
  have Z4:=dhid (show w2.heap.size < w4.heap.size by have:=hb4.size;rw [World.size_alloc] at this;omega)
  clear hx4 hb4 f4 V3 B3 HI c0 c1 c2 c3 c4 c5 c6 c7 c8 c9 c10 c11 c12 c13
  obtain ⟨c0,c1,c2,c3,c4,c5,c6,c7,c8,c9,c10,c11,c12,c13⟩:=cells14 V4.out.row
  go_wp2_with fail
  refine (HS.out _ V4.out.sl).mono ?_
  rintro e w5 ⟨C12,rfl,f5,hb5⟩
  have hx5:=below_trans hb5 ((Below.refl w5.heap.size w5).alloc (Nat.le_refl _) (.cells #[.int .u64 O.pc,.slice C12.ax O.x.length C12.cx,.int .i64 O.pr,.slice C12.ac O.cs.length C12.cc,.slice C12.ar O.ram.length C12.cr,.int .u64 O.d.t,.int .u64 O.d.cm,.bool O.d.so,.slice C12.ai O.d.xs.length C12.ci,.slice C12.ao O.d.ys.length C12.co,.int .i64 O.d.ir,.int .u64 O.hd,.bool O.hl,.bool O.wt] 29))
  have V5:=dhid (V4.out.below hx5)
  have V95:=dhid (V9.out.below hx5)
  have V12:=dhid (Vm.new f5.msl)
  have B5:=dhid (below_trans B4.out hx5)
  clear hx5 hb5 f5 V4 V9 B4 HS c0 c1 c2 c3 c4 c5 c6 c7 c8 c9 c10 c11 c12 c13
  obtain ⟨c0,c1,c2,c3,c4,c5,c6,c7,c8,c9,c10,c11,c12,c13⟩:=cells14 V95.out.row
  obtain ⟨k0,k1,k2,k3,k4,k5,k6,k7,k8,k9,k10,k11,k12,k13⟩:=cells14 V12.out.row
  have ty:(y != y)=false:=by simp
  have te:(ec != ec)=false:=by simp
  have OLN:Hid (MLen O):=by rcases LZ.out with h | h<;>first | (rw [h];exact zero_len) | exact h.len
  go_wp2_with fail
  refine (likeMachine_same O C9 C12 _ OLN.out V95.out.sl V12.out.sl).mono ?_
  rintro e w6 ⟨rfl,hb6⟩
  have V6:=dhid (V5.out.below hb6)
  have V96:=dhid (V95.out.below hb6)
  have B6:=dhid (below_trans B5.out hb6)
  obtain ⟨b3,hb3e⟩:∃ b,b=w2.heap.size:=⟨_,rfl⟩
  obtain ⟨b9,hb9e⟩:∃ b,b=w4.heap.size:=⟨_,rfl⟩
  obtain ⟨b12,hb12e⟩:∃ b,b=w5.heap.size:=⟨_,rfl⟩
  rw [← hb3e] at V6
  rw [← hb9e] at V96
  rw [← hb3e,← hb9e,← hb12e]
  clear hb3e hb9e hb12e hb6 V5 V95 V12 B5 c0 c1 c2 c3 c4 c5 c6 c7 c8 c9 c10 c11 c12 c13 k0 k1 k2 k3 k4 k5 k6 k7 k8 k9 k10 k11 k12 k13 ty te Z4
  obtain ⟨c0,c1,c2,c3,c4,c5,c6,c7,c8,c9,c10,c11,c12,c13⟩:=cells14 V96.out.row
  obtain ⟨d0,d1,d2,d3,d4,d5,d6,d7,d8,d9,d10,d11,d12,d13⟩:=cells14 V6.out.row
  rcases AF.out with ⟨hg,hV⟩ | ⟨hg,h99,hgd,hpc,hxx,hpr,hag⟩
  ·injection hV with e1 e2
   injection e2 with e2 e3
   subst e1 e2 e3
   clear HI2 AF LZ CS15 SZ hg
   go_wp2_with fail
   refine (likeMachine_same zeroM C9 zeroA _ zero_len V96.out.sl (zero_sl _)).mono ?_
   rintro e w7 ⟨rfl,hb7⟩
   go_wp2_with fail
   go_ret
   exact ⟨rfl,below_trans HB.out (below_trans B6.out hb7)⟩
  ·have GDO:=dhid hgd
   have HAG:=dhid hag
   have HG:=dhid hg
   have d99:(ec==99)=false:=beq_eq_false_iff_ne.2 h99
   have HPC:=dhid hpc
   have HXX:=dhid hxx
   have HPR:=dhid hpr
   clear AF LZ h99 hgd hag hg hpc hxx hpr
   go_wp2_with fail
   refine (implMachineOk_any O C9 _ GDO.out.len V96.out.sl GDO.out.mw.cs).mono ?_
   rintro e w7 ⟨rfl,hb7⟩
   rw [GDO.out.ok]
   have V7:=dhid (V6.out.below hb7)
   have V97:=dhid (V96.out.below hb7)
   have B7:=dhid (below_trans B6.out hb7)
   clear V6 V96 B6 hb7 c0 c1 c2 c3 c4 c5 c6 c7 c8 c9 c10 c11 c12 c13 d0 d1 d2 d3 d4 d5 d6 d7 d8 d9 d10 d11 d12 d13
   obtain ⟨c0,c1,c2,c3,c4,c5,c6,c7,c8,c9,c10,c11,c12,c13⟩:=cells14 V97.out.row
   obtain ⟨d0,d1,d2,d3,d4,d5,d6,d7,d8,d9,d10,d11,d12,d13⟩:=cells14 V7.out.row
   have tpc:(O.pc != M.pc)=false:=by rw [HPC.out];simp
   have tpr:(O.pr != M.pr)=false:=by rw [HPR.out];simp
   have HLW:Hid (Calls Tryz.prog 10 #[.slice C9.ax O.x.length C9.cx,.slice A.ax M.x.length A.cx] w7 fun e w''=>e=.returned (.bool true)∧Below w7.heap.size w7 w''):=(likeWords_any _ _ _ _ _ _ O.x M.x w7 rfl rfl GDO.out.len.x HLN.out.x V97.out.sl.x V7.out.sl.x).mono fun e w'' h=>⟨by rw [h.1,HXX.out];simp,h.2⟩
   go_wp2_with fail
   refine HLW.out.mono ?_
   rintro e w8 ⟨rfl,hb8⟩
   have V8:=dhid (V7.out.below hb8)
   have V98:=dhid (V97.out.below hb8)
   have B8:=dhid (below_trans B7.out hb8)
   clear V7 V97 B7 hb8 c0 c1 c2 c3 c4 c5 c6 c7 c8 c9 c10 c11 c12 c13 d0 d1 d2 d3 d4 d5 d6 d7 d8 d9 d10 d11 d12 d13 HLW tpc HXX HPC
   obtain ⟨c0,c1,c2,c3,c4,c5,c6,c7,c8,c9,c10,c11,c12,c13⟩:=cells14 V98.out.row
   obtain ⟨d0,d1,d2,d3,d4,d5,d6,d7,d8,d9,d10,d11,d12,d13⟩:=cells14 V8.out.row
   obtain ⟨cb,co,eac,h22,c15⟩:=CS15.out HG.out _ V8.out.sl
   obtain ⟨s15,hs15⟩:∃ s,s=M.cs.getD 15 0:=⟨_,rfl⟩
   rw [← hs15] at c15 HAG
   rw [eac,h22] at d3
   clear hs15 CS15 eac h22 UC
   cases e0:(ec==0) with
   | false =>
    go_wp2_with fail
    go_ret
    exact ⟨rfl,below_trans HB.out B8.out⟩
   | true =>
    cases k3:(k==3) with
    | false =>
     go_wp2_with fail
     go_ret
     exact ⟨rfl,below_trans HB.out B8.out⟩
    | true =>
     cases ge:decide (a ≥ 2147483648) with
     | false =>
      go_wp2_with fail
      go_ret
      exact ⟨rfl,below_trans HB.out B8.out⟩
     | true =>
      cases st:(s15 / 1152921504606846976==0) with
      | false =>
       go_wp2_with fail
       go_ret
       exact ⟨rfl,below_trans HB.out B8.out⟩
      | true =>
       have AG:=dhid (HAG.out (beq_iff_eq.1 e0) (beq_iff_eq.1 k3) (of_decide_eq_true ge) st)
       clear HAG
       go_wp2_with fail
       refine (HI2.out C9 _ GDO.out G9.out B8.out V98.out.sl).mono ?_
       rintro e w9 ⟨C15,rfl,f9,hb9⟩
       have hx9:=below_trans hb9 ((Below.refl w9.heap.size w9).alloc (Nat.le_refl _) (.cells #[.int .u64 O2.pc,.slice C15.ax O2.x.length C15.cx,.int .i64 O2.pr,.slice C15.ac O2.cs.length C15.cc,.slice C15.ar O2.ram.length C15.cr,.int .u64 O2.d.t,.int .u64 O2.d.cm,.bool O2.d.so,.slice C15.ai O2.d.xs.length C15.ci,.slice C15.ao O2.d.ys.length C15.co,.int .i64 O2.d.ir,.int .u64 O2.hd,.bool O2.hl,.bool O2.wt] 29))
       have V99:=dhid (V98.out.below hx9)
       have V15:=dhid (Vm.new f9.msl)
       have B9:=dhid (below_trans B8.out hx9)
       clear hx9 hb9 f9 V8 V98 B8 c0 c1 c2 c3 c4 c5 c6 c7 c8 c9 c10 c11 c12 c13 d0 d1 d2 d3 d4 d5 d6 d7 d8 d9 d10 d11 d12 d13 HI2 G9 c15
       cases z2:(ec2==0) with
       | false =>
        have z2':(ec2 != 0)=true:=by rw [bne,z2];rfl
        go_wp2_with fail
        go_ret
        exact ⟨rfl,below_trans HB.out B9.out⟩
       | true =>
        have z2':(ec2 != 0)=false:=by rw [bne,z2];rfl
        have AG2:Hid (widen (8*n.toNat) y2=widen (8*n.toNat) x∧O2=O):=by
         rcases AG.out with h | h
         ·exact absurd (beq_iff_eq.1 z2) h
         ·exact h
        have HO2:=AG2.out.2
        subst HO2
        obtain ⟨j,hj,hj1⟩:∃ j:Nat,n=(j:Int)∧(1≤j∧j≤8):=by
         rcases SZ.out HG.out with h | h | h | h
         ·exact ⟨1,h,by omega⟩
         ·exact ⟨2,h,by omega⟩
         ·exact ⟨4,h,by omega⟩
         ·exact ⟨8,h,by omega⟩
        have hw64:wrap64 (8*n)=((8*j:Nat):Int):=by rw [hj];unfold wrap64;omega
        have HW1:Hid (∀ w',Calls Tryz.prog 11 #[.int .u64 y2,.int .i64 ((8*j:Nat):Int)] w' fun e w''=>e=.returned (.int .u64 (widen (8*j) x))∧w''=w'):=fun w'=>(implWiden_any y2 (8*j) (by omega) (by omega) w').mono fun e w'' h=>⟨by rw [h.1];have:=AG2.out.1;rw [hj,Int.toNat_natCast] at this;rw [this],h.2⟩
        have HW2:Hid (∀ w',Calls Tryz.prog 11 #[.int .u64 x,.int .i64 ((8*j:Nat):Int)] w' fun e w''=>e=.returned (.int .u64 (widen (8*j) x))∧w''=w'):=fun w'=>implWiden_any x (8*j) (by omega) (by omega) w'
        obtain ⟨c0,c1,c2,c3,c4,c5,c6,c7,c8,c9,c10,c11,c12,c13⟩:=cells14 V99.out.row
        obtain ⟨k0,k1,k2,k3,k4,k5,k6,k7,k8,k9,k10,k11,k12,k13⟩:=cells14 V15.out.row
        have OLN2:=dhid OLN.out
        clear AG AG2 SZ
        generalize widen (8*j) x=wx at *
        generalize ((8*j:Nat):Int)=j8 at *
        clear hj hj1
        go_wp2_with fail
        refine (HW1.out _).mono ?_
        rintro e w10 ⟨rfl,hw10⟩
        have hw10':=hw10.symm
        subst hw10'
        go_wp2_with fail
        refine (HW2.out _).mono ?_
        rintro e w11 ⟨rfl,hw11⟩
        have hw11':=hw11.symm
        subst hw11'
        go_wp2_with fail
        refine (likeMachine_same O2 C15 C9 _ OLN2.out V15.out.sl V99.out.sl).mono ?_
        rintro e w12 ⟨rfl,hb12⟩
        go_wp2_with fail
        go_ret
        exact ⟨rfl,below_trans HB.out (below_trans B9.out hb12)⟩

end Go.Proofs.YtkhofppmeoooaaaGreatDoor.fnAccessed
