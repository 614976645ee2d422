/- Own lemmas. -/
import Derived.Test.YtbajeckeeekhnaaGreatK21
import Derived.Deep.RegionWith
import Derived.BigQuiet
namespace Go.Proofs.YtbajeckeeekhnaaGreat
open Go.RowKit
set_option linter.unusedVariables false

theorem below_dNx (w:World) (n:Nat):Below w.heap.size w (w.drewN n):=⟨rfl,rfl,rfl,Nat.le_refl _,fun _ _=>rfl⟩

set_option maxRecDepth 100000 in
set_option maxHeartbeats 12800000 in
theorem l9Access_1 (M M1:MV) (A:MA) (B r:Nat) (addr size x p fa fc:Int) (crk cd wr pm ins:Bool) (yl:Int) (V:Int × MV × Int) (w:World) (hm:Mp B r M A w) (hs1:1≤size) (hs8:size≤8) (ha:0≤addr∧addr < 18446744073709551616) (hcr:(addr % size != 0)=crk) (hfc:(fc != 0)=cd)
 (hL0:∀ w',Mp B r M A w'→Calls Tryz.prog 76 #[.pointer (some ⟨r,0,none⟩),.slice none 0 0,.int .u64 addr,.int .i64 1] w' fun e w''=>e=.returned (.tuple #[.int .u64 fa,.int .i64 fc])∧Mp B r M1 A w''∧Kx r (mvF M A) (mvF M1 A) w' w'')
 (hwr:decide (IntKind.u64.wrap (IntKind.u64.wrap (fa+size) - 1) < fa)=wr)
 (hE0:∀ w',Mp B r M1 A w'→Calls Tryz.prog 78 #[.slice A.ac M1.cs.length A.cc,.int .i64 M1.pr,.int .i64 1] w' fun e w''=>e=.returned (.int .i64 p)∧w''=w')
 (hP0:∀ w',Mp B r M1 A w'→Calls Tryz.prog 77 #[.slice A.ac M1.cs.length A.cc,.int .i64 p,.int .u64 fa,.int .i64 size,.int .i64 1] w' fun e w''=>e=.returned (.bool pm)∧w''=w')
 (hI0:∀ w',Mp B r M1 A w'→Calls Tryz.prog 79 #[.slice A.ar M1.ram.length A.cr,.int .u64 fa,.int .i64 size] w' fun e w''=>e=.returned (.bool ins)∧w''=w')
 (hD0:ins=true→∀ w',Mp B r M1 A w'→Calls Tryz.prog 80 #[.slice A.ar M1.ram.length A.cr,.int .u64 fa,.int .i64 size] w' fun e w''=>e=.returned (.int .u64 yl)∧w''=w')
 (hV:V=(if crk=true then (0,M,16) else if cd=true then (0,M1,wrap64 (fc+16)) else if (wr||!pm)=true then (0,M1,17) else if ins=true then (yl,M1,0) else (0,M1,17):Int × MV × Int)) :
 Calls Tryz.prog 60 #[.pointer (some ⟨r,0,none⟩),.slice none 0 0,.int .u64 addr,.int .i64 size,.int .i64 1,.int .u64 x] w fun e w'=>e=.returned (.tuple #[.int .u64 V.1,.int .i64 V.2.2])∧∃ A',Mp B r V.2.1 A' w'∧Kx r (mvF M A) (mvF V.2.1 A') w w':=by
 have HM:=dhid hm
 have HV:=dhid hV
 have HLX:=dhid hL0
 have HEX:=dhid hE0
 have HPX:=dhid hP0
 have HIX:=dhid hI0
 have HDX:=dhid hD0
 clear hm hV hL0 hE0 hP0 hI0 hD0
 cases crk with
 | true =>
   have F:Hid (V=(0,M,16)):=by show _=_;rw [HV.out];rfl
   go_enter Tryz.func60,Tryz.ntmps60
   go_wp2_with fail
   go_region
   all_goals go_wp2_with fail
   all_goals refine bodyPost_ret (results_tmp2 rfl _ _ _) rfl ?_
   all_goals exact ⟨by rw [F.out];rfl,by rw [F.out];exact ⟨A,HM.out.below (by first | exact ((Below.refl _ _).alloc (Nat.le_refl _) _).drew | exact (Below.refl _ _).drew.alloc (Nat.le_refl _) _),Kx.of_below (by first | exact ((Below.refl _ _).alloc (Nat.le_refl _) _).drew | exact (Below.refl _ _).drew.alloc (Nat.le_refl _) _)⟩⟩
 | false =>
   go_enter Tryz.func60,Tryz.ntmps60
   go_wp2_with fail
   refine (HLX.out _ HM.out).mono ?_
   rintro e w1 ⟨rfl,mp1,kx1⟩
   have MP1:=dhid mp1
   have KX1:=dhid kx1
   clear mp1 kx1
   cases cd with
   | true =>
     have F:Hid (V=(0,M1,wrap64 (fc+16))):=by show _=_;rw [HV.out];rfl
     go_wp2_with fail
     refine bodyPost_ret (results_tmp2 rfl _ _ _) rfl ?_
     exact ⟨by rw [F.out];rfl,by rw [F.out];exact ⟨A,MP1.out,KX1.out⟩⟩
   | false =>
     go_wp2_with fail
     obtain ⟨w2,hw2⟩:∃ W,W=w1.alloc (.cells #[.int .i64 0,.int .i64 17,.int .i64 21,.int .i64 23] 2 (0,0)):=⟨_,rfl⟩
     rw [← hw2]
     have MP2:Hid (Mp B r M1 A w2):=by show Mp _ _ _ _ _;rw [hw2];exact MP1.out.below ((Below.refl _ _).alloc (Nat.le_refl _) _)
     have KX2:Hid (Kx r (mvF M A) (mvF M1 A) w w2):=by show Kx _ _ _ _ _;rw [hw2];exact KX1.out.trans (Kx.of_below ((Below.refl _ _).alloc (Nat.le_refl _) _))
     clear hw2 MP1 KX1
     have MPN:Hid (∀ n,Mp B r M1 A (w2.drewN n)):=fun n=>MP2.out.below (below_dNx w2 n)
     have KXN:Hid (∀ n,Kx r (mvF M A) (mvF M1 A) w (w2.drewN n)):=fun n=>KX2.out.trans (Kx.of_below (below_dNx w2 n))
     obtain ⟨c0,c1,c2,c3,c4,c5,c6,c7,c8,c9,c10,c11,c12,c13⟩:=cells14 MP2.out.row
     cases wr with
     | true =>
       have F:Hid (V=(0,M1,17)):=by show _=_;rw [HV.out];rfl
       have HE7:Hid (∀ n,Calls Tryz.prog 78 #[.slice A.ac M1.cs.length A.cc,.int .i64 M1.pr,.int .i64 1] (w2.drewN n) fun e w''=>e=.returned (.int .i64 p)∧w''=w2.drewN n):=fun n=>HEX.out _ (MPN.out n)
       have HP7:Hid (∀ n,Calls Tryz.prog 77 #[.slice A.ac M1.cs.length A.cc,.int .i64 p,.int .u64 fa,.int .i64 size,.int .i64 1] (w2.drewN n) fun e w''=>e=.returned (.bool pm)∧w''=w2.drewN n):=fun n=>HPX.out _ (MPN.out n)
       go_quiet (first | (go_at_call 78;with_reducible refine Calls.quiet_of_same (HE7.out _)) | (go_at_call 77;with_reducible refine Calls.quiet_of_same (HP7.out _)))
       all_goals go_wp2_with fail
       all_goals refine bodyPost_ret (results_tmp2 rfl _ _ _) rfl ?_
       all_goals exact ⟨by rw [F.out];rfl,by rw [F.out];exact ⟨A,MPN.out _,KXN.out _⟩⟩
     | false =>
       cases pm with
       | false =>
         have F:Hid (V=(0,M1,17)):=by show _=_;rw [HV.out];rfl
         have HE7:Hid (∀ n,Calls Tryz.prog 78 #[.slice A.ac M1.cs.length A.cc,.int .i64 M1.pr,.int .i64 1] (w2.drewN n) fun e w''=>e=.returned (.int .i64 p)∧w''=w2.drewN n):=fun n=>HEX.out _ (MPN.out n)
         have HP7:Hid (∀ n,Calls Tryz.prog 77 #[.slice A.ac M1.cs.length A.cc,.int .i64 p,.int .u64 fa,.int .i64 size,.int .i64 1] (w2.drewN n) fun e w''=>e=.returned (.bool false)∧w''=w2.drewN n):=fun n=>HPX.out _ (MPN.out n)
         go_quiet (first | (go_at_call 78;with_reducible refine Calls.quiet_of_same (HE7.out _)) | (go_at_call 77;with_reducible refine Calls.quiet_of_same (HP7.out _)))
         all_goals go_wp2_with fail
         all_goals refine bodyPost_ret (results_tmp2 rfl _ _ _) rfl ?_
         all_goals exact ⟨by rw [F.out];rfl,by rw [F.out];exact ⟨A,MPN.out _,KXN.out _⟩⟩
       | true =>
         have HE7:Hid (∀ n,Calls Tryz.prog 78 #[.slice A.ac M1.cs.length A.cc,.int .i64 M1.pr,.int .i64 1] (w2.drewN n) fun e w''=>e=.returned (.int .i64 p)∧w''=w2.drewN n):=fun n=>HEX.out _ (MPN.out n)
         have HP7:Hid (∀ n,Calls Tryz.prog 77 #[.slice A.ac M1.cs.length A.cc,.int .i64 p,.int .u64 fa,.int .i64 size,.int .i64 1] (w2.drewN n) fun e w''=>e=.returned (.bool true)∧w''=w2.drewN n):=fun n=>HPX.out _ (MPN.out n)
         go_quiet (first | (go_at_call 78;with_reducible refine Calls.quiet_of_same (HE7.out _)) | (go_at_call 77;with_reducible refine Calls.quiet_of_same (HP7.out _)))
         obtain ⟨w3,hw3⟩:∃ W,W=w2.drewN nq:=⟨_,rfl⟩
         rw [← hw3]
         have MP3:Hid (Mp B r M1 A w3):=by show Mp _ _ _ _ _;rw [hw3];exact MPN.out _
         have KX3:Hid (Kx r (mvF M A) (mvF M1 A) w w3):=by show Kx _ _ _ _ _;rw [hw3];exact KXN.out _
         clear hw3 MP2 KX2 MPN KXN HE7 HP7
         clear c0 c1 c2 c3 c4 c5 c6 c7 c8 c9 c10 c11 c12 c13
         obtain ⟨c0,c1,c2,c3,c4,c5,c6,c7,c8,c9,c10,c11,c12,c13⟩:=cells14 MP3.out.row
         go_wp2_with fail
         refine (HIX.out _ MP3.out).mono ?_
         rintro e w4 ⟨rfl,hw4⟩
         subst hw4
         cases ins with
         | true =>
           have F:Hid (V=(yl,M1,0)):=by show _=_;rw [HV.out];rfl
           go_wp2_with fail
           refine (HDX.out (by trivial) _ MP3.out).mono ?_
           rintro e w5 ⟨rfl,hw5⟩
           subst hw5
           go_wp2_with fail
           refine bodyPost_ret (results_tmp2 rfl _ _ _) rfl ?_
           exact ⟨by rw [F.out];rfl,by rw [F.out];exact ⟨A,MP3.out,KX3.out⟩⟩
         | false =>
           have F:Hid (V=(0,M1,17)):=by show _=_;rw [HV.out];rfl
           go_wp2_with fail
           refine bodyPost_ret (results_tmp2 rfl _ _ _) rfl ?_
           exact ⟨by rw [F.out];rfl,by rw [F.out];exact ⟨A,MP3.out,KX3.out⟩⟩

set_option maxRecDepth 100000 in
set_option maxHeartbeats 12800000 in
theorem l9Access_2 (M M1:MV) (A:MA) (B r:Nat) (addr size x p fa fc:Int) (crk cd wr pm ins:Bool) (yl:Int) (yd:Int) (D:DV) (is:Bool) (V:Int × MV × Int) (w:World) (hm:Mp B r M A w) (hs1:1≤size) (hs8:size≤8) (ha:0≤addr∧addr < 18446744073709551616) (hcr:(addr % size != 0)=crk) (hfc:(fc != 0)=cd)
 (hL0:∀ w',Mp B r M A w'→Calls Tryz.prog 76 #[.pointer (some ⟨r,0,none⟩),.slice none 0 0,.int .u64 addr,.int .i64 2] w' fun e w''=>e=.returned (.tuple #[.int .u64 fa,.int .i64 fc])∧Mp B r M1 A w''∧Kx r (mvF M A) (mvF M1 A) w' w'')
 (hwr:decide (IntKind.u64.wrap (IntKind.u64.wrap (fa+size) - 1) < fa)=wr)
 (hE0:∀ w',Mp B r M1 A w'→Calls Tryz.prog 78 #[.slice A.ac M1.cs.length A.cc,.int .i64 M1.pr,.int .i64 2] w' fun e w''=>e=.returned (.int .i64 p)∧w''=w')
 (hP0:∀ w',Mp B r M1 A w'→Calls Tryz.prog 77 #[.slice A.ac M1.cs.length A.cc,.int .i64 p,.int .u64 fa,.int .i64 size,.int .i64 2] w' fun e w''=>e=.returned (.bool pm)∧w''=w')
 (hI0:∀ w',Mp B r M1 A w'→Calls Tryz.prog 79 #[.slice A.ar M1.ram.length A.cr,.int .u64 fa,.int .i64 size] w' fun e w''=>e=.returned (.bool ins)∧w''=w')
 (hD0:ins=true→∀ w',Mp B r M1 A w'→Calls Tryz.prog 80 #[.slice A.ar M1.ram.length A.cr,.int .u64 fa,.int .i64 size] w' fun e w''=>e=.returned (.int .u64 yl)∧w''=w')
 (h80:∀ w',Mp B r M1 A w'→Calls Tryz.prog 81 #[.agg #[.int .u64 M1.d.t,.int .u64 M1.d.cm,.bool M1.d.so,.slice A.ai M1.d.xs.length A.ci,.slice A.ao M1.d.ys.length A.co,.int .i64 M1.d.ir],.int .u64 fa,.int .i64 size] w' fun e w''=>∃ (b1:Option Addr) (d1:Nat) (b2:Option Addr) (d2:Nat),e=.returned (.tuple #[.int .u64 yd,.agg #[.int .u64 D.t,.int .u64 D.cm,.bool D.so,.slice b1 D.xs.length d1,.slice b2 D.ys.length d2,.int .i64 D.ir],.bool is])∧Renew w' w'' A.ai A.ci M1.d.xs A.ao A.co M1.d.ys b1 d1 D.xs b2 d2 D.ys∧Below w'.heap.size w' w'')
 (hN0:∀ (A':MA) w',Mp B r (devM M1 D) A' w'→Calls Tryz.prog 41 #[.pointer (some ⟨r,0,none⟩)] w' fun e w''=>e=.returned (.tuple #[])∧Mp B r (lineM (devM M1 D)) A' w''∧Kx r (mvF (devM M1 D) A') (mvF (lineM (devM M1 D)) A') w' w'')
 (hV:V=(if crk=true then (0,M,20) else if cd=true then (0,M1,wrap64 (fc+16)) else if (wr||!pm)=true then (0,M1,21) else if ins=true then (yl,M1,0) else (if is=true then (yd,lineM (devM M1 D),0) else (0,M1,21)):Int × MV × Int)) :
 Calls Tryz.prog 60 #[.pointer (some ⟨r,0,none⟩),.slice none 0 0,.int .u64 addr,.int .i64 size,.int .i64 2,.int .u64 x] w fun e w'=>e=.returned (.tuple #[.int .u64 V.1,.int .i64 V.2.2])∧∃ A',Mp B r V.2.1 A' w'∧Kx r (mvF M A) (mvF V.2.1 A') w w':=by
 have HM:=dhid hm
 have HV:=dhid hV
 have HLX:=dhid hL0
 have HEX:=dhid hE0
 have HPX:=dhid hP0
 have HIX:=dhid hI0
 have HDX:=dhid hD0
 have H8X:=dhid h80
 have HNX:=dhid hN0
 clear hm hV hL0 hE0 hP0 hI0 hD0 h80 hN0
 cases crk with
 | true =>
   have F:Hid (V=(0,M,20)):=by show _=_;rw [HV.out];rfl
   go_enter Tryz.func60,Tryz.ntmps60
   go_wp2_with fail
   go_region
   all_goals go_wp2_with fail
   all_goals refine bodyPost_ret (results_tmp2 rfl _ _ _) rfl ?_
   all_goals exact ⟨by rw [F.out];rfl,by rw [F.out];exact ⟨A,HM.out.below (by first | exact ((Below.refl _ _).alloc (Nat.le_refl _) _).drew | exact (Below.refl _ _).drew.alloc (Nat.le_refl _) _),Kx.of_below (by first | exact ((Below.refl _ _).alloc (Nat.le_refl _) _).drew | exact (Below.refl _ _).drew.alloc (Nat.le_refl _) _)⟩⟩
 | false =>
   go_enter Tryz.func60,Tryz.ntmps60
   go_wp2_with fail
   refine (HLX.out _ HM.out).mono ?_
   rintro e w1 ⟨rfl,mp1,kx1⟩
   have MP1:=dhid mp1
   have KX1:=dhid kx1
   clear mp1 kx1
   cases cd with
   | true =>
     have F:Hid (V=(0,M1,wrap64 (fc+16))):=by show _=_;rw [HV.out];rfl
     go_wp2_with fail
     refine bodyPost_ret (results_tmp2 rfl _ _ _) rfl ?_
     exact ⟨by rw [F.out];rfl,by rw [F.out];exact ⟨A,MP1.out,KX1.out⟩⟩
   | false =>
     go_wp2_with fail
     obtain ⟨w2,hw2⟩:∃ W,W=w1.alloc (.cells #[.int .i64 0,.int .i64 17,.int .i64 21,.int .i64 23] 2 (0,0)):=⟨_,rfl⟩
     rw [← hw2]
     have MP2:Hid (Mp B r M1 A w2):=by show Mp _ _ _ _ _;rw [hw2];exact MP1.out.below ((Below.refl _ _).alloc (Nat.le_refl _) _)
     have KX2:Hid (Kx r (mvF M A) (mvF M1 A) w w2):=by show Kx _ _ _ _ _;rw [hw2];exact KX1.out.trans (Kx.of_below ((Below.refl _ _).alloc (Nat.le_refl _) _))
     clear hw2 MP1 KX1
     have MPN:Hid (∀ n,Mp B r M1 A (w2.drewN n)):=fun n=>MP2.out.below (below_dNx w2 n)
     have KXN:Hid (∀ n,Kx r (mvF M A) (mvF M1 A) w (w2.drewN n)):=fun n=>KX2.out.trans (Kx.of_below (below_dNx w2 n))
     obtain ⟨c0,c1,c2,c3,c4,c5,c6,c7,c8,c9,c10,c11,c12,c13⟩:=cells14 MP2.out.row
     cases wr with
     | true =>
       have F:Hid (V=(0,M1,21)):=by show _=_;rw [HV.out];rfl
       have HE7:Hid (∀ n,Calls Tryz.prog 78 #[.slice A.ac M1.cs.length A.cc,.int .i64 M1.pr,.int .i64 2] (w2.drewN n) fun e w''=>e=.returned (.int .i64 p)∧w''=w2.drewN n):=fun n=>HEX.out _ (MPN.out n)
       have HP7:Hid (∀ n,Calls Tryz.prog 77 #[.slice A.ac M1.cs.length A.cc,.int .i64 p,.int .u64 fa,.int .i64 size,.int .i64 2] (w2.drewN n) fun e w''=>e=.returned (.bool pm)∧w''=w2.drewN n):=fun n=>HPX.out _ (MPN.out n)
       go_quiet (first | (go_at_call 78;with_reducible refine Calls.quiet_of_same (HE7.out _)) | (go_at_call 77;with_reducible refine Calls.quiet_of_same (HP7.out _)))
       all_goals go_wp2_with fail
       all_goals refine bodyPost_ret (results_tmp2 rfl _ _ _) rfl ?_
       all_goals exact ⟨by rw [F.out];rfl,by rw [F.out];exact ⟨A,MPN.out _,KXN.out _⟩⟩
     | false =>
       cases pm with
       | false =>
         have F:Hid (V=(0,M1,21)):=by show _=_;rw [HV.out];rfl
         have HE7:Hid (∀ n,Calls Tryz.prog 78 #[.slice A.ac M1.cs.length A.cc,.int .i64 M1.pr,.int .i64 2] (w2.drewN n) fun e w''=>e=.returned (.int .i64 p)∧w''=w2.drewN n):=fun n=>HEX.out _ (MPN.out n)
         have HP7:Hid (∀ n,Calls Tryz.prog 77 #[.slice A.ac M1.cs.length A.cc,.int .i64 p,.int .u64 fa,.int .i64 size,.int .i64 2] (w2.drewN n) fun e w''=>e=.returned (.bool false)∧w''=w2.drewN n):=fun n=>HPX.out _ (MPN.out n)
         go_quiet (first | (go_at_call 78;with_reducible refine Calls.quiet_of_same (HE7.out _)) | (go_at_call 77;with_reducible refine Calls.quiet_of_same (HP7.out _)))
         all_goals go_wp2_with fail
         all_goals refine bodyPost_ret (results_tmp2 rfl _ _ _) rfl ?_
         all_goals exact ⟨by rw [F.out];rfl,by rw [F.out];exact ⟨A,MPN.out _,KXN.out _⟩⟩
       | true =>
         have HE7:Hid (∀ n,Calls Tryz.prog 78 #[.slice A.ac M1.cs.length A.cc,.int .i64 M1.pr,.int .i64 2] (w2.drewN n) fun e w''=>e=.returned (.int .i64 p)∧w''=w2.drewN n):=fun n=>HEX.out _ (MPN.out n)
         have HP7:Hid (∀ n,Calls Tryz.prog 77 #[.slice A.ac M1.cs.length A.cc,.int .i64 p,.int .u64 fa,.int .i64 size,.int .i64 2] (w2.drewN n) fun e w''=>e=.returned (.bool true)∧w''=w2.drewN n):=fun n=>HPX.out _ (MPN.out n)
         go_quiet (first | (go_at_call 78;with_reducible refine Calls.quiet_of_same (HE7.out _)) | (go_at_call 77;with_reducible refine Calls.quiet_of_same (HP7.out _)))
         obtain ⟨w3,hw3⟩:∃ W,W=w2.drewN nq:=⟨_,rfl⟩
         rw [← hw3]
         have MP3:Hid (Mp B r M1 A w3):=by show Mp _ _ _ _ _;rw [hw3];exact MPN.out _
         have KX3:Hid (Kx r (mvF M A) (mvF M1 A) w w3):=by show Kx _ _ _ _ _;rw [hw3];exact KXN.out _
         clear hw3 MP2 KX2 MPN KXN HE7 HP7
         clear c0 c1 c2 c3 c4 c5 c6 c7 c8 c9 c10 c11 c12 c13
         obtain ⟨c0,c1,c2,c3,c4,c5,c6,c7,c8,c9,c10,c11,c12,c13⟩:=cells14 MP3.out.row
         go_wp2_with fail
         refine (HIX.out _ MP3.out).mono ?_
         rintro e w4 ⟨rfl,hw4⟩
         subst hw4
         cases ins with
         | true =>
           have F:Hid (V=(yl,M1,0)):=by show _=_;rw [HV.out];rfl
           go_wp2_with fail
           refine (HDX.out (by trivial) _ MP3.out).mono ?_
           rintro e w5 ⟨rfl,hw5⟩
           subst hw5
           go_wp2_with fail
           refine bodyPost_ret (results_tmp2 rfl _ _ _) rfl ?_
           exact ⟨by rw [F.out];rfl,by rw [F.out];exact ⟨A,MP3.out,KX3.out⟩⟩
         | false =>
           go_wp2_with fail
           refine (H8X.out _ MP3.out).mono ?_
           rintro e w5 ⟨b1,d1,b2,d2,rfl,rn5,hb5⟩
           have BB:=dhid (below_trans hb5 ((Below.refl _ _).alloc (Nat.le_refl _) (.cells #[.int .u64 D.t,.int .u64 D.cm,.bool D.so,.slice b1 D.xs.length d1,.slice b2 D.ys.length d2,.int .i64 D.ir] 27 (0,0))))
           have RN:=dhid (rn5.below ((Below.refl _ _).alloc (Nat.le_refl _) (.cells #[.int .u64 D.t,.int .u64 D.cm,.bool D.so,.slice b1 D.xs.length d1,.slice b2 D.ys.length d2,.int .i64 D.ir] 27 (0,0))))
           have ROW5:=dstays hb5 MP3.out.row
           unfold mvc at ROW5
           have MP6:=dhid (MP3.out.below BB.out)
           have KX6:=dhid (KX3.out.trans (Kx.of_below BB.out))
           have nb1:¬ r=w5.heap.size:=by have h1:=MP3.out.lt;have h2:=hb5.size;omega
           have nb2:¬ w5.heap.size=r:=fun h=>nb1 h.symm
           clear c0 c1 c2 c3 c4 c5 c6 c7 c8 c9 c10 c11 c12 c13
           have c0:=fun o=>(cells14 (row_al8 ROW5 o)).1
           have c1:=fun o=>(cells14 (row_al8 ROW5 o)).2.1
           have c2:=fun o=>(cells14 (row_al8 ROW5 o)).2.2.1
           have c3:=fun o=>(cells14 (row_al8 ROW5 o)).2.2.2.1
           have c4:=fun o=>(cells14 (row_al8 ROW5 o)).2.2.2.2.1
           have c5:=fun o=>(cells14 (row_al8 ROW5 o)).2.2.2.2.2.1
           have c6:=fun o=>(cells14 (row_al8 ROW5 o)).2.2.2.2.2.2.1
           have c7:=fun o=>(cells14 (row_al8 ROW5 o)).2.2.2.2.2.2.2.1
           have c8:=fun o=>(cells14 (row_al8 ROW5 o)).2.2.2.2.2.2.2.2.1
           have c9:=fun o=>(cells14 (row_al8 ROW5 o)).2.2.2.2.2.2.2.2.2.1
           have c10:=fun o=>(cells14 (row_al8 ROW5 o)).2.2.2.2.2.2.2.2.2.2.1
           have c11:=fun o=>(cells14 (row_al8 ROW5 o)).2.2.2.2.2.2.2.2.2.2.2.1
           have c12:=fun o=>(cells14 (row_al8 ROW5 o)).2.2.2.2.2.2.2.2.2.2.2.2.1
           have c13:=fun o=>(cells14 (row_al8 ROW5 o)).2.2.2.2.2.2.2.2.2.2.2.2.2
           have f5:=fun o=>(froz14 (row_al8 ROW5 o)).2.2.2.2.2.1
           have f6:=fun o=>(froz14 (row_al8 ROW5 o)).2.2.2.2.2.2.1
           have f7:=fun o=>(froz14 (row_al8 ROW5 o)).2.2.2.2.2.2.2.1
           have f8:=fun o=>(froz14 (row_al8 ROW5 o)).2.2.2.2.2.2.2.2.1
           have f9:=fun o=>(froz14 (row_al8 ROW5 o)).2.2.2.2.2.2.2.2.2.1
           have f10:=fun o=>(froz14 (row_al8 ROW5 o)).2.2.2.2.2.2.2.2.2.2.1
           clear hb5 rn5 ROW5
           cases is with
           | false =>
             have F:Hid (V=(0,M1,21)):=by show _=_;rw [HV.out];rfl
             go_wp2_with fail
             refine bodyPost_ret (results_tmp2 rfl _ _ _) rfl ?_
             exact ⟨by rw [F.out];rfl,by rw [F.out];exact ⟨A,MP6.out,KX6.out⟩⟩
           | true =>
             obtain ⟨MPD,KXD⟩:=MP3.out.dev BB.out D RN.out
             have MP7:=dhid MPD
             have KX7:=dhid (KX3.out.trans KXD)
             clear MPD KXD
             go_wp2_with fail
             refine (HNX.out (devA A b1 d1 b2 d2) _ MP7.out).mono ?_
             rintro e w8 ⟨rfl,mp8,kx8⟩
             have MP8:=dhid mp8
             have KX8:=dhid (KX7.out.trans kx8)
             clear mp8 kx8 MP7 KX7
             have F:Hid (V=(yd,lineM (devM M1 D),0)):=by show _=_;rw [HV.out];rfl
             go_wp2_with fail
             refine bodyPost_ret (results_tmp2 rfl _ _ _) rfl ?_
             exact ⟨by rw [F.out];rfl,by rw [F.out];exact ⟨(devA A b1 d1 b2 d2),MP8.out,KX8.out⟩⟩

set_option maxRecDepth 100000 in
set_option maxHeartbeats 12800000 in
theorem l9Access_3 (M M1:MV) (A:MA) (B r:Nat) (addr size x p fa fc:Int) (crk cd wr pm ins:Bool) (R:List Int) (D:DV) (is hit:Bool) (V:Int × MV × Int) (w:World) (hm:Mp B r M A w) (hs1:1≤size) (hs8:size≤8) (ha:0≤addr∧addr < 18446744073709551616) (hcr:(addr % size != 0)=crk) (hfc:(fc != 0)=cd)
 (hL0:∀ w',Mp B r M A w'→Calls Tryz.prog 76 #[.pointer (some ⟨r,0,none⟩),.slice none 0 0,.int .u64 addr,.int .i64 3] w' fun e w''=>e=.returned (.tuple #[.int .u64 fa,.int .i64 fc])∧Mp B r M1 A w''∧Kx r (mvF M A) (mvF M1 A) w' w'')
 (hwr:decide (IntKind.u64.wrap (IntKind.u64.wrap (fa+size) - 1) < fa)=wr)
 (hE0:∀ w',Mp B r M1 A w'→Calls Tryz.prog 78 #[.slice A.ac M1.cs.length A.cc,.int .i64 M1.pr,.int .i64 3] w' fun e w''=>e=.returned (.int .i64 p)∧w''=w')
 (hP0:∀ w',Mp B r M1 A w'→Calls Tryz.prog 77 #[.slice A.ac M1.cs.length A.cc,.int .i64 p,.int .u64 fa,.int .i64 size,.int .i64 3] w' fun e w''=>e=.returned (.bool pm)∧w''=w')
 (hI0:∀ w',Mp B r M1 A w'→Calls Tryz.prog 79 #[.slice A.ar M1.ram.length A.cr,.int .u64 fa,.int .i64 size] w' fun e w''=>e=.returned (.bool ins)∧w''=w')
 (hp0:ins=true→∀ w',Mp B r M1 A w'→Calls Tryz.prog 36 #[.slice A.ar M1.ram.length A.cr,.int .u64 fa,.int .i64 size,.int .u64 x] w' fun e w''=>e=.returned (.tuple #[])∧Mp B r (memM M1 R) A w''∧Kx r (mvF M1 A) (mvF (memM M1 R) A) w' w'') (hRl:R.length=M1.ram.length) (hht:heldB9 M1 fa=hit)
 (h80:∀ w',Mp B r M1 A w'→Calls Tryz.prog 82 #[.agg #[.int .u64 M1.d.t,.int .u64 M1.d.cm,.bool M1.d.so,.slice A.ai M1.d.xs.length A.ci,.slice A.ao M1.d.ys.length A.co,.int .i64 M1.d.ir],.int .u64 fa,.int .i64 size,.int .u64 x] w' fun e w''=>∃ (b1:Option Addr) (d1:Nat) (b2:Option Addr) (d2:Nat),e=.returned (.tuple #[.agg #[.int .u64 D.t,.int .u64 D.cm,.bool D.so,.slice b1 D.xs.length d1,.slice b2 D.ys.length d2,.int .i64 D.ir],.bool is])∧Renew w' w'' A.ai A.ci M1.d.xs A.ao A.co M1.d.ys b1 d1 D.xs b2 d2 D.ys∧Below w'.heap.size w' w'')
 (hN0:∀ (A':MA) w',Mp B r (devM M1 D) A' w'→Calls Tryz.prog 41 #[.pointer (some ⟨r,0,none⟩)] w' fun e w''=>e=.returned (.tuple #[])∧Mp B r (lineM (devM M1 D)) A' w''∧Kx r (mvF (devM M1 D) A') (mvF (lineM (devM M1 D)) A') w' w'')
 (hV:V=(if crk=true then (0,M,22) else if cd=true then (0,M1,wrap64 (fc+16)) else if (wr||!pm)=true then (0,M1,23) else if ins=true then (0,if hit=true then freeM (memM M1 R) else memM M1 R,0) else (if is=true then (0,if hit=true then freeM (lineM (devM M1 D)) else lineM (devM M1 D),0) else (0,M1,23)):Int × MV × Int)) :
 Calls Tryz.prog 60 #[.pointer (some ⟨r,0,none⟩),.slice none 0 0,.int .u64 addr,.int .i64 size,.int .i64 3,.int .u64 x] w fun e w'=>e=.returned (.tuple #[.int .u64 V.1,.int .i64 V.2.2])∧∃ A',Mp B r V.2.1 A' w'∧Kx r (mvF M A) (mvF V.2.1 A') w w':=by
 have HM:=dhid hm
 have HV:=dhid hV
 have HLX:=dhid hL0
 have HEX:=dhid hE0
 have HPX:=dhid hP0
 have HIX:=dhid hI0
 have HpX:=dhid hp0
 have H8X:=dhid h80
 have HNX:=dhid hN0
 clear hm hV hL0 hE0 hP0 hI0 hp0 h80 hN0
 cases crk with
 | true =>
   have F:Hid (V=(0,M,22)):=by show _=_;rw [HV.out];rfl
   go_enter Tryz.func60,Tryz.ntmps60
   go_wp2_with fail
   go_region
   all_goals go_wp2_with fail
   all_goals refine bodyPost_ret (results_tmp2 rfl _ _ _) rfl ?_
   all_goals exact ⟨by rw [F.out];rfl,by rw [F.out];exact ⟨A,HM.out.below (by first | exact ((Below.refl _ _).alloc (Nat.le_refl _) _).drew | exact (Below.refl _ _).drew.alloc (Nat.le_refl _) _),Kx.of_below (by first | exact ((Below.refl _ _).alloc (Nat.le_refl _) _).drew | exact (Below.refl _ _).drew.alloc (Nat.le_refl _) _)⟩⟩
 | false =>
   go_enter Tryz.func60,Tryz.ntmps60
   go_wp2_with fail
   refine (HLX.out _ HM.out).mono ?_
   rintro e w1 ⟨rfl,mp1,kx1⟩
   have MP1:=dhid mp1
   have KX1:=dhid kx1
   clear mp1 kx1
   cases cd with
   | true =>
     have F:Hid (V=(0,M1,wrap64 (fc+16))):=by show _=_;rw [HV.out];rfl
     go_wp2_with fail
     refine bodyPost_ret (results_tmp2 rfl _ _ _) rfl ?_
     exact ⟨by rw [F.out];rfl,by rw [F.out];exact ⟨A,MP1.out,KX1.out⟩⟩
   | false =>
     go_wp2_with fail
     obtain ⟨w2,hw2⟩:∃ W,W=w1.alloc (.cells #[.int .i64 0,.int .i64 17,.int .i64 21,.int .i64 23] 2 (0,0)):=⟨_,rfl⟩
     rw [← hw2]
     have MP2:Hid (Mp B r M1 A w2):=by show Mp _ _ _ _ _;rw [hw2];exact MP1.out.below ((Below.refl _ _).alloc (Nat.le_refl _) _)
     have KX2:Hid (Kx r (mvF M A) (mvF M1 A) w w2):=by show Kx _ _ _ _ _;rw [hw2];exact KX1.out.trans (Kx.of_below ((Below.refl _ _).alloc (Nat.le_refl _) _))
     clear hw2 MP1 KX1
     have MPN:Hid (∀ n,Mp B r M1 A (w2.drewN n)):=fun n=>MP2.out.below (below_dNx w2 n)
     have KXN:Hid (∀ n,Kx r (mvF M A) (mvF M1 A) w (w2.drewN n)):=fun n=>KX2.out.trans (Kx.of_below (below_dNx w2 n))
     obtain ⟨c0,c1,c2,c3,c4,c5,c6,c7,c8,c9,c10,c11,c12,c13⟩:=cells14 MP2.out.row
     cases wr with
     | true =>
       have F:Hid (V=(0,M1,23)):=by show _=_;rw [HV.out];rfl
       have HE7:Hid (∀ n,Calls Tryz.prog 78 #[.slice A.ac M1.cs.length A.cc,.int .i64 M1.pr,.int .i64 3] (w2.drewN n) fun e w''=>e=.returned (.int .i64 p)∧w''=w2.drewN n):=fun n=>HEX.out _ (MPN.out n)
       have HP7:Hid (∀ n,Calls Tryz.prog 77 #[.slice A.ac M1.cs.length A.cc,.int .i64 p,.int .u64 fa,.int .i64 size,.int .i64 3] (w2.drewN n) fun e w''=>e=.returned (.bool pm)∧w''=w2.drewN n):=fun n=>HPX.out _ (MPN.out n)
       go_quiet (first | (go_at_call 78;with_reducible refine Calls.quiet_of_same (HE7.out _)) | (go_at_call 77;with_reducible refine Calls.quiet_of_same (HP7.out _)))
       all_goals go_wp2_with fail
       all_goals refine bodyPost_ret (results_tmp2 rfl _ _ _) rfl ?_
       all_goals exact ⟨by rw [F.out];rfl,by rw [F.out];exact ⟨A,MPN.out _,KXN.out _⟩⟩
     | false =>
       cases pm with
       | false =>
         have F:Hid (V=(0,M1,23)):=by show _=_;rw [HV.out];rfl
         have HE7:Hid (∀ n,Calls Tryz.prog 78 #[.slice A.ac M1.cs.length A.cc,.int .i64 M1.pr,.int .i64 3] (w2.drewN n) fun e w''=>e=.returned (.int .i64 p)∧w''=w2.drewN n):=fun n=>HEX.out _ (MPN.out n)
         have HP7:Hid (∀ n,Calls Tryz.prog 77 #[.slice A.ac M1.cs.length A.cc,.int .i64 p,.int .u64 fa,.int .i64 size,.int .i64 3] (w2.drewN n) fun e w''=>e=.returned (.bool false)∧w''=w2.drewN n):=fun n=>HPX.out _ (MPN.out n)
         go_quiet (first | (go_at_call 78;with_reducible refine Calls.quiet_of_same (HE7.out _)) | (go_at_call 77;with_reducible refine Calls.quiet_of_same (HP7.out _)))
         all_goals go_wp2_with fail
         all_goals refine bodyPost_ret (results_tmp2 rfl _ _ _) rfl ?_
         all_goals exact ⟨by rw [F.out];rfl,by rw [F.out];exact ⟨A,MPN.out _,KXN.out _⟩⟩
       | true =>
         have HE7:Hid (∀ n,Calls Tryz.prog 78 #[.slice A.ac M1.cs.length A.cc,.int .i64 M1.pr,.int .i64 3] (w2.drewN n) fun e w''=>e=.returned (.int .i64 p)∧w''=w2.drewN n):=fun n=>HEX.out _ (MPN.out n)
         have HP7:Hid (∀ n,Calls Tryz.prog 77 #[.slice A.ac M1.cs.length A.cc,.int .i64 p,.int .u64 fa,.int .i64 size,.int .i64 3] (w2.drewN n) fun e w''=>e=.returned (.bool true)∧w''=w2.drewN n):=fun n=>HPX.out _ (MPN.out n)
         go_quiet (first | (go_at_call 78;with_reducible refine Calls.quiet_of_same (HE7.out _)) | (go_at_call 77;with_reducible refine Calls.quiet_of_same (HP7.out _)))
         obtain ⟨w3,hw3⟩:∃ W,W=w2.drewN nq:=⟨_,rfl⟩
         rw [← hw3]
         have MP3:Hid (Mp B r M1 A w3):=by show Mp _ _ _ _ _;rw [hw3];exact MPN.out _
         have KX3:Hid (Kx r (mvF M A) (mvF M1 A) w w3):=by show Kx _ _ _ _ _;rw [hw3];exact KXN.out _
         clear hw3 MP2 KX2 MPN KXN HE7 HP7
         clear c0 c1 c2 c3 c4 c5 c6 c7 c8 c9 c10 c11 c12 c13
         obtain ⟨c0,c1,c2,c3,c4,c5,c6,c7,c8,c9,c10,c11,c12,c13⟩:=cells14 MP3.out.row
         go_wp2_with fail
         refine (HIX.out _ MP3.out).mono ?_
         rintro e w4 ⟨rfl,hw4⟩
         subst hw4
         cases ins with
         | true =>
           go_wp2_with fail
           refine (HpX.out (by trivial) _ MP3.out).mono ?_
           rintro e w5 ⟨rfl,mp5,kx5⟩
           have MP5:=dhid mp5
           have KX5:=dhid (KX3.out.trans kx5)
           clear mp5 kx5
           clear c0 c1 c2 c3 c4 c5 c6 c7 c8 c9 c10 c11 c12 c13
           obtain ⟨c0,c1,c2,c3,c4,c5,c6,c7,c8,c9,c10,c11,c12,c13⟩:=cells14 MP5.out.row
           obtain ⟨f0,f1,f2,f3,f4,f5,f6,f7,f8,f9,f10,f11,f12,f13⟩:=froz14 MP5.out.row
           obtain ⟨bh,hbh⟩:∃ b,b=M1.hl:=⟨_,rfl⟩
           unfold heldB9 at hht
           change _=some (Value.bool M1.hl) at c12
           change _=some (Value.int .u64 M1.hd) at c11
           rw [← hbh] at c12 hht
           clear hbh
           cases bh with
           | false =>
             rw [Bool.false_and] at hht
             subst hht
             have F:Hid (V=(0,memM M1 R,0)):=by show _=_;rw [HV.out];rfl
             go_wp2_with fail
             refine bodyPost_ret (results_tmp2 rfl _ _ _) rfl ?_
             exact ⟨by rw [F.out];rfl,by rw [F.out];exact ⟨A,MP5.out,KX5.out⟩⟩
           | true =>
             rw [Bool.true_and] at hht
             cases hit with
             | false =>
               have F:Hid (V=(0,memM M1 R,0)):=by show _=_;rw [HV.out];rfl
               go_wp2_with fail
               refine bodyPost_ret (results_tmp2 rfl _ _ _) rfl ?_
               exact ⟨by rw [F.out];rfl,by rw [F.out];exact ⟨A,MP5.out,KX5.out⟩⟩
             | true =>
               have F:Hid (V=(0,freeM (memM M1 R),0)):=by show _=_;rw [HV.out];rfl
               go_wp2_with fail
               refine bodyPost_ret (results_tmp2 rfl _ _ _) rfl ?_
               exact ⟨by rw [F.out];rfl,by rw [F.out];exact ⟨A,(MP5.out).free.1,(KX5.out).trans (MP5.out).free.2⟩⟩
         | false =>
           go_wp2_with fail
           refine (H8X.out _ MP3.out).mono ?_
           rintro e w5 ⟨b1,d1,b2,d2,rfl,rn5,hb5⟩
           have BB:=dhid (below_trans hb5 ((Below.refl _ _).alloc (Nat.le_refl _) (.cells #[.int .u64 D.t,.int .u64 D.cm,.bool D.so,.slice b1 D.xs.length d1,.slice b2 D.ys.length d2,.int .i64 D.ir] 27 (0,0))))
           have RN:=dhid (rn5.below ((Below.refl _ _).alloc (Nat.le_refl _) (.cells #[.int .u64 D.t,.int .u64 D.cm,.bool D.so,.slice b1 D.xs.length d1,.slice b2 D.ys.length d2,.int .i64 D.ir] 27 (0,0))))
           have ROW5:=dstays hb5 MP3.out.row
           unfold mvc at ROW5
           have MP6:=dhid (MP3.out.below BB.out)
           have KX6:=dhid (KX3.out.trans (Kx.of_below BB.out))
           have nb1:¬ r=w5.heap.size:=by have h1:=MP3.out.lt;have h2:=hb5.size;omega
           have nb2:¬ w5.heap.size=r:=fun h=>nb1 h.symm
           clear c0 c1 c2 c3 c4 c5 c6 c7 c8 c9 c10 c11 c12 c13
           have c0:=fun o=>(cells14 (row_al8 ROW5 o)).1
           have c1:=fun o=>(cells14 (row_al8 ROW5 o)).2.1
           have c2:=fun o=>(cells14 (row_al8 ROW5 o)).2.2.1
           have c3:=fun o=>(cells14 (row_al8 ROW5 o)).2.2.2.1
           have c4:=fun o=>(cells14 (row_al8 ROW5 o)).2.2.2.2.1
           have c5:=fun o=>(cells14 (row_al8 ROW5 o)).2.2.2.2.2.1
           have c6:=fun o=>(cells14 (row_al8 ROW5 o)).2.2.2.2.2.2.1
           have c7:=fun o=>(cells14 (row_al8 ROW5 o)).2.2.2.2.2.2.2.1
           have c8:=fun o=>(cells14 (row_al8 ROW5 o)).2.2.2.2.2.2.2.2.1
           have c9:=fun o=>(cells14 (row_al8 ROW5 o)).2.2.2.2.2.2.2.2.2.1
           have c10:=fun o=>(cells14 (row_al8 ROW5 o)).2.2.2.2.2.2.2.2.2.2.1
           have c11:=fun o=>(cells14 (row_al8 ROW5 o)).2.2.2.2.2.2.2.2.2.2.2.1
           have c12:=fun o=>(cells14 (row_al8 ROW5 o)).2.2.2.2.2.2.2.2.2.2.2.2.1
           have c13:=fun o=>(cells14 (row_al8 ROW5 o)).2.2.2.2.2.2.2.2.2.2.2.2.2
           have f5:=fun o=>(froz14 (row_al8 ROW5 o)).2.2.2.2.2.1
           have f6:=fun o=>(froz14 (row_al8 ROW5 o)).2.2.2.2.2.2.1
           have f7:=fun o=>(froz14 (row_al8 ROW5 o)).2.2.2.2.2.2.2.1
           have f8:=fun o=>(froz14 (row_al8 ROW5 o)).2.2.2.2.2.2.2.2.1
           have f9:=fun o=>(froz14 (row_al8 ROW5 o)).2.2.2.2.2.2.2.2.2.1
           have f10:=fun o=>(froz14 (row_al8 ROW5 o)).2.2.2.2.2.2.2.2.2.2.1
           clear hb5 rn5 ROW5
           cases is with
           | false =>
             have F:Hid (V=(0,M1,23)):=by show _=_;rw [HV.out];rfl
             go_wp2_with fail
             refine bodyPost_ret (results_tmp2 rfl _ _ _) rfl ?_
             exact ⟨by rw [F.out];rfl,by rw [F.out];exact ⟨A,MP6.out,KX6.out⟩⟩
           | true =>
             obtain ⟨MPD,KXD⟩:=MP3.out.dev BB.out D RN.out
             have MP7:=dhid MPD
             have KX7:=dhid (KX3.out.trans KXD)
             clear MPD KXD
             go_wp2_with fail
             refine (HNX.out (devA A b1 d1 b2 d2) _ MP7.out).mono ?_
             rintro e w8 ⟨rfl,mp8,kx8⟩
             have MP8:=dhid mp8
             have KX8:=dhid (KX7.out.trans kx8)
             clear mp8 kx8 MP7 KX7
             clear c0 c1 c2 c3 c4 c5 c6 c7 c8 c9 c10 c11 c12 c13
             clear f5 f6 f7 f8 f9 f10
             have ROW8:=MP8.out.row
             rw [mvc_line] at ROW8
             obtain ⟨c0,c1,c2,c3,c4,c5,c6,c7,c8,c9,c10,c11,c12,c13⟩:=cells14 ROW8
             obtain ⟨f0,f1,f2,f3,f4,f5,f6,f7,f8,f9,f10,f11,f12,f13⟩:=froz14 ROW8
             obtain ⟨bh,hbh⟩:∃ b,b=M1.hl:=⟨_,rfl⟩
             unfold heldB9 at hht
             change _=some (Value.bool M1.hl) at c12
             change _=some (Value.int .u64 M1.hd) at c11
             rw [← hbh] at c12 hht
             clear hbh
             cases bh with
             | false =>
               rw [Bool.false_and] at hht
               subst hht
               have F:Hid (V=(0,lineM (devM M1 D),0)):=by show _=_;rw [HV.out];rfl
               go_wp2_with fail
               refine bodyPost_ret (results_tmp2 rfl _ _ _) rfl ?_
               exact ⟨by rw [F.out];rfl,by rw [F.out];exact ⟨(devA A b1 d1 b2 d2),MP8.out,KX8.out⟩⟩
             | true =>
               rw [Bool.true_and] at hht
               cases hit with
               | false =>
                 have F:Hid (V=(0,lineM (devM M1 D),0)):=by show _=_;rw [HV.out];rfl
                 go_wp2_with fail
                 refine bodyPost_ret (results_tmp2 rfl _ _ _) rfl ?_
                 exact ⟨by rw [F.out];rfl,by rw [F.out];exact ⟨(devA A b1 d1 b2 d2),MP8.out,KX8.out⟩⟩
               | true =>
                 have F:Hid (V=(0,freeM (lineM (devM M1 D)),0)):=by show _=_;rw [HV.out];rfl
                 go_wp2_with fail
                 refine bodyPost_ret (results_tmp2 rfl _ _ _) rfl ?_
                 exact ⟨by rw [F.out];rfl,by rw [F.out];exact ⟨(devA A b1 d1 b2 d2),(MP8.out).free.1,(KX8.out).trans (MP8.out).free.2⟩⟩

end Go.Proofs.YtbajeckeeekhnaaGreat
