/- Own lemmas. -/
import Derived.Test.YtbajeckeeekhnaaGreatK02
import Derived.Test.YtbajeckeeekhnaaGreatK11
import Derived.Test.YtbajeckeeekhnaaGreatK13
import Derived.Test.YtbajeckeeekhnaaGreatK15
import Derived.Test.YtbajeckeeekhnaaGreatK17
import Derived.Test.YtbajeckeeekhnaaGreatK18
import Derived.Test.YtbajeckeeekhnaaGreatK49
import Derived.Deep.WholeRow
import Derived.Deep.RegionHeld3
namespace Go.Proofs.YtbajeckeeekhnaaGreat
open Go.RowKit
set_option linter.unusedVariables false

section
variable {w w3 : World} {g : Nat} {a : Option Addr} {n cap B m : Nat} {M : MV} {A : MA} {W W' : World}

end

theorem sl_heap {k:IntKind} {w W:World} {p:Option Addr} {zs:List Int} (h:Sl k w p zs) (hn:∀ b off,p=some ⟨b,off,none⟩→W.heap[b]?=w.heap[b]?) (hsz:w.heap.size≤W.heap.size):Sl k W p zs:=by
 intro i hi
 obtain ⟨b,off,e,h1,h2⟩:=h i hi
 refine ⟨b,off,e,by omega,?_⟩
 rw [← h2]
 simp only [World.cell?,hn b off e]

theorem msl_heap {B:Nat} {w W:World} {M:MV} {A:MA} (h:MSl w M A) (hn:MNew B A) (hk:∀ k,B≤k→W.heap[k]?=w.heap[k]?) (hsz:w.heap.size≤W.heap.size):MSl W M A :=
 ⟨sl_heap h.x (fun b off e=>hk b (hn _ (.inl rfl) b off e)) hsz,sl_heap h.cs (fun b off e=>hk b (hn _ (.inr (.inl rfl)) b off e)) hsz,sl_heap h.ram (fun b off e=>hk b (hn _ (.inr (.inr (.inl rfl))) b off e)) hsz,sl_heap h.xs (fun b off e=>hk b (hn _ (.inr (.inr (.inr (.inl rfl)))) b off e)) hsz,sl_heap h.ys (fun b off e=>hk b (hn _ (.inr (.inr (.inr (.inr rfl)))) b off e)) hsz⟩

section
variable {w w3 : World} {g : Nat} {a : Option Addr} {n cap B m B2 m2 : Nat} {M N : MV} {A C : MA} {W W' : World}

end

def outM (M:MV):MV:={ M with d:={ M.d with ys:=M.d.ys ++ [1] } }

def tellM (M:MV):Int × Int × Int:=if machB M=true then (if (M.cs.getD 7 0 / 9223372036854775808==1)=true then bits .and .u64 (M.cs.getD 7 0) 15+100 else bits .and .u64 (M.cs.getD 7 0) 15,M.cs.getD 6 0,M.cs.getD 8 0) else (-1,0,0)

theorem told_parts {M:MV} (h:machB M=true):M.cs.length=22∧csrsOk 22 M.cs=true:=by
 unfold machB at h
 simp only [Bool.and_eq_true] at h
 obtain ⟨⟨⟨⟨⟨⟨_,_⟩,h3⟩,_⟩,_⟩,_⟩,_⟩:=h
 have h22:=legal_22 h3
 unfold legalB at h3
 rw [Bool.and_eq_true,h22] at h3
 exact ⟨h22,h3.1⟩

theorem told_low (x:Int):0≤bits .and .u64 x 15∧bits .and .u64 x 15≤15:=by
 have e:bits .and .u64 x 15=bits .and .u64 (IntKind.u64.wrap x) 15:=bt_ext _ _ (U_bits _ _ _) (U_bits _ _ _) fun i hi=>by
  rw [bt_and,bt_and];unfold bt;rw [ofInt_wrap]
 have hw:=U_wrap x
 have h:=and_low (IntKind.u64.wrap x) 4 hw.1 hw.2 (by omega)
 rw [e,show (15:Int)=2 ^ 4 - 1 from rfl,h]
 omega

theorem told_code {l:List Int} (hU:U (l.getD 7 0)) (h:csrsOk 22 l=true) :
 bits .andNot .u64 (l.getD 7 0) 9223372036854775808=bits .and .u64 (l.getD 7 0) 15∧(bits .and .u64 (l.getD 7 0) 9223372036854775808 != 0)=(l.getD 7 0 / 9223372036854775808==1)∧wrap64 (bits .and .u64 (l.getD 7 0) 15)=bits .and .u64 (l.getD 7 0) 15∧wrap64 (bits .and .u64 (l.getD 7 0) 15+100)=bits .and .u64 (l.getD 7 0) 15+100:=by
 have ha:=right_at h 7 (by omega)
 have hx:bits .and .u64 (l.getD 7 0) 9223372036854775823=l.getD 7 0:=by
  have:okAt 7 (l.getD 7 0)=(bits .and .u64 (l.getD 7 0) 9223372036854775823==l.getD 7 0):=rfl
  rw [this] at ha;exact beq_iff_eq.1 ha
 generalize l.getD 7 0=x at *
 have hb:∀ i,i < 64→∀ a:Bool,((a&&bt 9223372036854775823 i)&&!bt 9223372036854775808 i)=(a&&bt 15 i):=by decide +kernel
 have hlow:=told_low x
 refine ⟨?_,?_,?_,?_⟩
 ·conv=>lhs;rw [← hx]
  exact bt_ext _ _ (U_bits _ _ _) (U_bits _ _ _) fun i hi=>by rw [bt_andNot _ _ _ hi,bt_and,bt_and,hb i hi]
 ·have h1:x / 9223372036854775808=if bt x 63=true then 1 else 0:=by
   have h2:=bt_nat x hU 63
   obtain ⟨hx0,hx1⟩:=hU
   obtain ⟨n,rfl⟩:=Int.eq_ofNat_of_zero_le hx0
   rw [h2]
   simp only [Int.toNat_natCast,Nat.testBit_eq_decide_div_mod_eq,decide_eq_true_eq]
   split<;>omega
  have h3:bits .and .u64 x 9223372036854775808=if bt x 63=true then 9223372036854775808 else 0:=by
   have hk:∀ i,i < 64→∀ a:Bool,∀ c:Bool,(i=63→a=c)→(a&&bt 9223372036854775808 i)=bt (if c=true then 9223372036854775808 else 0) i:=by decide +kernel
   refine bt_ext _ _ (U_bits _ _ _) (by split<;>exact ⟨by omega,by omega⟩) fun i hi=>?_
   rw [bt_and]
   exact hk i hi _ _ (fun e=>by rw [e])
  rw [h1,h3]
  cases bt x 63<;>rfl
 ·unfold wrap64;omega
 ·unfold wrap64;omega

set_option maxRecDepth 100000 in
set_option maxHeartbeats 6400000 in
theorem specTold_any (M:MV) (A:MA) (w:World) (hl:MLen M) (hs:MSl w M A) (hU:∀ j,U (M.cs.getD j 0)) :
 Calls Tryz.prog 7 #[.agg #[.int .u64 M.pc,.slice A.ax M.x.length A.cx,.int .i64 M.pr,.slice A.ac M.cs.length A.cc,.slice A.ar M.ram.length A.cr,.int .u64 M.d.t,.int .u64 M.d.cm,.bool M.d.so,.slice A.ai M.d.xs.length A.ci,.slice A.ao M.d.ys.length A.co,.int .i64 M.d.ir,.int .u64 M.hd,.bool M.hl,.bool M.wt]] w fun e w'=>e=.returned (.tuple #[.int .i64 (tellM M).1,.int .u64 (tellM M).2.1,.int .u64 (tellM M).2.2])∧Below w.heap.size w w':=by
 have HK:Hid (∀ w',Below w.heap.size w w'→Calls Tryz.prog 11 #[.agg #[.int .u64 M.pc,.slice A.ax M.x.length A.cx,.int .i64 M.pr,.slice A.ac M.cs.length A.cc,.slice A.ar M.ram.length A.cr,.int .u64 M.d.t,.int .u64 M.d.cm,.bool M.d.so,.slice A.ai M.d.xs.length A.ci,.slice A.ao M.d.ys.length A.co,.int .i64 M.d.ir,.int .u64 M.hd,.bool M.hl,.bool M.wt]] w' fun e w''=>e=.returned (.bool (machB M))∧Below w'.heap.size w' w''):=fun w' hb=>specMachineOk_any M A w' hl (hs.below hb)
 obtain ⟨V,hV⟩:∃ V,V=tellM M:=⟨_,rfl⟩
 rw [← hV]
 unfold tellM at hV
 cases h:machB M with
 | false =>
   rw [h] at HK
   have F:Hid (V=(-1,0,0)):=by rw [h] at hV;exact hV
   clear hV h hl hs
   have rA:Hid ((w.alloc (.cells #[.int .u64 M.pc,.slice A.ax M.x.length A.cx,.int .i64 M.pr,.slice A.ac M.cs.length A.cc,.slice A.ar M.ram.length A.cr,.int .u64 M.d.t,.int .u64 M.d.cm,.bool M.d.so,.slice A.ai M.d.xs.length A.ci,.slice A.ao M.d.ys.length A.co,.int .i64 M.d.ir,.int .u64 M.hd,.bool M.hl,.bool M.wt] 29)).heap[w.heap.size]?=some (.cells #[.int .u64 M.pc,.slice A.ax M.x.length A.cx,.int .i64 M.pr,.slice A.ac M.cs.length A.cc,.slice A.ar M.ram.length A.cr,.int .u64 M.d.t,.int .u64 M.d.cm,.bool M.d.so,.slice A.ai M.d.xs.length A.ci,.slice A.ao M.d.ys.length A.co,.int .i64 M.d.ir,.int .u64 M.hd,.bool M.hl,.bool M.wt] 29 (0,0))):=heap_alloc_new _ _
   go_enter Tryz.func7,Tryz.ntmps7
   go_wp2_with fail
   refine (HK.out _ ((Below.refl _ _).alloc (Nat.le_refl _) _)).mono ?_
   rintro e w1 ⟨rfl,hb1⟩
   have BB:=dhid (below_trans ((Below.refl _ _).alloc (Nat.le_refl _) _) hb1)
   clear hb1 rA
   go_wp2_with fail
   exact bodyPost_ret (results_tmp3 rfl _ _ _) rfl ⟨by rw [F.out];rfl,BB.out⟩
 | true =>
   rw [h] at HK
   have h22:=(told_parts h).1
   have hc:=told_code (hU 7) (told_parts h).2
   clear hl
   obtain ⟨cb,o,hac,hcb,c7⟩:=hs.cs 7 (by omega)
   have c6:w.cell? ⟨cb,o+6,none⟩=some (.int .u64 (M.cs.getD 6 0)):=by
    obtain ⟨cb',o',hac',_,hcc⟩:=hs.cs 6 (by omega)
    rw [hac] at hac';cases hac';exact hcc
   have c8:w.cell? ⟨cb,o+8,none⟩=some (.int .u64 (M.cs.getD 8 0)):=by
    obtain ⟨cb',o',hac',_,hcc⟩:=hs.cs 8 (by omega)
    rw [hac] at hac';cases hac';exact hcc
   rw [hac,h22] at HK ⊢
   have hcl:cb < w.heap.size:=by exact hcb
   have KS:Hid (∀ w1,Below (w.alloc (.cells #[.int .u64 M.pc,.slice A.ax M.x.length A.cx,.int .i64 M.pr,.slice (some ⟨cb,o,none⟩) 22 A.cc,.slice A.ar M.ram.length A.cr,.int .u64 M.d.t,.int .u64 M.d.cm,.bool M.d.so,.slice A.ai M.d.xs.length A.ci,.slice A.ao M.d.ys.length A.co,.int .i64 M.d.ir,.int .u64 M.hd,.bool M.hl,.bool M.wt] 29)).heap.size (w.alloc (.cells #[.int .u64 M.pc,.slice A.ax M.x.length A.cx,.int .i64 M.pr,.slice (some ⟨cb,o,none⟩) 22 A.cc,.slice A.ar M.ram.length A.cr,.int .u64 M.d.t,.int .u64 M.d.cm,.bool M.d.so,.slice A.ai M.d.xs.length A.ci,.slice A.ao M.d.ys.length A.co,.int .i64 M.d.ir,.int .u64 M.hd,.bool M.hl,.bool M.wt] 29)) w1→w1.heap[w.heap.size]?=some (.cells #[.int .u64 M.pc,.slice A.ax M.x.length A.cx,.int .i64 M.pr,.slice (some ⟨cb,o,none⟩) 22 A.cc,.slice A.ar M.ram.length A.cr,.int .u64 M.d.t,.int .u64 M.d.cm,.bool M.d.so,.slice A.ai M.d.xs.length A.ci,.slice A.ao M.d.ys.length A.co,.int .i64 M.d.ir,.int .u64 M.hd,.bool M.hl,.bool M.wt] 29 (0,0))∧Below w.heap.size w w1∧w1.cell? ⟨cb,o+6,none⟩=some (.int .u64 (M.cs.getD 6 0))∧w1.cell? ⟨cb,o+7,none⟩=some (.int .u64 (M.cs.getD 7 0))∧w1.cell? ⟨cb,o+8,none⟩=some (.int .u64 (M.cs.getD 8 0))):=fun w1 hb=>by
    have hb1:=below_trans ((Below.refl w.heap.size w).alloc (Nat.le_refl _) _) hb
    exact ⟨dstays hb (heap_alloc_new _ _),hb1,(hb1.cell hcl).trans c6,(hb1.cell hcl).trans c7,(hb1.cell hcl).trans c8⟩
   clear c6 c7 c8 hs hac hcb hcl h22
   obtain ⟨x6,hx6⟩:∃ x,x=M.cs.getD 6 0:=⟨_,rfl⟩
   obtain ⟨x8,hx8⟩:∃ x,x=M.cs.getD 8 0:=⟨_,rfl⟩
   obtain ⟨x7,hx7⟩:∃ x,x=M.cs.getD 7 0:=⟨_,rfl⟩
   rw [← hx6,← hx7,← hx8] at KS
   rw [← hx7] at hc
   have F:Hid (V=(if (x7 / 9223372036854775808==1)=true then bits .and .u64 x7 15+100 else bits .and .u64 x7 15,x6,x8)):=by rw [h,← hx6,← hx7,← hx8] at hV;exact hV
   clear hV h hx6 hx7 hx8
   obtain ⟨hc1,hc2,hc3,hc4⟩:=hc
   have C3:=dhid hc3
   have C4:=dhid hc4
   clear hc1 hc2 hc3 hc4 hU
   cases ht:(x7 / 9223372036854775808==1)<;>rw [ht] at F
   all_goals
    go_enter Tryz.func7,Tryz.ntmps7
    go_wp2_with fail
    refine (HK.out _ ((Below.refl _ _).alloc (Nat.le_refl _) _)).mono ?_
    rintro e w1 ⟨rfl,hb1⟩
    obtain ⟨R1,B1,e6,e7,e8⟩:=KS.out _ hb1
    have BB:=dhid B1
    obtain ⟨s0,s1,s2,s3,s4,s5,s6,s7,s8,s9,s10,s11,s12,s13⟩:=cells14 R1
    clear hb1 R1 B1 KS HK
    go_wp2_with fail
    go_region_held3 (fun w'=>w'.cell? ⟨w.heap.size,3,none⟩=some (.slice (some ⟨cb,o,none⟩) 22 A.cc)∧w'.cell? ⟨cb,o+6,none⟩=some (.int .u64 x6)∧w'.cell? ⟨cb,o+8,none⟩=some (.int .u64 x8)) (go_keep) (fail)
    go_wp2_with fail
    exact bodyPost_ret (results_tmp3 rfl _ _ _) rfl ⟨by rw [F.out];simp only [C3.out,C4.out];try rfl,(by simpa using BB.out.drew)⟩

set_option maxRecDepth 100000 in
set_option maxHeartbeats 6400000 in
theorem implTold_any (M:MV) (A:MA) (w:World) (hl:MLen M) (hs:MSl w M A) (hU:∀ j,U (M.cs.getD j 0)) :
 Calls Tryz.prog 6 #[.agg #[.int .u64 M.pc,.slice A.ax M.x.length A.cx,.int .i64 M.pr,.slice A.ac M.cs.length A.cc,.slice A.ar M.ram.length A.cr,.int .u64 M.d.t,.int .u64 M.d.cm,.bool M.d.so,.slice A.ai M.d.xs.length A.ci,.slice A.ao M.d.ys.length A.co,.int .i64 M.d.ir,.int .u64 M.hd,.bool M.hl,.bool M.wt]] w fun e w'=>e=.returned (.tuple #[.int .i64 (tellM M).1,.int .u64 (tellM M).2.1,.int .u64 (tellM M).2.2])∧Below w.heap.size w w':=by
 have HK:Hid (∀ w',Below w.heap.size w w'→Calls Tryz.prog 8 #[.agg #[.int .u64 M.pc,.slice A.ax M.x.length A.cx,.int .i64 M.pr,.slice A.ac M.cs.length A.cc,.slice A.ar M.ram.length A.cr,.int .u64 M.d.t,.int .u64 M.d.cm,.bool M.d.so,.slice A.ai M.d.xs.length A.ci,.slice A.ao M.d.ys.length A.co,.int .i64 M.d.ir,.int .u64 M.hd,.bool M.hl,.bool M.wt]] w' fun e w''=>e=.returned (.bool (machB M))∧Below w'.heap.size w' w''):=fun w' hb=>implMachineOk_any M A w' hl (hs.below hb) hU
 obtain ⟨V,hV⟩:∃ V,V=tellM M:=⟨_,rfl⟩
 rw [← hV]
 unfold tellM at hV
 cases h:machB M with
 | false =>
   rw [h] at HK
   have F:Hid (V=(-1,0,0)):=by rw [h] at hV;exact hV
   clear hV h hl hs
   have rA:Hid ((w.alloc (.cells #[.int .u64 M.pc,.slice A.ax M.x.length A.cx,.int .i64 M.pr,.slice A.ac M.cs.length A.cc,.slice A.ar M.ram.length A.cr,.int .u64 M.d.t,.int .u64 M.d.cm,.bool M.d.so,.slice A.ai M.d.xs.length A.ci,.slice A.ao M.d.ys.length A.co,.int .i64 M.d.ir,.int .u64 M.hd,.bool M.hl,.bool M.wt] 29)).heap[w.heap.size]?=some (.cells #[.int .u64 M.pc,.slice A.ax M.x.length A.cx,.int .i64 M.pr,.slice A.ac M.cs.length A.cc,.slice A.ar M.ram.length A.cr,.int .u64 M.d.t,.int .u64 M.d.cm,.bool M.d.so,.slice A.ai M.d.xs.length A.ci,.slice A.ao M.d.ys.length A.co,.int .i64 M.d.ir,.int .u64 M.hd,.bool M.hl,.bool M.wt] 29 (0,0))):=heap_alloc_new _ _
   go_enter Tryz.func6,Tryz.ntmps6
   go_wp2_with fail
   refine (HK.out _ ((Below.refl _ _).alloc (Nat.le_refl _) _)).mono ?_
   rintro e w1 ⟨rfl,hb1⟩
   have BB:=dhid (below_trans ((Below.refl _ _).alloc (Nat.le_refl _) _) hb1)
   clear hb1 rA
   go_wp2_with fail
   exact bodyPost_ret (results_tmp3 rfl _ _ _) rfl ⟨by rw [F.out];rfl,BB.out⟩
 | true =>
   rw [h] at HK
   have h22:=(told_parts h).1
   have hc:=told_code (hU 7) (told_parts h).2
   clear hl
   obtain ⟨cb,o,hac,hcb,c7⟩:=hs.cs 7 (by omega)
   have c6:w.cell? ⟨cb,o+6,none⟩=some (.int .u64 (M.cs.getD 6 0)):=by
    obtain ⟨cb',o',hac',_,hcc⟩:=hs.cs 6 (by omega)
    rw [hac] at hac';cases hac';exact hcc
   have c8:w.cell? ⟨cb,o+8,none⟩=some (.int .u64 (M.cs.getD 8 0)):=by
    obtain ⟨cb',o',hac',_,hcc⟩:=hs.cs 8 (by omega)
    rw [hac] at hac';cases hac';exact hcc
   rw [hac,h22] at HK ⊢
   have hcl:cb < w.heap.size:=by exact hcb
   have KS:Hid (∀ w1,Below (w.alloc (.cells #[.int .u64 M.pc,.slice A.ax M.x.length A.cx,.int .i64 M.pr,.slice (some ⟨cb,o,none⟩) 22 A.cc,.slice A.ar M.ram.length A.cr,.int .u64 M.d.t,.int .u64 M.d.cm,.bool M.d.so,.slice A.ai M.d.xs.length A.ci,.slice A.ao M.d.ys.length A.co,.int .i64 M.d.ir,.int .u64 M.hd,.bool M.hl,.bool M.wt] 29)).heap.size (w.alloc (.cells #[.int .u64 M.pc,.slice A.ax M.x.length A.cx,.int .i64 M.pr,.slice (some ⟨cb,o,none⟩) 22 A.cc,.slice A.ar M.ram.length A.cr,.int .u64 M.d.t,.int .u64 M.d.cm,.bool M.d.so,.slice A.ai M.d.xs.length A.ci,.slice A.ao M.d.ys.length A.co,.int .i64 M.d.ir,.int .u64 M.hd,.bool M.hl,.bool M.wt] 29)) w1→w1.heap[w.heap.size]?=some (.cells #[.int .u64 M.pc,.slice A.ax M.x.length A.cx,.int .i64 M.pr,.slice (some ⟨cb,o,none⟩) 22 A.cc,.slice A.ar M.ram.length A.cr,.int .u64 M.d.t,.int .u64 M.d.cm,.bool M.d.so,.slice A.ai M.d.xs.length A.ci,.slice A.ao M.d.ys.length A.co,.int .i64 M.d.ir,.int .u64 M.hd,.bool M.hl,.bool M.wt] 29 (0,0))∧Below w.heap.size w w1∧w1.cell? ⟨cb,o+6,none⟩=some (.int .u64 (M.cs.getD 6 0))∧w1.cell? ⟨cb,o+7,none⟩=some (.int .u64 (M.cs.getD 7 0))∧w1.cell? ⟨cb,o+8,none⟩=some (.int .u64 (M.cs.getD 8 0))):=fun w1 hb=>by
    have hb1:=below_trans ((Below.refl w.heap.size w).alloc (Nat.le_refl _) _) hb
    exact ⟨dstays hb (heap_alloc_new _ _),hb1,(hb1.cell hcl).trans c6,(hb1.cell hcl).trans c7,(hb1.cell hcl).trans c8⟩
   clear c6 c7 c8 hs hac hcb hcl h22
   obtain ⟨x6,hx6⟩:∃ x,x=M.cs.getD 6 0:=⟨_,rfl⟩
   obtain ⟨x8,hx8⟩:∃ x,x=M.cs.getD 8 0:=⟨_,rfl⟩
   obtain ⟨x7,hx7⟩:∃ x,x=M.cs.getD 7 0:=⟨_,rfl⟩
   rw [← hx6,← hx7,← hx8] at KS
   rw [← hx7] at hc
   have F:Hid (V=(if (x7 / 9223372036854775808==1)=true then bits .and .u64 x7 15+100 else bits .and .u64 x7 15,x6,x8)):=by rw [h,← hx6,← hx7,← hx8] at hV;exact hV
   clear hV h hx6 hx7 hx8
   obtain ⟨hc1,hc2,hc3,hc4⟩:=hc
   have C1:=dhid hc1
   have C3:=dhid hc3
   have C4:=dhid hc4
   clear hc1 hc3 hc4 hU
   cases ht:(x7 / 9223372036854775808==1)<;>rw [ht] at F hc2
   all_goals
    go_enter Tryz.func6,Tryz.ntmps6
    go_wp2_with fail
    refine (HK.out _ ((Below.refl _ _).alloc (Nat.le_refl _) _)).mono ?_
    rintro e w1 ⟨rfl,hb1⟩
    obtain ⟨R1,B1,e6,e7,e8⟩:=KS.out _ hb1
    have BB:=dhid B1
    obtain ⟨s0,s1,s2,s3,s4,s5,s6,s7,s8,s9,s10,s11,s12,s13⟩:=cells14 R1
    clear hb1 R1 B1 KS HK
    go_wp2_with fail
    go_region_held3 (fun w'=>w'.cell? ⟨w.heap.size,3,none⟩=some (.slice (some ⟨cb,o,none⟩) 22 A.cc)∧w'.cell? ⟨cb,o+6,none⟩=some (.int .u64 x6)∧w'.cell? ⟨cb,o+8,none⟩=some (.int .u64 x8)) (go_keep) (fail)
    go_wp2_with fail
    exact bodyPost_ret (results_tmp3 rfl _ _ _) rfl ⟨by rw [F.out];simp only [C1.out,C3.out,C4.out];try rfl,(by simpa using BB.out.drew)⟩

end Go.Proofs.YtbajeckeeekhnaaGreat
