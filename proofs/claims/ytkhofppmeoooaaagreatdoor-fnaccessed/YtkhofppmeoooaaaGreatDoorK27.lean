/- Own lemmas. -/
import Derived.Test.YtkhofppmeoooaaaGreatDoorHandT
import Derived.Test.YtkhofppmeoooaaaGreatDoorK02
import Derived.Test.YtkhofppmeoooaaaGreatDoorK06
import Derived.Test.YtkhofppmeoooaaaGreatDoorK07
import Derived.Test.YtkhofppmeoooaaaGreatDoorK10
import Derived.Test.YtkhofppmeoooaaaGreatDoorK13
import Derived.Test.YtkhofppmeoooaaaGreatDoorK15
import Derived.Test.YtkhofppmeoooaaaGreatDoorK21
import Derived.Test.YtkhofppmeoooaaaGreatDoorK23
import Derived.Test.YtkhofppmeoooaaaGreatDoorK24
import Derived.Test.YtkhofppmeoooaaaGreatDoorK26
import Derived.Deep.RegionHeld3
import Derived.Deep.Cut
namespace Go.Proofs.YtkhofppmeoooaaaGreatDoor
open Go.RowKit
set_option linter.unusedVariables false

structure Dq (w0:World) (g:Nat) (a:Option Addr) (n cap:Nat) (r m:Nat) (M:MV) (A:MA) (W:World):Prop where
 cur:Cur w0 W g a n cap
 row:W.heap[m]?=some (.cells (mvc M A) 29 (0,0))
 res:W.heap[r]?=some (.cells (mvc zeroM zeroA) 29 (0,0))
 sl:MSl W M A
 new:MNew (g+1) A
 gm:g≠m
 gr:r < g

theorem Dq.next {w0:World} {g:Nat} {a:Option Addr} {n cap r m:Nat} {M:MV} {A:MA} {W W':World} (h:Dq w0 g a n cap r m M A W) (k:Cs w0 g a n cap W W'):Dq w0 g a n cap r m M A W' :=
 ⟨k.1,k.keep h.row (fun e=>h.gm e.symm),k.keep h.res (fun e=>by have:=h.gr;omega),msl_grown h.sl k.2 (Nat.lt_succ_self g) h.new,h.new,h.gm,h.gr⟩

theorem Dq.out {w0:World} {g:Nat} {a:Option Addr} {n cap r m:Nat} {M:MV} {A:MA} {W:World} (h:Dq w0 g a n cap r m M A W) (cs:Array Value):MSl (W.setRow r cs) M A:=by
 have hg:=h.gr
 have hn:=h.new
 exact ⟨sl_row9 h.sl.x _ _ (fun b off e _=>by have:=hn A.ax (Or.inl rfl) b off e;omega),sl_row9 h.sl.cs _ _ (fun b off e _=>by have:=hn A.ac (Or.inr (Or.inl rfl)) b off e;omega),sl_row9 h.sl.ram _ _ (fun b off e _=>by have:=hn A.ar (Or.inr (Or.inr (Or.inl rfl))) b off e;omega),sl_row9 h.sl.xs _ _ (fun b off e _=>by have:=hn A.ai (Or.inr (Or.inr (Or.inr (Or.inl rfl)))) b off e;omega),sl_row9 h.sl.ys _ _ (fun b off e _=>by have:=hn A.ao (Or.inr (Or.inr (Or.inr (Or.inr rfl)))) b off e;omega)⟩

theorem results_cq4 {P:Program} {fn:Func} {p s t u v:Tmp} {ty:TypeId} (h:fn.results=#[.cell p ty,.tmp s,.tmp t,.tmp u,.tmp v]) (tmps:Array Value) (w:World) (g:Nat) (t':TypeId) (cs:Array Value) (fr:Nat × Nat) (d:TypeDesc)
 (hp:tmps.getD p undef=.pointer (some ⟨g,0,none⟩)) (hg:w.heap[g]?=some (.cells cs t' fr)) (hu:P.underlying ty=some d) (hd:(match d with | .struct _ | .array _ _=>true | _=>false)=true)
 (hi:(P.info? ty).map (·.size)=some cs.size):(results fn tmps).run P w=.ok (.tuple #[.agg cs,tmps.getD s undef,tmps.getD t undef,tmps.getD u undef,tmps.getD v undef]) w:=by
 have h1:(results fn tmps).run P w=((asAddr (tmps.getD p undef)).run P w).andThen fun a w₁=>((loadVar ty a).run P w₁).andThen fun v' w₂=>.ok (.tuple #[v',tmps.getD s undef,tmps.getD t undef,tmps.getD u undef,tmps.getD v undef]) w₂:=by
  simp only [results,h]
  simp [Sem.run_bind,Result.andThen]
 rw [h1,hp]
 simp [asAddr,run_loadVar_row w g t' ty cs fr d hg hu hd hi]

set_option maxRecDepth 100000 in
set_option maxHeartbeats 12800000 in
theorem DrawAccess_c {a:Option Addr} {n:Nat} (cap:Nat) {zs:List Int} (w:World) (hcd:Code w a n zs) :
 Calls Tryz.prog 5 #[.slice a n cap] w fun e w'=>∃ (M:MV) (A:MA) (x1 x2 x3 x4:Int),e=.returned (.tuple #[.agg (mvc M A),.int .u64 x1,.int .i64 x2,.int .i64 x3,.int .u64 x4])∧Hid (Ma M)∧Hid (MSl w' M A)∧Hid (machB M=true→Goodly M.ram.length A.ar A.cr)∧U x1∧U x4∧Hid (Below w.heap.size w w'):=by
 have HD:Hid (∀ o,Code (w.alloc o) a n zs):=fun o=>⟨hcd.len,hcd.few,hcd.sl.below ((Below.refl _ _).alloc (Nat.le_refl _) o),hcd.bd⟩
 clear hcd
 go_enter Tryz.func5,Tryz.ntmps5
 go_wp2_with fail
 refine (l1New_c cap _ (HD.out _)).mono ?_
 rintro e w1 ⟨g,rfl,hc⟩
 have RR:=dhid (hc.out.below.block w.heap.size (by rw [World.size_alloc];omega) |>.trans (heap_alloc_new w (.cells (mvc zeroM zeroA) 29)))
 have HG:=dhid (show w.heap.size < g by have:=hc.out.new;rw [World.size_alloc] at this;omega)
 obtain ⟨W0,hW0⟩:∃ W0,W0=w.alloc (.cells (mvc zeroM zeroA) 29):=⟨_,rfl⟩
 have hc2:Hid (Cur W0 w1 g a n cap):=by rw [hW0];exact hc
 have HD0:Hid (Code W0 a n zs):=by rw [hW0];exact HD.out _
 have BW:Hid (Below w.heap.size w W0):=by rw [hW0];exact (Below.refl _ _).alloc (Nat.le_refl _) _
 have SW:Hid (W0.heap.size=w.heap.size+1):=by show _=_;rw [hW0,World.size_alloc]
 have HL:=dhid hc2.out.lt
 clear hc hW0 HD
 go_wp2_with fail
 refine (l9DrawAny_c HD0.out _ hc2.out).mono ?_
 rintro e w2 ⟨M,A,rfl,FA,SL,FG,MN,hs2⟩
 have GG:Hid (machB M=true→Goodly M.ram.length A.ar A.cr):=fun h=>own_good ((FG.out h).own (bRow A.ar M.ram.length A.cr M.ram) (by simp [mvF]))
 have D3:Hid (Dq W0 g a n cap w.heap.size w2.heap.size M A (w2.alloc (.cells (mvc M A) 29))):=by
  have hb:=(Below.refl w2.heap.size w2).alloc (Nat.le_refl _) (.cells (mvc M A) 29)
  have hz:=hs2.out.2.size
  have hl:=HL.out
  have hg:=HG.out
  exact ⟨(Cs.alloc hs2.out.1 _).1,heap_alloc_new _ _,dstays hb (hs2.out.keep RR.out (by omega)),SL.out.below hb,fun p hp b off e=>by have:=MN.out p hp b off e;omega,by omega,hg⟩
 obtain ⟨m,hm⟩:∃ m,m=w2.heap.size:=⟨_,rfl⟩
 obtain ⟨w3,hw3⟩:∃ W,W=w2.alloc (.cells (mvc M A) 29):=⟨_,rfl⟩
 have D3:Hid (Dq W0 g a n cap w.heap.size m M A w3):=by rw [hm,hw3];exact D3
 have PB:Hid (∀ W,Dq W0 g a n cap w.heap.size m M A W→Below w.heap.size w W):=fun W h=>BW.out.trans ⟨h.cur.below.os,h.cur.below.tape,h.cur.below.output,h.cur.below.size,fun k hk=>h.cur.below.block k (by have:=SW.out;omega)⟩
 have RAM:=dhid FA.out.len.ram
 have NMW:Hid (m≠w.heap.size):=by show _≠_;rw [hm];have:=HG.out;have:=HL.out;have:=hs2.out.2.size;omega
 dsimp only [mvc] at hw3 ⊢
 clear RR HG hc2 BW SW HL SL FG MN hs2
 go_wp2_with fail
 rw [← hm,← hw3]
 clear hm hw3
 refine (l6DrawKind_c HD0.out _ D3.out.cur).mono ?_
 rintro e w4 ⟨x3,rfl,hs4⟩
 have D4:=dhid (D3.out.next hs4.out)
 clear hs4 D3
 go_wp2_with fail
 refine (l1DrawSize_c HD0.out _ D4.out.cur).mono ?_
 rintro e w5 ⟨xn,rfl,hxn,hs5⟩
 have D5:=dhid (D4.out.next hs5.out)
 clear hs5 D4
 have cr:w5.cell? ⟨m,4,none⟩=some (.slice A.ar M.ram.length A.cr):=(cells14 D5.out.row).2.2.2.2.1
 go_wp2_with fail
 refine (l1DrawAddr_c HD0.out A.ar M.ram.length A.cr RAM.out _ D5.out.cur).mono ?_
 rintro e w6 ⟨xa,rfl,hxa,hs6⟩
 have D6:=dhid (D5.out.next hs6.out)
 clear hs6 D5 cr hxn
 go_wp2_with fail
 refine (l1Once_c HD0.out 5 (by omega) _ D6.out.cur).mono ?_
 rintro e w7 ⟨c7,rfl,hs7⟩
 have D7:=dhid (D6.out.next hs7.out)
 clear hs7 D6
 have HXA:=dhid hxa
 clear hxa
 go_upto_if 26 with fail
 go_cut [11] from 12 (fun y wc=>∃ x:Int,y=.int .u64 x∧Hid (U x)∧Hid (Dq W0 g a n cap w.heap.size m M A wc))
 case first =>
  cases c7
  ·go_wp2_with fail
   go_meet
   exact ⟨_,rfl,U_bits _ _ _,D7⟩
  ·go_wp2_with fail
   go_meet
   exact ⟨_,rfl,HXA,D7⟩
 case rest =>
  clear D7 HXA
  obtain ⟨y1,rfl,hy1,D8⟩:=hcut
  go_wp2_with fail
  refine (l1Once_c HD0.out 4 (by omega) _ D8.out.cur).mono ?_
  rintro e w9 ⟨c9,rfl,hs9⟩
  have D9:=dhid (D8.out.next hs9.out)
  clear hs9 D8
  go_upto_if 30 with fail
  go_cut [10,11] from 12 (fun z y wc=>∃ x2 x:Int,z=.int .i64 x2∧y=.int .u64 x∧Hid (U x)∧Hid (Dq W0 g a n cap w.heap.size m M A wc))
  case first =>
   cases c9
   ·go_wp2_with fail
    go_meet
    exact ⟨_,_,rfl,rfl,hy1,D9⟩
   ·go_wp2_with fail
    refine (l8DrawAddr_c HD0.out _ D9.out.cur).mono ?_
    rintro e w10 ⟨q1,q2,rfl,hq,hs10⟩
    have D10:=dhid (D9.out.next hs10.out)
    clear hs10 D9
    go_wp2_with fail
    go_meet
    exact ⟨_,_,rfl,rfl,hq.out.1,D10⟩
  case rest =>
   clear D9 hy1
   obtain ⟨z2,z1,rfl,rfl,hz1,D11⟩:=hcut
   cases hk:(x3==1) with
   | false =>
    go_wp2_with fail
    have q0:=dhid (D11.out.next (Cs.of_below D11.out.cur (Below.refl _ _).drew))
    clear D11
    refine wp_region_held_drew (S:=(fun w'=>w'.cell? ⟨m,0,none⟩=some (.int .u64 M.pc)∧w'.cell? ⟨m,1,none⟩=some (.slice A.ax M.x.length A.cx)∧w'.cell? ⟨m,2,none⟩=some (.int .i64 M.pr)∧w'.cell? ⟨m,3,none⟩=some (.slice A.ac M.cs.length A.cc)∧w'.cell? ⟨m,4,none⟩=some (.slice A.ar M.ram.length A.cr)∧w'.cell? ⟨m,5,none⟩=some (.int .u64 M.d.t)∧w'.cell? ⟨m,6,none⟩=some (.int .u64 M.d.cm)∧w'.cell? ⟨m,7,none⟩=some (.bool M.d.so)∧w'.cell? ⟨m,8,none⟩=some (.slice A.ai M.d.xs.length A.ci)∧w'.cell? ⟨m,9,none⟩=some (.slice A.ao M.d.ys.length A.co)∧w'.cell? ⟨m,10,none⟩=some (.int .i64 M.d.ir)∧w'.cell? ⟨m,11,none⟩=some (.int .u64 M.hd)∧w'.cell? ⟨m,12,none⟩=some (.bool M.hl)∧w'.cell? ⟨m,13,none⟩=some (.bool M.wt))) (by kernel_rfl) (cells14 q0.out.row) (fun hHeld=>?_)
    refine tkL 0 43 (.agg #[.int .u64 M.pc,.slice A.ax M.x.length A.cx,.int .i64 M.pr,.slice A.ac M.cs.length A.cc,.slice A.ar M.ram.length A.cr,.int .u64 M.d.t,.int .u64 M.d.cm,.bool M.d.so,.slice A.ai M.d.xs.length A.ci,.slice A.ao M.d.ys.length A.co,.int .i64 M.d.ir,.int .u64 M.hd,.bool M.hl,.bool M.wt]) ?_
    refine tkL 1 44 (.int .u64 z1) ?_
    refine tkL 2 45 (.int .i64 z2) ?_
    refine tkL 3 46 (.int .i64 x3) ?_
    refine tkL 4 47 (.pointer (some ⟨g,0,none⟩)) ?_
    refine rdy 5 48 (fun K hK=>?_)
    go_simp
    refine (l1DrawWord_c HD0.out _ q0.out.cur).mono ?_
    rintro e w14 ⟨x4,rfl,hx4,hs14⟩
    have q14:=dhid (q0.out.next hs14.out)
    refine hK.out _ _ (cells14 q14.out.row) (fun hHeld=>?_)
    clear hK hs14 q0
    have RM:=dhid ((setRow_other w14 w.heap.size m #[.int .u64 M.pc,.slice A.ax M.x.length A.cx,.int .i64 M.pr,.slice A.ac M.cs.length A.cc,.slice A.ar M.ram.length A.cr,.int .u64 M.d.t,.int .u64 M.d.cm,.bool M.d.so,.slice A.ai M.d.xs.length A.ci,.slice A.ao M.d.ys.length A.co,.int .i64 M.d.ir,.int .u64 M.hd,.bool M.hl,.bool M.wt] (fun e=>NMW.out e)).trans q14.out.row)
    have RZ:=dhid (setRow_heap w14 w.heap.size _ #[.int .u64 M.pc,.slice A.ax M.x.length A.cx,.int .i64 M.pr,.slice A.ac M.cs.length A.cc,.slice A.ar M.ram.length A.cr,.int .u64 M.d.t,.int .u64 M.d.cm,.bool M.d.so,.slice A.ai M.d.xs.length A.ci,.slice A.ao M.d.ys.length A.co,.int .i64 M.d.ir,.int .u64 M.hd,.bool M.hl,.bool M.wt] _ _ q14.out.res)
    have OUT:=dhid (q14.out.out #[.int .u64 M.pc,.slice A.ax M.x.length A.cx,.int .i64 M.pr,.slice A.ac M.cs.length A.cc,.slice A.ar M.ram.length A.cr,.int .u64 M.d.t,.int .u64 M.d.cm,.bool M.d.so,.slice A.ai M.d.xs.length A.ci,.slice A.ao M.d.ys.length A.co,.int .i64 M.d.ir,.int .u64 M.hd,.bool M.hl,.bool M.wt])
    have BB:=dhid (row_below (PB.out _ q14.out) (Nat.le_refl _) #[.int .u64 M.pc,.slice A.ax M.x.length A.cx,.int .i64 M.pr,.slice A.ac M.cs.length A.cc,.slice A.ar M.ram.length A.cr,.int .u64 M.d.t,.int .u64 M.d.cm,.bool M.d.so,.slice A.ai M.d.xs.length A.ci,.slice A.ao M.d.ys.length A.co,.int .i64 M.d.ir,.int .u64 M.hd,.bool M.hl,.bool M.wt])
    refine wpAnyH_ready (rs:=[6]) (by kernel_rfl) (by simp) ?_
    refine AllReadyH.cons (o:={ dst:=none,op:=_,type:=_,pos:=_,after:=_,guard:=_ }) rfl (fun K hK=>?_) AllReadyH.nil
    refine wpH_row9 (by rfl) 29 (.tmp 2) (.tmp 43) rfl w.heap.size rfl (mvc zeroM zeroA) #[.int .u64 M.pc,.slice A.ax M.x.length A.cx,.int .i64 M.pr,.slice A.ac M.cs.length A.cc,.slice A.ar M.ram.length A.cr,.int .u64 M.d.t,.int .u64 M.d.cm,.bool M.d.so,.slice A.ai M.d.xs.length A.ci,.slice A.ao M.d.ys.length A.co,.int .i64 M.d.ir,.int .u64 M.hd,.bool M.hl,.bool M.wt] rfl 29 q14.out.res mac_size rfl (mvc_oneM M A) ?_
    refine hK.out _ _ (cells14 RM.out) (fun hHeld=>?_)
    clear hK
    generalize w14.setRow w.heap.size #[.int .u64 M.pc,.slice A.ax M.x.length A.cx,.int .i64 M.pr,.slice A.ac M.cs.length A.cc,.slice A.ar M.ram.length A.cr,.int .u64 M.d.t,.int .u64 M.d.cm,.bool M.d.so,.slice A.ai M.d.xs.length A.ci,.slice A.ao M.d.ys.length A.co,.int .i64 M.d.ir,.int .u64 M.hd,.bool M.hl,.bool M.wt]=w15 at *
    simp only [Act.put]
    refine tkL 7 3 (.int .u64 z1) ?_
    refine tkL 8 4 (.int .i64 z2) ?_
    refine tkL 9 5 (.int .i64 x3) ?_
    refine tkL 10 6 (.int .u64 x4) ?_
    refine wpAnyH_done (by kernel_rfl) ?_ _
    go_wp2_with fail
    exact bodyPost_ret (results_cq4 Tryz.results5 _ _ _ _ _ _ _ rfl RZ.out Tryz.underlying29 rfl mac_size) rfl ⟨M,A,z1,z2,x3,x4,rfl,FA,OUT,GG,hz1.out,hx4,BB⟩
   | true =>
    go_wp2_with fail
    refine (l1Once_c HD0.out 8 (by omega) _ D11.out.cur).mono ?_
    rintro e w12 ⟨c12,rfl,hs12⟩
    have D12:=dhid (D11.out.next hs12.out)
    clear hs12 D11
    cases c12
    ·go_wp2_with fail
     have q0:=dhid (D12.out.next (Cs.of_below D12.out.cur (Below.refl _ _).drew))
     clear D12
     refine wp_region_held_drew (S:=(fun w'=>w'.cell? ⟨m,0,none⟩=some (.int .u64 M.pc)∧w'.cell? ⟨m,1,none⟩=some (.slice A.ax M.x.length A.cx)∧w'.cell? ⟨m,2,none⟩=some (.int .i64 M.pr)∧w'.cell? ⟨m,3,none⟩=some (.slice A.ac M.cs.length A.cc)∧w'.cell? ⟨m,4,none⟩=some (.slice A.ar M.ram.length A.cr)∧w'.cell? ⟨m,5,none⟩=some (.int .u64 M.d.t)∧w'.cell? ⟨m,6,none⟩=some (.int .u64 M.d.cm)∧w'.cell? ⟨m,7,none⟩=some (.bool M.d.so)∧w'.cell? ⟨m,8,none⟩=some (.slice A.ai M.d.xs.length A.ci)∧w'.cell? ⟨m,9,none⟩=some (.slice A.ao M.d.ys.length A.co)∧w'.cell? ⟨m,10,none⟩=some (.int .i64 M.d.ir)∧w'.cell? ⟨m,11,none⟩=some (.int .u64 M.hd)∧w'.cell? ⟨m,12,none⟩=some (.bool M.hl)∧w'.cell? ⟨m,13,none⟩=some (.bool M.wt))) (by kernel_rfl) (cells14 q0.out.row) (fun hHeld=>?_)
     refine tkL 0 43 (.agg #[.int .u64 M.pc,.slice A.ax M.x.length A.cx,.int .i64 M.pr,.slice A.ac M.cs.length A.cc,.slice A.ar M.ram.length A.cr,.int .u64 M.d.t,.int .u64 M.d.cm,.bool M.d.so,.slice A.ai M.d.xs.length A.ci,.slice A.ao M.d.ys.length A.co,.int .i64 M.d.ir,.int .u64 M.hd,.bool M.hl,.bool M.wt]) ?_
     refine tkL 1 44 (.int .u64 z1) ?_
     refine tkL 2 45 (.int .i64 4) ?_
     refine tkL 3 46 (.int .i64 x3) ?_
     refine tkL 4 47 (.pointer (some ⟨g,0,none⟩)) ?_
     refine rdy 5 48 (fun K hK=>?_)
     go_simp
     refine (l1DrawWord_c HD0.out _ q0.out.cur).mono ?_
     rintro e w14 ⟨x4,rfl,hx4,hs14⟩
     have q14:=dhid (q0.out.next hs14.out)
     refine hK.out _ _ (cells14 q14.out.row) (fun hHeld=>?_)
     clear hK hs14 q0
     have RM:=dhid ((setRow_other w14 w.heap.size m #[.int .u64 M.pc,.slice A.ax M.x.length A.cx,.int .i64 M.pr,.slice A.ac M.cs.length A.cc,.slice A.ar M.ram.length A.cr,.int .u64 M.d.t,.int .u64 M.d.cm,.bool M.d.so,.slice A.ai M.d.xs.length A.ci,.slice A.ao M.d.ys.length A.co,.int .i64 M.d.ir,.int .u64 M.hd,.bool M.hl,.bool M.wt] (fun e=>NMW.out e)).trans q14.out.row)
     have RZ:=dhid (setRow_heap w14 w.heap.size _ #[.int .u64 M.pc,.slice A.ax M.x.length A.cx,.int .i64 M.pr,.slice A.ac M.cs.length A.cc,.slice A.ar M.ram.length A.cr,.int .u64 M.d.t,.int .u64 M.d.cm,.bool M.d.so,.slice A.ai M.d.xs.length A.ci,.slice A.ao M.d.ys.length A.co,.int .i64 M.d.ir,.int .u64 M.hd,.bool M.hl,.bool M.wt] _ _ q14.out.res)
     have OUT:=dhid (q14.out.out #[.int .u64 M.pc,.slice A.ax M.x.length A.cx,.int .i64 M.pr,.slice A.ac M.cs.length A.cc,.slice A.ar M.ram.length A.cr,.int .u64 M.d.t,.int .u64 M.d.cm,.bool M.d.so,.slice A.ai M.d.xs.length A.ci,.slice A.ao M.d.ys.length A.co,.int .i64 M.d.ir,.int .u64 M.hd,.bool M.hl,.bool M.wt])
     have BB:=dhid (row_below (PB.out _ q14.out) (Nat.le_refl _) #[.int .u64 M.pc,.slice A.ax M.x.length A.cx,.int .i64 M.pr,.slice A.ac M.cs.length A.cc,.slice A.ar M.ram.length A.cr,.int .u64 M.d.t,.int .u64 M.d.cm,.bool M.d.so,.slice A.ai M.d.xs.length A.ci,.slice A.ao M.d.ys.length A.co,.int .i64 M.d.ir,.int .u64 M.hd,.bool M.hl,.bool M.wt])
     refine wpAnyH_ready (rs:=[6]) (by kernel_rfl) (by simp) ?_
     refine AllReadyH.cons (o:={ dst:=none,op:=_,type:=_,pos:=_,after:=_,guard:=_ }) rfl (fun K hK=>?_) AllReadyH.nil
     refine wpH_row9 (by rfl) 29 (.tmp 2) (.tmp 43) rfl w.heap.size rfl (mvc zeroM zeroA) #[.int .u64 M.pc,.slice A.ax M.x.length A.cx,.int .i64 M.pr,.slice A.ac M.cs.length A.cc,.slice A.ar M.ram.length A.cr,.int .u64 M.d.t,.int .u64 M.d.cm,.bool M.d.so,.slice A.ai M.d.xs.length A.ci,.slice A.ao M.d.ys.length A.co,.int .i64 M.d.ir,.int .u64 M.hd,.bool M.hl,.bool M.wt] rfl 29 q14.out.res mac_size rfl (mvc_oneM M A) ?_
     refine hK.out _ _ (cells14 RM.out) (fun hHeld=>?_)
     clear hK
     generalize w14.setRow w.heap.size #[.int .u64 M.pc,.slice A.ax M.x.length A.cx,.int .i64 M.pr,.slice A.ac M.cs.length A.cc,.slice A.ar M.ram.length A.cr,.int .u64 M.d.t,.int .u64 M.d.cm,.bool M.d.so,.slice A.ai M.d.xs.length A.ci,.slice A.ao M.d.ys.length A.co,.int .i64 M.d.ir,.int .u64 M.hd,.bool M.hl,.bool M.wt]=w15 at *
     simp only [Act.put]
     refine tkL 7 3 (.int .u64 z1) ?_
     refine tkL 8 4 (.int .i64 4) ?_
     refine tkL 9 5 (.int .i64 x3) ?_
     refine tkL 10 6 (.int .u64 x4) ?_
     refine wpAnyH_done (by kernel_rfl) ?_ _
     go_wp2_with fail
     exact bodyPost_ret (results_cq4 Tryz.results5 _ _ _ _ _ _ _ rfl RZ.out Tryz.underlying29 rfl mac_size) rfl ⟨M,A,z1,4,x3,x4,rfl,FA,OUT,GG,hz1.out,hx4,BB⟩
    ·go_wp2_with fail
     have q0:=dhid (D12.out.next (Cs.of_below D12.out.cur (Below.refl _ _).drew))
     clear D12
     refine wp_region_held_drew (S:=(fun w'=>w'.cell? ⟨m,0,none⟩=some (.int .u64 M.pc)∧w'.cell? ⟨m,1,none⟩=some (.slice A.ax M.x.length A.cx)∧w'.cell? ⟨m,2,none⟩=some (.int .i64 M.pr)∧w'.cell? ⟨m,3,none⟩=some (.slice A.ac M.cs.length A.cc)∧w'.cell? ⟨m,4,none⟩=some (.slice A.ar M.ram.length A.cr)∧w'.cell? ⟨m,5,none⟩=some (.int .u64 M.d.t)∧w'.cell? ⟨m,6,none⟩=some (.int .u64 M.d.cm)∧w'.cell? ⟨m,7,none⟩=some (.bool M.d.so)∧w'.cell? ⟨m,8,none⟩=some (.slice A.ai M.d.xs.length A.ci)∧w'.cell? ⟨m,9,none⟩=some (.slice A.ao M.d.ys.length A.co)∧w'.cell? ⟨m,10,none⟩=some (.int .i64 M.d.ir)∧w'.cell? ⟨m,11,none⟩=some (.int .u64 M.hd)∧w'.cell? ⟨m,12,none⟩=some (.bool M.hl)∧w'.cell? ⟨m,13,none⟩=some (.bool M.wt))) (by kernel_rfl) (cells14 q0.out.row) (fun hHeld=>?_)
     refine tkL 0 43 (.agg #[.int .u64 M.pc,.slice A.ax M.x.length A.cx,.int .i64 M.pr,.slice A.ac M.cs.length A.cc,.slice A.ar M.ram.length A.cr,.int .u64 M.d.t,.int .u64 M.d.cm,.bool M.d.so,.slice A.ai M.d.xs.length A.ci,.slice A.ao M.d.ys.length A.co,.int .i64 M.d.ir,.int .u64 M.hd,.bool M.hl,.bool M.wt]) ?_
     refine tkL 1 44 (.int .u64 z1) ?_
     refine tkL 2 45 (.int .i64 z2) ?_
     refine tkL 3 46 (.int .i64 x3) ?_
     refine tkL 4 47 (.pointer (some ⟨g,0,none⟩)) ?_
     refine rdy 5 48 (fun K hK=>?_)
     go_simp
     refine (l1DrawWord_c HD0.out _ q0.out.cur).mono ?_
     rintro e w14 ⟨x4,rfl,hx4,hs14⟩
     have q14:=dhid (q0.out.next hs14.out)
     refine hK.out _ _ (cells14 q14.out.row) (fun hHeld=>?_)
     clear hK hs14 q0
     have RM:=dhid ((setRow_other w14 w.heap.size m #[.int .u64 M.pc,.slice A.ax M.x.length A.cx,.int .i64 M.pr,.slice A.ac M.cs.length A.cc,.slice A.ar M.ram.length A.cr,.int .u64 M.d.t,.int .u64 M.d.cm,.bool M.d.so,.slice A.ai M.d.xs.length A.ci,.slice A.ao M.d.ys.length A.co,.int .i64 M.d.ir,.int .u64 M.hd,.bool M.hl,.bool M.wt] (fun e=>NMW.out e)).trans q14.out.row)
     have RZ:=dhid (setRow_heap w14 w.heap.size _ #[.int .u64 M.pc,.slice A.ax M.x.length A.cx,.int .i64 M.pr,.slice A.ac M.cs.length A.cc,.slice A.ar M.ram.length A.cr,.int .u64 M.d.t,.int .u64 M.d.cm,.bool M.d.so,.slice A.ai M.d.xs.length A.ci,.slice A.ao M.d.ys.length A.co,.int .i64 M.d.ir,.int .u64 M.hd,.bool M.hl,.bool M.wt] _ _ q14.out.res)
     have OUT:=dhid (q14.out.out #[.int .u64 M.pc,.slice A.ax M.x.length A.cx,.int .i64 M.pr,.slice A.ac M.cs.length A.cc,.slice A.ar M.ram.length A.cr,.int .u64 M.d.t,.int .u64 M.d.cm,.bool M.d.so,.slice A.ai M.d.xs.length A.ci,.slice A.ao M.d.ys.length A.co,.int .i64 M.d.ir,.int .u64 M.hd,.bool M.hl,.bool M.wt])
     have BB:=dhid (row_below (PB.out _ q14.out) (Nat.le_refl _) #[.int .u64 M.pc,.slice A.ax M.x.length A.cx,.int .i64 M.pr,.slice A.ac M.cs.length A.cc,.slice A.ar M.ram.length A.cr,.int .u64 M.d.t,.int .u64 M.d.cm,.bool M.d.so,.slice A.ai M.d.xs.length A.ci,.slice A.ao M.d.ys.length A.co,.int .i64 M.d.ir,.int .u64 M.hd,.bool M.hl,.bool M.wt])
     refine wpAnyH_ready (rs:=[6]) (by kernel_rfl) (by simp) ?_
     refine AllReadyH.cons (o:={ dst:=none,op:=_,type:=_,pos:=_,after:=_,guard:=_ }) rfl (fun K hK=>?_) AllReadyH.nil
     refine wpH_row9 (by rfl) 29 (.tmp 2) (.tmp 43) rfl w.heap.size rfl (mvc zeroM zeroA) #[.int .u64 M.pc,.slice A.ax M.x.length A.cx,.int .i64 M.pr,.slice A.ac M.cs.length A.cc,.slice A.ar M.ram.length A.cr,.int .u64 M.d.t,.int .u64 M.d.cm,.bool M.d.so,.slice A.ai M.d.xs.length A.ci,.slice A.ao M.d.ys.length A.co,.int .i64 M.d.ir,.int .u64 M.hd,.bool M.hl,.bool M.wt] rfl 29 q14.out.res mac_size rfl (mvc_oneM M A) ?_
     refine hK.out _ _ (cells14 RM.out) (fun hHeld=>?_)
     clear hK
     generalize w14.setRow w.heap.size #[.int .u64 M.pc,.slice A.ax M.x.length A.cx,.int .i64 M.pr,.slice A.ac M.cs.length A.cc,.slice A.ar M.ram.length A.cr,.int .u64 M.d.t,.int .u64 M.d.cm,.bool M.d.so,.slice A.ai M.d.xs.length A.ci,.slice A.ao M.d.ys.length A.co,.int .i64 M.d.ir,.int .u64 M.hd,.bool M.hl,.bool M.wt]=w15 at *
     simp only [Act.put]
     refine tkL 7 3 (.int .u64 z1) ?_
     refine tkL 8 4 (.int .i64 z2) ?_
     refine tkL 9 5 (.int .i64 x3) ?_
     refine tkL 10 6 (.int .u64 x4) ?_
     refine wpAnyH_done (by kernel_rfl) ?_ _
     go_wp2_with fail
     exact bodyPost_ret (results_cq4 Tryz.results5 _ _ _ _ _ _ _ rfl RZ.out Tryz.underlying29 rfl mac_size) rfl ⟨M,A,z1,z2,x3,x4,rfl,FA,OUT,GG,hz1.out,hx4,BB⟩

theorem bitAt_bt (x:Int) (h:U x) (i:Nat):bitAt x i=if bt x i=true then 1 else 0:=by
 have e1:∀ i,i < 64→∀ (p o:Bool),((if i=0 then p else o)&&bt 1 i)=bt (if p=true then 1 else 0) i:=by decide +kernel
 unfold bitAt
 have e:∀ y:Int,bits .and .u64 y 1=if bt y 0=true then 1 else 0:=by
  intro y
  refine bt_ext _ _ (U_bits _ _ _) (by split<;>(constructor<;>decide)) fun j hj=>?_
  rw [bt_and,← e1 j hj (bt y 0) (bt y j)]
  by_cases h0:j=0
  ·subst h0;rfl
  ·rw [if_neg h0]
 rw [e,bt_div x h,Nat.zero_add]

theorem pageC_ne (k:Int):pageC k≠0:=by unfold pageC;split<;>(try split)<;>decide

theorem faultC_ne (k:Int):faultC k≠0:=by unfold faultC;split<;>(try split)<;>decide

theorem leaf_led (l:List Int) (p va kind e x:Int) (lv:Nat) (h:(leafV l p va kind e x lv).code=0) :
 offB e lv=false∧noKind l kind e=false∧noPriv l p kind e=false∧(((wantV e kind != e)=true∧permRest l 1 x (lastOf x 8) 3 4 0=true∧leafV l p va kind e x lv=⟨leadV e va lv,0,true,x,wantV e kind⟩)∨((wantV e kind != e)=false∧leafV l p va kind e x lv=⟨leadV e va lv,0,false,0,0⟩)):=by
 unfold leafV at h ⊢
 cases h1:offB e lv with
 | true=>rw [h1,if_pos rfl] at h;exact absurd h (pageC_ne kind)
 | false =>
  rw [h1,if_neg (by decide)] at h
  cases h2:noKind l kind e with
  | true=>rw [h2,if_pos rfl] at h;exact absurd h (pageC_ne kind)
  | false =>
   rw [h2,if_neg (by decide)] at h
   cases h3:noPriv l p kind e with
   | true=>rw [h3,if_pos rfl] at h;exact absurd h (pageC_ne kind)
   | false =>
    rw [h3,if_neg (by decide)] at h
    refine ⟨rfl,rfl,rfl,?_⟩
    cases h4:(wantV e kind != e) with
    | true =>
     rw [h4,if_pos rfl] at h
     cases h5:permRest l 1 x (lastOf x 8) 3 4 0 with
     | true=>exact .inl ⟨rfl,rfl,rfl⟩
     | false=>rw [h5,if_neg (by decide)] at h;exact absurd h (faultC_ne kind)
    | false=>exact .inr ⟨rfl,rfl⟩

theorem walkL_ends (zs:List Int) (n:Nat) (l:List Int) (p va kind:Int):∀ lv T,lv≤2 →
 ((walkL zs n l p va kind lv T).code=0∧(∃ e k,k≤2∧(walkL zs n l p va kind lv T).addr=leadV e va k)∧((walkL zs n l p va kind lv T).marked=false→walkL zs n l p va kind lv T=⟨(walkL zs n l p va kind lv T).addr,0,false,0,0⟩)) ∨
 ((walkL zs n l p va kind lv T).code≠0∧(walkL zs n l p va kind lv T).addr=0∧(walkL zs n l p va kind lv T).marked=false):=by
 have leaf:∀ e x k,k≤2→((leafV l p va kind e x k).code=0∧(∃ e' k',k'≤2∧(leafV l p va kind e x k).addr=leadV e' va k')∧((leafV l p va kind e x k).marked=false→leafV l p va kind e x k=⟨(leafV l p va kind e x k).addr,0,false,0,0⟩))∨((leafV l p va kind e x k).code≠0∧(leafV l p va kind e x k).addr=0∧(leafV l p va kind e x k).marked=false):=by
  intro e x k hk
  by_cases hc:(leafV l p va kind e x k).code=0
  ·obtain ⟨_,_,_,⟨_,_,hL⟩ | ⟨_,hL⟩⟩:=leaf_led _ _ _ _ _ _ _ hc
   ·rw [hL];exact .inl ⟨rfl,⟨e,k,hk,rfl⟩,fun h=>by cases h⟩
   ·rw [hL];exact .inl ⟨rfl,⟨e,k,hk,rfl⟩,fun _=>rfl⟩
  ·refine .inr ⟨hc,?_⟩
   unfold leafV at hc ⊢
   split
   ·exact ⟨rfl,rfl⟩
   ·rename_i h1
    rw [if_neg h1] at hc
    split
    ·exact ⟨rfl,rfl⟩
    ·rename_i h2
     rw [if_neg h2] at hc
     split
     ·exact ⟨rfl,rfl⟩
     ·rename_i h3
      rw [if_neg h3] at hc
      split
      ·rename_i h4
       rw [if_pos h4] at hc
       split
       ·rename_i h5
        rw [if_pos h5] at hc
        exact absurd rfl hc
       ·exact ⟨rfl,rfl⟩
      ·rename_i h4
       rw [if_neg h4] at hc
       exact absurd rfl hc
 intro lv
 induction lv with
 | zero =>
  intro T _
  rw [walkL]
  split
  ·split
   ·split
    ·exact .inr ⟨pageC_ne kind,rfl,rfl⟩
    ·split
     ·exact .inr ⟨pageC_ne kind,rfl,rfl⟩
     ·exact leaf _ _ _ (by omega)
   ·exact .inr ⟨faultC_ne kind,rfl,rfl⟩
  ·exact .inr ⟨faultC_ne kind,rfl,rfl⟩
 | succ lv ih =>
  intro T hlv
  rw [walkL]
  split
  ·split
   ·split
    ·exact .inr ⟨pageC_ne kind,rfl,rfl⟩
    ·split
     ·split
      ·exact .inr ⟨pageC_ne kind,rfl,rfl⟩
      ·exact ih _ (by omega)
     ·exact leaf _ _ _ (by omega)
   ·exact .inr ⟨faultC_ne kind,rfl,rfl⟩
  ·exact .inr ⟨faultC_ne kind,rfl,rfl⟩

structure MW (M:MV):Prop where
 cs:∀ j,U (M.cs.getD j 0)
 ram:∀ y ∈ M.ram,(Lit.int .u8 y).wf=true
 xs:∀ y ∈ M.d.xs,(Lit.int .u8 y).wf=true
 ys:∀ y ∈ M.d.ys,(Lit.int .u8 y).wf=true

theorem wf8q_bd {y:Int} (h:(Lit.int .u8 y).wf=true):0≤y∧y≤255:=by
 simpa [Lit.wf,IntKind.min,IntKind.max,IntKind.signed,IntKind.bits] using h

theorem bd_wf8 {y:Int} (h:0≤y∧y≤255):(Lit.int .u8 y).wf=true:=by
 simpa [Lit.wf,IntKind.min,IntKind.max,IntKind.signed,IntKind.bits] using h

theorem put_wf (zs:List Int) (h:∀ y ∈ zs,(Lit.int .u8 y).wf=true) (f:Nat) (x:Int) (k:Nat):∀ y ∈ put zs f x k,(Lit.int .u8 y).wf=true:=fun y hy=>bd_wf8 (put_bd zs (fun z hz=>wf8q_bd (h z hz)) f x k y hy)

theorem mark_wf (zs:List Int) (h:∀ y ∈ zs,(Lit.int .u8 y).wf=true) (F:Fd):∀ y ∈ markB zs F,(Lit.int .u8 y).wf=true:=by
 unfold markB
 split
 ·exact put_wf zs h _ _ _
 ·exact h

theorem mach_parts {M:MV} (h:machB M=true):M.cs.length=22∧csrsOk 22 M.cs=true∧privB M.pr=true∧ramOkB M.ram.length=true∧okD M.d.xs.length M.d.ys.length M.d.ir=true∧bellsB M=true:=by
 unfold machB at h
 simp only [Bool.and_eq_true] at h
 obtain ⟨⟨⟨⟨⟨⟨_,_⟩,h3⟩,h4⟩,h5⟩,_⟩,h7⟩:=h
 have h22:=legal_22 h3
 have h6:=h3
 unfold legalB at h6
 rw [Bool.and_eq_true] at h6
 rw [h22] at h6
 exact ⟨h22,h6.1,h6.2,h4,h5,h7⟩

theorem bit2m (s:Int) (h:U s):s / 2048 % 4=(if bt s 11=true then 1 else 0)+2*(if bt s 12=true then 1 else 0):=by
 have e1:bitAt s 11=s / 2 ^ 11 % 2 ^ 1:=by
  have hd:=U_div s h 11
  exact and_low (s / 2 ^ 11) 1 hd.1 hd.2 (by omega)
 have e2:bitAt s 12=s / 2 ^ 12 % 2 ^ 1:=by
  have hd:=U_div s h 12
  exact and_low (s / 2 ^ 12) 1 hd.1 hd.2 (by omega)
 have q1:=bitAt_bt s h 11
 have q2:=bitAt_bt s h 12
 rw [← q1,← q2,e1,e2]
 omega

theorem mpp_priv (s:Int) (hU:U s) (h0:okAt 0 s=true):privB (wrap64 (bits .and .u64 (s / 2048) 3))=true:=by
 have hm:mst s=s:=by
  unfold okAt legal at h0
  simpa using h0
 have hc:=((mst_ok _ hU).1 hm).2
 have hd:=U_div s hU 11
 have e0:=and_low (s / 2 ^ 11) 2 hd.1 hd.2 (by omega)
 have e:bits .and .u64 (s / 2048) 3=s / 2048 % 4:=e0
 rw [e,bit2m s hU]
 revert hc
 cases bt s 11<;>cases bt s 12<;>intro hc
 ·decide +kernel
 ·cases hc
 ·decide +kernel
 ·decide +kernel

theorem eff_priv {l:List Int} (hU:U (l.getD 0 0)) (hok:csrsOk 22 l=true) {p:Int} (hp:privB p=true) (kind:Int):privB (effV l p kind)=true:=by
 unfold effV
 split
 ·have h0:okAt 0 (l.getD 0 0)=true:=by
   unfold csrsOk okRest at hok
   simp only [Bool.and_eq_true] at hok
   exact hok.2.1
  exact mpp_priv _ hU h0
 ·exact hp

theorem walkV_U (zs:List Int) (n:Nat) (l:List Int) (p va kind:Int) (h:U va):U (walkV zs n l p va kind).addr:=by
 unfold walkV
 split
 ·exact h
 ·split
  ·exact ⟨by show (0:Int)≤0;omega,by show (0:Int) < _;omega⟩
  ·rcases walkL_ends zs n l p va kind 2 (topT l) (by omega) with ⟨_,⟨e,k,_,h2⟩,_⟩ | ⟨_,h2,_⟩
   ·rw [h2];exact U_bits _ _ _
   ·rw [h2];exact ⟨by omega,by omega⟩

theorem last_small (x s:Int) (h1:1≤s) (h8:s≤8):lastOf x s=IntKind.u64.wrap (IntKind.u64.wrap (x+s) - 1):=by
 unfold lastOf
 rw [show IntKind.u64.wrap s=s by rw [IntKind.wrap_u64];omega]

theorem or_parts (x m:Int) (h:U x):bits .or .u64 (bits .andNot .u64 x m) (bits .and .u64 x m)=x:=by
 refine bt_ext _ _ (U_bits _ _ _) h fun i hi=>?_
 rw [bt_or,bt_andNot _ _ _ hi,bt_and]
 cases bt x i<;>cases bt m i<;>rfl

theorem set_self (l:List Int) (k:Nat) (x:Int) (hk:k < l.length) (hx:l.getD k 0=x):l.set k x=l:=by
 have:l[k]=x:=by rw [← hx];simp [List.getD,List.getElem?_eq_getElem hk]
 rw [← this]
 exact List.set_getElem_self hk

theorem line_same {M:MV} (h22:M.cs.length=22) (hU:U (M.cs.getD 9 0)) (hb:bellsB M=true):lineM M=M:=by
 have e:bits .and .u64 (M.cs.getD 9 0) 2184=linesV M.d:=by unfold bellsB at hb;simpa using hb
 have s:M.cs.set 9 (bits .or .u64 (bits .andNot .u64 (M.cs.getD 9 0) 2184) (linesV M.d))=M.cs:=by
  rw [← e]
  exact set_self _ 9 _ (by omega) (or_parts _ _ hU).symm
 unfold lineM
 rw [s]

theorem andNot7 (x:Int) (h:U x):bits .andNot .u64 x 7=x / 8*8:=by
 refine bt_ext _ _ (U_bits _ _ _) ⟨by have:=h.1;omega,by have:=h.2;omega⟩ fun i hi=>?_
 have hd:=bt_shl (x / 8) ⟨by have:=h.1;omega,by have:=h.2;omega⟩ 3 i
 have e8:IntKind.u64.wrap (x / 8*2 ^ 3)=x / 8*8:=by
  have h1:=h.1
  have h2:=h.2
  rw [IntKind.wrap_u64]
  omega
 rw [e8] at hd
 rw [hd,bt_andNot _ _ _ hi]
 have l7:∀ i,i < 64→bt 7 i=decide (i < 3):=by decide +kernel
 rw [l7 i hi]
 by_cases hi3:i < 3
 ·have:¬ 3≤i:=by omega
  simp [hi3,this]
 ·have h3:3≤i:=by omega
  have hq:bt (x / 8) (i - 3)=bt x i:=by
   have h9:=bt_div x h 3 (i - 3)
   rw [show i - 3+3=i by omega] at h9
   have e:(2:Int) ^ 3=8:=by decide
   rw [e] at h9
   exact h9
  simp [hi3,h3,hq,hi]

theorem held_eq (M:MV) (pa:Int) (hp:U pa) (hd:U M.hd):(M.hl&&(IntKind.u64.wrap (pa.tdiv 8)==IntKind.u64.wrap (M.hd.tdiv 8)))=heldB9 M pa:=by
 have e:∀ x:Int,U x→IntKind.u64.wrap (x.tdiv 8)=x / 8:=fun x h=>by
  have h1:=h.1
  have h2:=h.2
  rw [Int.tdiv_eq_ediv_of_nonneg h1,IntKind.wrap_u64]
  omega
 unfold heldB9
 rw [e pa hp,e M.hd hd,andNot7 pa hp,andNot7 M.hd hd]
 congr 1
 by_cases h:pa / 8=M.hd / 8
 ·rw [h];simp
 ·rw [beq_eq_false_iff_ne.2 h,beq_eq_false_iff_ne.2 (by omega)]

theorem ldV_okD (D:DV) (k:Nat) (h:okD D.xs.length D.ys.length D.ir=true) (hk:(ldV D k).2.2=true):okD (ldV D k).2.1.xs.length (ldV D k).2.1.ys.length (ldV D k).2.1.ir=true:=by
 have hb:=okD_bd h
 match k,hk with
 | 0,_=>exact h
 | 1,_=>exact h
 | 2,_=>exact h
 | 3,_ =>
  show okD (D.xs.drop 1).length D.ys.length D.ir=true
  unfold okD at h ⊢
  simp only [Bool.and_eq_true,decide_eq_true_eq,List.length_drop] at h ⊢
  omega
 | 4,_=>exact h
 | 5,_=>exact h

theorem bits_one (x:Int):0≤wrap64 (bits .and .u64 x 1)∧wrap64 (bits .and .u64 x 1)≤1:=by
 have l1:∀ i,i < 64→bt 1 i=decide (i=0):=by decide +kernel
 have l0:∀ i,i < 64→bt 0 i=false:=by decide +kernel
 have h:bits .and .u64 x 1=if bt x 0=true then 1 else 0:=by
  refine bt_ext _ _ (U_bits _ _ _) (by split<;>exact ⟨by omega,by omega⟩) fun i hi=>?_
  rw [bt_and,l1 i hi]
  by_cases h0:i=0
  ·subst h0
   cases bt x 0
   ·rw [if_neg (by decide),l0 0 (by omega)];rfl
   ·rw [if_pos rfl,l1 0 (by omega)];rfl
  ·rw [decide_eq_false h0,Bool.and_false]
   split
   ·rw [l1 i hi,decide_eq_false h0]
   ·rw [l0 i hi]
 rw [h]
 split<;>decide +kernel

theorem stV_okS (D:DV) (x addr size:Int) (h:okD D.xs.length D.ys.length D.ir=true):(stV D x (sel addr size)).2=true→okD (stV D x (sel addr size)).1.xs.length (stV D x (sel addr size)).1.ys.length (stV D x (sel addr size)).1.ir=true:=by
 have hm:=bits_one x
 have e4:=stV_4 D x
 obtain ⟨q,hq⟩:∃ q,q=wrap64 (bits .and .u64 x 1):=⟨_,rfl⟩
 rw [← hq] at e4 hm
 clear hq
 refine sel_cases addr size (fun k=>(stV D x k).2=true→okD (stV D x k).1.xs.length (stV D x k).1.ys.length (stV D x k).1.ir=true) ?_ ?_ ?_ ?_ ?_ ?_ ?_
 ·intro _ _;rw [stV_0];exact fun _=>h
 ·intro _ _;rw [stV_1];exact fun _=>h
 ·intro _ _;rw [stV_2];exact fun _=>h
 ·intro _ _
  by_cases hl:D.ys.length < 4096
  ·rw [stV_3r D x hl]
   intro _
   unfold okD at h ⊢
   simp only [Bool.and_eq_true,decide_eq_true_eq,List.length_append,List.length_singleton] at h ⊢
   omega
  ·rw [stV_3f D x hl];exact fun _=>h
 ·intro _ _
  rw [e4]
  intro _
  unfold okD at h ⊢
  simp only [Bool.and_eq_true,decide_eq_true_eq] at h ⊢
  exact ⟨h.1,hm⟩
 ·intro _ _;rw [stV_5];exact fun _=>h
 ·intro _ _ _ _ _ _;rw [stV_6];intro hk;cases hk

theorem ldV_no (D:DV) (k:Nat) (h:(ldV D k).2.2=false):(ldV D k).1=0:=by
 match k,h with
 | 0,h=>cases h
 | 1,h=>cases h
 | 2,h=>cases h
 | 3,h=>cases h
 | 4,h=>cases h
 | 5,h=>cases h
 | k+6,_=>rfl

theorem ramOk_pos9 {n:Nat} (h:ramOkB n=true):0 < n:=by
 rcases Nat.eq_zero_or_pos n with h0 | h0
 ·subst h0;revert h;decide
 ·exact h0

def rch (M:MV) (pa size kind x:Int):Int × Bool × MV :=
 if okB M.ram.length pa size=true then
  (if (kind==3)=true then (0,true,letM (memM M (put M.ram (pa - 2147483648).toNat x size.toNat)) pa) else (le M.ram (pa - 2147483648).toNat size.toNat,true,M))
 else if (kind==2)=true then
  (if (ldV M.d (sel pa size)).2.2=true then ((ldV M.d (sel pa size)).1,true,lineM (devM M (ldV M.d (sel pa size)).2.1)) else (0,false,M))
 else if (kind==3)=true then
  (if (stV M.d x (sel pa size)).2=true then (0,true,letM (lineM (devM M (stV M.d x (sel pa size)).1)) pa) else (0,false,M))
 else (0,false,M)

theorem at_rch (M:MV) (pa size kind x:Int):atM M pa size kind x=if (rch M pa size kind x).2.1=true then ((rch M pa size kind x).1,(rch M pa size kind x).2.2,0) else (0,(rch M pa size kind x).2.2,faultK kind):=by
 unfold atM rch
 split
 ·split<;>rfl
 ·split
  ·split<;>rfl
  ·split
   ·split<;>rfl
   ·rfl

theorem perm_bar (l:List Int) (p x s k:Int) (h1:legalB 22 l p=true) (h2:sizeB s=true) (h3:decide (1≤k∧k≤3)=true):permV 22 l p x s k=!barB l p x s k:=by
 unfold permV barB
 rw [h1,h2,h3,Bool.not_or,Bool.not_not]
 rfl

end Go.Proofs.YtkhofppmeoooaaaGreatDoor
