/- Own lemmas. -/
import Derived.Test.YtbajeckeeekhnaaGreatHandT
import Derived.Test.YtbajeckeeekhnaaGreatK14
import Derived.Deep.RegionHeld3
import Derived.Deep.Cut
namespace Go.Proofs.YtbajeckeeekhnaaGreat
open Go.RowKit
set_option linter.unusedVariables false

theorem cells5m {W:World} {g:Nat} {a b c d e:Value} {t:TypeId} (h:W.heap[g]?=some (.cells #[a,b,c,d,e] t (0,0))):W.cell? ⟨g,0,none⟩=some a∧W.cell? ⟨g,1,none⟩=some b∧W.cell? ⟨g,2,none⟩=some c∧W.cell? ⟨g,3,none⟩=some d∧W.cell? ⟨g,4,none⟩=some e:=by
 simp [World.cell?,h]

theorem found_size9:(Tryz.prog.info? 143).map (·.size)=some 5:=by kernel_rfl

theorem five_one (a b c d e:Value) (h:(a.oneCell'&&b.oneCell'&&c.oneCell'&&d.oneCell'&&e.oneCell')=true):(#[a,b,c,d,e]:Array Value).all (·.oneCell')=true:=by
 simp only [Bool.and_eq_true] at h
 simp [h.1.1.1.1,h.1.1.1.2,h.1.1.2,h.1.2,h.2]

set_option maxRecDepth 100000 in
set_option maxHeartbeats 6400000 in
theorem l9Lead_f (M:MV) (A:MA) (B r:Nat) (va kind p fa fc ft fe:Int) (w:World) (hm:Mp B r M A w)
 (hE:∀ w',Mp B r M A w'→Calls Tryz.prog 78 #[.slice A.ac M.cs.length A.cc,.int .i64 M.pr,.int .i64 kind] w' fun e w''=>e=.returned (.int .i64 p)∧w''=w')
 (hW:∀ w',Mp B r M A w'→Calls Tryz.prog 94 #[.slice A.ar M.ram.length A.cr,.slice A.ac M.cs.length A.cc,.int .i64 p,.int .u64 va,.int .i64 kind] w' fun e w''=>e=.returned (.agg #[.int .u64 fa,.int .i64 fc,.bool false,.int .u64 ft,.int .u64 fe])∧Below w'.heap.size w' w'') :
 Calls Tryz.prog 76 #[.pointer (some ⟨r,0,none⟩),.slice none 0 0,.int .u64 va,.int .i64 kind] w fun e w'=>e=.returned (.tuple #[.int .u64 fa,.int .i64 fc])∧Mp B r M A w'∧Kx r (mvF M A) (mvF M A) w w':=by
 obtain ⟨Q,hQ⟩:∃ Q:World→Prop,Q=fun W=>Mp B r M A W∧Kx r (mvF M A) (mvF M A) w W:=⟨_,rfl⟩
 have PB:Hid (∀ W W',Q W→Below W.heap.size W W'→Q W'):=by rw [hQ];exact fun W W' h hb=>⟨h.1.below hb,h.2.trans (Kx.of_below hb)⟩
 have PM:Hid (∀ W,Q W→Mp B r M A W):=by rw [hQ];exact fun W h=>h.1
 have PK:Hid (∀ W,Q W→Kx r (mvF M A) (mvF M A) w W):=by rw [hQ];exact fun W h=>h.2
 have PU:Hid (∀ W g,Q W→g≠r→(∀ q ∈ mvF M A,q.v.ownBlock≠some g)→w.heap.size≤g→∀ cs,Q (W.setRow g cs)):=by
  rw [hQ]
  intro W g h hg hq hw cs
  refine ⟨⟨(setRow_other W g r cs (fun e=>hg e.symm)).trans h.1.row,⟨fun q hm=>fown_of (h.1.fam.own q hm) (fun k e=>setRow_other W g k cs (fun e2=>hq q hm (by rw [← e2];exact e))),fun q hm k e=>by rw [setRow_size];exact h.1.fam.hi q hm k e,h.1.fam.ne⟩,h.1.ne,h.1.lo⟩,⟨h.2.os,h.2.tape,h.2.output,by rw [setRow_size];exact h.2.size,fun k hk hr ho=>(setRow_other W g k cs (by omega)).trans (h.2.block k hk hr ho),h.2.own⟩⟩
 have q0:Q w:=by rw [hQ];exact ⟨hm,Kx.refl _ _ _⟩
 have KS:Hid (∀ w',Q w'→(w'.cell? ⟨r,0,none⟩=some (.int .u64 M.pc)∧w'.cell? ⟨r,1,none⟩=some (.slice A.ax M.x.length A.cx)∧w'.cell? ⟨r,2,none⟩=some (.int .i64 M.pr)∧w'.cell? ⟨r,3,none⟩=some (.slice A.ac M.cs.length A.cc)∧w'.cell? ⟨r,4,none⟩=some (.slice A.ar M.ram.length A.cr)∧w'.cell? ⟨r,5,none⟩=some (.int .u64 M.d.t)∧w'.cell? ⟨r,6,none⟩=some (.int .u64 M.d.cm)∧w'.cell? ⟨r,7,none⟩=some (.bool M.d.so)∧w'.cell? ⟨r,8,none⟩=some (.slice A.ai M.d.xs.length A.ci)∧w'.cell? ⟨r,9,none⟩=some (.slice A.ao M.d.ys.length A.co)∧w'.cell? ⟨r,10,none⟩=some (.int .i64 M.d.ir)∧w'.cell? ⟨r,11,none⟩=some (.int .u64 M.hd)∧w'.cell? ⟨r,12,none⟩=some (.bool M.hl)∧w'.cell? ⟨r,13,none⟩=some (.bool M.wt))∧Q w'):=fun w' h=>⟨cells14 (PM.out w' h).row,h⟩
 have HE:Hid (∀ w',Q w'→Calls Tryz.prog 78 #[.slice A.ac M.cs.length A.cc,.int .i64 M.pr,.int .i64 kind] w' fun e w''=>e=.returned (.int .i64 p)∧w''=w'):=fun w' h=>hE w' (PM.out w' h)
 have HW:Hid (∀ w',Q w'→Calls Tryz.prog 94 #[.slice A.ar M.ram.length A.cr,.slice A.ac M.cs.length A.cc,.int .i64 p,.int .u64 va,.int .i64 kind] w' fun e w''=>e=.returned (.agg #[.int .u64 fa,.int .i64 fc,.bool false,.int .u64 ft,.int .u64 fe])∧Below w'.heap.size w' w''):=fun w' h=>hW w' (PM.out w' h)
 have PZ:Hid (∀ W,Q W→r < W.heap.size∧w.heap.size≤W.heap.size):=fun W h=>⟨(PM.out W h).lt,(PK.out W h).size⟩
 have PN:Hid (∀ W,Q W→∀ q ∈ mvF M A,∀ k,q.v.ownBlock=some k→k < w.heap.size):=fun W h q hq k e=>hm.fam.hi q hq k e
 clear hE hW hm hQ
 go_enter Tryz.func76,Tryz.ntmps76
 go_wp2_with fail
 have p0:=PB.out _ _ q0 (Below.refl _ _).drew
 refine wp_region_held_drew (S:=(fun w'=>(w'.cell? ⟨r,0,none⟩=some (.int .u64 M.pc)∧w'.cell? ⟨r,1,none⟩=some (.slice A.ax M.x.length A.cx)∧w'.cell? ⟨r,2,none⟩=some (.int .i64 M.pr)∧w'.cell? ⟨r,3,none⟩=some (.slice A.ac M.cs.length A.cc)∧w'.cell? ⟨r,4,none⟩=some (.slice A.ar M.ram.length A.cr)∧w'.cell? ⟨r,5,none⟩=some (.int .u64 M.d.t)∧w'.cell? ⟨r,6,none⟩=some (.int .u64 M.d.cm)∧w'.cell? ⟨r,7,none⟩=some (.bool M.d.so)∧w'.cell? ⟨r,8,none⟩=some (.slice A.ai M.d.xs.length A.ci)∧w'.cell? ⟨r,9,none⟩=some (.slice A.ao M.d.ys.length A.co)∧w'.cell? ⟨r,10,none⟩=some (.int .i64 M.d.ir)∧w'.cell? ⟨r,11,none⟩=some (.int .u64 M.hd)∧w'.cell? ⟨r,12,none⟩=some (.bool M.hl)∧w'.cell? ⟨r,13,none⟩=some (.bool M.wt))∧Q w')) (by kernel_rfl) (KS.out _ p0) (fun hHeld=>?_)
 refine tkL 0 14 (.pointer (some ⟨r,0,none⟩)) ?_
 refine tkL 1 15 (.pointer (some ⟨r,0,none⟩)) ?_
 refine tkL 2 16 (.pointer (some ⟨r,3,none⟩)) ?_
 refine tkL 3 17 (.slice A.ac M.cs.length A.cc) ?_
 refine tkL 4 18 (.pointer (some ⟨r,0,none⟩)) ?_
 refine tkL 5 19 (.pointer (some ⟨r,0,none⟩)) ?_
 refine tkL 6 20 (.pointer (some ⟨r,2,none⟩)) ?_
 refine tkL 7 21 (.int .i64 M.pr) ?_
 refine tkL 8 22 (.int .i64 kind) ?_
 refine rdy 9 23 (fun K hK=>?_)
 go_simp
 refine (HE.out _ p0).mono ?_
 rintro e w1 ⟨rfl,hw1⟩
 subst hw1
 refine hK.out _ _ (KS.out _ p0) (fun hHeld=>?_)
 clear hK
 refine tkL 10 10 (.int .i64 p) ?_
 refine wpAnyH_done (by kernel_rfl) ?_ _
 clear hHeld
 obtain ⟨w1,hw1⟩:∃ W,W=w.drew:=⟨_,rfl⟩
 rw [← hw1] at p0 ⊢
 clear hw1
 go_wp2_with fail
 go_cut [13] from 14 (fun y wc=>∃ fb:Nat,y=.pointer (some ⟨fb,0,none⟩)∧Hid (wc.heap[fb]?=some (.cells #[.int .u64 fa,.int .i64 fc,.bool false,.int .u64 ft,.int .u64 fe] 143 (0,0)))∧Hid (fb≠r∧(∀ q ∈ mvF M A,q.v.ownBlock≠some fb)∧w.heap.size≤fb)∧Hid (Q wc))
 case first =>
  have p1:=PB.out _ _ p0 (Below.refl _ _).drew
  obtain ⟨w1d,hw1d⟩:∃ W,W=w1.drew:=⟨_,rfl⟩
  refine wp_region_held_drew (S:=(fun w'=>(w'.cell? ⟨r,0,none⟩=some (.int .u64 M.pc)∧w'.cell? ⟨r,1,none⟩=some (.slice A.ax M.x.length A.cx)∧w'.cell? ⟨r,2,none⟩=some (.int .i64 M.pr)∧w'.cell? ⟨r,3,none⟩=some (.slice A.ac M.cs.length A.cc)∧w'.cell? ⟨r,4,none⟩=some (.slice A.ar M.ram.length A.cr)∧w'.cell? ⟨r,5,none⟩=some (.int .u64 M.d.t)∧w'.cell? ⟨r,6,none⟩=some (.int .u64 M.d.cm)∧w'.cell? ⟨r,7,none⟩=some (.bool M.d.so)∧w'.cell? ⟨r,8,none⟩=some (.slice A.ai M.d.xs.length A.ci)∧w'.cell? ⟨r,9,none⟩=some (.slice A.ao M.d.ys.length A.co)∧w'.cell? ⟨r,10,none⟩=some (.int .i64 M.d.ir)∧w'.cell? ⟨r,11,none⟩=some (.int .u64 M.hd)∧w'.cell? ⟨r,12,none⟩=some (.bool M.hl)∧w'.cell? ⟨r,13,none⟩=some (.bool M.wt))∧Q w')) (by kernel_rfl) (KS.out _ p1) (fun hHeld=>?_)
  rw [← hw1d] at p1 hHeld ⊢
  clear hw1d
  refine tkL 0 76 (.pointer (some ⟨r,0,none⟩)) ?_
  refine tkL 1 77 (.pointer (some ⟨r,0,none⟩)) ?_
  refine tkL 2 78 (.pointer (some ⟨r,4,none⟩)) ?_
  refine tkL 3 79 (.slice A.ar M.ram.length A.cr) ?_
  refine tkL 4 80 (.pointer (some ⟨r,0,none⟩)) ?_
  refine tkL 5 81 (.pointer (some ⟨r,0,none⟩)) ?_
  refine tkL 6 82 (.pointer (some ⟨r,3,none⟩)) ?_
  refine tkL 7 83 (.slice A.ac M.cs.length A.cc) ?_
  refine tkL 8 84 (.int .i64 p) ?_
  refine tkL 9 85 (.int .u64 va) ?_
  refine tkL 10 86 (.int .i64 kind) ?_
  refine wpAnyH_ready (rs:=[11,12]) (by kernel_rfl) (by simp) ?_
  refine AllReadyH.cons (o:={ dst:=some 87,op:=_,type:=_,pos:=_,after:=_,guard:=_ }) rfl (fun K hK=>?_) (AllReadyH.cons (o:={ dst:=some 13,op:=_,type:=_,pos:=_,after:=_,guard:=_ }) rfl (fun K hK=>?_) AllReadyH.nil)
  ·go_simp
   refine (HW.out _ p1).mono ?_
   rintro e w2 ⟨rfl,hbw⟩
   have qw:=PB.out _ _ p1 hbw
   refine hK.out _ _ (KS.out _ qw) (fun hHeld=>?_)
   clear hK
   refine rdy 12 13 (fun K hK=>?_)
   go_simp
   obtain ⟨w3,hk⟩:∃ W,W=w2.alloc (.cells #[.int .u64 0,.int .i64 0,.bool false,.int .u64 0,.int .u64 0] 143):=⟨_,rfl⟩
   rw [← hk]
   have hba:Below w2.heap.size w2 w3:=by rw [hk];exact (Below.refl _ _).alloc (Nat.le_refl _) _
   have hra:w3.heap[w2.heap.size]?=some (.cells #[.int .u64 0,.int .i64 0,.bool false,.int .u64 0,.int .u64 0] 143):=by rw [hk];exact heap_alloc_new _ _
   clear hk
   have qa:=PB.out _ _ qw hba
   refine hK.out _ _ (KS.out _ qa) (fun hHeld=>?_)
   clear hK
   have hzz:=PZ.out _ qw
   have hnr:w2.heap.size≠r:=by omega
   have hnq:∀ q ∈ mvF M A,q.v.ownBlock≠some w2.heap.size:=fun q hq e=>by have:=PN.out _ qw q hq _ e;omega
   have hlw:w.heap.size≤w2.heap.size:=by omega
   have hqe:=PU.out _ w2.heap.size qa hnr hnq hlw #[.int .u64 fa,.int .i64 fc,.bool false,.int .u64 ft,.int .u64 fe]
   have hrr:=hra
   refine wpAnyH_ready (rs:=[13]) (by kernel_rfl) (by simp) ?_
   refine AllReadyH.cons (o:={ dst:=none,op:=_,type:=_,pos:=_,after:=_,guard:=_ }) rfl (fun K hK=>?_) AllReadyH.nil
   refine wpH_row9 (by rfl) 143 (.tmp 13) (.tmp 87) rfl w2.heap.size rfl #[.int .u64 0,.int .i64 0,.bool false,.int .u64 0,.int .u64 0] #[.int .u64 fa,.int .i64 fc,.bool false,.int .u64 ft,.int .u64 fe] rfl 143 hrr found_size9 rfl (five_one _ _ _ _ _ rfl) ?_
   simp only [Act.put]
   refine hK.out _ _ (KS.out _ hqe) (fun hHeld=>?_)
   clear hK
   refine wpAnyH_done (by kernel_rfl) ?_ _
   go_wp2_with fail
   go_meet
   exact ⟨w2.heap.size,rfl,setRow_heap _ _ _ _ _ _ hrr,⟨hnr,hnq,hlw⟩,hqe⟩
  ·go_simp
   obtain ⟨w2,hk⟩:∃ W,W=w1d.alloc (.cells #[.int .u64 0,.int .i64 0,.bool false,.int .u64 0,.int .u64 0] 143):=⟨_,rfl⟩
   rw [← hk]
   have hba:Below w1d.heap.size w1d w2:=by rw [hk];exact (Below.refl _ _).alloc (Nat.le_refl _) _
   have hra:w2.heap[w1d.heap.size]?=some (.cells #[.int .u64 0,.int .i64 0,.bool false,.int .u64 0,.int .u64 0] 143):=by rw [hk];exact heap_alloc_new _ _
   clear hk
   have qa:=PB.out _ _ p1 hba
   refine hK.out _ _ (KS.out _ qa) (fun hHeld=>?_)
   clear hK
   refine rdy 11 87 (fun K hK=>?_)
   go_simp
   refine (HW.out _ qa).mono ?_
   rintro e w3 ⟨rfl,hbw⟩
   have qw:=PB.out _ _ qa hbw
   refine hK.out _ _ (KS.out _ qw) (fun hHeld=>?_)
   clear hK
   have hzz:=PZ.out _ p1
   have hnr:w1d.heap.size≠r:=by omega
   have hnq:∀ q ∈ mvF M A,q.v.ownBlock≠some w1d.heap.size:=fun q hq e=>by have:=PN.out _ p1 q hq _ e;omega
   have hlw:w.heap.size≤w1d.heap.size:=by omega
   have hqe:=PU.out _ w1d.heap.size qw hnr hnq hlw #[.int .u64 fa,.int .i64 fc,.bool false,.int .u64 ft,.int .u64 fe]
   have hrr:=dstays hbw hra
   refine wpAnyH_ready (rs:=[13]) (by kernel_rfl) (by simp) ?_
   refine AllReadyH.cons (o:={ dst:=none,op:=_,type:=_,pos:=_,after:=_,guard:=_ }) rfl (fun K hK=>?_) AllReadyH.nil
   refine wpH_row9 (by rfl) 143 (.tmp 13) (.tmp 87) rfl w1d.heap.size rfl #[.int .u64 0,.int .i64 0,.bool false,.int .u64 0,.int .u64 0] #[.int .u64 fa,.int .i64 fc,.bool false,.int .u64 ft,.int .u64 fe] rfl 143 hrr found_size9 rfl (five_one _ _ _ _ _ rfl) ?_
   simp only [Act.put]
   refine hK.out _ _ (KS.out _ hqe) (fun hHeld=>?_)
   clear hK
   refine wpAnyH_done (by kernel_rfl) ?_ _
   go_wp2_with fail
   go_meet
   exact ⟨w1d.heap.size,rfl,setRow_heap _ _ _ _ _ _ hrr,⟨hnr,hnq,hlw⟩,hqe⟩
 case rest =>
  obtain ⟨fb,rfl,RF,NF,qc⟩:=hcut
  clear p0
  have pc:=qc.out
  obtain ⟨f0,f1,f2,f3,f4⟩:=cells5m RF.out
  go_wp2_with fail
  go_region
  all_goals go_wp2_with fail
  all_goals refine bodyPost_ret (results_tmp2 rfl _ _ _) rfl ?_
  all_goals exact ⟨rfl,(PM.out _ pc).below (Below.refl _ _).drew,(PK.out _ pc).trans (Kx.of_below (Below.refl _ _).drew)⟩

set_option maxRecDepth 100000 in
set_option maxHeartbeats 6400000 in
theorem l9Lead_t (M:MV) (A:MA) (B r:Nat) (va kind p fa fc ft fe:Int) (w:World) (hm:Mp B r M A w)
 (hE:∀ w',Mp B r M A w'→Calls Tryz.prog 78 #[.slice A.ac M.cs.length A.cc,.int .i64 M.pr,.int .i64 kind] w' fun e w''=>e=.returned (.int .i64 p)∧w''=w')
 (hW:∀ w',Mp B r M A w'→Calls Tryz.prog 94 #[.slice A.ar M.ram.length A.cr,.slice A.ac M.cs.length A.cc,.int .i64 p,.int .u64 va,.int .i64 kind] w' fun e w''=>e=.returned (.agg #[.int .u64 fa,.int .i64 fc,.bool true,.int .u64 ft,.int .u64 fe])∧Below w'.heap.size w' w'') (M2:MV) (hP:∀ w',Mp B r M A w'→Calls Tryz.prog 36 #[.slice A.ar M.ram.length A.cr,.int .u64 ft,.int .i64 8,.int .u64 fe] w' fun e w''=>e=.returned (.tuple #[])∧Mp B r M2 A w''∧Kx r (mvF M A) (mvF M2 A) w' w'') (hm2:mvc M2 A=mvc M A) :
 Calls Tryz.prog 76 #[.pointer (some ⟨r,0,none⟩),.slice none 0 0,.int .u64 va,.int .i64 kind] w fun e w'=>e=.returned (.tuple #[.int .u64 fa,.int .i64 fc])∧Mp B r M2 A w'∧Kx r (mvF M A) (mvF M2 A) w w':=by
 obtain ⟨Q,hQ⟩:∃ Q:World→Prop,Q=fun W=>Mp B r M A W∧Kx r (mvF M A) (mvF M A) w W:=⟨_,rfl⟩
 have PB:Hid (∀ W W',Q W→Below W.heap.size W W'→Q W'):=by rw [hQ];exact fun W W' h hb=>⟨h.1.below hb,h.2.trans (Kx.of_below hb)⟩
 have PM:Hid (∀ W,Q W→Mp B r M A W):=by rw [hQ];exact fun W h=>h.1
 have PK:Hid (∀ W,Q W→Kx r (mvF M A) (mvF M A) w W):=by rw [hQ];exact fun W h=>h.2
 have PU:Hid (∀ W g,Q W→g≠r→(∀ q ∈ mvF M A,q.v.ownBlock≠some g)→w.heap.size≤g→∀ cs,Q (W.setRow g cs)):=by
  rw [hQ]
  intro W g h hg hq hw cs
  refine ⟨⟨(setRow_other W g r cs (fun e=>hg e.symm)).trans h.1.row,⟨fun q hm=>fown_of (h.1.fam.own q hm) (fun k e=>setRow_other W g k cs (fun e2=>hq q hm (by rw [← e2];exact e))),fun q hm k e=>by rw [setRow_size];exact h.1.fam.hi q hm k e,h.1.fam.ne⟩,h.1.ne,h.1.lo⟩,⟨h.2.os,h.2.tape,h.2.output,by rw [setRow_size];exact h.2.size,fun k hk hr ho=>(setRow_other W g k cs (by omega)).trans (h.2.block k hk hr ho),h.2.own⟩⟩
 have q0:Q w:=by rw [hQ];exact ⟨hm,Kx.refl _ _ _⟩
 have KS:Hid (∀ w',Q w'→(w'.cell? ⟨r,0,none⟩=some (.int .u64 M.pc)∧w'.cell? ⟨r,1,none⟩=some (.slice A.ax M.x.length A.cx)∧w'.cell? ⟨r,2,none⟩=some (.int .i64 M.pr)∧w'.cell? ⟨r,3,none⟩=some (.slice A.ac M.cs.length A.cc)∧w'.cell? ⟨r,4,none⟩=some (.slice A.ar M.ram.length A.cr)∧w'.cell? ⟨r,5,none⟩=some (.int .u64 M.d.t)∧w'.cell? ⟨r,6,none⟩=some (.int .u64 M.d.cm)∧w'.cell? ⟨r,7,none⟩=some (.bool M.d.so)∧w'.cell? ⟨r,8,none⟩=some (.slice A.ai M.d.xs.length A.ci)∧w'.cell? ⟨r,9,none⟩=some (.slice A.ao M.d.ys.length A.co)∧w'.cell? ⟨r,10,none⟩=some (.int .i64 M.d.ir)∧w'.cell? ⟨r,11,none⟩=some (.int .u64 M.hd)∧w'.cell? ⟨r,12,none⟩=some (.bool M.hl)∧w'.cell? ⟨r,13,none⟩=some (.bool M.wt))∧Q w'):=fun w' h=>⟨cells14 (PM.out w' h).row,h⟩
 have HE:Hid (∀ w',Q w'→Calls Tryz.prog 78 #[.slice A.ac M.cs.length A.cc,.int .i64 M.pr,.int .i64 kind] w' fun e w''=>e=.returned (.int .i64 p)∧w''=w'):=fun w' h=>hE w' (PM.out w' h)
 have HW:Hid (∀ w',Q w'→Calls Tryz.prog 94 #[.slice A.ar M.ram.length A.cr,.slice A.ac M.cs.length A.cc,.int .i64 p,.int .u64 va,.int .i64 kind] w' fun e w''=>e=.returned (.agg #[.int .u64 fa,.int .i64 fc,.bool true,.int .u64 ft,.int .u64 fe])∧Below w'.heap.size w' w''):=fun w' h=>hW w' (PM.out w' h)
 have PZ:Hid (∀ W,Q W→r < W.heap.size∧w.heap.size≤W.heap.size):=fun W h=>⟨(PM.out W h).lt,(PK.out W h).size⟩
 have PN:Hid (∀ W,Q W→∀ q ∈ mvF M A,∀ k,q.v.ownBlock=some k→k < w.heap.size):=fun W h q hq k e=>hm.fam.hi q hq k e
 have HP:Hid (∀ w',Q w'→Calls Tryz.prog 36 #[.slice A.ar M.ram.length A.cr,.int .u64 ft,.int .i64 8,.int .u64 fe] w' fun e w''=>e=.returned (.tuple #[])∧Mp B r M2 A w''∧Kx r (mvF M A) (mvF M2 A) w' w''):=fun w' h=>hP w' (PM.out w' h)
 have HM2:=dhid hm2
 clear hP hm2
 clear hE hW hm hQ
 go_enter Tryz.func76,Tryz.ntmps76
 go_wp2_with fail
 have p0:=PB.out _ _ q0 (Below.refl _ _).drew
 refine wp_region_held_drew (S:=(fun w'=>(w'.cell? ⟨r,0,none⟩=some (.int .u64 M.pc)∧w'.cell? ⟨r,1,none⟩=some (.slice A.ax M.x.length A.cx)∧w'.cell? ⟨r,2,none⟩=some (.int .i64 M.pr)∧w'.cell? ⟨r,3,none⟩=some (.slice A.ac M.cs.length A.cc)∧w'.cell? ⟨r,4,none⟩=some (.slice A.ar M.ram.length A.cr)∧w'.cell? ⟨r,5,none⟩=some (.int .u64 M.d.t)∧w'.cell? ⟨r,6,none⟩=some (.int .u64 M.d.cm)∧w'.cell? ⟨r,7,none⟩=some (.bool M.d.so)∧w'.cell? ⟨r,8,none⟩=some (.slice A.ai M.d.xs.length A.ci)∧w'.cell? ⟨r,9,none⟩=some (.slice A.ao M.d.ys.length A.co)∧w'.cell? ⟨r,10,none⟩=some (.int .i64 M.d.ir)∧w'.cell? ⟨r,11,none⟩=some (.int .u64 M.hd)∧w'.cell? ⟨r,12,none⟩=some (.bool M.hl)∧w'.cell? ⟨r,13,none⟩=some (.bool M.wt))∧Q w')) (by kernel_rfl) (KS.out _ p0) (fun hHeld=>?_)
 refine tkL 0 14 (.pointer (some ⟨r,0,none⟩)) ?_
 refine tkL 1 15 (.pointer (some ⟨r,0,none⟩)) ?_
 refine tkL 2 16 (.pointer (some ⟨r,3,none⟩)) ?_
 refine tkL 3 17 (.slice A.ac M.cs.length A.cc) ?_
 refine tkL 4 18 (.pointer (some ⟨r,0,none⟩)) ?_
 refine tkL 5 19 (.pointer (some ⟨r,0,none⟩)) ?_
 refine tkL 6 20 (.pointer (some ⟨r,2,none⟩)) ?_
 refine tkL 7 21 (.int .i64 M.pr) ?_
 refine tkL 8 22 (.int .i64 kind) ?_
 refine rdy 9 23 (fun K hK=>?_)
 go_simp
 refine (HE.out _ p0).mono ?_
 rintro e w1 ⟨rfl,hw1⟩
 subst hw1
 refine hK.out _ _ (KS.out _ p0) (fun hHeld=>?_)
 clear hK
 refine tkL 10 10 (.int .i64 p) ?_
 refine wpAnyH_done (by kernel_rfl) ?_ _
 clear hHeld
 obtain ⟨w1,hw1⟩:∃ W,W=w.drew:=⟨_,rfl⟩
 rw [← hw1] at p0 ⊢
 clear hw1
 go_wp2_with fail
 go_cut [13] from 14 (fun y wc=>∃ fb:Nat,y=.pointer (some ⟨fb,0,none⟩)∧Hid (wc.heap[fb]?=some (.cells #[.int .u64 fa,.int .i64 fc,.bool true,.int .u64 ft,.int .u64 fe] 143 (0,0)))∧Hid (fb≠r∧(∀ q ∈ mvF M A,q.v.ownBlock≠some fb)∧w.heap.size≤fb)∧Hid (Q wc))
 case first =>
  have p1:=PB.out _ _ p0 (Below.refl _ _).drew
  obtain ⟨w1d,hw1d⟩:∃ W,W=w1.drew:=⟨_,rfl⟩
  refine wp_region_held_drew (S:=(fun w'=>(w'.cell? ⟨r,0,none⟩=some (.int .u64 M.pc)∧w'.cell? ⟨r,1,none⟩=some (.slice A.ax M.x.length A.cx)∧w'.cell? ⟨r,2,none⟩=some (.int .i64 M.pr)∧w'.cell? ⟨r,3,none⟩=some (.slice A.ac M.cs.length A.cc)∧w'.cell? ⟨r,4,none⟩=some (.slice A.ar M.ram.length A.cr)∧w'.cell? ⟨r,5,none⟩=some (.int .u64 M.d.t)∧w'.cell? ⟨r,6,none⟩=some (.int .u64 M.d.cm)∧w'.cell? ⟨r,7,none⟩=some (.bool M.d.so)∧w'.cell? ⟨r,8,none⟩=some (.slice A.ai M.d.xs.length A.ci)∧w'.cell? ⟨r,9,none⟩=some (.slice A.ao M.d.ys.length A.co)∧w'.cell? ⟨r,10,none⟩=some (.int .i64 M.d.ir)∧w'.cell? ⟨r,11,none⟩=some (.int .u64 M.hd)∧w'.cell? ⟨r,12,none⟩=some (.bool M.hl)∧w'.cell? ⟨r,13,none⟩=some (.bool M.wt))∧Q w')) (by kernel_rfl) (KS.out _ p1) (fun hHeld=>?_)
  rw [← hw1d] at p1 hHeld ⊢
  clear hw1d
  refine tkL 0 76 (.pointer (some ⟨r,0,none⟩)) ?_
  refine tkL 1 77 (.pointer (some ⟨r,0,none⟩)) ?_
  refine tkL 2 78 (.pointer (some ⟨r,4,none⟩)) ?_
  refine tkL 3 79 (.slice A.ar M.ram.length A.cr) ?_
  refine tkL 4 80 (.pointer (some ⟨r,0,none⟩)) ?_
  refine tkL 5 81 (.pointer (some ⟨r,0,none⟩)) ?_
  refine tkL 6 82 (.pointer (some ⟨r,3,none⟩)) ?_
  refine tkL 7 83 (.slice A.ac M.cs.length A.cc) ?_
  refine tkL 8 84 (.int .i64 p) ?_
  refine tkL 9 85 (.int .u64 va) ?_
  refine tkL 10 86 (.int .i64 kind) ?_
  refine wpAnyH_ready (rs:=[11,12]) (by kernel_rfl) (by simp) ?_
  refine AllReadyH.cons (o:={ dst:=some 87,op:=_,type:=_,pos:=_,after:=_,guard:=_ }) rfl (fun K hK=>?_) (AllReadyH.cons (o:={ dst:=some 13,op:=_,type:=_,pos:=_,after:=_,guard:=_ }) rfl (fun K hK=>?_) AllReadyH.nil)
  ·go_simp
   refine (HW.out _ p1).mono ?_
   rintro e w2 ⟨rfl,hbw⟩
   have qw:=PB.out _ _ p1 hbw
   refine hK.out _ _ (KS.out _ qw) (fun hHeld=>?_)
   clear hK
   refine rdy 12 13 (fun K hK=>?_)
   go_simp
   obtain ⟨w3,hk⟩:∃ W,W=w2.alloc (.cells #[.int .u64 0,.int .i64 0,.bool false,.int .u64 0,.int .u64 0] 143):=⟨_,rfl⟩
   rw [← hk]
   have hba:Below w2.heap.size w2 w3:=by rw [hk];exact (Below.refl _ _).alloc (Nat.le_refl _) _
   have hra:w3.heap[w2.heap.size]?=some (.cells #[.int .u64 0,.int .i64 0,.bool false,.int .u64 0,.int .u64 0] 143):=by rw [hk];exact heap_alloc_new _ _
   clear hk
   have qa:=PB.out _ _ qw hba
   refine hK.out _ _ (KS.out _ qa) (fun hHeld=>?_)
   clear hK
   have hzz:=PZ.out _ qw
   have hnr:w2.heap.size≠r:=by omega
   have hnq:∀ q ∈ mvF M A,q.v.ownBlock≠some w2.heap.size:=fun q hq e=>by have:=PN.out _ qw q hq _ e;omega
   have hlw:w.heap.size≤w2.heap.size:=by omega
   have hqe:=PU.out _ w2.heap.size qa hnr hnq hlw #[.int .u64 fa,.int .i64 fc,.bool true,.int .u64 ft,.int .u64 fe]
   have hrr:=hra
   refine wpAnyH_ready (rs:=[13]) (by kernel_rfl) (by simp) ?_
   refine AllReadyH.cons (o:={ dst:=none,op:=_,type:=_,pos:=_,after:=_,guard:=_ }) rfl (fun K hK=>?_) AllReadyH.nil
   refine wpH_row9 (by rfl) 143 (.tmp 13) (.tmp 87) rfl w2.heap.size rfl #[.int .u64 0,.int .i64 0,.bool false,.int .u64 0,.int .u64 0] #[.int .u64 fa,.int .i64 fc,.bool true,.int .u64 ft,.int .u64 fe] rfl 143 hrr found_size9 rfl (five_one _ _ _ _ _ rfl) ?_
   simp only [Act.put]
   refine hK.out _ _ (KS.out _ hqe) (fun hHeld=>?_)
   clear hK
   refine wpAnyH_done (by kernel_rfl) ?_ _
   go_wp2_with fail
   go_meet
   exact ⟨w2.heap.size,rfl,setRow_heap _ _ _ _ _ _ hrr,⟨hnr,hnq,hlw⟩,hqe⟩
  ·go_simp
   obtain ⟨w2,hk⟩:∃ W,W=w1d.alloc (.cells #[.int .u64 0,.int .i64 0,.bool false,.int .u64 0,.int .u64 0] 143):=⟨_,rfl⟩
   rw [← hk]
   have hba:Below w1d.heap.size w1d w2:=by rw [hk];exact (Below.refl _ _).alloc (Nat.le_refl _) _
   have hra:w2.heap[w1d.heap.size]?=some (.cells #[.int .u64 0,.int .i64 0,.bool false,.int .u64 0,.int .u64 0] 143):=by rw [hk];exact heap_alloc_new _ _
   clear hk
   have qa:=PB.out _ _ p1 hba
   refine hK.out _ _ (KS.out _ qa) (fun hHeld=>?_)
   clear hK
   refine rdy 11 87 (fun K hK=>?_)
   go_simp
   refine (HW.out _ qa).mono ?_
   rintro e w3 ⟨rfl,hbw⟩
   have qw:=PB.out _ _ qa hbw
   refine hK.out _ _ (KS.out _ qw) (fun hHeld=>?_)
   clear hK
   have hzz:=PZ.out _ p1
   have hnr:w1d.heap.size≠r:=by omega
   have hnq:∀ q ∈ mvF M A,q.v.ownBlock≠some w1d.heap.size:=fun q hq e=>by have:=PN.out _ p1 q hq _ e;omega
   have hlw:w.heap.size≤w1d.heap.size:=by omega
   have hqe:=PU.out _ w1d.heap.size qw hnr hnq hlw #[.int .u64 fa,.int .i64 fc,.bool true,.int .u64 ft,.int .u64 fe]
   have hrr:=dstays hbw hra
   refine wpAnyH_ready (rs:=[13]) (by kernel_rfl) (by simp) ?_
   refine AllReadyH.cons (o:={ dst:=none,op:=_,type:=_,pos:=_,after:=_,guard:=_ }) rfl (fun K hK=>?_) AllReadyH.nil
   refine wpH_row9 (by rfl) 143 (.tmp 13) (.tmp 87) rfl w1d.heap.size rfl #[.int .u64 0,.int .i64 0,.bool false,.int .u64 0,.int .u64 0] #[.int .u64 fa,.int .i64 fc,.bool true,.int .u64 ft,.int .u64 fe] rfl 143 hrr found_size9 rfl (five_one _ _ _ _ _ rfl) ?_
   simp only [Act.put]
   refine hK.out _ _ (KS.out _ hqe) (fun hHeld=>?_)
   clear hK
   refine wpAnyH_done (by kernel_rfl) ?_ _
   go_wp2_with fail
   go_meet
   exact ⟨w1d.heap.size,rfl,setRow_heap _ _ _ _ _ _ hrr,⟨hnr,hnq,hlw⟩,hqe⟩
 case rest =>
  obtain ⟨fb,rfl,RF,NF,qc⟩:=hcut
  clear p0
  have pc:=qc.out
  obtain ⟨f0,f1,f2,f3,f4⟩:=cells5m RF.out
  go_wp2_with fail
  have pd:=PB.out _ _ pc (Below.refl _ _).drew
  obtain ⟨wd,hwd⟩:∃ W,W=wc.drew:=⟨_,rfl⟩
  obtain ⟨R,hR⟩:∃ R:World→Prop,R=fun W=>W.heap[r]?=some (.cells (mvc M A) 29 (0,0))∧W.heap[fb]?=some (.cells #[.int .u64 fa,.int .i64 fc,.bool true,.int .u64 ft,.int .u64 fe] 143 (0,0)):=⟨_,rfl⟩
  have KR:Hid (∀ w',R w'→((w'.cell? ⟨r,0,none⟩=some (.int .u64 M.pc)∧w'.cell? ⟨r,1,none⟩=some (.slice A.ax M.x.length A.cx)∧w'.cell? ⟨r,2,none⟩=some (.int .i64 M.pr)∧w'.cell? ⟨r,3,none⟩=some (.slice A.ac M.cs.length A.cc)∧w'.cell? ⟨r,4,none⟩=some (.slice A.ar M.ram.length A.cr)∧w'.cell? ⟨r,5,none⟩=some (.int .u64 M.d.t)∧w'.cell? ⟨r,6,none⟩=some (.int .u64 M.d.cm)∧w'.cell? ⟨r,7,none⟩=some (.bool M.d.so)∧w'.cell? ⟨r,8,none⟩=some (.slice A.ai M.d.xs.length A.ci)∧w'.cell? ⟨r,9,none⟩=some (.slice A.ao M.d.ys.length A.co)∧w'.cell? ⟨r,10,none⟩=some (.int .i64 M.d.ir)∧w'.cell? ⟨r,11,none⟩=some (.int .u64 M.hd)∧w'.cell? ⟨r,12,none⟩=some (.bool M.hl)∧w'.cell? ⟨r,13,none⟩=some (.bool M.wt))∧(w'.cell? ⟨fb,0,none⟩=some (.int .u64 fa)∧w'.cell? ⟨fb,1,none⟩=some (.int .i64 fc)∧w'.cell? ⟨fb,2,none⟩=some (.bool true)∧w'.cell? ⟨fb,3,none⟩=some (.int .u64 ft)∧w'.cell? ⟨fb,4,none⟩=some (.int .u64 fe)))∧R w'):=fun w' h=>⟨by rw [hR] at h;exact ⟨cells14 h.1,cells5m h.2⟩,h⟩
  have MR:Hid (∀ W,W.heap[r]?=some (.cells (mvc M A) 29 (0,0))→W.heap[fb]?=some (.cells #[.int .u64 fa,.int .i64 fc,.bool true,.int .u64 ft,.int .u64 fe] 143 (0,0))→R W):=by rw [hR];exact fun W h1 h2=>⟨h1,h2⟩
  have RO:Hid (∀ W,R W→W.heap[fb]?=some (.cells #[.int .u64 fa,.int .i64 fc,.bool true,.int .u64 ft,.int .u64 fe] 143 (0,0))):=by rw [hR];exact fun W h=>h.2
  have rd:R wc.drew:=MR.out _ (PM.out _ pd).row RF.out
  clear hR f0 f1 f2 f3 f4
  refine wp_region_held_drew (S:=(fun w'=>((w'.cell? ⟨r,0,none⟩=some (.int .u64 M.pc)∧w'.cell? ⟨r,1,none⟩=some (.slice A.ax M.x.length A.cx)∧w'.cell? ⟨r,2,none⟩=some (.int .i64 M.pr)∧w'.cell? ⟨r,3,none⟩=some (.slice A.ac M.cs.length A.cc)∧w'.cell? ⟨r,4,none⟩=some (.slice A.ar M.ram.length A.cr)∧w'.cell? ⟨r,5,none⟩=some (.int .u64 M.d.t)∧w'.cell? ⟨r,6,none⟩=some (.int .u64 M.d.cm)∧w'.cell? ⟨r,7,none⟩=some (.bool M.d.so)∧w'.cell? ⟨r,8,none⟩=some (.slice A.ai M.d.xs.length A.ci)∧w'.cell? ⟨r,9,none⟩=some (.slice A.ao M.d.ys.length A.co)∧w'.cell? ⟨r,10,none⟩=some (.int .i64 M.d.ir)∧w'.cell? ⟨r,11,none⟩=some (.int .u64 M.hd)∧w'.cell? ⟨r,12,none⟩=some (.bool M.hl)∧w'.cell? ⟨r,13,none⟩=some (.bool M.wt))∧(w'.cell? ⟨fb,0,none⟩=some (.int .u64 fa)∧w'.cell? ⟨fb,1,none⟩=some (.int .i64 fc)∧w'.cell? ⟨fb,2,none⟩=some (.bool true)∧w'.cell? ⟨fb,3,none⟩=some (.int .u64 ft)∧w'.cell? ⟨fb,4,none⟩=some (.int .u64 fe)))∧R w')) (by kernel_rfl) (KR.out _ rd) (fun hHeld=>?_)
  rw [← hwd] at pd rd hHeld ⊢
  clear hwd
  refine tkL 0 90 (.pointer (some ⟨r,0,none⟩)) ?_
  refine tkL 1 91 (.pointer (some ⟨r,0,none⟩)) ?_
  refine tkL 2 92 (.pointer (some ⟨r,4,none⟩)) ?_
  refine tkL 3 93 (.slice A.ar M.ram.length A.cr) ?_
  refine tkL 4 94 (.pointer (some ⟨fb,3,none⟩)) ?_
  refine tkL 5 95 (.int .u64 ft) ?_
  refine tkL 6 96 (.pointer (some ⟨fb,4,none⟩)) ?_
  refine tkL 7 97 (.int .u64 fe) ?_
  refine rdy 8 98 (fun K hK=>?_)
  go_simp
  refine (HP.out _ pd).mono ?_
  rintro e w3 ⟨rfl,mp3,kx3⟩
  have rf3:w3.heap[fb]?=some (.cells #[.int .u64 fa,.int .i64 fc,.bool true,.int .u64 ft,.int .u64 fe] 143 (0,0)):=(kx3.block fb (Array.getElem?_eq_some_iff.1 (RO.out _ rd)).1 NF.out.1 NF.out.2.1).trans (RO.out _ rd)
  have r3:R w3:=MR.out _ (by rw [← HM2.out];exact mp3.row) rf3
  refine hK.out _ _ (KR.out _ r3) (fun hHeld=>?_)
  clear hK
  refine wpAnyH_done (by kernel_rfl) ?_ _
  have MP3:=dhid mp3
  have KX3:=dhid ((PK.out _ pd).trans kx3)
  clear mp3 kx3 hHeld r3 rd pd
  obtain ⟨f0,f1,f2,f3,f4⟩:=cells5m rf3
  clear rf3
  go_wp2_with fail
  go_region
  all_goals go_wp2_with fail
  all_goals refine bodyPost_ret (results_tmp2 rfl _ _ _) rfl ?_
  all_goals exact ⟨rfl,MP3.out.below (Below.refl _ _).drew,KX3.out.trans (Kx.of_below (Below.refl _ _).drew)⟩

end Go.Proofs.YtbajeckeeekhnaaGreat
