/- Own lemmas. -/
import Derived.Test.YtjifdmoehfbihaaGreatDoorK42
set_option maxRecDepth 100000
set_option maxHeartbeats 6400000
namespace Go.Proofs.YtjifdmoehfbihaaGreatDoor.fnExactStep
open Go.RowKit Tryz
set_option linter.unusedVariables false
theorem fit_in {w:World} {M:MV} {A:MA} (h:Pj w M A):Pb M:=by
 have u:∀ {x:Int},(Lit.int .u64 x).wf=true→U x:=fun a=>by have h:=Bo a;exact ⟨h.1,by have:=h.2;omega⟩
 exact ⟨h.mw,fun j=>yW h.wx j,u h.pc,u h.hd,u h.t,u h.cm⟩
theorem stepA_len {M:MV} (h:Pb M):jF (kZ M).1:=by
 unfold kZ
 split
 ·exact (MT ⟨h.gd ‹_›,h.ud⟩ yJ).1.len
 ·exact ⟨by simp [bx],by simp [bx],by simp [bx],by simp [bx,zeroD],by simp [bx,zeroD]⟩
theorem walk (M:MV) (A:MA) (w:World) (L:Pj w M A) (hT:qb w) :
 CB 3 #[.agg #[.u M.pc,.slice A.ax M.x.length A.cx,.i M.pr,.slice A.ac M.cs.length A.cc,.slice A.ar M.ram.length A.cr,.u M.d.t,.u M.d.cm,.bool M.d.so,.slice A.ai M.d.xs.length A.ci,.slice A.ao M.d.ys.length A.co,.i M.d.ir,.u M.hd,.bool M.hl,.bool M.wt]] w (.bool true):=by
 have S:Pb M:=fit_in L
 have HSZ:Hid (∀ w,CB 8 #[.agg #[.u M.pc,.slice A.ax M.x.length A.cx,.i M.pr,.slice A.ac M.cs.length A.cc,.slice A.ar M.ram.length A.cr,.u M.d.t,.u M.d.cm,.bool M.d.so,.slice A.ai M.d.xs.length A.ci,.slice A.ao M.d.ys.length A.co,.i M.d.ir,.u M.hd,.bool M.hl,.bool M.wt],.i 1048576] w (.i (NT M.x.length M.cs.length M.ram.length M.d.xs.length M.d.ys.length 1048576))):=fun w=>uY _ _ _ _ _ _ _ _ _ _ _ _ _ _ _ _ _ _ _ _ _ _ _ _ 1048576 w (by omega) (by omega) L.lx L.lcs L.lram L.lxs L.lys
 by_cases hsm:M.x.length+M.cs.length+M.ram.length+M.d.xs.length+M.d.ys.length≤1048576
 ·have hl:jF M:=⟨by omega,by omega,by omega,by omega,by omega⟩
  have hsz:NT M.x.length M.cs.length M.ram.length M.d.xs.length M.d.ys.length 1048576=1048576 - M.x.length - M.cs.length - M.ram.length - M.d.xs.length - M.d.ys.length:=by unfold NT;rw [if_pos (by omega)]
  rw [hsz] at HSZ
  have d0:decide ((1048576:Int) - (M.x.length:Int) - (M.cs.length:Int) - (M.ram.length:Int) - (M.d.xs.length:Int) - (M.d.ys.length:Int) < 0)=false:=by simp;omega
  have HTD:Hid (∀ b,Bw w b→Calls prog 10 #[.agg #[.u M.pc,.slice A.ax M.x.length A.cx,.i M.pr,.slice A.ac M.cs.length A.cc,.slice A.ar M.ram.length A.cr,.u M.d.t,.u M.d.cm,.bool M.d.so,.slice A.ai M.d.xs.length A.ci,.slice A.ao M.d.ys.length A.co,.i M.d.ir,.u M.hd,.bool M.hl,.bool M.wt]] b fun e d=>∃ C:MA,e=.returned (.agg #[.u M.pc,.slice C.ax M.x.length C.cx,.i M.pr,.slice C.ac M.cs.length C.cc,.slice C.ar M.ram.length C.cr,.u M.d.t,.u M.d.cm,.bool M.d.so,.slice C.ai M.d.xs.length C.ci,.slice C.ao M.d.ys.length C.co,.i M.d.ir,.u M.hd,.bool M.hl,.bool M.wt])∧bp b.heap.size d.heap.size d (aH M C)∧Bw b d):=fun b hb=>(uX M A b hl (L.sl.below hb)).mono fun e d ⟨gx,gc,gr,gi,go,h1,h2,h3⟩=>⟨_,h1,h2,h3⟩
  have HS:Hid (∀ (C:MA) (b:World),Bw w b→uO b M C→Calls prog 9 #[.agg #[.u M.pc,.slice C.ax M.x.length C.cx,.i M.pr,.slice C.ac M.cs.length C.cc,.slice C.ar M.ram.length C.cr,.u M.d.t,.u M.d.cm,.bool M.d.so,.slice C.ai M.d.xs.length C.ci,.slice C.ao M.d.ys.length C.co,.i M.d.ir,.u M.hd,.bool M.hl,.bool M.wt]] b fun e d=>∃ K:MA,e=.returned (.tuple #[.agg (aO (kZ M).1 K),.i (kZ M).2])∧bp b.heap.size d.heap.size d (aH (kZ M).1 K)∧Bw b d):=fun C b hbw k=>yK M C b hl k S
  have HI:Hid (∀ (C:MA) (b:World),Bw w b→uO b M C→Calls prog 11 #[.agg #[.u M.pc,.slice C.ax M.x.length C.cx,.i M.pr,.slice C.ac M.cs.length C.cc,.slice C.ar M.ram.length C.cr,.u M.d.t,.u M.d.cm,.bool M.d.so,.slice C.ai M.d.xs.length C.ci,.slice C.ao M.d.ys.length C.co,.i M.d.ir,.u M.hd,.bool M.hl,.bool M.wt]] b fun e d=>∃ K:MA,e=.returned (.tuple #[.agg (aO (kZ M).1 K),.i (kZ M).2])∧bp b.heap.size d.heap.size d (aH (kZ M).1 K)∧Bw b d):=fun C b hbw k=>yL M C b hl k S (hT.below hbw)
  have hrl:jF (kZ M).1:=stepA_len S
  generalize kZ M=RR at *
  obtain ⟨R,rc⟩:=RR
  dsimp only at HS HI hrl
  dsimp only [aO] at HS HI
  have tc:(rc != rc)=false:=by simp
  clear L hsz hsm hT S
  go_enter func3,ntmps3
  go_wp2_with fail
  refine (HSZ.out _).mono ?_
  rintro e w0 ⟨rfl,hb0⟩
  have hx0:Bw w w0:=aa (bal _ _) hb0
  have B0:Bw w w0:=hx0
  have m0:w.heap.size+1≤w0.heap.size:=by have h:=hb0.size;rw [World.size_alloc] at h;exact h
  have rD0:w0.heap[w.heap.size]?=some (.cells #[.u M.pc,.slice A.ax M.x.length A.cx,.i M.pr,.slice A.ac M.cs.length A.cc,.slice A.ar M.ram.length A.cr,.u M.d.t,.u M.d.cm,.bool M.d.so,.slice A.ai M.d.xs.length A.ci,.slice A.ao M.d.ys.length A.co,.i M.d.ir,.u M.hd,.bool M.hl,.bool M.wt] 28 (0,0)):=an hb0 (heap_alloc_new _ _)
  obtain ⟨V,W,X,Y,Z,cD5,cD6,cD7,cD8,cD9,r,s,t,u⟩:=ae rD0
  go_wp2_with fail
  refine (HTD.out _ B0).mono ?_
  rintro e w1 ⟨CA,rfl,fA1,hb1⟩
  have hx1:Bw w0 w1:=hb1
  have m1:w0.heap.size≤w1.heap.size:=hb1.size
  have B1:Bw w w1:=aa B0 hx1
  have rD1:=an hx1 rD0
  clear V W X Y Z cD5 cD6 cD7 cD8 cD9 r s t u
  go_wp2_with fail
  refine (HS.out _ _ B1 fA1.msl).mono ?_
  rintro e w2 ⟨CW,rfl,fW2,hb2⟩
  have hx2:Bw w1 w2:=hb2
  have m2:w1.heap.size≤w2.heap.size:=hb2.size
  have B2:Bw w w2:=aa B1 hx2
  have j:=an hx2 rD1
  have fA2:=fA1.below hx2
  have V:=fun o=>(ae (ah j o)).1
  have W:=fun o=>(ae (ah j o)).2.1
  have X:=fun o=>(ae (ah j o)).2.2.1
  have Y:=fun o=>(ae (ah j o)).2.2.2.1
  have Z:=fun o=>(ae (ah j o)).2.2.2.2.1
  have cD5:=fun o=>(ae (ah j o)).2.2.2.2.2.1
  have cD6:=fun o=>(ae (ah j o)).2.2.2.2.2.2.1
  have cD7:=fun o=>(ae (ah j o)).2.2.2.2.2.2.2.1
  have cD8:=fun o=>(ae (ah j o)).2.2.2.2.2.2.2.2.1
  have cD9:=fun o=>(ae (ah j o)).2.2.2.2.2.2.2.2.2.1
  have r:=fun o=>(ae (ah j o)).2.2.2.2.2.2.2.2.2.2.1
  have s:=fun o=>(ae (ah j o)).2.2.2.2.2.2.2.2.2.2.2.1
  have t:=fun o=>(ae (ah j o)).2.2.2.2.2.2.2.2.2.2.2.2.1
  have u:=fun o=>(ae (ah j o)).2.2.2.2.2.2.2.2.2.2.2.2.2
  go_wp2_with fail
  refine (HTD.out _ (B2.alloc B2.size _)).mono ?_
  rintro e g ⟨f,rfl,fX3,hb3⟩
  have hx3:Bw w2 g:=aa (bal _ _) hb3
  have m3:w2.heap.size+1≤g.heap.size:=by have h:=hb3.size;rw [World.size_alloc] at h;exact h
  have B3:Bw w g:=aa B2 hx3
  have rD3:=an hx3 j
  have rW3:g.heap[w2.heap.size]?=some (.cells #[.u R.pc,.slice CW.ax R.x.length CW.cx,.i R.pr,.slice CW.ac R.cs.length CW.cc,.slice CW.ar R.ram.length CW.cr,.u R.d.t,.u R.d.cm,.bool R.d.so,.slice CW.ai R.d.xs.length CW.ci,.slice CW.ao R.d.ys.length CW.co,.i R.d.ir,.u R.hd,.bool R.hl,.bool R.wt] 32 (0,0)):=an hb3 (heap_alloc_new _ _)
  have fW3:=fW2.below hx3
  rw [World.size_alloc] at fX3
  clear V W X Y Z cD5 cD6 cD7 cD8 cD9 r s t u
  go_wp2_with fail
  refine (HI.out _ _ (B3.alloc B3.size _) (fX3.below (bal _ _)).msl).mono ?_
  rintro e w4 ⟨CQ,rfl,fQ4,hb4⟩
  have hx4:Bw g w4:=aa (bal _ _) hb4
  have m4:g.heap.size+1≤w4.heap.size:=by have h:=hb4.size;rw [World.size_alloc] at h;exact h
  have B4:Bw w w4:=aa B3 hx4
  have rD4:=an hx4 rD3
  have l:=an hx4 rW3
  have rX4:w4.heap[g.heap.size]?=some (.cells #[.u M.pc,.slice f.ax M.x.length f.cx,.i M.pr,.slice f.ac M.cs.length f.cc,.slice f.ar M.ram.length f.cr,.u M.d.t,.u M.d.cm,.bool M.d.so,.slice f.ai M.d.xs.length f.ci,.slice f.ao M.d.ys.length f.co,.i M.d.ir,.u M.hd,.bool M.hl,.bool M.wt] 32 (0,0)):=an hb4 (heap_alloc_new _ _)
  have fW4:=fW3.below hx4
  have fX4:=fX3.below hx4
  rw [World.size_alloc] at fQ4
  have cW0:=fun o=>(ae (ah l o)).1
  have cW1:=fun o=>(ae (ah l o)).2.1
  have cW2:=fun o=>(ae (ah l o)).2.2.1
  have cW3:=fun o=>(ae (ah l o)).2.2.2.1
  have cW4:=fun o=>(ae (ah l o)).2.2.2.2.1
  have cW5:=fun o=>(ae (ah l o)).2.2.2.2.2.1
  have cW6:=fun o=>(ae (ah l o)).2.2.2.2.2.2.1
  have cW7:=fun o=>(ae (ah l o)).2.2.2.2.2.2.2.1
  have cW8:=fun o=>(ae (ah l o)).2.2.2.2.2.2.2.2.1
  have cW9:=fun o=>(ae (ah l o)).2.2.2.2.2.2.2.2.2.1
  have N:=fun o=>(ae (ah l o)).2.2.2.2.2.2.2.2.2.2.1
  have O:=fun o=>(ae (ah l o)).2.2.2.2.2.2.2.2.2.2.2.1
  have P:=fun o=>(ae (ah l o)).2.2.2.2.2.2.2.2.2.2.2.2.1
  have Q:=fun o=>(ae (ah l o)).2.2.2.2.2.2.2.2.2.2.2.2.2
  go_wp2_with fail
  refine (iR R _ _ _ hrl (fQ4.below (bal _ _)).msl (fW4.below (bal _ _)).msl).mono ?_
  rintro e q ⟨rfl,hb5⟩
  have hx5:Bw w4 q:=aa (bal _ _) hb5
  have m5:w4.heap.size+1≤q.heap.size:=by have h:=hb5.size;rw [World.size_alloc] at h;exact h
  have B5:Bw w q:=aa B4 hx5
  have rD5:=an hx5 rD4
  have rW5:=an hx5 l
  have rX5:=an hx5 rX4
  have rQ5:q.heap[w4.heap.size]?=some (.cells #[.u R.pc,.slice CQ.ax R.x.length CQ.cx,.i R.pr,.slice CQ.ac R.cs.length CQ.cc,.slice CQ.ar R.ram.length CQ.cr,.u R.d.t,.u R.d.cm,.bool R.d.so,.slice CQ.ai R.d.xs.length CQ.ci,.slice CQ.ao R.d.ys.length CQ.co,.i R.d.ir,.u R.hd,.bool R.hl,.bool R.wt] 32 (0,0)):=an hb5 (heap_alloc_new _ _)
  have fW5:=fW4.below hx5
  have fX5:=fX4.below hx5
  have fQ5:=fQ4.below hx5
  clear cW0 cW1 cW2 cW3 cW4 cW5 cW6 cW7 cW8 cW9 N O P Q
  as_aux_lemma =>
   obtain ⟨cX0,cX1,cX2,cX3,cX4,cX5,cX6,cX7,cX8,cX9,cX10,cX11,cX12,cX13⟩:=ae rX5
   obtain ⟨V,W,X,Y,Z,cD5,cD6,cD7,cD8,cD9,r,s,t,u⟩:=ae rD5
   have PW:Hid (∀ b,Bw q b→(b.cell? ⟨g.heap.size,0,none⟩=some (.u M.pc)∧b.cell? ⟨g.heap.size,1,none⟩=some (.slice f.ax M.x.length f.cx)∧b.cell? ⟨g.heap.size,2,none⟩=some (.i M.pr)∧b.cell? ⟨g.heap.size,3,none⟩=some (.slice f.ac M.cs.length f.cc)∧b.cell? ⟨g.heap.size,4,none⟩=some (.slice f.ar M.ram.length f.cr)∧b.cell? ⟨g.heap.size,5,none⟩=some (.u M.d.t)∧b.cell? ⟨g.heap.size,6,none⟩=some (.u M.d.cm)∧b.cell? ⟨g.heap.size,7,none⟩=some (.bool M.d.so)∧b.cell? ⟨g.heap.size,8,none⟩=some (.slice f.ai M.d.xs.length f.ci)∧b.cell? ⟨g.heap.size,9,none⟩=some (.slice f.ao M.d.ys.length f.co)∧b.cell? ⟨g.heap.size,10,none⟩=some (.i M.d.ir)∧b.cell? ⟨g.heap.size,11,none⟩=some (.u M.hd)∧b.cell? ⟨g.heap.size,12,none⟩=some (.bool M.hl)∧b.cell? ⟨g.heap.size,13,none⟩=some (.bool M.wt))∧(b.cell? ⟨w.heap.size,0,none⟩=some (.u M.pc)∧b.cell? ⟨w.heap.size,1,none⟩=some (.slice A.ax M.x.length A.cx)∧b.cell? ⟨w.heap.size,2,none⟩=some (.i M.pr)∧b.cell? ⟨w.heap.size,3,none⟩=some (.slice A.ac M.cs.length A.cc)∧b.cell? ⟨w.heap.size,4,none⟩=some (.slice A.ar M.ram.length A.cr)∧b.cell? ⟨w.heap.size,5,none⟩=some (.u M.d.t)∧b.cell? ⟨w.heap.size,6,none⟩=some (.u M.d.cm)∧b.cell? ⟨w.heap.size,7,none⟩=some (.bool M.d.so)∧b.cell? ⟨w.heap.size,8,none⟩=some (.slice A.ai M.d.xs.length A.ci)∧b.cell? ⟨w.heap.size,9,none⟩=some (.slice A.ao M.d.ys.length A.co)∧b.cell? ⟨w.heap.size,10,none⟩=some (.i M.d.ir)∧b.cell? ⟨w.heap.size,11,none⟩=some (.u M.hd)∧b.cell? ⟨w.heap.size,12,none⟩=some (.bool M.hl)∧b.cell? ⟨w.heap.size,13,none⟩=some (.bool M.wt))∧Bw q b):=fun b hb=>⟨ae (an hb rX5),ae (an hb rD5),hb⟩
   have PD:Hid (∀ b,Bw q b→Bw q b.drew):=fun b hb=>hb.drew
   have HTZ:Hid (∀ b,Bw q b→Calls prog 10 #[.agg #[.u M.pc,.slice A.ax M.x.length A.cx,.i M.pr,.slice A.ac M.cs.length A.cc,.slice A.ar M.ram.length A.cr,.u M.d.t,.u M.d.cm,.bool M.d.so,.slice A.ai M.d.xs.length A.ci,.slice A.ao M.d.ys.length A.co,.i M.d.ir,.u M.hd,.bool M.hl,.bool M.wt]] b fun e d=>∃ C:MA,e=.returned (.agg #[.u M.pc,.slice C.ax M.x.length C.cx,.i M.pr,.slice C.ac M.cs.length C.cc,.slice C.ar M.ram.length C.cr,.u M.d.t,.u M.d.cm,.bool M.d.so,.slice C.ai M.d.xs.length C.ci,.slice C.ao M.d.ys.length C.co,.i M.d.ir,.u M.hd,.bool M.hl,.bool M.wt])∧Hid (bp b.heap.size d.heap.size d (aH M C))∧Bw q d):=fun b hb=>(HTD.out b (aa B5 hb)).mono fun e d ⟨C,h1,h2,h3⟩=>⟨C,h1,h2,aa hb h3⟩
   have HEZ:Hid (∀ (C:MA) (B E:Nat) b,Bw q b→bp B E b (aH M C)→Calls prog 12 #[.agg #[.u M.pc,.slice f.ax M.x.length f.cx,.i M.pr,.slice f.ac M.cs.length f.cc,.slice f.ar M.ram.length f.cr,.u M.d.t,.u M.d.cm,.bool M.d.so,.slice f.ai M.d.xs.length f.ci,.slice f.ao M.d.ys.length f.co,.i M.d.ir,.u M.hd,.bool M.hl,.bool M.wt],.agg #[.u M.pc,.slice C.ax M.x.length C.cx,.i M.pr,.slice C.ac M.cs.length C.cc,.slice C.ar M.ram.length C.cr,.u M.d.t,.u M.d.cm,.bool M.d.so,.slice C.ai M.d.xs.length C.ci,.slice C.ao M.d.ys.length C.co,.i M.d.ir,.u M.hd,.bool M.hl,.bool M.wt]] b fun e d=>e=.returned (.bool true)∧Bw q d):=fun C B E b hb hf=>(iR M _ _ b hl (fX5.below hb).msl hf.msl).mono fun e d h=>⟨h.1,aa hb h.2⟩
   go_wp2_with fail
   go_region_held3 (fun b=>(b.cell? ⟨g.heap.size,0,none⟩=some (.u M.pc)∧b.cell? ⟨g.heap.size,1,none⟩=some (.slice f.ax M.x.length f.cx)∧b.cell? ⟨g.heap.size,2,none⟩=some (.i M.pr)∧b.cell? ⟨g.heap.size,3,none⟩=some (.slice f.ac M.cs.length f.cc)∧b.cell? ⟨g.heap.size,4,none⟩=some (.slice f.ar M.ram.length f.cr)∧b.cell? ⟨g.heap.size,5,none⟩=some (.u M.d.t)∧b.cell? ⟨g.heap.size,6,none⟩=some (.u M.d.cm)∧b.cell? ⟨g.heap.size,7,none⟩=some (.bool M.d.so)∧b.cell? ⟨g.heap.size,8,none⟩=some (.slice f.ai M.d.xs.length f.ci)∧b.cell? ⟨g.heap.size,9,none⟩=some (.slice f.ao M.d.ys.length f.co)∧b.cell? ⟨g.heap.size,10,none⟩=some (.i M.d.ir)∧b.cell? ⟨g.heap.size,11,none⟩=some (.u M.hd)∧b.cell? ⟨g.heap.size,12,none⟩=some (.bool M.hl)∧b.cell? ⟨g.heap.size,13,none⟩=some (.bool M.wt))∧(b.cell? ⟨w.heap.size,0,none⟩=some (.u M.pc)∧b.cell? ⟨w.heap.size,1,none⟩=some (.slice A.ax M.x.length A.cx)∧b.cell? ⟨w.heap.size,2,none⟩=some (.i M.pr)∧b.cell? ⟨w.heap.size,3,none⟩=some (.slice A.ac M.cs.length A.cc)∧b.cell? ⟨w.heap.size,4,none⟩=some (.slice A.ar M.ram.length A.cr)∧b.cell? ⟨w.heap.size,5,none⟩=some (.u M.d.t)∧b.cell? ⟨w.heap.size,6,none⟩=some (.u M.d.cm)∧b.cell? ⟨w.heap.size,7,none⟩=some (.bool M.d.so)∧b.cell? ⟨w.heap.size,8,none⟩=some (.slice A.ai M.d.xs.length A.ci)∧b.cell? ⟨w.heap.size,9,none⟩=some (.slice A.ao M.d.ys.length A.co)∧b.cell? ⟨w.heap.size,10,none⟩=some (.i M.d.ir)∧b.cell? ⟨w.heap.size,11,none⟩=some (.u M.hd)∧b.cell? ⟨w.heap.size,12,none⟩=some (.bool M.hl)∧b.cell? ⟨w.heap.size,13,none⟩=some (.bool M.wt))∧Bw q b) (first | exact PW.out _ (PD.out _ (by assumption)) | exact PW.out _ (by assumption) | exact PW.out _ (Below.refl _ _).drew) (first | (go_at_call 10;with_reducible refine (HTZ.out _ ?_).mono ?_;(first | assumption | (exact And.right (And.right (by assumption))));rintro e w8 ⟨CZ,rfl,fz,hb8⟩) | (go_at_call 12;with_reducible refine (HEZ.out _ _ _ _ ?_ fz.out).mono ?_;(first | assumption | (exact And.right (And.right (by assumption))));rintro e wz ⟨rfl,hbz⟩))
   obtain ⟨w6,hw6⟩:∃ b,b=wz:=⟨_,rfl⟩
   rw [← hw6] at hbz ⊢
   clear hw6 PW PD HTZ HEZ
   have hb6:=hbz
   have T:Bw q w6:=hb6
   have m6:q.heap.size≤w6.heap.size:=hb6.size
   have B6:Bw w w6:=aa B5 T
   have rD6:=an T rD5
   have rW6:=an T rW5
   have rX6:=an T rX5
   have rQ6:=an T rQ5
   have fW6:=fW5.below T
   have fX6:=fX5.below T
   have fQ6:=fQ5.below T
   clear cX0 cX1 cX2 cX3 cX4 cX5 cX6 cX7 cX8 cX9 cX10 cX11 cX12 cX13 V W X Y Z cD5 cD6 cD7 cD8 cD9 r s t u
   as_aux_lemma =>
    obtain ⟨cX0,cX1,cX2,cX3,cX4,cX5,cX6,cX7,cX8,cX9,cX10,cX11,cX12,cX13⟩:=ae rX6
    go_wp2_with fail
    refine (mS M _ 1 _ _ _ hl (by omega) (by omega) (by omega) fX6).mono ?_
    rintro e w7 ⟨rfl,fX7,kl7⟩
    have U:=kl7.keep fX6
    have B7:Bw w w7:=B6.trans (U.below (by omega) (by omega))
    have m7:w6.heap.size≤w7.heap.size:=U.size
    have rD7:=(U.block _ (Array.getElem?_eq_some_iff.1 rD6).1 (by omega)).trans rD6
    have rW7:=(U.block _ (Array.getElem?_eq_some_iff.1 rW6).1 (by omega)).trans rW6
    have rX7:=(U.block _ (Array.getElem?_eq_some_iff.1 rX6).1 (by omega)).trans rX6
    have rQ7:=(U.block _ (Array.getElem?_eq_some_iff.1 rQ6).1 (by omega)).trans rQ6
    have fW7:=fW6.keep U (by omega)
    have fQ7:=fQ6.keep U (by omega)
    have hneg:decide ((1:Int)+(M.x.length:Int)+(M.cs.length:Int)+(M.ram.length:Int)+(M.d.xs.length:Int)+(M.d.ys.length:Int) < 0)=false:=by simp;omega
    clear cX0 cX1 cX2 cX3 cX4 cX5 cX6 cX7 cX8 cX9 cX10 cX11 cX12 cX13
    obtain ⟨cQ0,cQ1,cQ2,cQ3,cQ4,cQ5,cQ6,cQ7,cQ8,cQ9,y,z,D,F⟩:=ae rQ7
    obtain ⟨cW0,cW1,cW2,cW3,cW4,cW5,cW6,cW7,cW8,cW9,N,O,P,Q⟩:=ae rW7
    go_wp2_with fail
    refine (iR R _ _ _ hrl fQ7.msl fW7.msl).mono ?_
    rintro e w8 ⟨rfl,hb8⟩
    have hx8:Bw w7 w8:=hb8
    have m8:w7.heap.size≤w8.heap.size:=hb8.size
    have B8:Bw w w8:=aa B7 hx8
    have rD8:=an hx8 rD7
    have rW8:=an hx8 rW7
    have rX8:=an hx8 rX7
    have rQ8:=an hx8 rQ7
    have fW8:=fW7.below hx8
    have fQ8:=fQ7.below hx8
    clear cQ0 cQ1 cQ2 cQ3 cQ4 cQ5 cQ6 cQ7 cQ8 cQ9 y z D F cW0 cW1 cW2 cW3 cW4 cW5 cW6 cW7 cW8 cW9 N O P Q
    as_aux_lemma =>
     obtain ⟨cQ0,cQ1,cQ2,cQ3,cQ4,cQ5,cQ6,cQ7,cQ8,cQ9,y,z,D,F⟩:=ae rQ8
     go_wp2_with fail
     refine (mS R _ 1 _ _ _ hrl (by omega) (by omega) (by omega) fQ8).mono ?_
     rintro e w9 ⟨rfl,fQ9,kl9⟩
     have kp9:=kl9.keep fQ8
     have B9:Bw w w9:=B8.trans (kp9.below (by omega) (by omega))
     have m9:w8.heap.size≤w9.heap.size:=kp9.size
     have rD9:=(kp9.block _ (Array.getElem?_eq_some_iff.1 rD8).1 (by omega)).trans rD8
     have rW9:=(kp9.block _ (Array.getElem?_eq_some_iff.1 rW8).1 (by omega)).trans rW8
     have rX9:=(kp9.block _ (Array.getElem?_eq_some_iff.1 rX8).1 (by omega)).trans rX8
     have rQ9:=(kp9.block _ (Array.getElem?_eq_some_iff.1 rQ8).1 (by omega)).trans rQ8
     have fW9:=fW8.keep kp9 (by omega)
     have hneg2:¬ ((1:Int)+(R.x.length:Int)+(R.cs.length:Int)+(R.ram.length:Int)+(R.d.xs.length:Int)+(R.d.ys.length:Int) < 0):=by omega
     have hne2:((1:Int)+(R.x.length:Int)+(R.cs.length:Int)+(R.ram.length:Int)+(R.d.xs.length:Int)+(R.d.ys.length:Int) != 1+(R.x.length:Int)+(R.cs.length:Int)+(R.ram.length:Int)+(R.d.xs.length:Int)+(R.d.ys.length:Int))=false:=by simp
     clear cQ0 cQ1 cQ2 cQ3 cQ4 cQ5 cQ6 cQ7 cQ8 cQ9 y z D F
     obtain ⟨cQ0,cQ1,cQ2,cQ3,cQ4,cQ5,cQ6,cQ7,cQ8,cQ9,y,z,D,F⟩:=ae rQ9
     go_wp2_with fail
     refine (mT R _ 1 _ hrl (by omega) (by omega) fQ9.rsl.1 fQ9.rsl.2.1 fQ9.rsl.2.2.1 fQ9.rsl.2.2.2.1 fQ9.rsl.2.2.2.2).mono ?_
     rintro e w10 ⟨rfl,hb10⟩
     have G:Bw w9 w10:=hb10
     have QL:w9.heap.size≤w10.heap.size:=hb10.size
     have B10:Bw w w10:=aa B9 G
     have rD10:=an G rD9
     have rW10:=an G rW9
     have rX10:=an G rX9
     have rQ10:=an G rQ9
     have fW10:=fW9.below G
     have fQ10:=fQ9.below G
     clear cQ0 cQ1 cQ2 cQ3 cQ4 cQ5 cQ6 cQ7 cQ8 cQ9 y z D F
     as_aux_lemma =>
      obtain ⟨V,W,X,Y,Z,cD5,cD6,cD7,cD8,cD9,r,s,t,u⟩:=ae rD10
      go_wp2_with fail
      refine (HTD.out _ B10).mono ?_
      rintro e w11 ⟨CP,rfl,fP11,hb11⟩
      have H:Bw w10 w11:=hb11
      have Om:w10.heap.size≤w11.heap.size:=hb11.size
      have B11:Bw w w11:=aa B10 H
      have rD11:=an H rD10
      have rW11:=an H rW10
      have rX11:=an H rX10
      have rQ11:=an H rQ10
      have fW11:=fW10.below H
      have fQ11:=fQ10.below H
      clear V W X Y Z cD5 cD6 cD7 cD8 cD9 r s t u
      go_wp2_with fail
      refine (HI.out _ _ B11 fP11.msl).mono ?_
      rintro e w12 ⟨CK,rfl,fK12,hb12⟩
      have m:Bw w11 w12:=hb12
      have m12:w11.heap.size≤w12.heap.size:=hb12.size
      have B12:Bw w w12:=aa B11 m
      have rD12:=an m rD11
      have c:=an m rW11
      have rX12:=an m rX11
      have rQ12:=an m rQ11
      have fW12:=fW11.below m
      have fQ12:=fQ11.below m
      have fP12:=fP11.below m
      have cW0:=fun o=>(ae (ah c o)).1
      have cW1:=fun o=>(ae (ah c o)).2.1
      have cW2:=fun o=>(ae (ah c o)).2.2.1
      have cW3:=fun o=>(ae (ah c o)).2.2.2.1
      have cW4:=fun o=>(ae (ah c o)).2.2.2.2.1
      have cW5:=fun o=>(ae (ah c o)).2.2.2.2.2.1
      have cW6:=fun o=>(ae (ah c o)).2.2.2.2.2.2.1
      have cW7:=fun o=>(ae (ah c o)).2.2.2.2.2.2.2.1
      have cW8:=fun o=>(ae (ah c o)).2.2.2.2.2.2.2.2.1
      have cW9:=fun o=>(ae (ah c o)).2.2.2.2.2.2.2.2.2.1
      have N:=fun o=>(ae (ah c o)).2.2.2.2.2.2.2.2.2.2.1
      have O:=fun o=>(ae (ah c o)).2.2.2.2.2.2.2.2.2.2.2.1
      have P:=fun o=>(ae (ah c o)).2.2.2.2.2.2.2.2.2.2.2.2.1
      have Q:=fun o=>(ae (ah c o)).2.2.2.2.2.2.2.2.2.2.2.2.2
      go_wp2_with fail
      refine (iR R _ _ _ hrl (fK12.below (bal _ _)).msl (fW12.below (bal _ _)).msl).mono ?_
      rintro e w13 ⟨rfl,hb13⟩
      have p:Bw w12 w13:=aa (bal _ _) hb13
      have m13:w12.heap.size+1≤w13.heap.size:=by have h:=hb13.size;rw [World.size_alloc] at h;exact h
      have B13:Bw w w13:=aa B12 p
      have rD13:=an p rD12
      have rW13:=an p c
      have rX13:=an p rX12
      have rQ13:=an p rQ12
      have rK13:w13.heap[w12.heap.size]?=some (.cells #[.u R.pc,.slice CK.ax R.x.length CK.cx,.i R.pr,.slice CK.ac R.cs.length CK.cc,.slice CK.ar R.ram.length CK.cr,.u R.d.t,.u R.d.cm,.bool R.d.so,.slice CK.ai R.d.xs.length CK.ci,.slice CK.ao R.d.ys.length CK.co,.i R.d.ir,.u R.hd,.bool R.hl,.bool R.wt] 32 (0,0)):=an hb13 (heap_alloc_new _ _)
      have fW13:=fW12.below p
      have J:=fQ12.below p
      have fK13:=fK12.below p
      clear cW0 cW1 cW2 cW3 cW4 cW5 cW6 cW7 cW8 cW9 N O P Q
      obtain ⟨cQ0,cQ1,cQ2,cQ3,cQ4,cQ5,cQ6,cQ7,cQ8,cQ9,y,z,D,F⟩:=ae rQ13
      go_wp2_with fail
      refine (mT R _ 1 _ hrl (by omega) (by omega) J.rsl.1 J.rsl.2.1 J.rsl.2.2.1 J.rsl.2.2.2.1 J.rsl.2.2.2.2).mono ?_
      rintro e w14 ⟨rfl,hb14⟩
      have I:Bw w13 w14:=hb14
      have m14:w13.heap.size≤w14.heap.size:=hb14.size
      have B14:Bw w w14:=aa B13 I
      have rD14:=an I rD13
      have rW14:=an I rW13
      have rX14:=an I rX13
      have rQ14:=an I rQ13
      have rK14:=an I rK13
      have fQ14:=J.below I
      clear cQ0 cQ1 cQ2 cQ3 cQ4 cQ5 cQ6 cQ7 cQ8 cQ9 y z D F
      go_wp2_with fail
      go_ret
      exact ⟨rfl,B14⟩
 ·have hsz:NT M.x.length M.cs.length M.ram.length M.d.xs.length M.d.ys.length 1048576=-1:=by unfold NT;rw [if_neg (by omega)]
  rw [hsz] at HSZ
  clear L hsz hsm hT S
  go_enter func3,ntmps3
  go_wp2_with fail
  refine (HSZ.out _).mono ?_
  rintro e w0 ⟨rfl,hb0⟩
  go_wp2_with fail
  go_ret
  exact ⟨rfl,aa (bal _ _) hb0⟩
end Go.Proofs.YtjifdmoehfbihaaGreatDoor.fnExactStep
