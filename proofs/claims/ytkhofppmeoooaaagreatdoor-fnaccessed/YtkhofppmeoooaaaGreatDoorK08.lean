/- Own lemmas. -/
import Derived.Test.YtkhofppmeoooaaaGreatDoorK02
import Derived.Test.YtkhofppmeoooaaaGreatDoorK07
import Derived.Deep.Cut
import Derived.Deep.RegionWith
namespace Go.Proofs.YtkhofppmeoooaaaGreatDoor
open Go.RowKit
set_option linter.unusedVariables false

theorem Cs.put6 {w0 w wr:World} {g:Nat} {a:Option Addr} {n cap:Nat} (h:Cs w0 g a n cap w wr) (k:Nat) (hk:w.heap.size≤k) (hg:g≠k) (hw0:w0.heap.size≤k) (x0 x1 x2 x3 x4 x5:Value):Cs w0 g a n cap w (put6 wr k x0 x1 x2 x3 x4 x5) :=
 (((((h.setc k 0 x0 hk hg hw0).setc k 1 x1 hk hg hw0).setc k 2 x2 hk hg hw0).setc k 3 x3 hk hg hw0).setc k 4 x4 hk hg hw0).setc k 5 x5 hk hg hw0

theorem allReady_push {md:Region.Mode} {ops:Array Oper} {Q:Exit→Act→World→Prop} {fuel:Nat} {listed:Array Bool} {a:Act} {w w':World} {i:Nat} {o:Oper} {rs:List Nat} (ho:ops[i]?=some o) (hw:Region.wanted o (yielded ops a.tmps)=true) (s x:Operand) (hop:o.op=.call { callee:=.builtin .append,args:=#[s,x],argTypes:=#[22,22] }) (v v2 v':Value) (hs:a.eval s=v) (hx:a.eval x=v2) (hap:(Builtin.append_ #[22,22] o.type #[v,v2]).run Tryz.prog w=.ok v' w')
 (h:wpAny Tryz.prog md ops Q fuel (listed.setIfInBounds i true) (a.put o.dst v') w') (hr:AllReady Tryz.prog md ops Q fuel listed a w rs):AllReady Tryz.prog md ops Q fuel listed a w (i :: rs):=by
 refine AllReady.cons ho (fun K hK=>?_) hr
 rw [if_pos hw]
 unfold Oper.wp execOp
 simp only [hop,resolve,invoke,builtin,Sem.run_bind,Sem.run_pure,Result.andThen_ok,List.map_toArray,List.map_cons,List.map_nil,hs,hx,hap]
 exact hK _ _ h

theorem made8 {w w':World} {m:Nat} (hown:w'.ownsRow w.heap.size 5 1 (.slice (some ⟨w.heap.size,0,none⟩) m m) m (madeCells (Value.int .u8 0).cells (m*1)).toList):w'.ownsRow w.heap.size 5 1 (.slice (some ⟨w.heap.size,0,none⟩) m m) m ((List.replicate m (0:Int)).map (Value.int .u8)):=by
 rw [List.map_replicate,← toList_madeCells_one];simpa [Value.cells] using hown

theorem Dx.out {w0 w wr:World} {g:Nat} {a:Option Addr} {n cap b:Nat} {D:DV} {a1:Option Addr} {c1:Nat} {a2:Option Addr} {c2:Nat} (h:Dx w0 g a n cap w w.heap.size b D a1 c1 a2 c2 wr) (x0 x1 x2 x3 x4 x5:Value):Fam w.heap.size (put6 wr w.heap.size x0 x1 x2 x3 x4 x5).heap.size (put6 wr w.heap.size x0 x1 x2 x3 x4 x5) (dvF D a1 c1 a2 c2)∧Cs w0 g a n cap w (put6 wr w.heap.size x0 x1 x2 x3 x4 x5):=by
 have hr:=h.c.rlt
 have hg:=h.c.glt
 have h0:=h.c.cu.1.new
 exact ⟨(h.fam.put6 w.heap.size (.inl (by omega)) x0 x1 x2 x3 x4 x5).low (by omega) (by rw [size_put6];exact Nat.le_refl _),h.c.cu.put6 _ (Nat.le_refl _) (by omega) (by omega) _ _ _ _ _ _⟩

theorem Fits.up {D:DV} {k1 k2 m1 m2:Nat} (h:Fits D k1 k2) (h1:k1≤m1) (h2:k2≤m2):Fits D m1 m2:=⟨h.t,h.cm,h.ir,h.by_,Nat.le_trans h.l1 h1,Nat.le_trans h.l2 h2⟩

theorem Fits.pushIn {D:DV} {k1 k2:Nat} (h:Fits D k1 k2) (y:Int):Fits ⟨D.t,D.cm,D.so,D.xs ++ [IntKind.u8.wrap y],D.ys,D.ir⟩ (k1+1) k2:=by
 refine ⟨h.t,h.cm,h.ir,⟨fun z hz=>?_,h.by_.2⟩,?_,h.l2⟩
 ·rcases List.mem_append.1 hz with hz | hz
  ·exact h.by_.1 z hz
  ·rw [List.mem_singleton.1 hz]
   exact wf8 (by rw [IntKind.wrap_u8];omega) (by rw [IntKind.wrap_u8];omega)
 ·have:=h.l1
  simp
  omega

theorem Fits.pushOut {D:DV} {k1 k2:Nat} (h:Fits D k1 k2) (y:Int):Fits ⟨D.t,D.cm,D.so,D.xs,D.ys ++ [IntKind.u8.wrap y],D.ir⟩ k1 (k2+1):=by
 refine ⟨h.t,h.cm,h.ir,⟨h.by_.1,fun z hz=>?_⟩,h.l1,?_⟩
 ·rcases List.mem_append.1 hz with hz | hz
  ·exact h.by_.2 z hz
  ·rw [List.mem_singleton.1 hz]
   exact wf8 (by rw [IntKind.wrap_u8];omega) (by rw [IntKind.wrap_u8];omega)
 ·have:=h.l2
  simp
  omega

theorem Fits.newIn {D:DV} {k1 k2:Nat} (h:Fits D k1 k2) (m:Nat):Fits ⟨D.t,D.cm,D.so,List.replicate m 0,D.ys,D.ir⟩ m k2:=⟨h.t,h.cm,h.ir,⟨zeros_wf m,h.by_.2⟩,by simp,h.l2⟩

theorem Fits.newOut {D:DV} {k1 k2:Nat} (h:Fits D k1 k2) (m:Nat):Fits ⟨D.t,D.cm,D.so,D.xs,List.replicate m 0,D.ir⟩ k1 m:=⟨h.t,h.cm,h.ir,⟨h.by_.1,zeros_wf m⟩,h.l1,by simp⟩

set_option maxRecDepth 100000 in
set_option maxHeartbeats 6400000 in
theorem l8Draw_c {w0:World} {g:Nat} {a:Option Addr} {n cap:Nat} {zs:List Int} (hcd:Code w0 a n zs) (w:World) (hc:Cur w0 w g a n cap) :
 Calls Tryz.prog 72 #[.pointer (some ⟨g,0,none⟩)] w fun e w'=>∃ (D:DV) (a1:Option Addr) (c1:Nat) (a2:Option Addr) (c2:Nat),e=.returned (.agg (dvc D a1 c1 a2 c2))∧Hid (Fits D 16 4096)∧Hid (Fam w.heap.size w'.heap.size w' (dvF D a1 c1 a2 c2))∧Hid (Cs w0 g a n cap w w'):=by
 have HD:Hid (Code w0 a n zs):=hcd
 have HC:Hid (Cur w0 w g a n cap):=hc
 have hgl:=dhid hc.lt
 clear hcd hc
 go_enter Tryz.func72,Tryz.ntmps72
 go_wp2_with fail
 refine (l1Below_c HD.out 50 (by omega) _ (Cs.alloc HC.out _).1).mono ?_
 rintro e w1 ⟨x1,rfl,hx1,hs1⟩
 have H1:=dhid hx1
 have C1:=dhid ((Cs.alloc HC.out _).trans hs1.out)
 clear hx1
 go_wp2_with fail
 refine (l1Below_c HD.out 50 (by omega) _ C1.out.1).mono ?_
 rintro e w2 ⟨x2,rfl,hx2,hs2⟩
 have H2:=dhid hx2
 clear hx2
 go_wp2_with fail
 refine (l1Once_c HD.out 4 (by omega) _ hs2.out.1).mono ?_
 rintro e w3 ⟨so,rfl,hs3⟩
 go_wp2_with fail
 refine (l1Below_c HD.out 2 (by omega) _ hs3.out.1).mono ?_
 rintro e w4 ⟨x4,rfl,hx4,hs4⟩
 have H4:=dhid hx4
 clear hx4
 go_wp2_with fail
 have Z4:=dhid (show w.heap.size < w4.heap.size by have h1:=hs1.out.2.size;have h2:=hs2.out.2.size;have h3:=hs3.out.2.size;have h4:=hs4.out.2.size;rw [World.size_alloc] at h1;omega)
 have RR:=dhid (hs4.out.keep (hs3.out.keep (hs2.out.keep (hs1.out.keep (heap_alloc_new w _) (Nat.ne_of_gt hgl.out)) (Nat.ne_of_gt hgl.out)) (Nat.ne_of_gt hgl.out)) (Nat.ne_of_gt hgl.out))
 have C4:=dhid (C1.out.trans (hs2.out.trans (hs3.out.trans hs4.out)))
 have DX:Hid (Dx w0 g a n cap w w.heap.size w4.heap.size ⟨IntKind.u64.wrap x1,IntKind.u64.wrap x2,so,[],[],x4⟩ none 0 none 0 (w4.alloc (.cells #[.int .u64 (IntKind.u64.wrap x1),.int .u64 (IntKind.u64.wrap x2),.bool so,.slice none 0 0,.slice none 0 0,.int .i64 x4] 27))) :=
  ⟨⟨heap_alloc_new _ _,row_al8 RR.out _,C4.out.trans (Cs.alloc C4.out.1 _),hgl.out,Z4.out,Nat.le_refl _⟩,fam_zero _ _ _⟩
 have FT:Hid (Fits ⟨IntKind.u64.wrap x1,IntKind.u64.wrap x2,so,[],[],x4⟩ 0 0):=⟨U_wrap _,U_wrap _,by have:=H4.out;dsimp only;omega,⟨fun y hy=>(nomatch hy),fun y hy=>(nomatch hy)⟩,Nat.le_refl _,Nat.le_refl _⟩
 clear hs1 hs2 hs3 hs4 C1 C4 RR H1 H2 H4
 refine (l1Once_c HD.out 6 (by omega) _ DX.out.cur).mono ?_
 rintro e w5 ⟨c5,rfl,hs5⟩
 have DX5:=dhid (DX.out.next hs5.out)
 clear DX hs5
 go_upto_if 18 with fail
 go_cut [] from 6 (fun wc=>∃ D:DV,Hid (Dx w0 g a n cap w w.heap.size w4.heap.size D none 0 none 0 wc)∧Hid (Fits D 0 0))
 case first =>
  have k1:=(cells6 DX5.out.c.row).2.1
  have z1:=froz DX5.out.c.row 1
  cases c5 with
  | true =>
   go_wp2_with fail
   go_meet
   exact ⟨_,DX5.out.cmp _,⟨FT.out.t,(show U 18446744073709551615 from ⟨by decide,by decide⟩),FT.out.ir,FT.out.by_,FT.out.l1,FT.out.l2⟩⟩
  | false =>
   go_wp2_with fail
   go_meet
   exact ⟨_,DX5,FT⟩
 case rest =>
  obtain ⟨D,DX,FT⟩:=hcut
  go_wp2_with fail
  refine (l1Below_c HD.out 5 (by omega) _ DX.out.cur).mono ?_
  rintro e w6 ⟨x,rfl,hx,hs6⟩
  obtain ⟨q,rfl⟩:=Int.eq_ofNat_of_zero_le hx.1
  have DX6:=dhid (DX.out.next hs6.out)
  have hq:q≤4:=by have:=hx.2;omega
  have HBY:Hid (∀ w',Cur w0 w' g a n cap→Calls Tryz.prog 37 #[.pointer (some ⟨g,0,none⟩)] w' fun e w''=>∃ x:Int,e=.returned (.int .i64 x)∧(0≤x∧x≤255)∧Hid (Cs w0 g a n cap w' w'')):=fun w' hc=>l1Byte_c HD.out w' hc
  clear DX hs6 hx DX5
  go_wp2_with fail
  go_loopw [4] (fun i wr=>∃ (q:Nat) (D:DV) (a1:Option Addr) (c1:Nat),i=.int .i64 q∧q≤4∧Hid (Dx w0 g a n cap w w.heap.size w4.heap.size D a1 c1 none 0 wr)∧Hid (Fits D (4 - q) 0)) (fun i _=>(intOf i).toNat)
  case atStart=>exact ⟨q,D,none,0,rfl,hq,DX6,FT.out.up (Nat.zero_le _) (Nat.le_refl _)⟩
  case round =>
   clear DX6 FT hq
   obtain ⟨q,D,a1,c1,rfl,hq,DX,FT⟩:=hrel
   rcases Nat.eq_zero_or_pos q with h0 | h0
   ·subst h0
    have FT1:=dhid (FT.out.up (show 4 - 0≤4 by omega) (Nat.le_refl 0))
    clear FT hq
    go_wp2_with fail
    refine (l1Below_c HD.out 5 (by omega) _ DX.out.cur).mono ?_
    rintro e w7 ⟨x,rfl,hx,hs7⟩
    obtain ⟨q,rfl⟩:=Int.eq_ofNat_of_zero_le hx.1
    have DX7:=dhid (DX.out.next hs7.out)
    have hq:q≤4:=by have:=hx.2;omega
    clear DX hs7 hx
    go_wp2_with fail
    go_loopw [5] (fun i wr=>∃ (q:Nat) (D:DV) (a1:Option Addr) (c1:Nat) (a2:Option Addr) (c2:Nat),i=.int .i64 q∧q≤4∧Hid (Dx w0 g a n cap w w.heap.size w4.heap.size D a1 c1 a2 c2 wr)∧Hid (Fits D 4 (4 - q))) (fun i _=>(intOf i).toNat)
    case atStart=>exact ⟨q,D,a1,c1,none,0,rfl,hq,DX7,FT1.out.up (Nat.le_refl _) (Nat.zero_le _)⟩
    case round =>
     clear DX7 FT1 hq
     obtain ⟨q,D,a1,c1,a2,c2,rfl,hq,DX,FT⟩:=hrel
     rcases Nat.eq_zero_or_pos q with h0 | h0
     ·subst h0
      have FT1:=dhid (FT.out.up (Nat.le_refl 4) (show 4 - 0≤4 by omega))
      clear FT hq
      obtain ⟨i0,hi,hz0,hz1,hz2⟩:=info_parts Tryz.info5
      have hb2:i0.bytes*16≤281474976710656:=by rw [hz2];omega
      have hb3:16≤maxLen:=by unfold maxLen;omega
      have hc2:i0.bytes*4096≤281474976710656:=by rw [hz2];omega
      have hc3:4096≤maxLen:=by unfold maxLen;omega
      go_wp2_with fail
      refine (l1Once_c HD.out 30 (by omega) _ DX.out.cur).mono ?_
      rintro e w8 ⟨c8,rfl,hs8⟩
      have DX8:=dhid (DX.out.next hs8.out)
      clear DX hs8
      go_upto_if 49 with fail
      go_cut [] from 6 (fun wc=>∃ (D:DV) (a1:Option Addr) (c1:Nat) (a2:Option Addr) (c2:Nat),Hid (Dx w0 g a n cap w w.heap.size w4.heap.size D a1 c1 a2 c2 wc)∧Hid (Fits D 16 4))
      case first =>
       cases c8 with
       | true =>
        go_wp2_with (first | (at_make;refine wpList_make_full _ rfl (.const (.int .i64 16)) (.const (.int .i64 16)) 22 rfl w8.heap.size 5 i0 (.int .u8 0) 1 Tryz.underlying22 hi hz0 hz1 .i64 .i64 _ _ 16 rfl rfl rfl rfl hb2 hb3 (Nat.le_refl _) ?_;intro wm hown hgrow;obtain ⟨k3,z3,dz⟩:=DX8.out.newIn (some ⟨w8.heap.size,0,none⟩) 16 16 (List.replicate 16 0) (by simp) (made8 hown) ((Below.refl _ _).grown hgrow (Nat.le_refl _) (by intro k h;cases h));have DZ:=dhid dz;clear hown hgrow dz))
        go_meet
        exact ⟨_,_,_,_,_,DZ,(FT1.out.newIn 16).up (Nat.le_refl _) (Nat.le_refl _)⟩
       | false =>
        go_wp2_with fail
        go_meet
        exact ⟨_,_,_,_,_,DX8,FT1.out.up (by omega) (Nat.le_refl _)⟩
      case rest =>
       clear DX8 FT1
       obtain ⟨D,a1,c1,a2,c2,DX,FT⟩:=hcut
       go_wp2_with fail
       refine (l1Once_c HD.out 60 (by omega) _ DX.out.cur).mono ?_
       rintro e w9 ⟨c9,rfl,hs9⟩
       have DX9:=dhid (DX.out.next hs9.out)
       clear DX hs9
       go_upto_if 53 with fail
       go_cut [] from 6 (fun wc=>∃ (D:DV) (a1:Option Addr) (c1:Nat) (a2:Option Addr) (c2:Nat),Hid (Dx w0 g a n cap w w.heap.size w4.heap.size D a1 c1 a2 c2 wc)∧Hid (Fits D 16 4096))
       case first =>
        cases c9 with
        | true =>
         go_wp2_with (first | (at_make;refine wpList_make_full _ rfl (.const (.int .i64 4096)) (.const (.int .i64 4096)) 22 rfl w9.heap.size 5 i0 (.int .u8 0) 1 Tryz.underlying22 hi hz0 hz1 .i64 .i64 _ _ 4096 rfl rfl rfl rfl hc2 hc3 (Nat.le_refl _) ?_;intro wm hown hgrow;obtain ⟨k3,z3,dz⟩:=DX9.out.newOut (some ⟨w9.heap.size,0,none⟩) 4096 4096 (List.replicate 4096 0) (by rw [List.length_replicate]) (made8 hown) ((Below.refl _ _).grown hgrow (Nat.le_refl _) (by intro k h;cases h));have DZ:=dhid dz;clear hown hgrow dz))
         go_meet
         exact ⟨_,_,_,_,_,DZ,FT.out.newOut 4096⟩
        | false =>
         go_wp2_with fail
         go_meet
         exact ⟨_,_,_,_,_,DX9,FT.out.up (Nat.le_refl _) (by omega)⟩
       case rest =>
        clear DX9 FT
        obtain ⟨D,a1,c1,a2,c2,DX,FT⟩:=hcut
        obtain ⟨p0,p1,p2,p3,p4,p5⟩:=cells6 DX.out.c.row
        obtain ⟨s0,s1,s2,s3,s4,s5⟩:=cells6 DX.out.c.res
        obtain ⟨y0,y1,y2,y3,y4,y5⟩:=froz6 DX.out.c.res
        have OUT:=dhid (DX.out.out (.int .u64 D.t) (.int .u64 D.cm) (.bool D.so) (.slice a1 D.xs.length c1) (.slice a2 D.ys.length c2) (.int .i64 D.ir))
        have RES:=dhid DX.out.c.res
        have nd1:¬ w4.heap.size=w.heap.size:=by have:=Z4.out;omega
        have nd2:¬ w.heap.size=w4.heap.size:=by have:=Z4.out;omega
        clear DX
        go_wp2_with fail
        exact bodyPost_ret (results_cell_row Tryz.results72 _ _ _ _ _ _ _ rfl (row_put6 RES.out _ _ _ _ _ _) Tryz.underlying27 rfl dev_size) rfl ⟨D,a1,c1,a2,c2,rfl,FT,OUT.out.1,OUT.out.2⟩
     ·have dq:decide (0 < q)=true:=by simp;omega
      obtain ⟨p,rfl⟩:∃ p,q=p+1:=⟨q - 1,by omega⟩
      have k3:=(cells6 DX.out.c.row).2.2.2.2.1
      have hl:D.ys.length≤1048576:=by have:=FT.out.l2;omega
      go_wp2_with fail
      refine wp_region_any (by kernel_rfl) ?_
      change wpAny _ _ _ _ _ _ _ (World.drew _)
      refine wpAny_take (i:=0) (v:=.pointer (some ⟨w4.heap.size,4,none⟩)) rfl (by kernel_rfl) (by kernel_rfl) (by kernel_rfl) (fun _ _ _ h=>h) (Or.inl ⟨by rfl,?_⟩) ?_
      ·intro w'
       go_simp
      refine wpAny_take (i:=2) (v:=.pointer (some ⟨g,0,none⟩)) rfl (by kernel_rfl) (by kernel_rfl) (by kernel_rfl) (fun _ _ _ h=>h) (Or.inl ⟨by rfl,?_⟩) ?_
      ·intro w'
       go_simp
      refine wpAny_ready (rs:=[1,3]) (by kernel_rfl) (by simp) ?_
      refine AllReady.cons rfl (fun K hK=>?_) (AllReady.cons rfl (fun K hK=>?_) AllReady.nil)
      ·go_simp
       refine hK _ _ ?_
       clear hK
       refine wpAny_ready (rs:=[3]) (by kernel_rfl) (by simp) ?_
       refine AllReady.cons rfl (fun K hK=>?_) AllReady.nil
       go_simp
       refine (HBY.out _ DX.out.drew.cur).mono ?_
       rintro e wy ⟨y,rfl,hy,hsy⟩
       have M:=dhid (DX.out.drew.next hsy.out)
       clear hy hsy
       have k4:=(cells6 M.out.c.row).2.2.2.2.1
       have k4':=fun o=>(cells6 (row_al8 M.out.c.row o)).2.2.2.2.1
       obtain ⟨f1,q1,wz,hap,k5,z5,dz⟩:=M.out.pushOut hl (IntKind.u8.wrap y) 22
       have DZ:=dhid dz
       have HAP:=dhid hap
       clear dz hap
       refine hK _ _ ?_
       clear hK
       refine wpAny_take (i:=4) (v:=.int .u8 (IntKind.u8.wrap y)) rfl (by kernel_rfl) (by kernel_rfl) (by kernel_rfl) (fun _ _ _ h=>h) (Or.inl ⟨by rfl,?_⟩) ?_
       ·intro w'
        go_simp
       refine wpAny_ready (rs:=[5]) (by kernel_rfl) (by simp) ?_
       refine AllReady.cons rfl (fun K hK=>?_) AllReady.nil
       go_simp
       refine hK _ _ ?_
       clear hK
       refine wpAny_ready (rs:=[6]) (by kernel_rfl) (by simp) ?_
       refine allReady_push rfl rfl (.tmp 41) (.tmp 45) rfl _ _ _ rfl rfl HAP.out ?_ AllReady.nil
       simp only [Act.put]
       refine wpAny_take (i:=7) (v:=.pointer (some ⟨w4.heap.size,4,none⟩)) rfl (by kernel_rfl) (by kernel_rfl) (by kernel_rfl) (fun _ _ _ h=>h) (Or.inl ⟨by rfl,?_⟩) ?_
       ·intro w'
        go_simp
       refine wpAny_ready (rs:=[8]) (by kernel_rfl) (by simp) ?_
       refine AllReady.cons rfl (fun K hK=>?_) AllReady.nil
       go_simp
       refine hK _ _ ?_
       clear hK
       refine wpAny_done (by kernel_rfl) ?_ _
       go_wp2_with fail
       go_roundw
       case rel=>exact ⟨p,_,_,_,_,_,by go_num,by omega,DZ,(FT.out.pushOut y).up (Nat.le_refl _) (by omega)⟩
       case measure=>simp [intOf]
      ·go_simp
       refine (HBY.out _ DX.out.drew.cur).mono ?_
       rintro e wy ⟨y,rfl,hy,hsy⟩
       have M:=dhid (DX.out.drew.next hsy.out)
       clear hy hsy
       have k4:=(cells6 M.out.c.row).2.2.2.2.1
       have k4':=fun o=>(cells6 (row_al8 M.out.c.row o)).2.2.2.2.1
       obtain ⟨f1,q1,wz,hap,k5,z5,dz⟩:=M.out.pushOut hl (IntKind.u8.wrap y) 22
       have DZ:=dhid dz
       have HAP:=dhid hap
       clear dz hap
       refine hK _ _ ?_
       clear hK
       refine wpAny_take (i:=4) (v:=.int .u8 (IntKind.u8.wrap y)) rfl (by kernel_rfl) (by kernel_rfl) (by kernel_rfl) (fun _ _ _ h=>h) (Or.inl ⟨by rfl,?_⟩) ?_
       ·intro w'
        go_simp
       refine wpAny_ready (rs:=[1,5]) (by kernel_rfl) (by simp) ?_
       refine AllReady.cons rfl (fun K hK=>?_) (AllReady.cons rfl (fun K hK=>?_) AllReady.nil)
       ·go_simp
        refine hK _ _ ?_
        clear hK
        refine wpAny_ready (rs:=[5]) (by kernel_rfl) (by simp) ?_
        refine AllReady.cons rfl (fun K hK=>?_) AllReady.nil
        go_simp
        refine hK _ _ ?_
        clear hK
        refine wpAny_ready (rs:=[6]) (by kernel_rfl) (by simp) ?_
        refine allReady_push rfl rfl (.tmp 41) (.tmp 45) rfl _ _ _ rfl rfl HAP.out ?_ AllReady.nil
        simp only [Act.put]
        refine wpAny_take (i:=7) (v:=.pointer (some ⟨w4.heap.size,4,none⟩)) rfl (by kernel_rfl) (by kernel_rfl) (by kernel_rfl) (fun _ _ _ h=>h) (Or.inl ⟨by rfl,?_⟩) ?_
        ·intro w'
         go_simp
        refine wpAny_ready (rs:=[8]) (by kernel_rfl) (by simp) ?_
        refine AllReady.cons rfl (fun K hK=>?_) AllReady.nil
        go_simp
        refine hK _ _ ?_
        clear hK
        refine wpAny_done (by kernel_rfl) ?_ _
        go_wp2_with fail
        go_roundw
        case rel=>exact ⟨p,_,_,_,_,_,by go_num,by omega,DZ,(FT.out.pushOut y).up (Nat.le_refl _) (by omega)⟩
        case measure=>simp [intOf]
       ·go_simp
        refine hK _ _ ?_
        clear hK
        refine wpAny_ready (rs:=[1]) (by kernel_rfl) (by simp) ?_
        refine AllReady.cons rfl (fun K hK=>?_) AllReady.nil
        go_simp
        refine hK _ _ ?_
        clear hK
        refine wpAny_ready (rs:=[6]) (by kernel_rfl) (by simp) ?_
        refine allReady_push rfl rfl (.tmp 41) (.tmp 45) rfl _ _ _ rfl rfl HAP.out ?_ AllReady.nil
        simp only [Act.put]
        refine wpAny_take (i:=7) (v:=.pointer (some ⟨w4.heap.size,4,none⟩)) rfl (by kernel_rfl) (by kernel_rfl) (by kernel_rfl) (fun _ _ _ h=>h) (Or.inl ⟨by rfl,?_⟩) ?_
        ·intro w'
         go_simp
        refine wpAny_ready (rs:=[8]) (by kernel_rfl) (by simp) ?_
        refine AllReady.cons rfl (fun K hK=>?_) AllReady.nil
        go_simp
        refine hK _ _ ?_
        clear hK
        refine wpAny_done (by kernel_rfl) ?_ _
        go_wp2_with fail
        go_roundw
        case rel=>exact ⟨p,_,_,_,_,_,by go_num,by omega,DZ,(FT.out.pushOut y).up (Nat.le_refl _) (by omega)⟩
        case measure=>simp [intOf]
   ·have dq:decide (0 < q)=true:=by simp;omega
    obtain ⟨p,rfl⟩:∃ p,q=p+1:=⟨q - 1,by omega⟩
    have k3:=(cells6 DX.out.c.row).2.2.2.1
    have hl:D.xs.length≤1048576:=by have:=FT.out.l1;omega
    go_wp2_with fail
    refine wp_region_any (by kernel_rfl) ?_
    change wpAny _ _ _ _ _ _ _ (World.drew _)
    refine wpAny_take (i:=0) (v:=.pointer (some ⟨w4.heap.size,3,none⟩)) rfl (by kernel_rfl) (by kernel_rfl) (by kernel_rfl) (fun _ _ _ h=>h) (Or.inl ⟨by rfl,?_⟩) ?_
    ·intro w'
     go_simp
    refine wpAny_take (i:=2) (v:=.pointer (some ⟨g,0,none⟩)) rfl (by kernel_rfl) (by kernel_rfl) (by kernel_rfl) (fun _ _ _ h=>h) (Or.inl ⟨by rfl,?_⟩) ?_
    ·intro w'
     go_simp
    refine wpAny_ready (rs:=[1,3]) (by kernel_rfl) (by simp) ?_
    refine AllReady.cons rfl (fun K hK=>?_) (AllReady.cons rfl (fun K hK=>?_) AllReady.nil)
    ·go_simp
     refine hK _ _ ?_
     clear hK
     refine wpAny_ready (rs:=[3]) (by kernel_rfl) (by simp) ?_
     refine AllReady.cons rfl (fun K hK=>?_) AllReady.nil
     go_simp
     refine (HBY.out _ DX.out.drew.cur).mono ?_
     rintro e wy ⟨y,rfl,hy,hsy⟩
     have M:=dhid (DX.out.drew.next hsy.out)
     clear hy hsy
     have k4:=(cells6 M.out.c.row).2.2.2.1
     have k4':=fun o=>(cells6 (row_al8 M.out.c.row o)).2.2.2.1
     obtain ⟨f1,q1,wz,hap,k5,z5,dz⟩:=M.out.pushIn hl (IntKind.u8.wrap y) 22
     have DZ:=dhid dz
     have HAP:=dhid hap
     clear dz hap
     refine hK _ _ ?_
     clear hK
     refine wpAny_take (i:=4) (v:=.int .u8 (IntKind.u8.wrap y)) rfl (by kernel_rfl) (by kernel_rfl) (by kernel_rfl) (fun _ _ _ h=>h) (Or.inl ⟨by rfl,?_⟩) ?_
     ·intro w'
      go_simp
     refine wpAny_ready (rs:=[5]) (by kernel_rfl) (by simp) ?_
     refine AllReady.cons rfl (fun K hK=>?_) AllReady.nil
     go_simp
     refine hK _ _ ?_
     clear hK
     refine wpAny_ready (rs:=[6]) (by kernel_rfl) (by simp) ?_
     refine allReady_push rfl rfl (.tmp 27) (.tmp 31) rfl _ _ _ rfl rfl HAP.out ?_ AllReady.nil
     simp only [Act.put]
     refine wpAny_take (i:=7) (v:=.pointer (some ⟨w4.heap.size,3,none⟩)) rfl (by kernel_rfl) (by kernel_rfl) (by kernel_rfl) (fun _ _ _ h=>h) (Or.inl ⟨by rfl,?_⟩) ?_
     ·intro w'
      go_simp
     refine wpAny_ready (rs:=[8]) (by kernel_rfl) (by simp) ?_
     refine AllReady.cons rfl (fun K hK=>?_) AllReady.nil
     go_simp
     refine hK _ _ ?_
     clear hK
     refine wpAny_done (by kernel_rfl) ?_ _
     go_wp2_with fail
     go_roundw
     case rel=>exact ⟨p,_,_,_,by go_num,by omega,DZ,(FT.out.pushIn y).up (by omega) (Nat.le_refl _)⟩
     case measure=>simp [intOf]
    ·go_simp
     refine (HBY.out _ DX.out.drew.cur).mono ?_
     rintro e wy ⟨y,rfl,hy,hsy⟩
     have M:=dhid (DX.out.drew.next hsy.out)
     clear hy hsy
     have k4:=(cells6 M.out.c.row).2.2.2.1
     have k4':=fun o=>(cells6 (row_al8 M.out.c.row o)).2.2.2.1
     obtain ⟨f1,q1,wz,hap,k5,z5,dz⟩:=M.out.pushIn hl (IntKind.u8.wrap y) 22
     have DZ:=dhid dz
     have HAP:=dhid hap
     clear dz hap
     refine hK _ _ ?_
     clear hK
     refine wpAny_take (i:=4) (v:=.int .u8 (IntKind.u8.wrap y)) rfl (by kernel_rfl) (by kernel_rfl) (by kernel_rfl) (fun _ _ _ h=>h) (Or.inl ⟨by rfl,?_⟩) ?_
     ·intro w'
      go_simp
     refine wpAny_ready (rs:=[1,5]) (by kernel_rfl) (by simp) ?_
     refine AllReady.cons rfl (fun K hK=>?_) (AllReady.cons rfl (fun K hK=>?_) AllReady.nil)
     ·go_simp
      refine hK _ _ ?_
      clear hK
      refine wpAny_ready (rs:=[5]) (by kernel_rfl) (by simp) ?_
      refine AllReady.cons rfl (fun K hK=>?_) AllReady.nil
      go_simp
      refine hK _ _ ?_
      clear hK
      refine wpAny_ready (rs:=[6]) (by kernel_rfl) (by simp) ?_
      refine allReady_push rfl rfl (.tmp 27) (.tmp 31) rfl _ _ _ rfl rfl HAP.out ?_ AllReady.nil
      simp only [Act.put]
      refine wpAny_take (i:=7) (v:=.pointer (some ⟨w4.heap.size,3,none⟩)) rfl (by kernel_rfl) (by kernel_rfl) (by kernel_rfl) (fun _ _ _ h=>h) (Or.inl ⟨by rfl,?_⟩) ?_
      ·intro w'
       go_simp
      refine wpAny_ready (rs:=[8]) (by kernel_rfl) (by simp) ?_
      refine AllReady.cons rfl (fun K hK=>?_) AllReady.nil
      go_simp
      refine hK _ _ ?_
      clear hK
      refine wpAny_done (by kernel_rfl) ?_ _
      go_wp2_with fail
      go_roundw
      case rel=>exact ⟨p,_,_,_,by go_num,by omega,DZ,(FT.out.pushIn y).up (by omega) (Nat.le_refl _)⟩
      case measure=>simp [intOf]
     ·go_simp
      refine hK _ _ ?_
      clear hK
      refine wpAny_ready (rs:=[1]) (by kernel_rfl) (by simp) ?_
      refine AllReady.cons rfl (fun K hK=>?_) AllReady.nil
      go_simp
      refine hK _ _ ?_
      clear hK
      refine wpAny_ready (rs:=[6]) (by kernel_rfl) (by simp) ?_
      refine allReady_push rfl rfl (.tmp 27) (.tmp 31) rfl _ _ _ rfl rfl HAP.out ?_ AllReady.nil
      simp only [Act.put]
      refine wpAny_take (i:=7) (v:=.pointer (some ⟨w4.heap.size,3,none⟩)) rfl (by kernel_rfl) (by kernel_rfl) (by kernel_rfl) (fun _ _ _ h=>h) (Or.inl ⟨by rfl,?_⟩) ?_
      ·intro w'
       go_simp
      refine wpAny_ready (rs:=[8]) (by kernel_rfl) (by simp) ?_
      refine AllReady.cons rfl (fun K hK=>?_) AllReady.nil
      go_simp
      refine hK _ _ ?_
      clear hK
      refine wpAny_done (by kernel_rfl) ?_ _
      go_wp2_with fail
      go_roundw
      case rel=>exact ⟨p,_,_,_,by go_num,by omega,DZ,(FT.out.pushIn y).up (by omega) (Nat.le_refl _)⟩
      case measure=>simp [intOf]

structure FitsA (D:DV):Prop where
 t:U D.t
 cm:U D.cm
 ir:(Lit.int .i64 D.ir).wf=true
 by_:bytesOk D
 l1:D.xs.length≤17
 l2:D.ys.length≤4097

theorem Fits.any {D:DV} (h:Fits D 16 4096):FitsA D:=⟨h.t,h.cm,by rcases h.ir with e | e<;>rw [e]<;>decide,h.by_,Nat.le_trans h.l1 (by omega),Nat.le_trans h.l2 (by omega)⟩

structure Mf (M:MV):Prop where
 x:M.x.length=32
 ux:∀ j,U (M.x.getD j 0)
 cs:M.cs.length=22
 ucs:∀ j,U (M.cs.getD j 0)
 ram:M.ram.length=4096∨M.ram.length=8192
 bram:∀ y ∈ M.ram,(Lit.int .u8 y).wf=true
 d:Fits M.d 16 4096
 pc:U M.pc
 hd:U M.hd
 pr:M.pr=0∨M.pr=1∨M.pr=3

theorem Mf.len {M:MV} (h:Mf M):MLen M:=⟨by rw [h.x];omega,by rw [h.cs];omega,by rcases h.ram with e | e<;>rw [e]<;>omega,by have:=h.d.l1;omega,by have:=h.d.l2;omega⟩

structure Dm (w0:World) (g:Nat) (a:Option Addr) (n cap:Nat) (w:World) (r m:Nat) (M:MV) (A:MA) (wr:World):Prop where
 cu:Cs w0 g a n cap w wr
 res:wr.heap[r]?=some (.cells (mvc zeroM zeroA) 29 (0,0))
 mp:Mp (r+1) m M A wr
 fit:Mf M
 gr:g < r
 wr_:w.heap.size≤r
 w0w:w0.heap.size≤w.heap.size

theorem Dm.cur {w0:World} {g:Nat} {a:Option Addr} {n cap:Nat} {w:World} {r m:Nat} {M:MV} {A:MA} {wr:World} (h:Dm w0 g a n cap w r m M A wr):Cur w0 wr g a n cap:=h.cu.1

theorem Dm.next {w0:World} {g:Nat} {a:Option Addr} {n cap:Nat} {w:World} {r m:Nat} {M:MV} {A:MA} {wr wx:World} (h:Dm w0 g a n cap w r m M A wr) (k:Cs w0 g a n cap wr wx):Dm w0 g a n cap w r m M A wx:=by
 have hg:=h.gr
 have hm:=h.mp.lo
 exact ⟨h.cu.trans k,k.keep h.res (by omega),⟨k.keep h.mp.row (by omega),(h.mp.fam.mono fun j h1 h2 h3=>k.2.block j h3 (by simp;omega)).low (Nat.le_refl _) k.2.size,h.mp.ne,h.mp.lo⟩,h.fit,h.gr,h.wr_,h.w0w⟩

theorem Dm.below {w0:World} {g:Nat} {a:Option Addr} {n cap:Nat} {w:World} {r m:Nat} {M:MV} {A:MA} {wr wx:World} (h:Dm w0 g a n cap w r m M A wr) (k:Below wr.heap.size wr wx):Dm w0 g a n cap w r m M A wx:=h.next (Cs.of_below h.cu.1 k)

theorem Dm.step {w0:World} {g:Nat} {a:Option Addr} {n cap:Nat} {w:World} {r m:Nat} {M:MV} {A:MA} {wr wx:World} (h:Dm w0 g a n cap w r m M A wr) {M':MV} {A':MA} (hb:Below (r+1) wr wx) (hp:Mp (r+1) m M' A' wx) (hf:Mf M'):Dm w0 g a n cap w r m M' A' wx:=by
 have hg:=h.gr
 have hw:=h.wr_
 have h0:=h.w0w
 have hr:=(Array.getElem?_eq_some_iff.1 h.res).1
 obtain ⟨i,hh,hi,hrow⟩:=h.cu.1.row
 refine ⟨⟨⟨h.cu.1.new,?_,i,hh,hi,(hb.block g (by omega)).trans hrow⟩,⟨hb.os.trans h.cu.2.os,hb.tape.trans h.cu.2.tape,hb.output.trans h.cu.2.output,Nat.le_trans h.cu.2.size hb.size,fun k hk hne=>(hb.block k (by omega)).trans (h.cu.2.block k hk hne)⟩⟩,(hb.block r (by omega)).trans h.res,hp,hf,h.gr,h.wr_,h.w0w⟩
 exact ⟨hb.os.trans h.cu.1.below.os,hb.tape.trans h.cu.1.below.tape,hb.output.trans h.cu.1.below.output,Nat.le_trans h.cu.1.below.size hb.size,fun k hk=>(hb.block k (by omega)).trans (h.cu.1.below.block k hk)⟩

theorem Mp.xrow {B r:Nat} {M:MV} {A:MA} {w:World} (h:Mp B r M A w):w.ownsRow B 24 1 (.slice A.ax M.x.length A.cx) M.x.length (M.x.map (Value.int .u64)):=h.fam.own (wRow A.ax M.x.length A.cx M.x) (by simp [mvF])

theorem Mp.crow {B r:Nat} {M:MV} {A:MA} {w:World} (h:Mp B r M A w):w.ownsRow B 24 1 (.slice A.ac M.cs.length A.cc) M.cs.length (M.cs.map (Value.int .u64)):=h.fam.own (wRow A.ac M.cs.length A.cc M.cs) (by simp [mvF])

theorem map_set64 (zs:List Int) (i:Nat) (y:Int):(zs.map (Value.int .u64)).set i (.int .u64 y)=(zs.set i y).map (Value.int .u64):=by rw [List.map_set]

def xM (M:MV) (xs:List Int):MV:={ M with x:=xs }

def cM (M:MV) (cs:List Int):MV:={ M with cs:=cs }

theorem Mp.setX {B r:Nat} {M:MV} {A:MA} {w:World} (h:Mp B r M A w) (b:Nat) (hb:A.ax=some ⟨b,0,none⟩) (i:Nat) (v:Int):Mp B r (xM M (M.x.set i v)) A (w.setCell ⟨b,i,none⟩ (.int .u64 v))∧Below B w (w.setCell ⟨b,i,none⟩ (.int .u64 v)):=by
 have hx:=h.xrow
 rw [hb] at hx
 have hs:=hx.stored i (.int .u64 v)
 rw [map_set64] at hs
 have hbB:=((hx.lt b rfl)).1
 have hg:w.grownBy (w.setCell ⟨b,i,none⟩ (.int .u64 v)) (wRow A.ax M.x.length A.cx M.x).v.ownBlock:=by simp only [wRow];rw [hb];exact hs.2
 have hm:=Fam.mark (L1:=[]) (r:=wRow A.ax M.x.length A.cx M.x) (L2:=[wRow A.ac M.cs.length A.cc M.cs,bRow A.ar M.ram.length A.cr M.ram,bRow A.ai M.d.xs.length A.ci M.d.xs,bRow A.ao M.d.ys.length A.co M.d.ys]) h.fam hg ((M.x.set i v).map (Value.int .u64)) (by simp only [wRow];rw [hb];exact hs.1)
 have hne:=h.ne (wRow A.ax M.x.length A.cx M.x) (by simp [mvF])
 have hbr:r≠b:=fun e=>hne (by simp only [wRow];rw [hb,e];rfl)
 have hsz:(w.setCell ⟨b,i,none⟩ (.int .u64 v)).heap.size=w.heap.size:=size_set _ _ _
 have ef:mvF (xM M (M.x.set i v)) A=[] ++ ⟨(wRow A.ax M.x.length A.cx M.x).t,(wRow A.ax M.x.length A.cx M.x).v,(wRow A.ax M.x.length A.cx M.x).n,(M.x.set i v).map (Value.int .u64)⟩ :: [wRow A.ac M.cs.length A.cc M.cs,bRow A.ar M.ram.length A.cr M.ram,bRow A.ai M.d.xs.length A.ci M.d.xs,bRow A.ao M.d.ys.length A.co M.d.ys]:=by
  simp [mvF,xM,wRow]
 refine ⟨⟨?_,?_,?_,h.lo⟩,⟨rfl,rfl,rfl,by rw [hsz];exact Nat.le_refl _,fun k hk=>Below.heap_setCell _ _ _ k (by dsimp only;omega)⟩⟩
 ·have:=row_far h.row ⟨b,i,none⟩ (.int .u64 v) hbr
  simpa [mvc,xM] using this
 ·rw [ef,hsz];exact hm.1
 ·rw [ef]
  intro q hq
  simp only [List.nil_append,List.mem_cons,List.not_mem_nil,or_false] at hq
  rcases hq with rfl | rfl | rfl | rfl | rfl
  ·exact hne
  ·exact h.ne _ (by simp [mvF])
  ·exact h.ne _ (by simp [mvF])
  ·exact h.ne _ (by simp [mvF])
  ·exact h.ne _ (by simp [mvF])

theorem Mp.setC {B r:Nat} {M:MV} {A:MA} {w:World} (h:Mp B r M A w) (b:Nat) (hb:A.ac=some ⟨b,0,none⟩) (i:Nat) (v:Int):Mp B r (cM M (M.cs.set i v)) A (w.setCell ⟨b,i,none⟩ (.int .u64 v))∧Below B w (w.setCell ⟨b,i,none⟩ (.int .u64 v)):=by
 have hx:=h.crow
 rw [hb] at hx
 have hs:=hx.stored i (.int .u64 v)
 rw [map_set64] at hs
 have hbB:=((hx.lt b rfl)).1
 have hg:w.grownBy (w.setCell ⟨b,i,none⟩ (.int .u64 v)) (wRow A.ac M.cs.length A.cc M.cs).v.ownBlock:=by simp only [wRow];rw [hb];exact hs.2
 have hm:=Fam.mark (L1:=[wRow A.ax M.x.length A.cx M.x]) (r:=wRow A.ac M.cs.length A.cc M.cs) (L2:=[bRow A.ar M.ram.length A.cr M.ram,bRow A.ai M.d.xs.length A.ci M.d.xs,bRow A.ao M.d.ys.length A.co M.d.ys]) h.fam hg ((M.cs.set i v).map (Value.int .u64)) (by simp only [wRow];rw [hb];exact hs.1)
 have hne:=h.ne (wRow A.ac M.cs.length A.cc M.cs) (by simp [mvF])
 have hbr:r≠b:=fun e=>hne (by simp only [wRow];rw [hb,e];rfl)
 have hsz:(w.setCell ⟨b,i,none⟩ (.int .u64 v)).heap.size=w.heap.size:=size_set _ _ _
 have ef:mvF (cM M (M.cs.set i v)) A=[wRow A.ax M.x.length A.cx M.x] ++ ⟨(wRow A.ac M.cs.length A.cc M.cs).t,(wRow A.ac M.cs.length A.cc M.cs).v,(wRow A.ac M.cs.length A.cc M.cs).n,(M.cs.set i v).map (Value.int .u64)⟩ :: [bRow A.ar M.ram.length A.cr M.ram,bRow A.ai M.d.xs.length A.ci M.d.xs,bRow A.ao M.d.ys.length A.co M.d.ys]:=by
  simp [mvF,cM,wRow]
 refine ⟨⟨?_,?_,?_,h.lo⟩,⟨rfl,rfl,rfl,by rw [hsz];exact Nat.le_refl _,fun k hk=>Below.heap_setCell _ _ _ k (by dsimp only;omega)⟩⟩
 ·have:=row_far h.row ⟨b,i,none⟩ (.int .u64 v) hbr
  simpa [mvc,cM] using this
 ·rw [ef,hsz];exact hm.1
 ·rw [ef]
  intro q hq
  simp only [List.cons_append,List.nil_append,List.mem_cons,List.not_mem_nil,or_false] at hq
  rcases hq with rfl | rfl | rfl | rfl | rfl
  ·exact h.ne _ (by simp [mvF])
  ·exact hne
  ·exact h.ne _ (by simp [mvF])
  ·exact h.ne _ (by simp [mvF])
  ·exact h.ne _ (by simp [mvF])

theorem set_U {l:List Int} (h:∀ j,U (l.getD j 0)) (i:Nat) {v:Int} (hv:U v):∀ j,U ((l.set i v).getD j 0):=by
 intro j
 have:=h j
 simp only [List.getD,List.getElem?_set]
 split
 ·split
  ·exact hv
  ·exact ⟨by simp,by simp⟩
 ·exact this

theorem Mp.setF {B r:Nat} {M M':MV} {A:MA} {w:World} (h:Mp B r M A w) (i:Nat) (v:Value) (hc:mvc M' A=(mvc M A).setIfInBounds i v) (hf:mvF M' A=mvF M A):Mp B r M' A (w.setCell ⟨r,i,none⟩ v)∧Below B w (w.setCell ⟨r,i,none⟩ v):=by
 have hlo:=h.lo
 refine ⟨⟨?_,?_,by rw [hf];exact h.ne,h.lo⟩,⟨rfl,rfl,rfl,by rw [size_set];exact Nat.le_refl _,fun k hk=>Below.heap_setCell _ _ _ k (by dsimp only;omega)⟩⟩
 ·rw [hc];exact row_set h.row i v
 ·rw [hf];exact Mp.fam_set h.fam h.ne i v

theorem run_storeVar_at {P:Program} (w:World) (g o:Nat) (t ty:TypeId) (old cells:Array Value) (hg:w.heap[g]?=some (.cells old t (0,0))) (hi:(P.info? ty).map (·.size)=some cells.size)
 (ho:o+cells.size≤old.size) (h1:cells.all (·.oneCell')=true) :
 (storeVar ty ⟨g,o,none⟩ (.agg cells)).run P w=.ok () (w.setRow g (old.toList.take o ++ cells.toList ++ old.toList.drop (o+cells.size)).toArray):=by
 have:=run_storeCells_at (P:=P) g o t cells.toList 0 old w hg (by simp;omega) (fun v hv=>(Array.all_eq_true_iff_forall_mem.1 h1) v (by simpa using hv))
 cases hq:P.info? ty with
 | none=>simp [hq] at hi
 | some i =>
  have hs:cells.size=i.size:=by simp [hq] at hi;omega
  simp only [Nat.add_zero,Array.length_toList] at this
  simp only [List.append_assoc] at this ⊢
  simp [storeVar,sizeOf,typeInfo,hq,Value.cells,hs,this]

theorem wpList_store_at {ops:Array Oper} {rest:List Oper} {o:Oper} {a:Act} {w:World} {Q:Exit→Act→World→Prop} (hgd:o.guard=none) (ty:TypeId) (x y:Operand) (ho:o.op=.store ty x y)
 (g k:Nat) (cells:Array Value) (hx:a.eval x=.pointer (some ⟨g,k,none⟩)) (hy:a.eval y=.agg cells)
 (t:TypeId) (old:Array Value) (hg:w.heap[g]?=some (.cells old t (0,0))) (hi:(Tryz.prog.info? ty).map (·.size)=some cells.size)
 (hold:k+cells.size≤old.size) (h1:cells.all (·.oneCell')=true)
 (h:wpList Tryz.prog ops Q rest (a.put o.dst undef) (w.setRow g (old.toList.take k ++ cells.toList ++ old.toList.drop (k+cells.size)).toArray)):wpList Tryz.prog ops Q (o :: rest) a w:=by
 refine wpList_plain hgd fun K hK=>?_
 unfold Oper.wp execOp
 simp only [ho,hx,hy,Instr.storeAt,Instr.sureAddr,Sem.run_bind,Sem.run_pure,Result.andThen_ok,run_storeVar_at w g k t ty old cells hg hi hold h1]
 exact hK _ _ h

theorem Dm.setX {w0:World} {g:Nat} {a:Option Addr} {n cap:Nat} {w:World} {r m:Nat} {M:MV} {A:MA} {wr:World} (h:Dm w0 g a n cap w r m M A wr) (b:Nat) (hb:A.ax=some ⟨b,0,none⟩) (i:Nat) {v:Int} (hv:U v):Dm w0 g a n cap w r m (xM M (M.x.set i v)) A (wr.setCell ⟨b,i,none⟩ (.int .u64 v)) :=
 h.step (h.mp.setX b hb i v).2 (h.mp.setX b hb i v).1 ⟨by simp [xM,h.fit.x],set_U h.fit.ux i hv,h.fit.cs,h.fit.ucs,h.fit.ram,h.fit.bram,h.fit.d,h.fit.pc,h.fit.hd,h.fit.pr⟩

theorem Dm.setC {w0:World} {g:Nat} {a:Option Addr} {n cap:Nat} {w:World} {r m:Nat} {M:MV} {A:MA} {wr:World} (h:Dm w0 g a n cap w r m M A wr) (b:Nat) (hb:A.ac=some ⟨b,0,none⟩) (i:Nat) {v:Int} (hv:U v):Dm w0 g a n cap w r m (cM M (M.cs.set i v)) A (wr.setCell ⟨b,i,none⟩ (.int .u64 v)) :=
 h.step (h.mp.setC b hb i v).2 (h.mp.setC b hb i v).1 ⟨h.fit.x,h.fit.ux,by simp [cM,h.fit.cs],set_U h.fit.ucs i hv,h.fit.ram,h.fit.bram,h.fit.d,h.fit.pc,h.fit.hd,h.fit.pr⟩

theorem Dm.atX {w0:World} {g:Nat} {a:Option Addr} {n cap:Nat} {w:World} {r m:Nat} {M:MV} {A:MA} {wr:World} (h:Dm w0 g a n cap w r m M A wr):∃ b c,A.ax=some ⟨b,0,none⟩∧A.cx=c∧wr.cell? ⟨m,1,none⟩=some (.slice (some ⟨b,0,none⟩) 32 c)∧(∀ j,j < 32→wr.cell? ⟨b,j,none⟩=some (.int .u64 (M.x.getD j 0))∧wr.frozen? ⟨b,j,none⟩=false):=by
 have hx:=h.mp.xrow
 rw [h.fit.x] at hx
 obtain ⟨b,c,e,hb⟩:=own_shape hx (by omega)
 simp only [Value.slice.injEq,true_and] at e
 obtain ⟨e1,e2⟩:=e
 have hr:=h.mp.row
 refine ⟨b,c,e1,e2,?_,fun j hj=>?_⟩
 ·simp [World.cell?,hr,mvc,e1,e2,h.fit.x]
 ·rw [e1] at hx
  refine ⟨?_,hx.frozenAt j⟩
  rw [hx.cellAt j (by omega)]
  have hl:=h.fit.x
  rw [List.getElem?_map,List.getElem?_eq_getElem (show j < M.x.length by omega),List.getD_eq_getElem?_getD,List.getElem?_eq_getElem (show j < M.x.length by omega)]
  rfl

theorem Dm.atC {w0:World} {g:Nat} {a:Option Addr} {n cap:Nat} {w:World} {r m:Nat} {M:MV} {A:MA} {wr:World} (h:Dm w0 g a n cap w r m M A wr):∃ b c,A.ac=some ⟨b,0,none⟩∧A.cc=c∧wr.cell? ⟨m,3,none⟩=some (.slice (some ⟨b,0,none⟩) 22 c)∧(∀ j,j < 22→wr.cell? ⟨b,j,none⟩=some (.int .u64 (M.cs.getD j 0))∧wr.frozen? ⟨b,j,none⟩=false):=by
 have hx:=h.mp.crow
 rw [h.fit.cs] at hx
 obtain ⟨b,c,e,hb⟩:=own_shape hx (by omega)
 simp only [Value.slice.injEq,true_and] at e
 obtain ⟨e1,e2⟩:=e
 have hr:=h.mp.row
 refine ⟨b,c,e1,e2,?_,fun j hj=>?_⟩
 ·simp [World.cell?,hr,mvc,e1,e2,h.fit.cs]
 ·rw [e1] at hx
  refine ⟨?_,hx.frozenAt j⟩
  rw [hx.cellAt j (by omega)]
  have hl:=h.fit.cs
  rw [List.getElem?_map,List.getElem?_eq_getElem (show j < M.cs.length by omega),List.getD_eq_getElem?_getD,List.getElem?_eq_getElem (show j < M.cs.length by omega)]
  rfl

theorem Dm.setF {w0:World} {g:Nat} {a:Option Addr} {n cap:Nat} {w:World} {r m:Nat} {M M':MV} {A:MA} {wr:World} (h:Dm w0 g a n cap w r m M A wr) (i:Nat) (v:Value) (hc:mvc M' A=(mvc M A).setIfInBounds i v) (hf:mvF M' A=mvF M A) (fit:Mf M'):Dm w0 g a n cap w r m M' A (wr.setCell ⟨m,i,none⟩ v) :=
 h.step (h.mp.setF i v hc hf).2 (h.mp.setF i v hc hf).1 fit

theorem Dm.dev {w0:World} {g:Nat} {a:Option Addr} {n cap:Nat} {w:World} {r m:Nat} {M:MV} {A:MA} {wr wx:World} (h:Dm w0 g a n cap w r m M A wr) (k:Cs w0 g a n cap wr wx) (D:DV) (a1:Option Addr) (c1:Nat) (a2:Option Addr) (c2:Nat) (hf:Fits D 16 4096) (hd:Fam wr.heap.size wx.heap.size wx (dvF D a1 c1 a2 c2)) :
 Dm w0 g a n cap w r m (devM M D) (devA A a1 c1 a2 c2) (wx.setRow m (mvc (devM M D) (devA A a1 c1 a2 c2))):=by
 have hx:=h.next k
 have hlo:=h.mp.lo
 have hml:=h.mp.lt
 have hne:∀ q ∈ mvF (devM M D) (devA A a1 c1 a2 c2),q.v.ownBlock≠some m:=by
  intro q hq e
  simp only [mvF,List.mem_cons,List.not_mem_nil,or_false] at hq
  have hdv:∀ q ∈ dvF D a1 c1 a2 c2,q.v.ownBlock≠some m:=fun q hq e=>by have:=(hd.own q hq).lt _ e;omega
  rcases hq with rfl | rfl | rfl | rfl | rfl
  ·exact h.mp.ne (wRow A.ax M.x.length A.cx M.x) (by simp [mvF]) e
  ·exact h.mp.ne (wRow A.ac M.cs.length A.cc M.cs) (by simp [mvF]) e
  ·exact h.mp.ne (bRow A.ar M.ram.length A.cr M.ram) (by simp [mvF]) e
  ·exact hdv (bRow a1 D.xs.length c1 D.xs) (by simp [dvF,devF]) e
  ·exact hdv (bRow a2 D.ys.length c2 D.ys) (by simp [dvF,devF]) e
 have hsub:Fam (r+1) wr.heap.size wx [wRow A.ax M.x.length A.cx M.x,wRow A.ac M.cs.length A.cc M.cs,bRow A.ar M.ram.length A.cr M.ram]:=by
  have hg:=h.gr
  have:=(h.mp.fam.mono (w':=wx) fun j h1 h2 h3=>k.2.block j h3 (by simp;omega))
  exact this.sub (by simp [mvF,List.Sublist.refl])
 have happ:=hsub.app hd (by omega) k.2.size
 have hfam:Fam (r+1) wx.heap.size wx (mvF (devM M D) (devA A a1 c1 a2 c2)):=happ
 have hbel:Below (r+1) wx (wx.setRow m (mvc (devM M D) (devA A a1 c1 a2 c2))):=row_below (Below.refl _ _) (by omega) _
 refine hx.step hbel ⟨setRow_heap wx m _ _ _ _ hx.mp.row,?_,hne,h.mp.lo⟩ ⟨h.fit.x,h.fit.ux,h.fit.cs,h.fit.ucs,h.fit.ram,h.fit.bram,hf,h.fit.pc,h.fit.hd,h.fit.pr⟩
 rw [setRow_size]
 exact ⟨fun q hq=>fown_of (hfam.own q hq) (fun j e=>setRow_other wx m j _ (fun e2=>hne q hq (by rw [e,e2]))),hfam.hi,hfam.ne⟩

def cA (A:MA) (b c:Nat):MA:={ A with ac:=some ⟨b,0,none⟩,cc:=c }

theorem Dm.csrs {w0:World} {g:Nat} {a:Option Addr} {n cap:Nat} {w:World} {r m:Nat} {M:MV} {A:MA} {wr wx:World} (h:Dm w0 g a n cap w r m M A wr) (k:Cs w0 g a n cap wr wx) (zs:List Int) (hu:∀ j,U (zs.getD j 0)) (ho:wx.ownsRow wr.heap.size 24 1 (.slice (some ⟨wr.heap.size,0,none⟩) 22 22) 22 (zs.map (Value.int .u64))) :
 Dm w0 g a n cap w r m (cM M zs) (cA A wr.heap.size 22) (wx.setCell ⟨m,3,none⟩ (.slice (some ⟨wr.heap.size,0,none⟩) 22 22)):=by
 have hzl:zs.length=22:=by have:=ho.1;simpa using this
 have hx:=h.next k
 have hlo:=h.mp.lo
 have hml:=h.mp.lt
 have hg:=h.gr
 have hsub:Fam (r+1) wr.heap.size wx ([wRow A.ax M.x.length A.cx M.x] ++ [bRow A.ar M.ram.length A.cr M.ram,bRow A.ai M.d.xs.length A.ci M.d.xs,bRow A.ao M.d.ys.length A.co M.d.ys]):=by
  have:=(h.mp.fam.mono (w':=wx) fun j h1 h2 h3=>k.2.block j h3 (by simp;omega))
  exact this.sub (by simp [mvF])
 have hins:=hsub.ins (q:=wRow (some ⟨wr.heap.size,0,none⟩) zs.length 22 zs) (E':=wx.heap.size) (by simp only [wRow];rw [hzl];exact ho) (by omega) (Nat.le_refl _) k.2.size
 have hfam:Fam (r+1) wx.heap.size wx (mvF (cM M zs) (cA A wr.heap.size 22)):=hins
 have hne:∀ q ∈ mvF (cM M zs) (cA A wr.heap.size 22),q.v.ownBlock≠some m:=by
  intro q hq e
  simp only [mvF,List.mem_cons,List.not_mem_nil,or_false] at hq
  rcases hq with rfl | rfl | rfl | rfl | rfl
  ·exact h.mp.ne (wRow A.ax M.x.length A.cx M.x) (by simp [mvF]) e
  ·simp only [wRow,cA,Value.ownBlock,Option.some.injEq] at e;omega
  ·exact h.mp.ne (bRow A.ar M.ram.length A.cr M.ram) (by simp [mvF]) e
  ·exact h.mp.ne (bRow A.ai M.d.xs.length A.ci M.d.xs) (by simp [mvF]) e
  ·exact h.mp.ne (bRow A.ao M.d.ys.length A.co M.d.ys) (by simp [mvF]) e
 refine hx.step ⟨rfl,rfl,rfl,by rw [size_set];exact Nat.le_refl _,fun j hj=>Below.heap_setCell _ _ _ j (by dsimp only;omega)⟩ ⟨?_,Mp.fam_set hfam hne 3 _,hne,h.mp.lo⟩ ⟨h.fit.x,h.fit.ux,hzl,hu,h.fit.ram,h.fit.bram,h.fit.d,h.fit.pc,h.fit.hd,h.fit.pr⟩
 have:=row_set hx.mp.row 3 (.slice (some ⟨wr.heap.size,0,none⟩) 22 22)
 rw [this]
 simp [mvc,cM,cA,hzl]

theorem wpList_app64 {ops:Array Oper} {rest:List Oper} {o:Oper} {a:Act} {Q:Exit→Act→World→Prop} {w:World} (hgd:o.guard=none) (s x:Operand)
 (ho:o.op=.call { callee:=.builtin .append,args:=#[s,x],argTypes:=#[25,25] }) (base g:Nat) (hs:a.eval s=.slice (some ⟨g,0,none⟩) 0 0) (hown:w.ownsRow base 24 1 (.slice (some ⟨g,0,none⟩) 0 0) 0 [])
 (ad:Option Addr) (m c:Nat) (zs:List Int) (hx:a.eval x=.slice ad m c) (hz:zs.length=m) (hm:m≤1048576) (hsl:Sl .u64 w ad zs) (hbase:base≤w.heap.size)
 (h:∀ a' c' w',w'.ownsRow base 24 1 (.slice a' m c') m (zs.map (Value.int .u64))→w.grownBy w' (some g)→wpList Tryz.prog ops Q rest (a.put o.dst (.slice a' m c')) w'):wpList Tryz.prog ops Q (o :: rest) a w:=by
 obtain ⟨i0,hi,hz0,hz1,hz2⟩:=info_parts infoW
 cases ad with
 | none =>
  have hm0:m=0:=by
   rcases Nat.eq_zero_or_pos m with h0 | h0
   ·exact h0
   ·obtain ⟨b,off,e,_⟩:=hsl 0 (by omega)
    cases e
  subst hm0
  have hzn:zs=[]:=List.length_eq_zero_iff.1 hz
  subst hzn
  refine wpList_plain hgd fun K hK=>?_
  have hr:=run_append_room_src (P:=Tryz.prog) w 25 25 o.type 24 i0 Tryz.underlying25 hi g 0 0 0 (.slice none 0 c) 0 [] (Src.ofNil w Tryz.underlying25 c) (by omega) (fun j hj=>by simp at hj) (fun j hj=>by simp at hj)
  unfold Oper.wp execOp
  simp only [ho,resolve,invoke,builtin,Sem.run_bind,Sem.run_pure,Result.andThen_ok,List.map_toArray,List.map_cons,List.map_nil,hs,hx,hr]
  exact hK _ _ (h _ _ w hown ⟨rfl,rfl,rfl,Nat.le_refl _,fun _ _ _=>rfl⟩)
 | some A =>
  have hnews:∀ j u,(zs.map (Value.int .u64))[j]?=some u→w.cell? (A.add j)=some u:=by
   intro j u hu
   have hj:j < zs.length:=by
    rcases Nat.lt_or_ge j zs.length with h | h
    ·exact h
    ·rw [List.getElem?_eq_none (by simpa using h)] at hu;cases hu
   obtain ⟨b,off,e,_,hc⟩:=hsl j hj
   cases e
   rw [adds,hc]
   rw [List.getElem?_map,List.getElem?_eq_getElem hj] at hu
   rw [List.getD_eq_getElem?_getD,List.getElem?_eq_getElem hj]
   exact hu
  refine wpList_append_own _ hgd s x 25 ho base 24 i0 (.int .u64 0) 1 8 Tryz.underlying25 hi hz0 hz1 hz2 rfl (by decide) _ 0 [] hs hown A m c (zs.map (Value.int .u64)) hx (by rw [List.length_map,hz];omega) hnews (ints_oneCell _ _) (by unfold maxLen;omega) (by omega) hbase ?_
  intro v' w' h1 h2 h3
  simp only [Nat.zero_add,List.nil_append] at h1
  have hv:∃ a' c',v'=.slice a' m c':=by
   rcases h1.2 with ⟨e,e0⟩ | ⟨g',cap,cur,e,_⟩
   ·exact ⟨none,0,by rw [e,e0]⟩
   ·exact ⟨_,_,e⟩
  obtain ⟨a',c',rfl⟩:=hv
  exact h a' c' w' h1 h2

theorem own_empty64 (w:World) (base:Nat) (hb:base≤w.heap.size) (o:Obj) (ho:o=.cells #[] 24 (0,0)):(w.alloc o).ownsRow base 24 1 (.slice (some ⟨w.heap.size,0,none⟩) 0 0) 0 []:=by
 subst ho
 exact World.ownsRow_lit w #[] 0 hb (by unfold maxLen;omega) rfl

structure My (w:World) (r b:Nat) (T:TypeId) (rs cs:Array Value) (L:List FRow) (wr:World):Prop where
 row:wr.heap[b]?=some (.cells cs T (0,0))
 res:wr.heap[r]?=some (.cells rs T (0,0))
 fam:Fam (w.heap.size+1+1) wr.heap.size wr L
 below:Below w.heap.size w wr
 hb:w.heap.size≤b∧b < w.heap.size+1+1
 hr:w.heap.size≤r∧r < w.heap.size+1+1
 ne:r≠b

theorem My.put {w wr:World} {r b:Nat} {T:TypeId} {rs cs:Array Value} {L:List FRow} (h:My w r b T rs cs L wr) (i:Nat) (v:Value):My w r b T rs (cs.setIfInBounds i v) L (wr.setCell ⟨b,i,none⟩ v):=by
 have h1:=h.hb
 have h2:=h.hr
 have h3:=h.ne
 exact ⟨row_set h.row i v,row_far h.res ⟨b,i,none⟩ v h3,(h.fam.set ⟨b,i,none⟩ v (.inl (by dsimp only;omega))).low (Nat.le_refl _) (by rw [size_set];exact Nat.le_refl _),h.below.setCell (p:=⟨b,i,none⟩) (by dsimp only;omega) v,h1,h2,h3⟩

theorem My.lt {w wr:World} {r b:Nat} {T:TypeId} {rs cs:Array Value} {L:List FRow} (h:My w r b T rs cs L wr):w.heap.size+1+1≤wr.heap.size:=by
 have h1:=(Array.getElem?_eq_some_iff.1 h.row).1
 have h2:=(Array.getElem?_eq_some_iff.1 h.res).1
 have h3:=h.hb
 have h4:=h.hr
 have h5:=h.ne
 omega

theorem My.add {w wr wx:World} {r b:Nat} {T:TypeId} {rs cs:Array Value} {L:List FRow} {o:Obj} (h:My w r b T rs cs L wr) (q:FRow) {base g:Nat} (ho:wx.ownsRow base q.t 1 q.v q.n q.xs) (hbase:wr.heap.size=base) (gr:(wr.alloc o).grownBy wx (some g)) (hg:g=wr.heap.size):My w r b T rs cs (L ++ [q]) wx:=by
 subst hg
 subst hbase
 have hb:Below wr.heap.size wr wx:=Below.grown ((Below.refl _ _).alloc (Nat.le_refl _) o) gr (by simp) (fun k hk=>by simp at hk;omega)
 have h4:=h.lt
 exact ⟨dstays hb h.row,dstays hb h.res,(h.fam.below hb).snoc q _ wx.heap.size ho (Nat.le_refl _) h4 (Nat.le_refl _) hb.size,below_trans h.below hb,h.hb,h.hr,h.ne⟩

theorem My.add2 {w wr wx:World} {r b:Nat} {T:TypeId} {rs cs:Array Value} {L:List FRow} (h:My w r b T rs cs L wr) (q1 q2:FRow) (hf:Fam wr.heap.size wx.heap.size wx [q1,q2]) (hb:Below wr.heap.size wr wx):My w r b T rs cs (L ++ [q1,q2]) wx:=by
 have h4:=h.lt
 have hF:=h.fam.below hb
 have hs:=hb.size
 refine ⟨dstays hb h.row,dstays hb h.res,⟨fun q hq=>?_,fun q hq k e=>?_,List.pairwise_append.2 ⟨hF.ne,hf.ne,fun q hq t ht k e e2=>?_⟩⟩,below_trans h.below hb,h.hb,h.hr,h.ne⟩
 ·rcases List.mem_append.1 hq with hq | hq
  ·exact hF.own q hq
  ·exact own_low (hf.own q hq) (by omega)
 ·rcases List.mem_append.1 hq with hq | hq
  ·have:=hF.hi q hq k e
   omega
  ·exact hf.hi q hq k e
 ·have:=hF.hi q hq k e
  have:=((hf.own t ht).lt k e2).1
  omega

set_option maxRecDepth 100000 in
set_option maxHeartbeats 3200000 in
theorem l9Copy_any (M:MV) (A:MA) (w:World) (hl:MLen M) (hs:MSl w M A) :
 Calls Tryz.prog 25 #[.agg #[.int .u64 M.pc,.slice A.ax M.x.length A.cx,.int .i64 M.pr,.slice A.ac M.cs.length A.cc,.slice A.ar M.ram.length A.cr,.int .u64 M.d.t,.int .u64 M.d.cm,.bool M.d.so,.slice A.ai M.d.xs.length A.ci,.slice A.ao M.d.ys.length A.co,.int .i64 M.d.ir,.int .u64 M.hd,.bool M.hl,.bool M.wt]] w fun e w'=>∃ C:MA,e=.returned (.agg (mvc M C))∧Fam w.heap.size w'.heap.size w' (mvF M C)∧Below w.heap.size w w':=by
 have HSL:Hid (∀ W,Below w.heap.size w W→MSl W M A):=fun W hb=>hs.below hb
 have HLN:=dhid hl
 have H4:Hid (∀ w',Below w.heap.size w w'→Calls Tryz.prog 56 #[.agg #[.int .u64 M.d.t,.int .u64 M.d.cm,.bool M.d.so,.slice A.ai M.d.xs.length A.ci,.slice A.ao M.d.ys.length A.co,.int .i64 M.d.ir]] w' fun e w''=>∃ (b1:Option Addr) (d1:Nat) (b2:Option Addr) (d2:Nat),e=.returned (.agg #[.int .u64 M.d.t,.int .u64 M.d.cm,.bool M.d.so,.slice b1 M.d.xs.length d1,.slice b2 M.d.ys.length d2,.int .i64 M.d.ir])∧Fam w'.heap.size w''.heap.size w'' (devF b1 M.d.xs.length d1 M.d.xs b2 M.d.ys.length d2 M.d.ys)∧Below w'.heap.size w' w''):=fun w' hb=>l8Copy_any _ _ _ _ _ _ _ _ _ _ M.d.xs M.d.ys w' rfl rfl hl.xs hl.ys (hs.xs.below hb) (hs.ys.below hb)
 clear hl hs
 go_enter Tryz.func25,Tryz.ntmps25
 obtain ⟨r0,r1⟩:=rows2 (w:=w) (o1:=.cells #[.int .u64 M.pc,.slice A.ax M.x.length A.cx,.int .i64 M.pr,.slice A.ac M.cs.length A.cc,.slice A.ar M.ram.length A.cr,.int .u64 M.d.t,.int .u64 M.d.cm,.bool M.d.so,.slice A.ai M.d.xs.length A.ci,.slice A.ao M.d.ys.length A.co,.int .i64 M.d.ir,.int .u64 M.hd,.bool M.hl,.bool M.wt] 29) (o2:=.cells #[.int .u64 0,.slice none 0 0,.int .i64 0,.slice none 0 0,.slice none 0 0,.int .u64 0,.int .u64 0,.bool false,.slice none 0 0,.slice none 0 0,.int .i64 0,.int .u64 0,.bool false,.bool false] 29) (Below.refl _ _)
 have M0:Hid (My w (w.heap.size+1) w.heap.size 29 #[.int .u64 0,.slice none 0 0,.int .i64 0,.slice none 0 0,.slice none 0 0,.int .u64 0,.int .u64 0,.bool false,.slice none 0 0,.slice none 0 0,.int .i64 0,.int .u64 0,.bool false,.bool false] #[.int .u64 M.pc,.slice A.ax M.x.length A.cx,.int .i64 M.pr,.slice A.ac M.cs.length A.cc,.slice A.ar M.ram.length A.cr,.int .u64 M.d.t,.int .u64 M.d.cm,.bool M.d.so,.slice A.ai M.d.xs.length A.ci,.slice A.ao M.d.ys.length A.co,.int .i64 M.d.ir,.int .u64 M.hd,.bool M.hl,.bool M.wt] [] ((w.alloc (.cells #[.int .u64 M.pc,.slice A.ax M.x.length A.cx,.int .i64 M.pr,.slice A.ac M.cs.length A.cc,.slice A.ar M.ram.length A.cr,.int .u64 M.d.t,.int .u64 M.d.cm,.bool M.d.so,.slice A.ai M.d.xs.length A.ci,.slice A.ao M.d.ys.length A.co,.int .i64 M.d.ir,.int .u64 M.hd,.bool M.hl,.bool M.wt] 29)).alloc (.cells #[.int .u64 0,.slice none 0 0,.int .i64 0,.slice none 0 0,.slice none 0 0,.int .u64 0,.int .u64 0,.bool false,.slice none 0 0,.slice none 0 0,.int .i64 0,.int .u64 0,.bool false,.bool false] 29))):=⟨r0,r1,Fam.nil _ _ _,((Below.refl _ _).alloc (Nat.le_refl _) _).alloc (by simp) _,by omega,by omega,by omega⟩
 clear r0 r1
 have hE:=own_empty64 ((w.alloc (.cells #[.int .u64 M.pc,.slice A.ax M.x.length A.cx,.int .i64 M.pr,.slice A.ac M.cs.length A.cc,.slice A.ar M.ram.length A.cr,.int .u64 M.d.t,.int .u64 M.d.cm,.bool M.d.so,.slice A.ai M.d.xs.length A.ci,.slice A.ao M.d.ys.length A.co,.int .i64 M.d.ir,.int .u64 M.hd,.bool M.hl,.bool M.wt] 29)).alloc (.cells #[.int .u64 0,.slice none 0 0,.int .i64 0,.slice none 0 0,.slice none 0 0,.int .u64 0,.int .u64 0,.bool false,.slice none 0 0,.slice none 0 0,.int .i64 0,.int .u64 0,.bool false,.bool false] 29)) ((w.alloc (.cells #[.int .u64 M.pc,.slice A.ax M.x.length A.cx,.int .i64 M.pr,.slice A.ac M.cs.length A.cc,.slice A.ar M.ram.length A.cr,.int .u64 M.d.t,.int .u64 M.d.cm,.bool M.d.so,.slice A.ai M.d.xs.length A.ci,.slice A.ao M.d.ys.length A.co,.int .i64 M.d.ir,.int .u64 M.hd,.bool M.hl,.bool M.wt] 29)).alloc (.cells #[.int .u64 0,.slice none 0 0,.int .i64 0,.slice none 0 0,.slice none 0 0,.int .u64 0,.int .u64 0,.bool false,.slice none 0 0,.slice none 0 0,.int .i64 0,.int .u64 0,.bool false,.bool false] 29)).heap.size (Nat.le_refl _) (.cells #[] 24 (0,0)) rfl
 rw [World.size_alloc,World.size_alloc] at hE
 go_wp2_with (first
  | (at_builtin;refine wpList_app64 rfl (.tmp 3) (.tmp 5) rfl _ _ rfl hE A.ax M.x.length A.cx M.x rfl rfl HLN.out.x (HSL.out _ (M0.out.below.alloc M0.out.below.size _)).x (by simp) ?_;intro kx lx w1 ow1 gr1;have M1:=dhid (M0.out.add (wRow kx M.x.length lx M.x) ow1 (by simp) gr1 (by simp));clear ow1 gr1;obtain ⟨p0,p1,p2,p3,p4,p5,p6,p7,p8,p9,p10,p11,p12,p13⟩:=cells14 M1.out.row;obtain ⟨f0,f1,f2,f3,f4,f5,f6,f7,f8,f9,f10,f11,f12,f13⟩:=froz14 M1.out.row;have M2:Hid (My w (w.heap.size+1) w.heap.size 29 #[.int .u64 0,.slice none 0 0,.int .i64 0,.slice none 0 0,.slice none 0 0,.int .u64 0,.int .u64 0,.bool false,.slice none 0 0,.slice none 0 0,.int .i64 0,.int .u64 0,.bool false,.bool false] #[.int .u64 M.pc,.slice kx M.x.length lx,.int .i64 M.pr,.slice A.ac M.cs.length A.cc,.slice A.ar M.ram.length A.cr,.int .u64 M.d.t,.int .u64 M.d.cm,.bool M.d.so,.slice A.ai M.d.xs.length A.ci,.slice A.ao M.d.ys.length A.co,.int .i64 M.d.ir,.int .u64 M.hd,.bool M.hl,.bool M.wt] [wRow kx M.x.length lx M.x] (w1.setCell ⟨w.heap.size,1,none⟩ (.slice kx M.x.length lx))):=M1.out.put 1 _;have hE2:=own_empty64 (w1.setCell ⟨w.heap.size,1,none⟩ (.slice kx M.x.length lx)) w1.heap.size (by rw [size_set];exact Nat.le_refl _) (.cells #[] 24 (0,0)) rfl;rw [size_set] at hE2;have n3:=fun o=>(cells14 (row_al8 M2.out.row o)).2.2.2.1)
  | (at_builtin;refine wpList_app64 rfl (.tmp 8) (.tmp 10) rfl _ _ rfl hE2 A.ac M.cs.length A.cc M.cs rfl rfl HLN.out.cs (HSL.out _ (M2.out.below.alloc M2.out.below.size _)).cs (by rw [World.size_alloc,size_set];omega) ?_;intro kc lc w2 ow2 gr2;have M3:=dhid (M2.out.add (wRow kc M.cs.length lc M.cs) ow2 (by rw [size_set]) gr2 (by rw [size_set]));clear ow2 gr2 n3;clear p0 f0 p1 f1 p2 f2 p3 f3 p4 f4 p5 f5 p6 f6 p7 f7 p8 f8 p9 f9 p10 f10 p11 f11 p12 f12 p13 f13;obtain ⟨p0,p1,p2,p3,p4,p5,p6,p7,p8,p9,p10,p11,p12,p13⟩:=cells14 M3.out.row;obtain ⟨f0,f1,f2,f3,f4,f5,f6,f7,f8,f9,f10,f11,f12,f13⟩:=froz14 M3.out.row;have M4:Hid (My w (w.heap.size+1) w.heap.size 29 #[.int .u64 0,.slice none 0 0,.int .i64 0,.slice none 0 0,.slice none 0 0,.int .u64 0,.int .u64 0,.bool false,.slice none 0 0,.slice none 0 0,.int .i64 0,.int .u64 0,.bool false,.bool false] #[.int .u64 M.pc,.slice kx M.x.length lx,.int .i64 M.pr,.slice kc M.cs.length lc,.slice A.ar M.ram.length A.cr,.int .u64 M.d.t,.int .u64 M.d.cm,.bool M.d.so,.slice A.ai M.d.xs.length A.ci,.slice A.ao M.d.ys.length A.co,.int .i64 M.d.ir,.int .u64 M.hd,.bool M.hl,.bool M.wt] [wRow kx M.x.length lx M.x,wRow kc M.cs.length lc M.cs] (w2.setCell ⟨w.heap.size,3,none⟩ (.slice kc M.cs.length lc))):=M3.out.put 3 _;have hE3:=own_empty8 (w2.setCell ⟨w.heap.size,3,none⟩ (.slice kc M.cs.length lc)) w2.heap.size (by rw [size_set];exact Nat.le_refl _) (.cells #[] 5 (0,0)) rfl;rw [size_set] at hE3;have n4:=fun o=>(cells14 (row_al8 M4.out.row o)).2.2.2.2.1)
  | (at_builtin;refine wpList_app8 rfl (.tmp 13) (.tmp 15) rfl _ _ rfl hE3 A.ar M.ram.length A.cr M.ram rfl rfl HLN.out.ram (HSL.out _ (M4.out.below.alloc M4.out.below.size _)).ram (by rw [World.size_alloc,size_set];omega) ?_;intro kr lr w3 ow3 gr3;have M5:=dhid (M4.out.add (bRow kr M.ram.length lr M.ram) ow3 (by rw [size_set]) gr3 (by rw [size_set]));clear ow3 gr3 n4;clear p0 f0 p1 f1 p2 f2 p3 f3 p4 f4 p5 f5 p6 f6 p7 f7 p8 f8 p9 f9 p10 f10 p11 f11 p12 f12 p13 f13;obtain ⟨p0,p1,p2,p3,p4,p5,p6,p7,p8,p9,p10,p11,p12,p13⟩:=cells14 M5.out.row;obtain ⟨f0,f1,f2,f3,f4,f5,f6,f7,f8,f9,f10,f11,f12,f13⟩:=froz14 M5.out.row;have M6:Hid (My w (w.heap.size+1) w.heap.size 29 #[.int .u64 0,.slice none 0 0,.int .i64 0,.slice none 0 0,.slice none 0 0,.int .u64 0,.int .u64 0,.bool false,.slice none 0 0,.slice none 0 0,.int .i64 0,.int .u64 0,.bool false,.bool false] #[.int .u64 M.pc,.slice kx M.x.length lx,.int .i64 M.pr,.slice kc M.cs.length lc,.slice kr M.ram.length lr,.int .u64 M.d.t,.int .u64 M.d.cm,.bool M.d.so,.slice A.ai M.d.xs.length A.ci,.slice A.ao M.d.ys.length A.co,.int .i64 M.d.ir,.int .u64 M.hd,.bool M.hl,.bool M.wt] [wRow kx M.x.length lx M.x,wRow kc M.cs.length lc M.cs,bRow kr M.ram.length lr M.ram] (w3.setCell ⟨w.heap.size,4,none⟩ (.slice kr M.ram.length lr))):=M5.out.put 4 _;obtain ⟨-,-,-,-,-,z5,z6,z7,z8,z9,z10,-,-,-⟩:=cells14 M6.out.row))
 refine (H4.out _ M6.out.below).mono ?_
 rintro e w4 ⟨ki,li,ko,lo,rfl,fm4,hb4⟩
 have M7:=dhid (M6.out.add2 (bRow ki M.d.xs.length li M.d.xs) (bRow ko M.d.ys.length lo M.d.ys) fm4 hb4)
 clear fm4 hb4 z5 z6 z7 z8 z9 z10
 clear p0 f0 p1 f1 p2 f2 p3 f3 p4 f4 p5 f5 p6 f6 p7 f7 p8 f8 p9 f9 p10 f10 p11 f11 p12 f12 p13 f13
 obtain ⟨p0,p1,p2,p3,p4,p5,p6,p7,p8,p9,p10,p11,p12,p13⟩:=cells14 M7.out.row
 obtain ⟨f0,f1,f2,f3,f4,f5,f6,f7,f8,f9,f10,f11,f12,f13⟩:=froz14 M7.out.row
 obtain ⟨r0,r1,r2,r3,r4,r5,r6,r7,r8,r9,r10,r11,r12,r13⟩:=cells14 M7.out.res
 obtain ⟨y0,y1,y2,y3,y4,y5,y6,y7,y8,y9,y10,y11,y12,y13⟩:=froz14 M7.out.res
 go_wp2_with fail
 have M8:=((((((M7.out.put 5 (.int .u64 M.d.t)).put 6 (.int .u64 M.d.cm)).put 7 (.bool M.d.so)).put 8 (.slice ki M.d.xs.length li)).put 9 (.slice ko M.d.ys.length lo)).put 10 (.int .i64 M.d.ir))
 have T1:=row_put14 M8.res (.int .u64 M.pc) (.slice kx M.x.length lx) (.int .i64 M.pr) (.slice kc M.cs.length lc) (.slice kr M.ram.length lr) (.int .u64 M.d.t) (.int .u64 M.d.cm) (.bool M.d.so) (.slice ki M.d.xs.length li) (.slice ko M.d.ys.length lo) (.int .i64 M.d.ir) (.int .u64 M.hd) (.bool M.hl) (.bool M.wt)
 exact bodyPost_ret (results_cell_row Tryz.results25 _ _ _ _ _ _ _ rfl T1 Tryz.underlying29 rfl mac_size) rfl ⟨⟨kx,lx,kc,lc,kr,lr,ki,li,ko,lo⟩,rfl,(M8.fam.put14 (w.heap.size+1) (.inl (by omega)) (.int .u64 M.pc) (.slice kx M.x.length lx) (.int .i64 M.pr) (.slice kc M.cs.length lc) (.slice kr M.ram.length lr) (.int .u64 M.d.t) (.int .u64 M.d.cm) (.bool M.d.so) (.slice ki M.d.xs.length li) (.slice ko M.d.ys.length lo) (.int .i64 M.d.ir) (.int .u64 M.hd) (.bool M.hl) (.bool M.wt)).low (by omega) (by simp only [size_set];exact Nat.le_refl _),below_put14 M8.below (by omega) (.int .u64 M.pc) (.slice kx M.x.length lx) (.int .i64 M.pr) (.slice kc M.cs.length lc) (.slice kr M.ram.length lr) (.int .u64 M.d.t) (.int .u64 M.d.cm) (.bool M.d.so) (.slice ki M.d.xs.length li) (.slice ko M.d.ys.length lo) (.int .i64 M.d.ir) (.int .u64 M.hd) (.bool M.hl) (.bool M.wt)⟩

end Go.Proofs.YtkhofppmeoooaaaGreatDoor
