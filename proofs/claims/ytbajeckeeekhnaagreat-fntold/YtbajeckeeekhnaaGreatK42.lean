/- Own lemmas. -/
import Derived.Test.YtbajeckeeekhnaaGreatK41
import Derived.Deep.Cut
import Derived.Deep.RegionWith
namespace Go.Proofs.YtbajeckeeekhnaaGreat
open Go.RowKit
set_option linter.unusedVariables false

theorem Cs.put6 {w0 w wr:World} {g:Nat} {a:Option Addr} {n cap:Nat} (h:Cs w0 g a n cap w wr) (k:Nat) (hk:w.heap.size≤k) (hg:g≠k) (hw0:w0.heap.size≤k) (x0 x1 x2 x3 x4 x5:Value):Cs w0 g a n cap w (put6 wr k x0 x1 x2 x3 x4 x5) :=
 (((((h.setc k 0 x0 hk hg hw0).setc k 1 x1 hk hg hw0).setc k 2 x2 hk hg hw0).setc k 3 x3 hk hg hw0).setc k 4 x4 hk hg hw0).setc k 5 x5 hk hg hw0

theorem allReady_push {md:Region.Mode} {ops:Array Oper} {Q:Exit→Act→World→Prop} {fuel:Nat} {listed:Array Bool} {a:Act} {w w':World} {i:Nat} {o:Oper} {rs:List Nat} (ho:ops[i]?=some o) (hw:Region.wanted o (yielded ops a.tmps)=true) (s x:Operand) (hop:o.op=.call { callee:=.builtin .append,args:=#[s,x],argTypes:=#[22,22] }) (v v2 v':Value) (hs:a.eval s=v) (hx:a.eval x=v2) (hap:(Builtin.append_ #[22,22] o.type #[v,v2]).run Tryz.prog w=.ok v' w')
 (h:wpAny Tryz.prog md ops Q fuel (listed.setIfInBounds i true) (a.put o.dst v') w') (hr:AllReady Tryz.prog md ops Q fuel listed a w rs):AllReady Tryz.prog md ops Q fuel listed a w (i :: rs):=by
 refine AllReady.cons ho (fun K hK=>?_) hr
 rw [if_pos hw]
 unfold Oper.wp execOp
 simp only [hop,resolve,invoke,builtin,Sem.run_bind,Sem.run_pure,Result.andThen_ok,List.map_toArray,List.map_cons,List.map_nil,hs,hx,hap]
 exact hK _ _ h

theorem made8 {w w':World} {m:Nat} (hown:w'.ownsRow w.heap.size 5 1 (.slice (some ⟨w.heap.size,0,none⟩) m m) m (madeCells (Value.int .u8 0).cells (m*1)).toList):w'.ownsRow w.heap.size 5 1 (.slice (some ⟨w.heap.size,0,none⟩) m m) m ((List.replicate m (0:Int)).map (Value.int .u8)):=by
 rw [List.map_replicate,← toList_madeCells_one];simpa [Value.cells] using hown

theorem Dx.out {w0 w wr:World} {g:Nat} {a:Option Addr} {n cap b:Nat} {D:DV} {a1:Option Addr} {c1:Nat} {a2:Option Addr} {c2:Nat} (h:Dx w0 g a n cap w w.heap.size b D a1 c1 a2 c2 wr) (x0 x1 x2 x3 x4 x5:Value):Fam w.heap.size (put6 wr w.heap.size x0 x1 x2 x3 x4 x5).heap.size (put6 wr w.heap.size x0 x1 x2 x3 x4 x5) (dvF D a1 c1 a2 c2)∧Cs w0 g a n cap w (put6 wr w.heap.size x0 x1 x2 x3 x4 x5):=by
 have hr:=h.c.rlt
 have hg:=h.c.glt
 have h0:=h.c.cu.1.new
 exact ⟨(h.fam.put6 w.heap.size (.inl (by omega)) x0 x1 x2 x3 x4 x5).low (by omega) (by rw [size_put6];exact Nat.le_refl _),h.c.cu.put6 _ (Nat.le_refl _) (by omega) (by omega) _ _ _ _ _ _⟩

theorem Fits.up {D:DV} {k1 k2 m1 m2:Nat} (h:Fits D k1 k2) (h1:k1≤m1) (h2:k2≤m2):Fits D m1 m2:=⟨h.t,h.cm,h.ir,h.by_,Nat.le_trans h.l1 h1,Nat.le_trans h.l2 h2⟩

theorem Fits.pushIn {D:DV} {k1 k2:Nat} (h:Fits D k1 k2) (y:Int):Fits ⟨D.t,D.cm,D.so,D.xs ++ [IntKind.u8.wrap y],D.ys,D.ir⟩ (k1+1) k2:=by
 refine ⟨h.t,h.cm,h.ir,⟨fun z hz=>?_,h.by_.2⟩,?_,h.l2⟩
 ·rcases List.mem_append.1 hz with hz | hz
  ·exact h.by_.1 z hz
  ·rw [List.mem_singleton.1 hz]
   exact wf8 (by rw [IntKind.wrap_u8];omega) (by rw [IntKind.wrap_u8];omega)
 ·have:=h.l1
  simp
  omega

theorem Fits.pushOut {D:DV} {k1 k2:Nat} (h:Fits D k1 k2) (y:Int):Fits ⟨D.t,D.cm,D.so,D.xs,D.ys ++ [IntKind.u8.wrap y],D.ir⟩ k1 (k2+1):=by
 refine ⟨h.t,h.cm,h.ir,⟨h.by_.1,fun z hz=>?_⟩,h.l1,?_⟩
 ·rcases List.mem_append.1 hz with hz | hz
  ·exact h.by_.2 z hz
  ·rw [List.mem_singleton.1 hz]
   exact wf8 (by rw [IntKind.wrap_u8];omega) (by rw [IntKind.wrap_u8];omega)
 ·have:=h.l2
  simp
  omega

theorem Fits.newIn {D:DV} {k1 k2:Nat} (h:Fits D k1 k2) (m:Nat):Fits ⟨D.t,D.cm,D.so,List.replicate m 0,D.ys,D.ir⟩ m k2:=⟨h.t,h.cm,h.ir,⟨zeros_wf m,h.by_.2⟩,by simp,h.l2⟩

theorem Fits.newOut {D:DV} {k1 k2:Nat} (h:Fits D k1 k2) (m:Nat):Fits ⟨D.t,D.cm,D.so,D.xs,List.replicate m 0,D.ir⟩ k1 m:=⟨h.t,h.cm,h.ir,⟨h.by_.1,zeros_wf m⟩,h.l1,by simp⟩

set_option maxRecDepth 100000 in
set_option maxHeartbeats 6400000 in
theorem l8Draw_c {w0:World} {g:Nat} {a:Option Addr} {n cap:Nat} {zs:List Int} (hcd:Code w0 a n zs) (w:World) (hc:Cur w0 w g a n cap) :
 Calls Tryz.prog 38 #[.pointer (some ⟨g,0,none⟩)] w fun e w'=>∃ (D:DV) (a1:Option Addr) (c1:Nat) (a2:Option Addr) (c2:Nat),e=.returned (.agg (dvc D a1 c1 a2 c2))∧Hid (Fits D 16 4096)∧Hid (Fam w.heap.size w'.heap.size w' (dvF D a1 c1 a2 c2))∧Hid (Cs w0 g a n cap w w'):=by
 have HD:Hid (Code w0 a n zs):=hcd
 have HC:Hid (Cur w0 w g a n cap):=hc
 have hgl:=dhid hc.lt
 clear hcd hc
 go_enter Tryz.func38,Tryz.ntmps38
 go_wp2_with fail
 refine (l1Below_c HD.out 50 (by omega) _ (Cs.alloc HC.out _).1).mono ?_
 rintro e w1 ⟨x1,rfl,hx1,hs1⟩
 have H1:=dhid hx1
 have C1:=dhid ((Cs.alloc HC.out _).trans hs1.out)
 clear hx1
 go_wp2_with fail
 refine (l1Below_c HD.out 50 (by omega) _ C1.out.1).mono ?_
 rintro e w2 ⟨x2,rfl,hx2,hs2⟩
 have H2:=dhid hx2
 clear hx2
 go_wp2_with fail
 refine (l1Once_c HD.out 4 (by omega) _ hs2.out.1).mono ?_
 rintro e w3 ⟨so,rfl,hs3⟩
 go_wp2_with fail
 refine (l1Below_c HD.out 2 (by omega) _ hs3.out.1).mono ?_
 rintro e w4 ⟨x4,rfl,hx4,hs4⟩
 have H4:=dhid hx4
 clear hx4
 go_wp2_with fail
 have Z4:=dhid (show w.heap.size < w4.heap.size by have h1:=hs1.out.2.size;have h2:=hs2.out.2.size;have h3:=hs3.out.2.size;have h4:=hs4.out.2.size;rw [World.size_alloc] at h1;omega)
 have RR:=dhid (hs4.out.keep (hs3.out.keep (hs2.out.keep (hs1.out.keep (heap_alloc_new w _) (Nat.ne_of_gt hgl.out)) (Nat.ne_of_gt hgl.out)) (Nat.ne_of_gt hgl.out)) (Nat.ne_of_gt hgl.out))
 have C4:=dhid (C1.out.trans (hs2.out.trans (hs3.out.trans hs4.out)))
 have DX:Hid (Dx w0 g a n cap w w.heap.size w4.heap.size ⟨IntKind.u64.wrap x1,IntKind.u64.wrap x2,so,[],[],x4⟩ none 0 none 0 (w4.alloc (.cells #[.int .u64 (IntKind.u64.wrap x1),.int .u64 (IntKind.u64.wrap x2),.bool so,.slice none 0 0,.slice none 0 0,.int .i64 x4] 27))) :=
  ⟨⟨heap_alloc_new _ _,row_al8 RR.out _,C4.out.trans (Cs.alloc C4.out.1 _),hgl.out,Z4.out,Nat.le_refl _⟩,fam_zero _ _ _⟩
 have FT:Hid (Fits ⟨IntKind.u64.wrap x1,IntKind.u64.wrap x2,so,[],[],x4⟩ 0 0):=⟨U_wrap _,U_wrap _,by have:=H4.out;dsimp only;omega,⟨fun y hy=>(nomatch hy),fun y hy=>(nomatch hy)⟩,Nat.le_refl _,Nat.le_refl _⟩
 clear hs1 hs2 hs3 hs4 C1 C4 RR H1 H2 H4
 refine (l1Once_c HD.out 6 (by omega) _ DX.out.cur).mono ?_
 rintro e w5 ⟨c5,rfl,hs5⟩
 have DX5:=dhid (DX.out.next hs5.out)
 clear DX hs5
 go_upto_if 18 with fail
 go_cut [] from 6 (fun wc=>∃ D:DV,Hid (Dx w0 g a n cap w w.heap.size w4.heap.size D none 0 none 0 wc)∧Hid (Fits D 0 0))
 case first =>
  have k1:=(cells6 DX5.out.c.row).2.1
  have z1:=froz DX5.out.c.row 1
  cases c5 with
  | true =>
    go_wp2_with fail
    go_meet
    exact ⟨_,DX5.out.cmp _,⟨FT.out.t,(show U 18446744073709551615 from ⟨by decide,by decide⟩),FT.out.ir,FT.out.by_,FT.out.l1,FT.out.l2⟩⟩
  | false =>
    go_wp2_with fail
    go_meet
    exact ⟨_,DX5,FT⟩
 case rest =>
  obtain ⟨D,DX,FT⟩:=hcut
  go_wp2_with fail
  refine (l1Below_c HD.out 5 (by omega) _ DX.out.cur).mono ?_
  rintro e w6 ⟨x,rfl,hx,hs6⟩
  obtain ⟨q,rfl⟩:=Int.eq_ofNat_of_zero_le hx.1
  have DX6:=dhid (DX.out.next hs6.out)
  have hq:q≤4:=by have:=hx.2;omega
  have HBY:Hid (∀ w',Cur w0 w' g a n cap→Calls Tryz.prog 42 #[.pointer (some ⟨g,0,none⟩)] w' fun e w''=>∃ x:Int,e=.returned (.int .i64 x)∧(0≤x∧x≤255)∧Hid (Cs w0 g a n cap w' w'')):=fun w' hc=>l1Byte_c HD.out w' hc
  clear DX hs6 hx DX5
  go_wp2_with fail
  go_loopw [4] (fun i wr=>∃ (q:Nat) (D:DV) (a1:Option Addr) (c1:Nat),i=.int .i64 q∧q≤4∧Hid (Dx w0 g a n cap w w.heap.size w4.heap.size D a1 c1 none 0 wr)∧Hid (Fits D (4 - q) 0)) (fun i _=>(intOf i).toNat)
  case atStart=>exact ⟨q,D,none,0,rfl,hq,DX6,FT.out.up (Nat.zero_le _) (Nat.le_refl _)⟩
  case round =>
   clear DX6 FT hq
   obtain ⟨q,D,a1,c1,rfl,hq,DX,FT⟩:=hrel
   rcases Nat.eq_zero_or_pos q with h0 | h0
   ·subst h0
    have FT1:=dhid (FT.out.up (show 4 - 0≤4 by omega) (Nat.le_refl 0))
    clear FT hq
    go_wp2_with fail
    refine (l1Below_c HD.out 5 (by omega) _ DX.out.cur).mono ?_
    rintro e w7 ⟨x,rfl,hx,hs7⟩
    obtain ⟨q,rfl⟩:=Int.eq_ofNat_of_zero_le hx.1
    have DX7:=dhid (DX.out.next hs7.out)
    have hq:q≤4:=by have:=hx.2;omega
    clear DX hs7 hx
    go_wp2_with fail
    go_loopw [5] (fun i wr=>∃ (q:Nat) (D:DV) (a1:Option Addr) (c1:Nat) (a2:Option Addr) (c2:Nat),i=.int .i64 q∧q≤4∧Hid (Dx w0 g a n cap w w.heap.size w4.heap.size D a1 c1 a2 c2 wr)∧Hid (Fits D 4 (4 - q))) (fun i _=>(intOf i).toNat)
    case atStart=>exact ⟨q,D,a1,c1,none,0,rfl,hq,DX7,FT1.out.up (Nat.le_refl _) (Nat.zero_le _)⟩
    case round =>
     clear DX7 FT1 hq
     obtain ⟨q,D,a1,c1,a2,c2,rfl,hq,DX,FT⟩:=hrel
     rcases Nat.eq_zero_or_pos q with h0 | h0
     ·subst h0
      have FT1:=dhid (FT.out.up (Nat.le_refl 4) (show 4 - 0≤4 by omega))
      clear FT hq
      obtain ⟨i0,hi,hz0,hz1,hz2⟩:=info_parts Tryz.info5
      have hb2:i0.bytes*16≤281474976710656:=by rw [hz2];omega
      have hb3:16≤maxLen:=by unfold maxLen;omega
      have hc2:i0.bytes*4096≤281474976710656:=by rw [hz2];omega
      have hc3:4096≤maxLen:=by unfold maxLen;omega
      go_wp2_with fail
      refine (l1Once_c HD.out 30 (by omega) _ DX.out.cur).mono ?_
      rintro e w8 ⟨c8,rfl,hs8⟩
      have DX8:=dhid (DX.out.next hs8.out)
      clear DX hs8
      go_upto_if 49 with fail
      go_cut [] from 6 (fun wc=>∃ (D:DV) (a1:Option Addr) (c1:Nat) (a2:Option Addr) (c2:Nat),Hid (Dx w0 g a n cap w w.heap.size w4.heap.size D a1 c1 a2 c2 wc)∧Hid (Fits D 16 4))
      case first =>
       cases c8 with
       | true =>
         go_wp2_with (first | (at_make;refine wpList_make_full _ rfl (.const (.int .i64 16)) (.const (.int .i64 16)) 22 rfl w8.heap.size 5 i0 (.int .u8 0) 1 Tryz.underlying22 hi hz0 hz1 .i64 .i64 _ _ 16 rfl rfl rfl rfl hb2 hb3 (Nat.le_refl _) ?_;intro wm hown hgrow;obtain ⟨k3,z3,dz⟩:=DX8.out.newIn (some ⟨w8.heap.size,0,none⟩) 16 16 (List.replicate 16 0) (by simp) (made8 hown) ((Below.refl _ _).grown hgrow (Nat.le_refl _) (by intro k h;cases h));have DZ:=dhid dz;clear hown hgrow dz))
         go_meet
         exact ⟨_,_,_,_,_,DZ,(FT1.out.newIn 16).up (Nat.le_refl _) (Nat.le_refl _)⟩
       | false =>
         go_wp2_with fail
         go_meet
         exact ⟨_,_,_,_,_,DX8,FT1.out.up (by omega) (Nat.le_refl _)⟩
      case rest =>
       clear DX8 FT1
       obtain ⟨D,a1,c1,a2,c2,DX,FT⟩:=hcut
       go_wp2_with fail
       refine (l1Once_c HD.out 60 (by omega) _ DX.out.cur).mono ?_
       rintro e w9 ⟨c9,rfl,hs9⟩
       have DX9:=dhid (DX.out.next hs9.out)
       clear DX hs9
       go_upto_if 53 with fail
       go_cut [] from 6 (fun wc=>∃ (D:DV) (a1:Option Addr) (c1:Nat) (a2:Option Addr) (c2:Nat),Hid (Dx w0 g a n cap w w.heap.size w4.heap.size D a1 c1 a2 c2 wc)∧Hid (Fits D 16 4096))
       case first =>
        cases c9 with
        | true =>
          go_wp2_with (first | (at_make;refine wpList_make_full _ rfl (.const (.int .i64 4096)) (.const (.int .i64 4096)) 22 rfl w9.heap.size 5 i0 (.int .u8 0) 1 Tryz.underlying22 hi hz0 hz1 .i64 .i64 _ _ 4096 rfl rfl rfl rfl hc2 hc3 (Nat.le_refl _) ?_;intro wm hown hgrow;obtain ⟨k3,z3,dz⟩:=DX9.out.newOut (some ⟨w9.heap.size,0,none⟩) 4096 4096 (List.replicate 4096 0) (by rw [List.length_replicate]) (made8 hown) ((Below.refl _ _).grown hgrow (Nat.le_refl _) (by intro k h;cases h));have DZ:=dhid dz;clear hown hgrow dz))
          go_meet
          exact ⟨_,_,_,_,_,DZ,FT.out.newOut 4096⟩
        | false =>
          go_wp2_with fail
          go_meet
          exact ⟨_,_,_,_,_,DX9,FT.out.up (Nat.le_refl _) (by omega)⟩
       case rest =>
        clear DX9 FT
        obtain ⟨D,a1,c1,a2,c2,DX,FT⟩:=hcut
        obtain ⟨p0,p1,p2,p3,p4,p5⟩:=cells6 DX.out.c.row
        obtain ⟨s0,s1,s2,s3,s4,s5⟩:=cells6 DX.out.c.res
        obtain ⟨y0,y1,y2,y3,y4,y5⟩:=froz6 DX.out.c.res
        have OUT:=dhid (DX.out.out (.int .u64 D.t) (.int .u64 D.cm) (.bool D.so) (.slice a1 D.xs.length c1) (.slice a2 D.ys.length c2) (.int .i64 D.ir))
        have RES:=dhid DX.out.c.res
        have nd1:¬ w4.heap.size=w.heap.size:=by have:=Z4.out;omega
        have nd2:¬ w.heap.size=w4.heap.size:=by have:=Z4.out;omega
        clear DX
        go_wp2_with fail
        exact bodyPost_ret (results_cell_row Tryz.results38 _ _ _ _ _ _ _ rfl (row_put6 RES.out _ _ _ _ _ _) Tryz.underlying27 rfl dev_size) rfl ⟨D,a1,c1,a2,c2,rfl,FT,OUT.out.1,OUT.out.2⟩
     ·have dq:decide (0 < q)=true:=by simp;omega
      obtain ⟨p,rfl⟩:∃ p,q=p+1:=⟨q - 1,by omega⟩
      have k3:=(cells6 DX.out.c.row).2.2.2.2.1
      have hl:D.ys.length≤1048576:=by have:=FT.out.l2;omega
      go_wp2_with fail
      refine wp_region_any (by kernel_rfl) ?_
      change wpAny _ _ _ _ _ _ _ (World.drew _)
      refine wpAny_take (i:=0) (v:=.pointer (some ⟨w4.heap.size,4,none⟩)) rfl (by kernel_rfl) (by kernel_rfl) (by kernel_rfl) (fun _ _ _ h=>h) (Or.inl ⟨by rfl,?_⟩) ?_
      ·intro w'
       go_simp
      refine wpAny_take (i:=2) (v:=.pointer (some ⟨g,0,none⟩)) rfl (by kernel_rfl) (by kernel_rfl) (by kernel_rfl) (fun _ _ _ h=>h) (Or.inl ⟨by rfl,?_⟩) ?_
      ·intro w'
       go_simp
      refine wpAny_ready (rs:=[1,3]) (by kernel_rfl) (by simp) ?_
      refine AllReady.cons rfl (fun K hK=>?_) (AllReady.cons rfl (fun K hK=>?_) AllReady.nil)
      ·go_simp
       refine hK _ _ ?_
       clear hK
       refine wpAny_ready (rs:=[3]) (by kernel_rfl) (by simp) ?_
       refine AllReady.cons rfl (fun K hK=>?_) AllReady.nil
       go_simp
       refine (HBY.out _ DX.out.drew.cur).mono ?_
       rintro e wy ⟨y,rfl,hy,hsy⟩
       have M:=dhid (DX.out.drew.next hsy.out)
       clear hy hsy
       have k4:=(cells6 M.out.c.row).2.2.2.2.1
       have k4':=fun o=>(cells6 (row_al8 M.out.c.row o)).2.2.2.2.1
       obtain ⟨f1,q1,wz,hap,k5,z5,dz⟩:=M.out.pushOut hl (IntKind.u8.wrap y) 22
       have DZ:=dhid dz
       have HAP:=dhid hap
       clear dz hap
       refine hK _ _ ?_
       clear hK
       refine wpAny_take (i:=4) (v:=.int .u8 (IntKind.u8.wrap y)) rfl (by kernel_rfl) (by kernel_rfl) (by kernel_rfl) (fun _ _ _ h=>h) (Or.inl ⟨by rfl,?_⟩) ?_
       ·intro w'
        go_simp
       refine wpAny_ready (rs:=[5]) (by kernel_rfl) (by simp) ?_
       refine AllReady.cons rfl (fun K hK=>?_) AllReady.nil
       go_simp
       refine hK _ _ ?_
       clear hK
       refine wpAny_ready (rs:=[6]) (by kernel_rfl) (by simp) ?_
       refine allReady_push rfl rfl (.tmp 41) (.tmp 45) rfl _ _ _ rfl rfl HAP.out ?_ AllReady.nil
       simp only [Act.put]
       refine wpAny_take (i:=7) (v:=.pointer (some ⟨w4.heap.size,4,none⟩)) rfl (by kernel_rfl) (by kernel_rfl) (by kernel_rfl) (fun _ _ _ h=>h) (Or.inl ⟨by rfl,?_⟩) ?_
       ·intro w'
        go_simp
       refine wpAny_ready (rs:=[8]) (by kernel_rfl) (by simp) ?_
       refine AllReady.cons rfl (fun K hK=>?_) AllReady.nil
       go_simp
       refine hK _ _ ?_
       clear hK
       refine wpAny_done (by kernel_rfl) ?_ _
       go_wp2_with fail
       go_roundw
       case rel=>exact ⟨p,_,_,_,_,_,by go_num,by omega,DZ,(FT.out.pushOut y).up (Nat.le_refl _) (by omega)⟩
       case measure=>simp [intOf]
      ·go_simp
       refine (HBY.out _ DX.out.drew.cur).mono ?_
       rintro e wy ⟨y,rfl,hy,hsy⟩
       have M:=dhid (DX.out.drew.next hsy.out)
       clear hy hsy
       have k4:=(cells6 M.out.c.row).2.2.2.2.1
       have k4':=fun o=>(cells6 (row_al8 M.out.c.row o)).2.2.2.2.1
       obtain ⟨f1,q1,wz,hap,k5,z5,dz⟩:=M.out.pushOut hl (IntKind.u8.wrap y) 22
       have DZ:=dhid dz
       have HAP:=dhid hap
       clear dz hap
       refine hK _ _ ?_
       clear hK
       refine wpAny_take (i:=4) (v:=.int .u8 (IntKind.u8.wrap y)) rfl (by kernel_rfl) (by kernel_rfl) (by kernel_rfl) (fun _ _ _ h=>h) (Or.inl ⟨by rfl,?_⟩) ?_
       ·intro w'
        go_simp
       refine wpAny_ready (rs:=[1,5]) (by kernel_rfl) (by simp) ?_
       refine AllReady.cons rfl (fun K hK=>?_) (AllReady.cons rfl (fun K hK=>?_) AllReady.nil)
       ·go_simp
        refine hK _ _ ?_
        clear hK
        refine wpAny_ready (rs:=[5]) (by kernel_rfl) (by simp) ?_
        refine AllReady.cons rfl (fun K hK=>?_) AllReady.nil
        go_simp
        refine hK _ _ ?_
        clear hK
        refine wpAny_ready (rs:=[6]) (by kernel_rfl) (by simp) ?_
        refine allReady_push rfl rfl (.tmp 41) (.tmp 45) rfl _ _ _ rfl rfl HAP.out ?_ AllReady.nil
        simp only [Act.put]
        refine wpAny_take (i:=7) (v:=.pointer (some ⟨w4.heap.size,4,none⟩)) rfl (by kernel_rfl) (by kernel_rfl) (by kernel_rfl) (fun _ _ _ h=>h) (Or.inl ⟨by rfl,?_⟩) ?_
        ·intro w'
         go_simp
        refine wpAny_ready (rs:=[8]) (by kernel_rfl) (by simp) ?_
        refine AllReady.cons rfl (fun K hK=>?_) AllReady.nil
        go_simp
        refine hK _ _ ?_
        clear hK
        refine wpAny_done (by kernel_rfl) ?_ _
        go_wp2_with fail
        go_roundw
        case rel=>exact ⟨p,_,_,_,_,_,by go_num,by omega,DZ,(FT.out.pushOut y).up (Nat.le_refl _) (by omega)⟩
        case measure=>simp [intOf]
       ·go_simp
        refine hK _ _ ?_
        clear hK
        refine wpAny_ready (rs:=[1]) (by kernel_rfl) (by simp) ?_
        refine AllReady.cons rfl (fun K hK=>?_) AllReady.nil
        go_simp
        refine hK _ _ ?_
        clear hK
        refine wpAny_ready (rs:=[6]) (by kernel_rfl) (by simp) ?_
        refine allReady_push rfl rfl (.tmp 41) (.tmp 45) rfl _ _ _ rfl rfl HAP.out ?_ AllReady.nil
        simp only [Act.put]
        refine wpAny_take (i:=7) (v:=.pointer (some ⟨w4.heap.size,4,none⟩)) rfl (by kernel_rfl) (by kernel_rfl) (by kernel_rfl) (fun _ _ _ h=>h) (Or.inl ⟨by rfl,?_⟩) ?_
        ·intro w'
         go_simp
        refine wpAny_ready (rs:=[8]) (by kernel_rfl) (by simp) ?_
        refine AllReady.cons rfl (fun K hK=>?_) AllReady.nil
        go_simp
        refine hK _ _ ?_
        clear hK
        refine wpAny_done (by kernel_rfl) ?_ _
        go_wp2_with fail
        go_roundw
        case rel=>exact ⟨p,_,_,_,_,_,by go_num,by omega,DZ,(FT.out.pushOut y).up (Nat.le_refl _) (by omega)⟩
        case measure=>simp [intOf]
   ·have dq:decide (0 < q)=true:=by simp;omega
    obtain ⟨p,rfl⟩:∃ p,q=p+1:=⟨q - 1,by omega⟩
    have k3:=(cells6 DX.out.c.row).2.2.2.1
    have hl:D.xs.length≤1048576:=by have:=FT.out.l1;omega
    go_wp2_with fail
    refine wp_region_any (by kernel_rfl) ?_
    change wpAny _ _ _ _ _ _ _ (World.drew _)
    refine wpAny_take (i:=0) (v:=.pointer (some ⟨w4.heap.size,3,none⟩)) rfl (by kernel_rfl) (by kernel_rfl) (by kernel_rfl) (fun _ _ _ h=>h) (Or.inl ⟨by rfl,?_⟩) ?_
    ·intro w'
     go_simp
    refine wpAny_take (i:=2) (v:=.pointer (some ⟨g,0,none⟩)) rfl (by kernel_rfl) (by kernel_rfl) (by kernel_rfl) (fun _ _ _ h=>h) (Or.inl ⟨by rfl,?_⟩) ?_
    ·intro w'
     go_simp
    refine wpAny_ready (rs:=[1,3]) (by kernel_rfl) (by simp) ?_
    refine AllReady.cons rfl (fun K hK=>?_) (AllReady.cons rfl (fun K hK=>?_) AllReady.nil)
    ·go_simp
     refine hK _ _ ?_
     clear hK
     refine wpAny_ready (rs:=[3]) (by kernel_rfl) (by simp) ?_
     refine AllReady.cons rfl (fun K hK=>?_) AllReady.nil
     go_simp
     refine (HBY.out _ DX.out.drew.cur).mono ?_
     rintro e wy ⟨y,rfl,hy,hsy⟩
     have M:=dhid (DX.out.drew.next hsy.out)
     clear hy hsy
     have k4:=(cells6 M.out.c.row).2.2.2.1
     have k4':=fun o=>(cells6 (row_al8 M.out.c.row o)).2.2.2.1
     obtain ⟨f1,q1,wz,hap,k5,z5,dz⟩:=M.out.pushIn hl (IntKind.u8.wrap y) 22
     have DZ:=dhid dz
     have HAP:=dhid hap
     clear dz hap
     refine hK _ _ ?_
     clear hK
     refine wpAny_take (i:=4) (v:=.int .u8 (IntKind.u8.wrap y)) rfl (by kernel_rfl) (by kernel_rfl) (by kernel_rfl) (fun _ _ _ h=>h) (Or.inl ⟨by rfl,?_⟩) ?_
     ·intro w'
      go_simp
     refine wpAny_ready (rs:=[5]) (by kernel_rfl) (by simp) ?_
     refine AllReady.cons rfl (fun K hK=>?_) AllReady.nil
     go_simp
     refine hK _ _ ?_
     clear hK
     refine wpAny_ready (rs:=[6]) (by kernel_rfl) (by simp) ?_
     refine allReady_push rfl rfl (.tmp 27) (.tmp 31) rfl _ _ _ rfl rfl HAP.out ?_ AllReady.nil
     simp only [Act.put]
     refine wpAny_take (i:=7) (v:=.pointer (some ⟨w4.heap.size,3,none⟩)) rfl (by kernel_rfl) (by kernel_rfl) (by kernel_rfl) (fun _ _ _ h=>h) (Or.inl ⟨by rfl,?_⟩) ?_
     ·intro w'
      go_simp
     refine wpAny_ready (rs:=[8]) (by kernel_rfl) (by simp) ?_
     refine AllReady.cons rfl (fun K hK=>?_) AllReady.nil
     go_simp
     refine hK _ _ ?_
     clear hK
     refine wpAny_done (by kernel_rfl) ?_ _
     go_wp2_with fail
     go_roundw
     case rel=>exact ⟨p,_,_,_,by go_num,by omega,DZ,(FT.out.pushIn y).up (by omega) (Nat.le_refl _)⟩
     case measure=>simp [intOf]
    ·go_simp
     refine (HBY.out _ DX.out.drew.cur).mono ?_
     rintro e wy ⟨y,rfl,hy,hsy⟩
     have M:=dhid (DX.out.drew.next hsy.out)
     clear hy hsy
     have k4:=(cells6 M.out.c.row).2.2.2.1
     have k4':=fun o=>(cells6 (row_al8 M.out.c.row o)).2.2.2.1
     obtain ⟨f1,q1,wz,hap,k5,z5,dz⟩:=M.out.pushIn hl (IntKind.u8.wrap y) 22
     have DZ:=dhid dz
     have HAP:=dhid hap
     clear dz hap
     refine hK _ _ ?_
     clear hK
     refine wpAny_take (i:=4) (v:=.int .u8 (IntKind.u8.wrap y)) rfl (by kernel_rfl) (by kernel_rfl) (by kernel_rfl) (fun _ _ _ h=>h) (Or.inl ⟨by rfl,?_⟩) ?_
     ·intro w'
      go_simp
     refine wpAny_ready (rs:=[1,5]) (by kernel_rfl) (by simp) ?_
     refine AllReady.cons rfl (fun K hK=>?_) (AllReady.cons rfl (fun K hK=>?_) AllReady.nil)
     ·go_simp
      refine hK _ _ ?_
      clear hK
      refine wpAny_ready (rs:=[5]) (by kernel_rfl) (by simp) ?_
      refine AllReady.cons rfl (fun K hK=>?_) AllReady.nil
      go_simp
      refine hK _ _ ?_
      clear hK
      refine wpAny_ready (rs:=[6]) (by kernel_rfl) (by simp) ?_
      refine allReady_push rfl rfl (.tmp 27) (.tmp 31) rfl _ _ _ rfl rfl HAP.out ?_ AllReady.nil
      simp only [Act.put]
      refine wpAny_take (i:=7) (v:=.pointer (some ⟨w4.heap.size,3,none⟩)) rfl (by kernel_rfl) (by kernel_rfl) (by kernel_rfl) (fun _ _ _ h=>h) (Or.inl ⟨by rfl,?_⟩) ?_
      ·intro w'
       go_simp
      refine wpAny_ready (rs:=[8]) (by kernel_rfl) (by simp) ?_
      refine AllReady.cons rfl (fun K hK=>?_) AllReady.nil
      go_simp
      refine hK _ _ ?_
      clear hK
      refine wpAny_done (by kernel_rfl) ?_ _
      go_wp2_with fail
      go_roundw
      case rel=>exact ⟨p,_,_,_,by go_num,by omega,DZ,(FT.out.pushIn y).up (by omega) (Nat.le_refl _)⟩
      case measure=>simp [intOf]
     ·go_simp
      refine hK _ _ ?_
      clear hK
      refine wpAny_ready (rs:=[1]) (by kernel_rfl) (by simp) ?_
      refine AllReady.cons rfl (fun K hK=>?_) AllReady.nil
      go_simp
      refine hK _ _ ?_
      clear hK
      refine wpAny_ready (rs:=[6]) (by kernel_rfl) (by simp) ?_
      refine allReady_push rfl rfl (.tmp 27) (.tmp 31) rfl _ _ _ rfl rfl HAP.out ?_ AllReady.nil
      simp only [Act.put]
      refine wpAny_take (i:=7) (v:=.pointer (some ⟨w4.heap.size,3,none⟩)) rfl (by kernel_rfl) (by kernel_rfl) (by kernel_rfl) (fun _ _ _ h=>h) (Or.inl ⟨by rfl,?_⟩) ?_
      ·intro w'
       go_simp
      refine wpAny_ready (rs:=[8]) (by kernel_rfl) (by simp) ?_
      refine AllReady.cons rfl (fun K hK=>?_) AllReady.nil
      go_simp
      refine hK _ _ ?_
      clear hK
      refine wpAny_done (by kernel_rfl) ?_ _
      go_wp2_with fail
      go_roundw
      case rel=>exact ⟨p,_,_,_,by go_num,by omega,DZ,(FT.out.pushIn y).up (by omega) (Nat.le_refl _)⟩
      case measure=>simp [intOf]

structure FitsA (D:DV):Prop where
 t:U D.t
 cm:U D.cm
 ir:(Lit.int .i64 D.ir).wf=true
 by_:bytesOk D
 l1:D.xs.length≤17
 l2:D.ys.length≤4097

theorem Fits.any {D:DV} (h:Fits D 16 4096):FitsA D:=⟨h.t,h.cm,by rcases h.ir with e | e<;>rw [e]<;>decide,h.by_,Nat.le_trans h.l1 (by omega),Nat.le_trans h.l2 (by omega)⟩

end Go.Proofs.YtbajeckeeekhnaaGreat
