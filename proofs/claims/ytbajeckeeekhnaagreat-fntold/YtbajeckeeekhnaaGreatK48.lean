/- Own lemmas. -/
import Derived.Test.YtbajeckeeekhnaaGreatK09
import Derived.Test.YtbajeckeeekhnaaGreatK41
import Derived.Test.YtbajeckeeekhnaaGreatK43
import Derived.Test.YtbajeckeeekhnaaGreatK44
import Derived.Test.YtbajeckeeekhnaaGreatK45
import Derived.Test.YtbajeckeeekhnaaGreatK46
import Derived.Test.YtbajeckeeekhnaaGreatK47
import Derived.Deep.Cut
import Derived.Deep.RegionHeld3
namespace Go.Proofs.YtbajeckeeekhnaaGreat
open Go.RowKit
set_option linter.unusedVariables false

theorem Dm.outP {w0:World} {g:Nat} {a:Option Addr} {n cap:Nat} {w:World} {m:Nat} {M:MV} {A:MA} {wr:World} (h:Dm w0 g a n cap w w.heap.size m M A wr) (x0 x1 x2 x3 x4 x5 x6 x7 x8 x9 x10 x11 x12 x13:Value):Fam w.heap.size (put14 wr w.heap.size x0 x1 x2 x3 x4 x5 x6 x7 x8 x9 x10 x11 x12 x13).heap.size (put14 wr w.heap.size x0 x1 x2 x3 x4 x5 x6 x7 x8 x9 x10 x11 x12 x13) (mvF M A)∧Cs w0 g a n cap w (put14 wr w.heap.size x0 x1 x2 x3 x4 x5 x6 x7 x8 x9 x10 x11 x12 x13):=by
 have hb:Below w.heap.size wr (put14 wr w.heap.size x0 x1 x2 x3 x4 x5 x6 x7 x8 x9 x10 x11 x12 x13):=below_put14 (Below.refl _ _) (Nat.le_refl _) x0 x1 x2 x3 x4 x5 x6 x7 x8 x9 x10 x11 x12 x13
 generalize hW:put14 wr w.heap.size x0 x1 x2 x3 x4 x5 x6 x7 x8 x9 x10 x11 x12 x13=W at hb ⊢
 have hg:=h.gr
 have h0:=h.w0w
 obtain ⟨i,hh,hi,hrow⟩:=h.cu.1.row
 refine ⟨?_,⟨⟨h.cu.1.new,?_,i,hh,hi,(hb.block g hg).trans hrow⟩,⟨hb.os.trans h.cu.2.os,hb.tape.trans h.cu.2.tape,hb.output.trans h.cu.2.output,Nat.le_trans h.cu.2.size hb.size,fun k hk hne=>(hb.block k hk).trans (h.cu.2.block k hk hne)⟩⟩⟩
 ·have hf:Fam (w.heap.size+1) wr.heap.size W (mvF M A):=by
   refine ⟨fun r hr=>fown_of (h.mp.fam.own r hr) (fun k e=>?_),h.mp.fam.hi,h.mp.fam.ne⟩
   have hk:k≠w.heap.size:=fun e2=>by have:=(h.mp.fam.own r hr).lt _ e;omega
   rw [← hW]
   unfold put14
   repeat rw [Below.heap_setCell _ _ _ k hk]
  exact hf.low (by omega) hb.size
 ·exact ⟨hb.os.trans h.cu.1.below.os,hb.tape.trans h.cu.1.below.tape,hb.output.trans h.cu.1.below.output,Nat.le_trans h.cu.1.below.size hb.size,fun k hk=>(hb.block k (by omega)).trans (h.cu.1.below.block k hk)⟩

theorem u64_parts9:∃ i,Tryz.prog.info? 24=some i∧i.zero=some (.int .u64 0)∧i.size=1:=by
 have h:(Tryz.prog.info? 24).map (fun i=>(i.zero,i.size))=some (some (.int .u64 0),1):=by kernel_rfl
 cases hi:Tryz.prog.info? 24 with
 | none=>rw [hi] at h;cases h
 | some i=>rw [hi] at h;simp at h;exact ⟨i,rfl,h.1,h.2⟩

theorem rm_l1put {w0:World} {g:Nat} {a:Option Addr} {n cap:Nat} {w wr:World} {b m:Nat} (h:Rm w0 g a n cap w b m wr) (hm:m≤1048576) (f k:Nat) (x:Int) (hk:k≤8) (hf:f+k≤m) (hx:U x) :
 Calls Tryz.prog 36 #[.slice (some ⟨b,0,none⟩) m m,.int .u64 (2147483648+(f:Int)),.int .i64 (k:Int),.int .u64 x] wr fun e w'=>e=.returned (.tuple #[])∧Rm w0 g a n cap w b m w'∧wr.grownBy w' (some b):=by
 obtain ⟨zs,hu,ho,hc,hg,hb⟩:=h
 refine (l1Put_any b m m f k _ zs x wr hm hk hf hx.1 (by have:=hx.2;omega) ho).mono fun e w' ⟨h1,h2,h3⟩=>⟨h1,⟨put zs f x k,put_wfD zs hu f x k,h2,?_,hg,hb⟩,h3⟩
 have hw0:w0.heap.size≤w.heap.size:=by
  rcases Nat.lt_or_ge w.heap.size w0.heap.size with hl | hl
  ·have:=hc.1.new;omega
  ·exact hl
 obtain ⟨i,hh,hi,hrow⟩:=hc.1.row
 have hgl:=(Array.getElem?_eq_some_iff.1 hrow).1
 refine ⟨⟨hc.1.new,?_,i,hh,hi,(h3.block g hgl (by simp;omega)).trans hrow⟩,⟨h3.os.trans hc.2.os,h3.tape.trans hc.2.tape,h3.output.trans hc.2.output,Nat.le_trans hc.2.size h3.size,fun k hk hne=>(h3.block k (Nat.lt_of_lt_of_le hk hc.2.size) (by simp;omega)).trans (hc.2.block k hk hne)⟩⟩
 exact hc.1.below.grown h3 hc.1.below.size (by intro k hk;cases hk;omega)

theorem u_zero:U 0:=⟨by decide,by decide⟩

theorem rep_U (k j:Nat):U ((List.replicate k (0:Int)).getD j 0):=by
 simp only [List.getD,List.getElem?_replicate]
 split<;>exact ⟨by simp,by simp⟩

theorem newM_fit (ram:List Int) (hu:∀ y ∈ ram,(Lit.int .u8 y).wf=true) (hl:ram.length=4096∨ram.length=8192):Mf (newM ram):=by
 have hok:ramOkB ram.length=true:=by rcases hl with e | e<;>rw [e]<;>decide
 unfold newM
 rw [if_pos hok]
 refine ⟨by simp [lineM,rawM],fun j=>rep_U 32 j,by simp [lineM,rawM],?_,hl,hu,⟨u_zero,u_zero,.inl rfl,⟨fun y hy=>(nomatch hy),fun y hy=>(nomatch hy)⟩,Nat.zero_le _,Nat.zero_le _⟩,(show U 2147483648 from ⟨by decide,by decide⟩),u_zero,.inr (.inr rfl)⟩
 exact set_U (rep_U 22) 9 (U_wrap _)

theorem dvc_one (D:DV) (a1:Option Addr) (c1:Nat) (a2:Option Addr) (c2:Nat):(dvc D a1 c1 a2 c2).all (·.oneCell')=true:=by simp [dvc,Value.oneCell']

theorem dvc_at (M:MV) (A:MA) (D:DV) (a1:Option Addr) (c1:Nat) (a2:Option Addr) (c2:Nat):((mvc M A).toList.take 5 ++ (dvc D a1 c1 a2 c2).toList ++ (mvc M A).toList.drop (5+(dvc D a1 c1 a2 c2).size)).toArray=mvc (devM M D) (devA A a1 c1 a2 c2):=rfl

set_option maxRecDepth 100000 in
set_option maxHeartbeats 12800000 in
theorem l9Draw_c {w0:World} {g:Nat} {a:Option Addr} {n cap:Nat} {zs:List Int} (hcd:Code w0 a n zs) (w:World) (hc:Cur w0 w g a n cap) :
 Calls Tryz.prog 19 #[.pointer (some ⟨g,0,none⟩)] w fun e w'=>∃ (M:MV) (A:MA),e=.returned (.agg (mvc M A))∧Hid (Mf M)∧Hid (Fam w.heap.size w'.heap.size w' (mvF M A))∧Hid (Cs w0 g a n cap w w'):=by
 have HD:Hid (Code w0 a n zs):=hcd
 have HC:=dhid hc
 have hgl:=hc.lt
 have hw0:=hc.below.size
 obtain ⟨i0,hi,hz0,hz1,hz2⟩:=info_parts Tryz.info5
 clear hcd hc
 go_enter Tryz.func19,Tryz.ntmps19
 go_wp2_with fail
 refine (l1Below_c HD.out 2 (by omega) _ (Cs.alloc HC.out _).1).mono ?_
 rintro e w1 ⟨x1,rfl,hx1,hs1⟩
 have C1:=dhid ((Cs.alloc HC.out _).trans hs1.out)
 have R1:=dhid (hs1.out.keep (heap_alloc_new w (.cells #[.int .u64 0,.slice none 0 0,.int .i64 0,.slice none 0 0,.slice none 0 0,.int .u64 0,.int .u64 0,.bool false,.slice none 0 0,.slice none 0 0,.int .i64 0,.int .u64 0,.bool false,.bool false] 29)) (Nat.ne_of_gt hgl))
 obtain ⟨N,hN,hNb⟩:∃ N:Nat,4096*(1+x1)=(N:Int)∧(N=4096∨N=8192):=⟨(4096*(1+x1)).toNat,by omega,by omega⟩
 have hb2:i0.bytes*N≤281474976710656:=by rw [hz2];omega
 have hb3:N≤maxLen:=by unfold maxLen;omega
 have h1b:(1:Int)+x1≤2:=by omega
 have h1a:(1:Int)≤1+x1:=by omega
 clear hs1
 go_wp2_with (first | (at_make;refine wpList_make_full _ rfl (.tmp 14) (.tmp 14) 22 rfl w1.heap.size 5 i0 (.int .u8 0) 1 Tryz.underlying22 hi hz0 hz1 .i64 .i64 _ _ N rfl rfl rfl rfl hb2 hb3 (Nat.le_refl _) ?_;intro w2 hown hgrow))
 have hown0:w2.ownsRow w.heap.size 5 1 (.slice (some ⟨w1.heap.size,0,none⟩) N N) N ((List.replicate N (0:Int)).map (Value.int .u8)):=by
  rw [List.map_replicate,← toList_madeCells_one]
  exact own_low (by simpa [Value.cells] using hown) (by have:=C1.out.2.size;omega)
 have C2:=C1.out.trans (show Cs w0 g a n cap w1 w2 from ⟨C1.out.1.grown hgrow,⟨hgrow.os,hgrow.tape,hgrow.output,hgrow.size,fun k hk _=>hgrow.block k hk (by simp)⟩⟩)
 have D2:Hid (Rm w0 g a n cap w w1.heap.size N w2):=⟨_,fun y hy=>by rw [List.eq_of_mem_replicate hy];exact wf8 (by omega) (by omega),hown0,C2,hgl,C1.out.2.size⟩
 have R2:=dhid ((hgrow.block w.heap.size (Array.getElem?_eq_some_iff.1 R1.out).1 (by simp)).trans R1.out)
 obtain ⟨b,hb⟩:∃ b,b=w1.heap.size:=⟨_,rfl⟩
 have hbr:w.heap.size < b:=by have:=(Array.getElem?_eq_some_iff.1 R1.out).1;omega
 rw [← hb] at D2 ⊢
 clear hown hgrow hown0 C2 C1 R1 hN h1a h1b hb hb2 hb3 hx1
 refine (l1Below_c HD.out 30 (by omega) _ D2.out.cur).mono ?_
 rintro e w3 ⟨x3,rfl,⟨hx30,hx31⟩,hs3⟩
 have D3:=dhid (D2.out.next hs3.out)
 have R3:=dhid (hs3.out.keep R2.out (Nat.ne_of_gt hgl))
 clear hs3 D2 R2
 go_wp2_with fail
 go_loopw [4,5] (fun p i wr=>∃ (k:Int) (j:Nat),p=.int .u64 (2147483648+((4*j:Nat):Int))∧i=.int .i64 k∧0≤k∧(j:Int)+k≤30∧Hid (Rm w0 g a n cap w b N wr)∧Hid (wr.heap[w.heap.size]?=some (.cells #[.int .u64 0,.slice none 0 0,.int .i64 0,.slice none 0 0,.slice none 0 0,.int .u64 0,.int .u64 0,.bool false,.slice none 0 0,.slice none 0 0,.int .i64 0,.int .u64 0,.bool false,.bool false] 29))) (fun _ i _=>(intOf i).toNat)
 case atStart=>exact ⟨x3,0,by simp,rfl,hx30,by omega,D3,R3⟩
 case round =>
  obtain ⟨k,j,rfl,rfl,hk0,hk1,DR,RR⟩:=hrel
  by_cases hlt:0 < k
  ·have d0:decide (0 < k)=true:=by simpa using hlt
   clear D3 R3
   go_wp2_with fail
   refine (l2Draw_c HD.out _ DR.out.cur).mono ?_
   rintro e w4 ⟨ii,rfl,hii,hs4⟩
   have D4:=dhid (DR.out.next hs4.out)
   have R4:=dhid (hs4.out.keep RR.out (Nat.ne_of_gt hgl))
   clear hs4 DR RR
   have HE:Hid (∀ W,Calls Tryz.prog 33 #[ii.val] W fun e w'=>∃ (x:Int) (t:Bool),e=.returned (.tuple #[.int .u64 x,.bool t])∧U x∧Below W.heap.size W w'):=specEncode_w ii
   clear hii
   go_wp2_with fail
   refine (HE.out _).mono ?_
   rintro e w5 ⟨y,t,rfl,hu5,hb5⟩
   have HU:Hid (U y):=hu5
   clear hu5
   have D5:=dhid (D4.out.next (Cs.of_below D4.out.cur hb5))
   have R5:=dhid (dstays hb5 R4.out)
   clear hb5 D4 R4 HE
   cases t
   ·go_wp2_with fail
    refine (l1DrawWord_c HD.out _ D5.out.cur).mono ?_
    rintro e w7 ⟨y7,rfl,hy7,hs7⟩
    have HY:Hid (U y7):=hy7
    have D7:=dhid (D5.out.next hs7.out)
    have R7:=dhid (hs7.out.keep R5.out (Nat.ne_of_gt hgl))
    clear hs7 hy7 D5 R5
    go_wp2_with fail
    refine (rm_l1put D7.out (by omega) (4*j) 4 y7 (by omega) (by omega) HY.out).mono ?_
    rintro e wP ⟨rfl,DP,gP⟩
    have DPP:=dhid DP
    have RP:=dhid ((gP.block w.heap.size (Array.getElem?_eq_some_iff.1 R7.out).1 (by simp;omega)).trans R7.out)
    clear DP gP D7 R7
    go_wp2_with fail
    go_roundw
    case rel=>exact ⟨k - 1,j+1,by simp;omega,by go_num,by omega,by omega,DPP,RP⟩
    case measure=>simp [intOf];omega
   ·go_wp2_with fail
    refine (l1Once_c HD.out 30 (by omega) _ D5.out.cur).mono ?_
    rintro e w6 ⟨c6,rfl,hs6⟩
    have D6:=dhid (D5.out.next hs6.out)
    have R6:=dhid (hs6.out.keep R5.out (Nat.ne_of_gt hgl))
    clear hs6 D5 R5
    cases c6
    ·go_wp2_with fail
     refine (rm_l1put D6.out (by omega) (4*j) 4 y (by omega) (by omega) HU.out).mono ?_
     rintro e wP ⟨rfl,DP,gP⟩
     have DPP:=dhid DP
     have RP:=dhid ((gP.block w.heap.size (Array.getElem?_eq_some_iff.1 R6.out).1 (by simp;omega)).trans R6.out)
     clear DP gP D6 R6
     go_wp2_with fail
     go_roundw
     case rel=>exact ⟨k - 1,j+1,by simp;omega,by go_num,by omega,by omega,DPP,RP⟩
     case measure=>simp [intOf];omega
    ·go_wp2_with fail
     refine (l1DrawWord_c HD.out _ D6.out.cur).mono ?_
     rintro e w7 ⟨y7,rfl,hy7,hs7⟩
     have HY:Hid (U y7):=hy7
     have D7:=dhid (D6.out.next hs7.out)
     have R7:=dhid (hs7.out.keep R6.out (Nat.ne_of_gt hgl))
     clear hs7 hy7 D6 R6
     go_wp2_with fail
     refine (rm_l1put D7.out (by omega) (4*j) 4 y7 (by omega) (by omega) HY.out).mono ?_
     rintro e wP ⟨rfl,DP,gP⟩
     have DPP:=dhid DP
     have RP:=dhid ((gP.block w.heap.size (Array.getElem?_eq_some_iff.1 R7.out).1 (by simp;omega)).trans R7.out)
     clear DP gP D7 R7
     go_wp2_with fail
     go_roundw
     case rel=>exact ⟨k - 1,j+1,by simp;omega,by go_num,by omega,by omega,DPP,RP⟩
     case measure=>simp [intOf];omega
  ·have d0:decide (0 < k)=false:=by simpa using hlt
   clear hlt D3 R3
   obtain ⟨ram,hu,hro,hcr,-,-⟩:=DR.out
   have hrl:ram.length=N:=by have:=hro.1;simpa using this
   have HNM:=dhid (specNewMachine_any (some ⟨b,0,none⟩) N N ram wr hrl (by omega) (own_sl' hro))
   have hok:ramOkB N=true:=by rcases hNb with e | e<;>rw [e]<;>decide
   have hfit:Hid (Mf (newM ram)):=newM_fit ram hu (by rw [hrl];exact hNb)
   rw [hok] at HNM
   have CR:=dhid hcr
   clear hro hcr hu DR hok
   go_wp2_with fail
   refine HNM.out.mono ?_
   rintro e w8 ⟨C,rfl,fam8,hb8⟩
   generalize newM ram=M at *
   have C8:=CR.out.trans (Cs.of_below CR.out.1 hb8)
   have R8:=dstays hb8 RR.out
   have z8:=(Array.getElem?_eq_some_iff.1 RR.out).1
   have y8:=hb8.size
   have D8:Hid (Dm w0 g a n cap w w.heap.size w8.heap.size M C (w8.alloc (.cells (mvc M C) 29))) :=
    ⟨C8.trans (Cs.alloc C8.1 _),(Below.heap_alloc _ _ _ (by omega)).trans R8,⟨heap_alloc_new _ _,(fam8.below ((Below.refl _ _).alloc (Nat.le_refl _) _)).low (by omega) (by simp),fun q hq e=>by have:=fam8.hi q hq _ e;omega,by omega⟩,hfit.out,hgl,Nat.le_refl _,hw0⟩
   dsimp only [mvc] at D8 ⊢
   clear fam8 hb8 C8 R8 CR RR HNM hfit
   go_wp2_with fail
   obtain ⟨m,hm⟩:∃ m,m=w8.heap.size:=⟨_,rfl⟩
   obtain ⟨W8,hW8⟩:∃ W,W=w8.alloc (.cells #[.int .u64 M.pc,.slice C.ax M.x.length C.cx,.int .i64 M.pr,.slice C.ac M.cs.length C.cc,.slice C.ar M.ram.length C.cr,.int .u64 M.d.t,.int .u64 M.d.cm,.bool M.d.so,.slice C.ai M.d.xs.length C.ci,.slice C.ao M.d.ys.length C.co,.int .i64 M.d.ir,.int .u64 M.hd,.bool M.hl,.bool M.wt] 29):=⟨_,rfl⟩
   rw [← hm,← hW8] at D8
   rw [← hm,← hW8]
   clear hm hW8
   go_loopw [10] (fun i wr=>∃ (j:Nat) (M:MV) (A:MA),i=.int .i64 j∧1≤j∧j≤32∧Hid (Dm w0 g a n cap w w.heap.size m M A wr)) (fun i _=>32 - (intOf i).toNat)
   case atStart=>exact ⟨1,M,C,rfl,by omega,by omega,D8⟩
   case round =>
    clear D8
    obtain ⟨j,M,A,rfl,hj1,hj2,DW⟩:=hrel
    by_cases hlt:j < 32
    ·by_cases h8:j < 8
     ·have d8:decide ((j:Int) < 8)=true:=by simp;omega
      go_wp2_with fail
      obtain ⟨bx,cx,ea,ec,cm,cells⟩:=DW.out.atX
      obtain ⟨Pd,hPd⟩:∃ Pd:World→Prop,Pd=fun w'=>∃ M,Dm w0 g a n cap w w.heap.size m M A w':=⟨_,rfl⟩
      have PW:Hid (∀ w',Pd w'→w'.cell? ⟨m,1,none⟩=some (.slice (some ⟨bx,0,none⟩) 32 cx)∧Pd w'):=fun w' h=>⟨by rw [hPd] at h;obtain ⟨M',h⟩:=h;obtain ⟨b',c',e1,e2,e3,_⟩:=h.atX;rw [ea] at e1;cases e1;rw [ec] at e2;rw [e2];exact e3,h⟩
      have PF:Hid (∀ w',Pd w'→(∃ v:Int,w'.cell? ⟨bx,j,none⟩=some (.int .u64 v))∧w'.frozen? ⟨bx,j,none⟩=false):=by
       rw [hPd]
       rintro w' ⟨M',h⟩
       obtain ⟨b',c',e1,e2,_,e4⟩:=h.atX
       rw [ea] at e1
       cases e1
       exact ⟨⟨_,(e4 j (by omega)).1⟩,(e4 j (by omega)).2⟩
      have PS:Hid (∀ (w':World) (v:Int),U v→Pd w'→Pd (w'.setCell ⟨bx,j,none⟩ (.int .u64 v))):=by
       rw [hPd]
       exact fun w' v hv ⟨M',h⟩=>⟨_,h.setX bx ea j hv⟩
      have PN:Hid (∀ w' w'',Pd w'→Cs w0 g a n cap w' w''→Pd w''):=by
       rw [hPd]
       exact fun w' w'' ⟨M',h⟩ k=>⟨M',h.next k⟩
      have PC:Hid (∀ w',Pd w'→Cur w0 w' g a n cap):=by
       rw [hPd]
       exact fun w' ⟨M',h⟩=>h.cur
      have EX:Hid (∀ w',Pd w'→∃ M,Dm w0 g a n cap w w.heap.size m M A w'):=by rw [hPd];exact fun w' h=>h
      have p0:Pd wr:=by rw [hPd];exact ⟨_,DW.out⟩
      have p1:Pd wr.drew:=PN.out _ _ p0 (Cs.of_below (PC.out _ p0) (Below.refl _ _).drew)
      have HWD:Hid (∀ w',Pd w'→Calls Tryz.prog 35 #[.pointer (some ⟨g,0,none⟩)] w' fun e w''=>∃ y:Int,e=.returned (.int .u64 y)∧Hid (U y)∧Pd w''):=fun w' h=>(l1DrawWord_c HD.out w' (PC.out _ h)).mono fun e w'' ⟨y,h1,h2,h3⟩=>⟨y,h1,h2,PN.out _ _ h h3.out⟩
      clear hPd cm cells DW
      go_region_held3 (fun w'=>w'.cell? ⟨m,1,none⟩=some (.slice (some ⟨bx,0,none⟩) 32 cx)∧Pd w') (first | exact PW.out _ (by assumption)) (first | (go_at_call 35;with_reducible refine (HWD.out _ (by assumption)).mono ?_;rintro e wy ⟨y,rfl,hy,py⟩;obtain ⟨⟨v,cv⟩,fv⟩:=PF.out _ py;have pz:=PS.out _ y hy.out py))
      generalize wy.setCell ⟨bx,j,none⟩ (.int .u64 y)=wz at pz ⊢
      obtain ⟨M,dz⟩:=EX.out _ pz
      have D20:=dhid dz
      clear dz PW PF PS PN PC EX p0 p1
      clear pz py cv fv HWD ea ec hy
      go_wp2_with fail
      refine (l1Once_c HD.out 2 (by omega) _ D20.out.cur).mono ?_
      rintro e w21 ⟨c21,rfl,hs21⟩
      have D21:=dhid (D20.out.next hs21.out)
      clear hs21 D20
      cases c21
      ·go_wp2_with fail
       go_roundw
       case rel=>exact ⟨_,_,_,_,_,_,_,_,_,_,_,_,_,_,_,_,_,_,_,_,_,_,_,_,_,_,_,_,⟨j+1,M,A,by go_num,by omega,by omega,D21⟩,rfl⟩
       case measure=>simp [intOf];omega
      ·go_wp2_with fail
       obtain ⟨bx,cx,ea,ec,cm,cells⟩:=D21.out.atX
       obtain ⟨Pd,hPd⟩:∃ Pd:World→Prop,Pd=fun w'=>∃ M,Dm w0 g a n cap w w.heap.size m M A w':=⟨_,rfl⟩
       have PW:Hid (∀ w',Pd w'→w'.cell? ⟨m,1,none⟩=some (.slice (some ⟨bx,0,none⟩) 32 cx)∧Pd w'):=fun w' h=>⟨by rw [hPd] at h;obtain ⟨M',h⟩:=h;obtain ⟨b',c',e1,e2,e3,_⟩:=h.atX;rw [ea] at e1;cases e1;rw [ec] at e2;rw [e2];exact e3,h⟩
       have PF:Hid (∀ w',Pd w'→(∃ v:Int,w'.cell? ⟨bx,j,none⟩=some (.int .u64 v))∧w'.frozen? ⟨bx,j,none⟩=false):=by
        rw [hPd]
        rintro w' ⟨M',h⟩
        obtain ⟨b',c',e1,e2,_,e4⟩:=h.atX
        rw [ea] at e1
        cases e1
        exact ⟨⟨_,(e4 j (by omega)).1⟩,(e4 j (by omega)).2⟩
       have PS:Hid (∀ (w':World) (v:Int),U v→Pd w'→Pd (w'.setCell ⟨bx,j,none⟩ (.int .u64 v))):=by
        rw [hPd]
        exact fun w' v hv ⟨M',h⟩=>⟨_,h.setX bx ea j hv⟩
       have PN:Hid (∀ w' w'',Pd w'→Cs w0 g a n cap w' w''→Pd w''):=by
        rw [hPd]
        exact fun w' w'' ⟨M',h⟩ k=>⟨M',h.next k⟩
       have PC:Hid (∀ w',Pd w'→Cur w0 w' g a n cap):=by
        rw [hPd]
        exact fun w' ⟨M',h⟩=>h.cur
       have EX:Hid (∀ w',Pd w'→∃ M,Dm w0 g a n cap w w.heap.size m M A w'):=by rw [hPd];exact fun w' h=>h
       have p0:Pd w21:=by rw [hPd];exact ⟨_,D21.out⟩
       have p1:Pd w21.drew:=PN.out _ _ p0 (Cs.of_below (PC.out _ p0) (Below.refl _ _).drew)
       have HBL:Hid (∀ w',Pd w'→Calls Tryz.prog 21 #[.pointer (some ⟨g,0,none⟩),.int .i64 1024] w' fun e w''=>∃ y:Int,e=.returned (.int .i64 y)∧(0≤y∧y < 1024)∧Pd w''):=fun w' h=>(l1Below_c HD.out 1024 (by omega) w' (PC.out _ h)).mono fun e w'' ⟨y,h1,h2,h3⟩=>⟨y,h1,h2,PN.out _ _ h h3.out⟩
       clear hPd cm cells D21
       go_region_held3 (fun w'=>w'.cell? ⟨m,1,none⟩=some (.slice (some ⟨bx,0,none⟩) 32 cx)∧Pd w') (first | exact PW.out _ (by assumption)) (first | (go_at_call 21;with_reducible refine (HBL.out _ (by assumption)).mono ?_;rintro e wy ⟨y,rfl,hy,py⟩;obtain ⟨⟨v,cv⟩,fv⟩:=PF.out _ py;have pz:=PS.out _ (IntKind.u64.wrap (2147483648+IntKind.u64.wrap (8*IntKind.u64.wrap y))) (U_wrap _) py))
       generalize wy.setCell ⟨bx,j,none⟩ (.int .u64 (IntKind.u64.wrap (2147483648+IntKind.u64.wrap (8*IntKind.u64.wrap y))))=wz at pz ⊢
       obtain ⟨M,dz⟩:=EX.out _ pz
       have D22:=dhid dz
       clear dz PW PF PS PN PC EX p0 p1
       clear pz py cv fv HBL ea ec hy
       go_wp2_with fail
       go_roundw
       case rel=>exact ⟨_,_,_,_,_,_,_,_,_,_,_,_,_,_,_,_,_,_,_,_,_,_,_,_,_,_,_,_,⟨j+1,M,A,by go_num,by omega,by omega,D22⟩,rfl⟩
       case measure=>simp [intOf];omega
     ·have d8:decide ((j:Int) < 8)=false:=by simp;omega
      go_wp2_with fail
      refine (l1Once_c HD.out 4 (by omega) _ DW.out.cur).mono ?_
      rintro e w11 ⟨c11,rfl,hs11⟩
      have D11:=dhid (DW.out.next hs11.out)
      clear hs11 DW
      cases c11
      ·go_wp2_with fail
       go_roundw
       case rel=>exact ⟨_,_,_,_,_,_,_,_,_,_,_,_,_,_,_,_,_,_,_,_,_,_,_,_,_,_,_,_,⟨j+1,M,A,by go_num,by omega,by omega,D11⟩,rfl⟩
       case measure=>simp [intOf];omega
      ·go_wp2_with fail
       obtain ⟨bx,cx,ea,ec,cm,cells⟩:=D11.out.atX
       obtain ⟨Pd,hPd⟩:∃ Pd:World→Prop,Pd=fun w'=>∃ M,Dm w0 g a n cap w w.heap.size m M A w':=⟨_,rfl⟩
       have PW:Hid (∀ w',Pd w'→w'.cell? ⟨m,1,none⟩=some (.slice (some ⟨bx,0,none⟩) 32 cx)∧Pd w'):=fun w' h=>⟨by rw [hPd] at h;obtain ⟨M',h⟩:=h;obtain ⟨b',c',e1,e2,e3,_⟩:=h.atX;rw [ea] at e1;cases e1;rw [ec] at e2;rw [e2];exact e3,h⟩
       have PF:Hid (∀ w',Pd w'→(∃ v:Int,w'.cell? ⟨bx,j,none⟩=some (.int .u64 v))∧w'.frozen? ⟨bx,j,none⟩=false):=by
        rw [hPd]
        rintro w' ⟨M',h⟩
        obtain ⟨b',c',e1,e2,_,e4⟩:=h.atX
        rw [ea] at e1
        cases e1
        exact ⟨⟨_,(e4 j (by omega)).1⟩,(e4 j (by omega)).2⟩
       have PS:Hid (∀ (w':World) (v:Int),U v→Pd w'→Pd (w'.setCell ⟨bx,j,none⟩ (.int .u64 v))):=by
        rw [hPd]
        exact fun w' v hv ⟨M',h⟩=>⟨_,h.setX bx ea j hv⟩
       have PN:Hid (∀ w' w'',Pd w'→Cs w0 g a n cap w' w''→Pd w''):=by
        rw [hPd]
        exact fun w' w'' ⟨M',h⟩ k=>⟨M',h.next k⟩
       have PC:Hid (∀ w',Pd w'→Cur w0 w' g a n cap):=by
        rw [hPd]
        exact fun w' ⟨M',h⟩=>h.cur
       have EX:Hid (∀ w',Pd w'→∃ M,Dm w0 g a n cap w w.heap.size m M A w'):=by rw [hPd];exact fun w' h=>h
       have p0:Pd w11:=by rw [hPd];exact ⟨_,D11.out⟩
       have p1:Pd w11.drew:=PN.out _ _ p0 (Cs.of_below (PC.out _ p0) (Below.refl _ _).drew)
       have HWD:Hid (∀ w',Pd w'→Calls Tryz.prog 35 #[.pointer (some ⟨g,0,none⟩)] w' fun e w''=>∃ y:Int,e=.returned (.int .u64 y)∧Hid (U y)∧Pd w''):=fun w' h=>(l1DrawWord_c HD.out w' (PC.out _ h)).mono fun e w'' ⟨y,h1,h2,h3⟩=>⟨y,h1,h2,PN.out _ _ h h3.out⟩
       clear hPd cm cells D11
       go_region_held3 (fun w'=>w'.cell? ⟨m,1,none⟩=some (.slice (some ⟨bx,0,none⟩) 32 cx)∧Pd w') (first | exact PW.out _ (by assumption)) (first | (go_at_call 35;with_reducible refine (HWD.out _ (by assumption)).mono ?_;rintro e wy ⟨y,rfl,hy,py⟩;obtain ⟨⟨v,cv⟩,fv⟩:=PF.out _ py;have pz:=PS.out _ y hy.out py))
       generalize wy.setCell ⟨bx,j,none⟩ (.int .u64 y)=wz at pz ⊢
       obtain ⟨M,dz⟩:=EX.out _ pz
       have D20:=dhid dz
       clear dz PW PF PS PN PC EX p0 p1
       clear pz py cv fv HWD ea ec hy
       go_wp2_with fail
       refine (l1Once_c HD.out 2 (by omega) _ D20.out.cur).mono ?_
       rintro e w21 ⟨c21,rfl,hs21⟩
       have D21:=dhid (D20.out.next hs21.out)
       clear hs21 D20
       cases c21
       ·go_wp2_with fail
        go_roundw
        case rel=>exact ⟨_,_,_,_,_,_,_,_,_,_,_,_,_,_,_,_,_,_,_,_,_,_,_,_,_,_,_,_,⟨j+1,M,A,by go_num,by omega,by omega,D21⟩,rfl⟩
        case measure=>simp [intOf];omega
       ·go_wp2_with fail
        obtain ⟨bx,cx,ea,ec,cm,cells⟩:=D21.out.atX
        obtain ⟨Pd,hPd⟩:∃ Pd:World→Prop,Pd=fun w'=>∃ M,Dm w0 g a n cap w w.heap.size m M A w':=⟨_,rfl⟩
        have PW:Hid (∀ w',Pd w'→w'.cell? ⟨m,1,none⟩=some (.slice (some ⟨bx,0,none⟩) 32 cx)∧Pd w'):=fun w' h=>⟨by rw [hPd] at h;obtain ⟨M',h⟩:=h;obtain ⟨b',c',e1,e2,e3,_⟩:=h.atX;rw [ea] at e1;cases e1;rw [ec] at e2;rw [e2];exact e3,h⟩
        have PF:Hid (∀ w',Pd w'→(∃ v:Int,w'.cell? ⟨bx,j,none⟩=some (.int .u64 v))∧w'.frozen? ⟨bx,j,none⟩=false):=by
         rw [hPd]
         rintro w' ⟨M',h⟩
         obtain ⟨b',c',e1,e2,_,e4⟩:=h.atX
         rw [ea] at e1
         cases e1
         exact ⟨⟨_,(e4 j (by omega)).1⟩,(e4 j (by omega)).2⟩
        have PS:Hid (∀ (w':World) (v:Int),U v→Pd w'→Pd (w'.setCell ⟨bx,j,none⟩ (.int .u64 v))):=by
         rw [hPd]
         exact fun w' v hv ⟨M',h⟩=>⟨_,h.setX bx ea j hv⟩
        have PN:Hid (∀ w' w'',Pd w'→Cs w0 g a n cap w' w''→Pd w''):=by
         rw [hPd]
         exact fun w' w'' ⟨M',h⟩ k=>⟨M',h.next k⟩
        have PC:Hid (∀ w',Pd w'→Cur w0 w' g a n cap):=by
         rw [hPd]
         exact fun w' ⟨M',h⟩=>h.cur
        have EX:Hid (∀ w',Pd w'→∃ M,Dm w0 g a n cap w w.heap.size m M A w'):=by rw [hPd];exact fun w' h=>h
        have p0:Pd w21:=by rw [hPd];exact ⟨_,D21.out⟩
        have p1:Pd w21.drew:=PN.out _ _ p0 (Cs.of_below (PC.out _ p0) (Below.refl _ _).drew)
        have HBL:Hid (∀ w',Pd w'→Calls Tryz.prog 21 #[.pointer (some ⟨g,0,none⟩),.int .i64 1024] w' fun e w''=>∃ y:Int,e=.returned (.int .i64 y)∧(0≤y∧y < 1024)∧Pd w''):=fun w' h=>(l1Below_c HD.out 1024 (by omega) w' (PC.out _ h)).mono fun e w'' ⟨y,h1,h2,h3⟩=>⟨y,h1,h2,PN.out _ _ h h3.out⟩
        clear hPd cm cells D21
        go_region_held3 (fun w'=>w'.cell? ⟨m,1,none⟩=some (.slice (some ⟨bx,0,none⟩) 32 cx)∧Pd w') (first | exact PW.out _ (by assumption)) (first | (go_at_call 21;with_reducible refine (HBL.out _ (by assumption)).mono ?_;rintro e wy ⟨y,rfl,hy,py⟩;obtain ⟨⟨v,cv⟩,fv⟩:=PF.out _ py;have pz:=PS.out _ (IntKind.u64.wrap (2147483648+IntKind.u64.wrap (8*IntKind.u64.wrap y))) (U_wrap _) py))
        generalize wy.setCell ⟨bx,j,none⟩ (.int .u64 (IntKind.u64.wrap (2147483648+IntKind.u64.wrap (8*IntKind.u64.wrap y))))=wz at pz ⊢
        obtain ⟨M,dz⟩:=EX.out _ pz
        have D22:=dhid dz
        clear dz PW PF PS PN PC EX p0 p1
        clear pz py cv fv HBL ea ec hy
        go_wp2_with fail
        go_roundw
        case rel=>exact ⟨_,_,_,_,_,_,_,_,_,_,_,_,_,_,_,_,_,_,_,_,_,_,_,_,_,_,_,_,⟨j+1,M,A,by go_num,by omega,by omega,D22⟩,rfl⟩
        case measure=>simp [intOf];omega
    ·have d32:decide ((j:Int) < 32)=false:=by simp;omega
     clear hlt hj1 hj2
     go_wp2_with fail
     obtain ⟨bx,cx,ea,ec,cm,cells⟩:=DW.out.atX
     obtain ⟨x5,hx5e⟩:∃ x5,x5=M.x.getD 5 0:=⟨_,rfl⟩
     have hx5:U x5:=by rw [hx5e];exact DW.out.fit.ux 5
     have AT:Hid (∀ w',Dm w0 g a n cap w w.heap.size m M A w'→w'.cell? ⟨m,1,none⟩=some (.slice (some ⟨bx,0,none⟩) 32 cx)∧w'.cell? ⟨bx,5,none⟩=some (.int .u64 x5)∧w'.frozen? ⟨bx,5,none⟩=false):=fun w' h=>by
      obtain ⟨b',c',e1,e2,e3,e4⟩:=h.atX
      rw [ea] at e1
      cases e1
      rw [ec] at e2
      rw [hx5e,e2]
      exact ⟨e3,(e4 5 (by omega)).1,(e4 5 (by omega)).2⟩
     have c5:=(AT.out _ DW.out).2.1
     have f5:=(AT.out _ DW.out).2.2
     have ALL:∀ o,Dm w0 g a n cap w w.heap.size m M A (wr.alloc o):=fun o=>DW.out.below ((Below.refl wr.heap.size wr).alloc (Nat.le_refl _) o)
     have cmA:=fun o=>(AT.out _ (ALL o)).1
     have c5A:=fun o=>(AT.out _ (ALL o)).2.1
     have f5A:=fun o=>(AT.out _ (ALL o)).2.2
     have gW:g≠wr.heap.size:=Nat.ne_of_lt DW.out.cur.lt
     have HBA:Hid (Calls Tryz.prog 21 #[.pointer (some ⟨g,0,none⟩),.int .i64 6] (wr.alloc (.cells #[.int .u64 268435456,.int .u64 33554432,.int .u64 33603576,.int .u64 33570816,.int .u64 268435457,.int .u64 x5] 24)).drew fun e w'=>∃ (i:Nat) (u:Int),e=.returned (.int .i64 i)∧i < 6∧Hid (U u)∧Hid (Dm w0 g a n cap w w.heap.size m M A w')∧w'.cell? ⟨m,1,none⟩=some (.slice (some ⟨bx,0,none⟩) 32 cx)∧w'.cell? ⟨bx,5,none⟩=some (.int .u64 x5)∧w'.frozen? ⟨bx,5,none⟩=false∧w'.cell? ⟨wr.heap.size,i,none⟩=some (.int .u64 u)):=by
      have DA:=(ALL (.cells #[.int .u64 268435456,.int .u64 33554432,.int .u64 33603576,.int .u64 33570816,.int .u64 268435457,.int .u64 x5] 24)).below (Below.refl _ _).drew
      refine (l1Below_c HD.out 6 (by omega) _ DA.cur).mono fun e w' ⟨y,h1,h2,h3⟩=>?_
      have DB:=DA.next h3.out
      obtain ⟨u,hu,hcu⟩:=few_words [268435456,33554432,33603576,33570816,268435457,x5] 24 (h3.out.keep (show (wr.alloc (.cells #[.int .u64 268435456,.int .u64 33554432,.int .u64 33603576,.int .u64 33570816,.int .u64 268435457,.int .u64 x5] 24)).drew.heap[wr.heap.size]?=_ from heap_alloc_new wr (.cells #[.int .u64 268435456,.int .u64 33554432,.int .u64 33603576,.int .u64 33570816,.int .u64 268435457,.int .u64 x5] 24)) gW.symm) (by intro x hx;simp only [List.mem_cons,List.not_mem_nil,or_false] at hx;rcases hx with rfl | rfl | rfl | rfl | rfl | rfl<;>first | exact hx5 | exact ⟨by decide,by decide⟩) (k:=y.toNat) (by simp;omega)
      exact ⟨y.toNat,u,by rw [h1,Int.toNat_of_nonneg h2.1],by omega,hu,DB,(AT.out _ DB).1,(AT.out _ DB).2.1,(AT.out _ DB).2.2,hcu⟩
     have HBB:Hid (Calls Tryz.prog 21 #[.pointer (some ⟨g,0,none⟩),.int .i64 6] wr.drew fun e w'=>∃ (i:Nat) (u:Int),e=.returned (.int .i64 i)∧i < 6∧Hid (U u)∧Hid (Dm w0 g a n cap w w.heap.size m M A w')∧w'.cell? ⟨m,1,none⟩=some (.slice (some ⟨bx,0,none⟩) 32 cx)∧w'.cell? ⟨bx,5,none⟩=some (.int .u64 x5)∧(∀ o,(w'.alloc o).cell? ⟨m,1,none⟩=some (.slice (some ⟨bx,0,none⟩) 32 cx))∧(∀ o,(w'.alloc o).cell? ⟨bx,5,none⟩=some (.int .u64 x5))∧(∀ o,(w'.alloc o).frozen? ⟨bx,5,none⟩=false)∧(w'.alloc (.cells #[.int .u64 268435456,.int .u64 33554432,.int .u64 33603576,.int .u64 33570816,.int .u64 268435457,.int .u64 x5] 24)).cell? ⟨w'.heap.size,i,none⟩=some (.int .u64 u)):=by
      have DA:=DW.out.below (Below.refl wr.heap.size wr).drew
      refine (l1Below_c HD.out 6 (by omega) _ DA.cur).mono fun e w' ⟨y,h1,h2,h3⟩=>?_
      have DB:=DA.next h3.out
      have AL:=fun o=>AT.out _ (DB.below ((Below.refl w'.heap.size w').alloc (Nat.le_refl _) o))
      obtain ⟨u,hu,hcu⟩:=few_words [268435456,33554432,33603576,33570816,268435457,x5] 24 (heap_alloc_new w' (.cells #[.int .u64 268435456,.int .u64 33554432,.int .u64 33603576,.int .u64 33570816,.int .u64 268435457,.int .u64 x5] 24)) (by intro x hx;simp only [List.mem_cons,List.not_mem_nil,or_false] at hx;rcases hx with rfl | rfl | rfl | rfl | rfl | rfl<;>first | exact hx5 | exact ⟨by decide,by decide⟩) (k:=y.toNat) (by simp;omega)
      exact ⟨y.toNat,u,by rw [h1,Int.toNat_of_nonneg h2.1],by omega,hu,DB,(AT.out _ DB).1,(AT.out _ DB).2.1,fun o=>(AL o).1,fun o=>(AL o).2.1,fun o=>(AL o).2.2,hcu⟩
     have HX5:=dhid hx5
     obtain ⟨i8,hi8,hy0,hy1⟩:=u64_parts9
     have SQ:Hid (∀ w',Dm w0 g a n cap w w.heap.size m M A w'→w'.cell? ⟨m,1,none⟩=some (.slice (some ⟨bx,0,none⟩) 32 cx)∧w'.cell? ⟨bx,5,none⟩=some (.int .u64 x5)∧Hid (Dm w0 g a n cap w w.heap.size m M A w')):=fun w' h=>⟨(AT.out w' h).1,(AT.out w' h).2.1,h⟩
     have DAL:=dhid ((ALL (.cells #[.int .u64 268435456,.int .u64 33554432,.int .u64 33603576,.int .u64 33570816,.int .u64 268435457,.int .u64 x5] 24)).below (Below.refl _ _).drew)
     have DDR:=dhid (DW.out.below (Below.refl wr.heap.size wr).drew)
     clear hx5e hx5 ALL AT cells
     go_cut [] from 11 (fun wc=>∃ M:MV,Hid (Dm w0 g a n cap w w.heap.size m M A wc))
     case first=>as_aux_lemma =>
      refine wp_region_K 12 (fun w'=>w'.cell? ⟨m,1,none⟩=some (.slice (some ⟨bx,0,none⟩) 32 cx)∧w'.cell? ⟨bx,5,none⟩=some (.int .u64 x5)∧Hid (Dm w0 g a n cap w w.heap.size m M A w')) (by kernel_rfl) (SQ.out _ DDR.out) (fun hHeld=>?_)
      refine wpAnyK_take (i:=0) (oi:={ dst:=some 74,op:=_,type:=_,pos:=_,after:=_,guard:=_ }) (v:=.pointer (some ⟨m,1,none⟩)) rfl (by kernel_rfl) (by kernel_rfl) (by kernel_rfl) (by kernel_rfl) (fun _ _ _ h=>h) (Or.inl ⟨by rfl,?_⟩) (by assumption) ?_
      ·intro w' hSw
       go_simp
      simp only [Act.put,List.setIfInBounds_toArray,List.set_cons_zero,List.set_cons_succ]
      refine wpAnyK_take (i:=1) (oi:={ dst:=some 75,op:=_,type:=_,pos:=_,after:=_,guard:=_ }) (v:=.slice (some ⟨bx,0,none⟩) 32 cx) rfl (by kernel_rfl) (by kernel_rfl) (by kernel_rfl) (by kernel_rfl) (fun _ _ _ h=>h) (Or.inl ⟨by rfl,?_⟩) (by assumption) ?_
      ·intro w' hSw
       go_simp
      simp only [Act.put,List.setIfInBounds_toArray,List.set_cons_zero,List.set_cons_succ]
      refine wpAnyK_take (i:=2) (oi:={ dst:=some 76,op:=_,type:=_,pos:=_,after:=_,guard:=_ }) (v:=.pointer (some ⟨m,1,none⟩)) rfl (by kernel_rfl) (by kernel_rfl) (by kernel_rfl) (by kernel_rfl) (fun _ _ _ h=>h) (Or.inl ⟨by rfl,?_⟩) (by assumption) ?_
      ·intro w' hSw
       go_simp
      simp only [Act.put,List.setIfInBounds_toArray,List.set_cons_zero,List.set_cons_succ]
      refine wpAnyK_take (i:=3) (oi:={ dst:=some 77,op:=_,type:=_,pos:=_,after:=_,guard:=_ }) (v:=.slice (some ⟨bx,0,none⟩) 32 cx) rfl (by kernel_rfl) (by kernel_rfl) (by kernel_rfl) (by kernel_rfl) (fun _ _ _ h=>h) (Or.inl ⟨by rfl,?_⟩) (by assumption) ?_
      ·intro w' hSw
       go_simp
      simp only [Act.put,List.setIfInBounds_toArray,List.set_cons_zero,List.set_cons_succ]
      refine wpAnyK_take (i:=4) (oi:={ dst:=some 78,op:=_,type:=_,pos:=_,after:=_,guard:=_ }) (v:=.pointer (some ⟨bx,5,none⟩)) rfl (by kernel_rfl) (by kernel_rfl) (by kernel_rfl) (by kernel_rfl) (fun _ _ _ h=>h) (Or.inl ⟨by rfl,?_⟩) (by assumption) ?_
      ·intro w' hSw
       go_simp
      simp only [Act.put,List.setIfInBounds_toArray,List.set_cons_zero,List.set_cons_succ]
      refine wpAnyK_take (i:=5) (oi:={ dst:=some 79,op:=_,type:=_,pos:=_,after:=_,guard:=_ }) (v:=.int .u64 x5) rfl (by kernel_rfl) (by kernel_rfl) (by kernel_rfl) (by kernel_rfl) (fun _ _ _ h=>h) (Or.inl ⟨by rfl,?_⟩) (by assumption) ?_
      ·intro w' hSw
       go_simp
      simp only [Act.put,List.setIfInBounds_toArray,List.set_cons_zero,List.set_cons_succ]
      refine wpAnyK_take (i:=7) (oi:={ dst:=some 81,op:=_,type:=_,pos:=_,after:=_,guard:=_ }) (v:=.pointer (some ⟨g,0,none⟩)) rfl (by kernel_rfl) (by kernel_rfl) (by kernel_rfl) (by kernel_rfl) (fun _ _ _ h=>h) (Or.inl ⟨by rfl,?_⟩) (by assumption) ?_
      ·intro w' hSw
       go_simp
      simp only [Act.put,List.setIfInBounds_toArray,List.set_cons_zero,List.set_cons_succ]
      refine wpAnyK_two (i:=6) (j:=8) (o1:={ dst:=some 80,op:=_,type:=_,pos:=_,after:=_,guard:=_ }) (o2:={ dst:=some 82,op:=_,type:=_,pos:=_,after:=_,guard:=_ }) rfl rfl (by kernel_rfl) (by decide) (by decide) (fun K hK=>?_) (fun K hK=>?_)
      ·rw [if_pos (by rfl)]
       refine wp_buildSlice 25 24 6 _ rfl #[.int .u64 268435456,.int .u64 33554432,.int .u64 33603576,.int .u64 33570816,.int .u64 268435457,.int .u64 x5] i8 (.int .u64 0) Tryz.underlying25 hi8 hy0 (by rw [hy1];decide) (by rw [hy1];decide) (by rw [hy1];kernel_rfl) ?_
       refine hK.out _ ((wr.alloc (.cells #[.int .u64 268435456,.int .u64 33554432,.int .u64 33603576,.int .u64 33570816,.int .u64 268435457,.int .u64 x5] 24)).drew) (SQ.out _ DAL.out) (fun hHeld=>?_)
       clear hK
       simp only [Act.put,List.setIfInBounds_toArray,List.set_cons_zero,List.set_cons_succ]
       refine wpAnyK_one (i:=8) (o:={ dst:=some 82,op:=_,type:=_,pos:=_,after:=_,guard:=_ }) rfl (by kernel_rfl) (by decide) (fun K hK=>?_)
       go_simp
       refine HBA.out.mono ?_
       rintro e wy ⟨i6,u6,rfl,hi6,hu6,DY,h1,h2,h3,h4⟩
       refine hK.out _ _ (SQ.out _ DY.out) (fun hHeld=>?_)
       clear hK
       have hi0:(0:Int)≤(i6:Int):=by omega
       have hi1:(i6:Int) < 6:=by omega
       refine wpAnyK_take (i:=9) (oi:={ dst:=some 83,op:=_,type:=_,pos:=_,after:=_,guard:=_ }) (v:=.pointer (some ⟨wr.heap.size,i6,none⟩)) rfl (by kernel_rfl) (by kernel_rfl) (by kernel_rfl) (by kernel_rfl) (fun _ _ _ h=>h) (Or.inl ⟨by rfl,?_⟩) (by assumption) ?_
       ·intro w' hSw
        go_simp
       simp only [Act.put,List.setIfInBounds_toArray,List.set_cons_zero,List.set_cons_succ]
       refine wpAnyK_one (i:=10) (o:={ dst:=some 84,op:=_,type:=_,pos:=_,after:=_,guard:=_ }) rfl (by kernel_rfl) (by decide) (fun K hK=>?_)
       go_simp
       refine hK.out _ _ (SQ.out _ DY.out) (fun hHeld=>?_)
       clear hK
       refine wpAnyK_take (i:=11) (oi:={ dst:=some 85,op:=_,type:=_,pos:=_,after:=_,guard:=_ }) (v:=.pointer (some ⟨bx,5,none⟩)) rfl (by kernel_rfl) (by kernel_rfl) (by kernel_rfl) (by kernel_rfl) (fun _ _ _ h=>h) (Or.inl ⟨by rfl,?_⟩) (by assumption) ?_
       ·intro w' hSw
        go_simp
       simp only [Act.put,List.setIfInBounds_toArray,List.set_cons_zero,List.set_cons_succ]
       refine wpAnyK_end (o:={ dst:=none,op:=_,type:=_,pos:=_,after:=_,guard:=_ }) rfl (by kernel_rfl) (fun K hK=>?_)
       go_simp
       refine hK.out _ _ ?_
       clear hK
       refine wpAny_done (by kernel_rfl) ?_ _
       go_wp2_with fail
       go_meet
       exact ⟨_,DY.out.setX bx ea 5 hu6.out⟩
      ·go_simp
       refine HBB.out.mono ?_
       rintro e wy ⟨i6,u6,rfl,hi6,hu6,DY,h1,h2,h1A,h2A,h3A,h4⟩
       refine hK.out _ _ (SQ.out _ DY.out) (fun hHeld=>?_)
       clear hK
       have hi0:(0:Int)≤(i6:Int):=by omega
       have hi1:(i6:Int) < 6:=by omega
       have DYA:=dhid (DY.out.below ((Below.refl wy.heap.size wy).alloc (Nat.le_refl _) (.cells #[.int .u64 268435456,.int .u64 33554432,.int .u64 33603576,.int .u64 33570816,.int .u64 268435457,.int .u64 x5] 24)))
       refine wpAnyK_one (i:=6) (o:={ dst:=some 80,op:=_,type:=_,pos:=_,after:=_,guard:=_ }) rfl (by kernel_rfl) (by decide) (fun K hK=>?_)
       rw [if_pos (by rfl)]
       refine wp_buildSlice 25 24 6 _ rfl #[.int .u64 268435456,.int .u64 33554432,.int .u64 33603576,.int .u64 33570816,.int .u64 268435457,.int .u64 x5] i8 (.int .u64 0) Tryz.underlying25 hi8 hy0 (by rw [hy1];decide) (by rw [hy1];decide) (by rw [hy1];kernel_rfl) ?_
       refine hK.out _ (wy.alloc (.cells #[.int .u64 268435456,.int .u64 33554432,.int .u64 33603576,.int .u64 33570816,.int .u64 268435457,.int .u64 x5] 24)) (SQ.out _ DYA.out) (fun hHeld=>?_)
       clear hK
       simp only [Act.put,List.setIfInBounds_toArray,List.set_cons_zero,List.set_cons_succ]
       refine wpAnyK_take (i:=9) (oi:={ dst:=some 83,op:=_,type:=_,pos:=_,after:=_,guard:=_ }) (v:=.pointer (some ⟨wy.heap.size,i6,none⟩)) rfl (by kernel_rfl) (by kernel_rfl) (by kernel_rfl) (by kernel_rfl) (fun _ _ _ h=>h) (Or.inl ⟨by rfl,?_⟩) (by assumption) ?_
       ·intro w' hSw
        go_simp
       simp only [Act.put,List.setIfInBounds_toArray,List.set_cons_zero,List.set_cons_succ]
       refine wpAnyK_one (i:=10) (o:={ dst:=some 84,op:=_,type:=_,pos:=_,after:=_,guard:=_ }) rfl (by kernel_rfl) (by decide) (fun K hK=>?_)
       go_simp
       refine hK.out _ _ (SQ.out _ DYA.out) (fun hHeld=>?_)
       clear hK
       refine wpAnyK_take (i:=11) (oi:={ dst:=some 85,op:=_,type:=_,pos:=_,after:=_,guard:=_ }) (v:=.pointer (some ⟨bx,5,none⟩)) rfl (by kernel_rfl) (by kernel_rfl) (by kernel_rfl) (by kernel_rfl) (fun _ _ _ h=>h) (Or.inl ⟨by rfl,?_⟩) (by assumption) ?_
       ·intro w' hSw
        go_simp
       simp only [Act.put,List.setIfInBounds_toArray,List.set_cons_zero,List.set_cons_succ]
       refine wpAnyK_end (o:={ dst:=none,op:=_,type:=_,pos:=_,after:=_,guard:=_ }) rfl (by kernel_rfl) (fun K hK=>?_)
       have e3:=h3A (.cells #[.int .u64 268435456,.int .u64 33554432,.int .u64 33603576,.int .u64 33570816,.int .u64 268435457,.int .u64 x5] 24)
       go_simp
       refine hK.out _ _ ?_
       clear hK
       refine wpAny_done (by kernel_rfl) ?_ _
       go_wp2_with fail
       go_meet
       exact ⟨_,DYA.out.setX bx ea 5 hu6.out⟩
     case rest=>as_aux_lemma =>
      clear HBA HBB cm cmA c5 c5A f5 f5A DW HX5 ea ec SQ DAL DDR hi8 hy0 hy1
      obtain ⟨M,D30⟩:=hcut
      go_wp2_with fail
      refine (l8Draw_c HD.out _ D30.out.cur).mono ?_
      rintro e w31 ⟨DD,a1,c1,a2,c2,rfl,hfit,hfam,hs31⟩
      have D31:=dhid (D30.out.dev hs31.out DD a1 c1 a2 c2 hfit.out hfam.out)
      have R31:=dhid (D30.out.next hs31.out).mp.row
      have dsz:(Tryz.prog.info? 27).map (·.size)=some 6:=dev_size
      clear hs31 hfit hfam D30
      go_wp2_with (first | (refine wpList_store_at rfl 27 (.tmp 88) (.tmp 87) rfl m 5 (dvc DD a1 c1 a2 c2) rfl rfl 29 (mvc M A) R31.out dsz (by simp [mvc,dvc]) (dvc_one _ _ _ _ _) ?_;rw [dvc_at]))
      generalize w31.setRow m (mvc (devM M DD) (devA A a1 c1 a2 c2))=wv at D31 ⊢
      obtain ⟨M,A,DN⟩:∃ (M:MV) (A:MA),Hid (Dm w0 g a n cap w w.heap.size m M A wv):=⟨_,_,D31⟩
      clear D31 R31 dsz
      go_wp2_with fail
      refine (l1Once_c HD.out 3 (by omega) _ DN.out.cur).mono ?_
      rintro e w32 ⟨c32,rfl,hs32⟩
      have D32:=dhid (DN.out.next hs32.out)
      clear hs32 DN
      go_upto_if 90 with fail
      go_cut [] from 11 (fun wc=>∃ (M:MV) (A:MA),Hid (Dm w0 g a n cap w w.heap.size m M A wc))
      case first=>as_aux_lemma =>
       cases c32
       ·go_wp2_with fail
        go_meet
        exact ⟨_,_,D32⟩
       ·go_wp2_with fail
        refine (l4DrawCsrs_c HD.out _ D32.out.cur).mono ?_
        rintro e w33 ⟨rfl,hg33⟩
        obtain ⟨zc,huc,hoc,hcc,-⟩:=hg33.out
        have D33:=dhid (D32.out.csrs hcc zc huc hoc)
        have D33b:=dhid (D32.out.next hcc)
        have c3:=row_cell D33b.out.mp.row 3
        have f3:=froz D33b.out.mp.row 3
        clear huc hoc hcc hg33
        simp only [mvc] at c3
        go_wp2_with fail
        go_meet
        exact ⟨_,_,D33⟩
      case rest=>as_aux_lemma =>
       clear D32
       obtain ⟨M,A,DN⟩:=hcut
       go_wp2_with fail
       obtain ⟨bx,cx,ea,ec,cm,cells⟩:=DN.out.atC
       obtain ⟨Pd,hPd⟩:∃ Pd:World→Prop,Pd=fun w'=>∃ M,Dm w0 g a n cap w w.heap.size m M A w':=⟨_,rfl⟩
       have PW:Hid (∀ w',Pd w'→w'.cell? ⟨m,3,none⟩=some (.slice (some ⟨bx,0,none⟩) 22 cx)∧Pd w'):=fun w' h=>⟨by rw [hPd] at h;obtain ⟨M',h⟩:=h;obtain ⟨b',c',e1,e2,e3,_⟩:=h.atC;rw [ea] at e1;cases e1;rw [ec] at e2;rw [e2];exact e3,h⟩
       have PF:Hid (∀ w',Pd w'→(∃ v:Int,w'.cell? ⟨bx,4,none⟩=some (.int .u64 v))∧w'.frozen? ⟨bx,4,none⟩=false):=by
        rw [hPd]
        rintro w' ⟨M',h⟩
        obtain ⟨b',c',e1,e2,_,e4⟩:=h.atC
        rw [ea] at e1
        cases e1
        exact ⟨⟨_,(e4 4 (by omega)).1⟩,(e4 4 (by omega)).2⟩
       have PS:Hid (∀ (w':World) (v:Int),U v→Pd w'→Pd (w'.setCell ⟨bx,4,none⟩ (.int .u64 v))):=by
        rw [hPd]
        exact fun w' v hv ⟨M',h⟩=>⟨_,h.setC bx ea 4 hv⟩
       have PN:Hid (∀ w' w'',Pd w'→Cs w0 g a n cap w' w''→Pd w''):=by
        rw [hPd]
        exact fun w' w'' ⟨M',h⟩ k=>⟨M',h.next k⟩
       have PC:Hid (∀ w',Pd w'→Cur w0 w' g a n cap):=by
        rw [hPd]
        exact fun w' ⟨M',h⟩=>h.cur
       have EX:Hid (∀ w',Pd w'→∃ M,Dm w0 g a n cap w w.heap.size m M A w'):=by rw [hPd];exact fun w' h=>h
       have p0:Pd wc:=by rw [hPd];exact ⟨_,DN.out⟩
       have p1:Pd wc.drew:=PN.out _ _ p0 (Cs.of_below (PC.out _ p0) (Below.refl _ _).drew)
       have HBL:Hid (∀ w',Pd w'→Calls Tryz.prog 21 #[.pointer (some ⟨g,0,none⟩),.int .i64 64] w' fun e w''=>∃ y:Int,e=.returned (.int .i64 y)∧(0≤y∧y < 64)∧Pd w''):=fun w' h=>(l1Below_c HD.out 64 (by omega) w' (PC.out _ h)).mono fun e w'' ⟨y,h1,h2,h3⟩=>⟨y,h1,h2,PN.out _ _ h h3.out⟩
       clear hPd cm cells DN
       go_region_held3 (fun w'=>w'.cell? ⟨m,3,none⟩=some (.slice (some ⟨bx,0,none⟩) 22 cx)∧Pd w') (first | exact PW.out _ (by assumption)) (first | (go_at_call 21;with_reducible refine (HBL.out _ (by assumption)).mono ?_;rintro e wy ⟨y,rfl,hy,py⟩;obtain ⟨⟨v,cv⟩,fv⟩:=PF.out _ py;have pz:=PS.out _ (IntKind.u64.wrap (2147483648+IntKind.u64.wrap (4*IntKind.u64.wrap y))) (U_wrap _) py))
       generalize wy.setCell ⟨bx,4,none⟩ (.int .u64 (IntKind.u64.wrap (2147483648+IntKind.u64.wrap (4*IntKind.u64.wrap y))))=wz at pz ⊢
       obtain ⟨M,dz⟩:=EX.out _ pz
       have D41:=dhid dz
       clear dz PW PF PS PN PC EX p0 p1
       clear pz py cv fv HBL ea ec hy
       go_wp2_with fail
       refine (l1Once_c HD.out 2 (by omega) _ D41.out.cur).mono ?_
       rintro e w42 ⟨c42,rfl,hs42⟩
       have D42:=dhid (D41.out.next hs42.out)
       clear hs42 D41
       go_upto_if 103 with fail
       go_cut [] from 11 (fun wc=>∃ (M:MV) (A:MA),Hid (Dm w0 g a n cap w w.heap.size m M A wc))
       case first=>as_aux_lemma =>
        cases c42
        ·go_wp2_with fail
         go_meet
         exact ⟨_,_,D42⟩
        ·go_wp2_with fail
         obtain ⟨bc,cc,ea,ec,cm,cells⟩:=D42.out.atC
         obtain ⟨q4,r4⟩:=cells 4 (by omega)
         generalize M.cs.getD 4 0=y4 at q4
         clear cells ec
         go_region_with fail
         all_goals go_wp2_with fail
         all_goals go_meet
         all_goals exact ⟨_,_,dhid ((D42.out.setC bc ea 4 (U_bits .or y4 1)).below (Below.refl _ _).drew)⟩
       case rest=>as_aux_lemma =>
        clear D42
        obtain ⟨M,A,DN⟩:=hcut
        go_wp2_with fail
        refine (l1Once_c HD.out 3 (by omega) _ DN.out.cur).mono ?_
        rintro e w43 ⟨c43,rfl,hs43⟩
        have D43:=dhid (DN.out.next hs43.out)
        clear hs43 DN
        go_upto_if 113 with fail
        go_cut [] from 11 (fun wc=>∃ (M:MV) (A:MA),Hid (Dm w0 g a n cap w w.heap.size m M A wc))
        case first=>as_aux_lemma =>
         cases c43
         ·go_wp2_with fail
          go_meet
          exact ⟨_,_,D43⟩
         ·obtain ⟨bc,cc,ea,ec,cm,cells⟩:=D43.out.atC
          have k16:=cells 16 (by omega)
          have k17:=cells 17 (by omega)
          have m1:¬ m=bc:=fun e=>D43.out.mp.ne (wRow A.ac M.cs.length A.cc M.cs) (by simp [mvF]) (by simp only [wRow];rw [ea,e];rfl)
          have m2:¬ bc=m:=fun e=>m1 e.symm
          obtain ⟨q16,r16⟩:=k16
          obtain ⟨q17,r17⟩:=k17
          have D99:=dhid ((D43.out.setC bc ea 16 (show U 31 from ⟨by decide,by decide⟩)).setC bc ea 17 (show U 18014398509481983 from ⟨by decide,by decide⟩))
          clear cells D43
          go_wp2_with fail
          go_meet
          exact ⟨_,_,D99⟩
        case rest=>as_aux_lemma =>
         clear D43
         obtain ⟨M,A,DN⟩:=hcut
         go_wp2_with fail
         refine (l1Once_c HD.out 3 (by omega) _ DN.out.cur).mono ?_
         rintro e w50 ⟨c50,rfl,hs50⟩
         have D50:=dhid (DN.out.next hs50.out)
         clear hs50 DN
         go_upto_if 121 with fail
         go_cut [] from 11 (fun wc=>∃ (M:MV) (A:MA),Hid (Dm w0 g a n cap w w.heap.size m M A wc))
         case first=>as_aux_lemma =>
          cases c50
          ·go_wp2_with fail
           go_meet
           exact ⟨_,_,D50⟩
          ·go_wp2_with fail
           have HA:=dhid (D50.out.below ((Below.refl w50.heap.size w50).alloc (Nat.le_refl _) (.cells #[.int .i64 0,.int .i64 1] 2)))
           refine (l1Below_c HD.out 2 (by omega) _ HA.out.cur).mono ?_
           rintro e w51 ⟨y,rfl,⟨hy0,hy1⟩,hs51⟩
           obtain ⟨k2,rfl⟩:=Int.eq_ofNat_of_zero_le hy0
           obtain ⟨v,hv,hcell⟩:∃ v:Int,(v=0∨v=1)∧w51.cell? ⟨w50.heap.size,k2,none⟩=some (.int .i64 v):=by
            have hr:=row_cell (hs51.out.keep (heap_alloc_new w50 (.cells #[.int .i64 0,.int .i64 1] 2)) (Nat.ne_of_gt D50.out.cur.lt)) k2
            rcases (show k2=0∨k2=1 by omega) with rfl | rfl
            ·exact ⟨0,.inl rfl,hr⟩
            ·exact ⟨1,.inr rfl,hr⟩
           have D51:=dhid (HA.out.next hs51.out)
           have cf2:w51.cell? ⟨m,2,none⟩=some (.int .i64 M.pr):=row_cell D51.out.mp.row 2
           have ff2:=froz D51.out.mp.row 2
           have D52:=dhid (D51.out.setPr v (hv.elim .inl fun e=>.inr (.inl e)))
           clear hs51 HA D50 D51 hv
           go_wp2_with fail
           generalize w51.setCell ⟨m,2,none⟩ (.int .i64 v)=w52 at D52 ⊢
           clear hcell cf2 ff2
           obtain ⟨M,D52⟩:∃ M:MV,Hid (Dm w0 g a n cap w w.heap.size m M A w52):=⟨_,D52⟩
           go_wp2_with fail
           refine (l1Once_c HD.out 3 (by omega) _ D52.out.cur).mono ?_
           rintro e w53 ⟨c53,rfl,hs53⟩
           have D53:=dhid (D52.out.next hs53.out)
           clear hs53 D52
           go_upto_if 130 with fail
           go_cut [] from 11 (fun wc=>∃ (M:MV) (A:MA),Hid (Dm w0 g a n cap w w.heap.size m M A wc))
           case first=>as_aux_lemma =>
            cases c53
            ·obtain ⟨bc,cc,ea,ec,cm,cells⟩:=D53.out.atC
             have k16:=cells 16 (by omega)
             have k17:=cells 17 (by omega)
             have m1:¬ m=bc:=fun e=>D53.out.mp.ne (wRow A.ac M.cs.length A.cc M.cs) (by simp [mvF]) (by simp only [wRow];rw [ea,e];rfl)
             have m2:¬ bc=m:=fun e=>m1 e.symm
             obtain ⟨q16,r16⟩:=k16
             obtain ⟨q17,r17⟩:=k17
             have D99:=dhid ((D53.out.setC bc ea 16 (show U 31 from ⟨by decide,by decide⟩)).setC bc ea 17 (show U 18014398509481983 from ⟨by decide,by decide⟩))
             clear cells D53
             go_wp2_with fail
             go_meet
             exact ⟨_,_,D99⟩
            ·go_wp2_with fail
             go_meet
             exact ⟨_,_,D53⟩
           case rest=>as_aux_lemma =>
            clear D53
            obtain ⟨M,A,DN⟩:=hcut
            go_wp2_with fail
            refine (l1Once_c HD.out 2 (by omega) _ DN.out.cur).mono ?_
            rintro e w54 ⟨c54,rfl,hs54⟩
            have D54:=dhid (DN.out.next hs54.out)
            clear hs54 DN
            go_upto_if 138 with fail
            go_cut [] from 11 (fun wc=>∃ (M:MV) (A:MA),Hid (Dm w0 g a n cap w w.heap.size m M A wc))
            case first=>as_aux_lemma =>
             cases c54
             ·go_wp2_with fail
              go_meet
              exact ⟨_,_,D54⟩
             ·go_wp2_with fail
              refine (l7DrawPaged_c HD.out D54.out).mono ?_
              rintro e w55 ⟨rfl,M',D55⟩
              go_wp2_with fail
              go_meet
              exact ⟨_,_,D55⟩
            case rest=>as_aux_lemma =>
             clear D54
             obtain ⟨M,A,DN⟩:=hcut
             go_wp2_with fail
             go_meet
             exact ⟨_,_,DN⟩
         case rest=>as_aux_lemma =>
          clear D50
          obtain ⟨M,A,DN⟩:=hcut
          go_wp2_with fail
          refine (l1Once_c HD.out 6 (by omega) _ DN.out.cur).mono ?_
          rintro e w60 ⟨c60,rfl,hs60⟩
          have D60:=dhid (DN.out.next hs60.out)
          clear hs60 DN
          go_upto_if 142 with fail
          go_cut [] from 11 (fun wc=>∃ (M:MV) (A:MA),Hid (Dm w0 g a n cap w w.heap.size m M A wc))
          case first=>as_aux_lemma =>
           cases c60
           ·go_wp2_with fail
            go_meet
            exact ⟨_,_,D60⟩
           ·go_wp2_with fail
            refine (l1Below_c HD.out 8 (by omega) _ D60.out.cur).mono ?_
            rintro e w61 ⟨y,rfl,⟨hy0,hy1⟩,hs61⟩
            have D61:=dhid (D60.out.next hs61.out)
            have cf0:w61.cell? ⟨m,0,none⟩=some (.int .u64 M.pc):=row_cell D61.out.mp.row 0
            have ff0:=froz D61.out.mp.row 0
            clear hs61 D60
            go_wp2_with fail
            go_meet
            exact ⟨_,_,dhid (D61.out.setPc _ (by first | exact U_wrap _ | exact ⟨by omega,by omega⟩))⟩
          case rest=>as_aux_lemma =>
           clear D60
           obtain ⟨M,A,DN⟩:=hcut
           go_wp2_with fail
           refine (l1Once_c HD.out 5 (by omega) _ DN.out.cur).mono ?_
           rintro e w70 ⟨c70,rfl,hs70⟩
           have D70:=dhid (DN.out.next hs70.out)
           clear hs70 DN
           go_upto_if 150 with fail
           go_cut [] from 11 (fun wc=>∃ (M:MV) (A:MA),Hid (Dm w0 g a n cap w w.heap.size m M A wc))
           case first=>as_aux_lemma =>
            cases c70
            ·go_wp2_with fail
             go_meet
             exact ⟨_,_,D70⟩
            ·have cf12:w70.cell? ⟨m,12,none⟩=some (.bool M.hl):=row_cell D70.out.mp.row 12
             have ff12:=froz D70.out.mp.row 12
             have D71:=dhid (D70.out.setHl true)
             clear D70
             go_wp2_with fail
             generalize w70.setCell ⟨m,12,none⟩ (.bool true)=w71 at D71 ⊢
             clear cf12 ff12
             obtain ⟨M,D71⟩:∃ M:MV,Hid (Dm w0 g a n cap w w.heap.size m M A w71):=⟨_,D71⟩
             refine (l1Below_c HD.out 1024 (by omega) _ D71.out.cur).mono ?_
             rintro e w72 ⟨y,rfl,⟨hy0,hy1⟩,hs72⟩
             have D72:=dhid (D71.out.next hs72.out)
             have cf11:w72.cell? ⟨m,11,none⟩=some ((.int .u64 M.hd)):=row_cell D72.out.mp.row 11
             have ff11:=froz D72.out.mp.row 11
             clear hs72 D71
             go_wp2_with fail
             go_meet
             exact ⟨_,_,dhid (D72.out.setHd _ (by first | exact U_wrap _ | exact ⟨by omega,by omega⟩))⟩
           case rest=>as_aux_lemma =>
            clear D70
            obtain ⟨M,A,DN⟩:=hcut
            go_wp2_with fail
            refine (l1Once_c HD.out 12 (by omega) _ DN.out.cur).mono ?_
            rintro e w80 ⟨c80,rfl,hs80⟩
            have D80:=dhid (DN.out.next hs80.out)
            clear hs80 DN
            go_upto_if 159 with fail
            go_cut [] from 11 (fun wc=>∃ (M:MV) (A:MA),Hid (Dm w0 g a n cap w w.heap.size m M A wc))
            case first=>as_aux_lemma =>
             cases c80
             ·go_wp2_with fail
              go_meet
              exact ⟨_,_,D80⟩
             ·have cf13:w80.cell? ⟨m,13,none⟩=some (.bool M.wt):=row_cell D80.out.mp.row 13
              have ff13:=froz D80.out.mp.row 13
              go_wp2_with fail
              go_meet
              exact ⟨_,_,dhid (D80.out.setWt true)⟩
            case rest=>as_aux_lemma =>
             clear D80
             obtain ⟨M,A,DN⟩:=hcut
             go_wp2_with fail
             refine (l9Line_mp M A _ m _ DN.out.fit.cs DN.out.fit.len DN.out.mp).mono ?_
             rintro e w90 ⟨rfl,hp90,hk90⟩
             have D90:=dhid (DN.out.step (DN.out.mp.under hk90) hp90 (line_fit DN.out.fit))
             clear hp90 hk90 DN
             generalize lineM M=M at D90
             have RM:=dhid D90.out.mp.row
             have RR:=dhid D90.out.res
             have OUT:=dhid (D90.out.outM (mvc M A))
             have FT:=dhid D90.out.fit
             clear D90
             rename_i K1 hK1 K0 hK0
             refine hK0 _ _ ?_
             refine wpList_nil ?_
             refine hK1 _ _ ?_
             exact ret_row 162 8 2 29 rfl rfl rfl rfl rfl rfl Tryz.results19 m w.heap.size rfl rfl (by decide) (of_decide_eq_true (by kernel_rfl)) rfl (mvc M A) (mvc zeroM zeroA) _ _ _ _ RM.out RR.out Tryz.underlying29 rfl mac_size rfl (mvc_oneM M A) ⟨M,A,rfl,FT,dhid OUT.out.1,dhid OUT.out.2⟩

end Go.Proofs.YtbajeckeeekhnaaGreat
