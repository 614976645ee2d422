/- Own lemmas. -/
import Derived.Test.YtbajeckeeekhnaaGreatK07
import Derived.Test.YtbajeckeeekhnaaGreatK08
import Derived.Test.YtbajeckeeekhnaaGreatK26
import Derived.Test.YtbajeckeeekhnaaGreatK28
namespace Go.Proofs.YtbajeckeeekhnaaGreat
open Go.RowKit
set_option linter.unusedVariables false

theorem none_row (w:World):(w.alloc (.cells #[.int .i64 0,.int .i64 0,.int .i64 0,.int .i64 0,.int .i64 0] 63)).heap[w.heap.size]?=some (.cells #[.int .i64 0,.int .i64 0,.int .i64 0,.int .i64 0,.int .i64 0] 63 (0,0)):=heap_alloc_new _ _

set_option maxHeartbeats 1600000 in
theorem l2Match_any (i:Nat) (hi:i < 98) (nm:ByteArray) (f:Fm) (o z m x:Int) (h0:0≤x) (h1:x < 4294967296) (hx:Hid (f=.x→0≤o∧o < 128∧0≤m∧m < 4096)) (w:World) :
 Calls Tryz.prog 70 #[.int .i64 i,.agg #[.string nm,.string f.str,.int .u64 o,.int .i64 z,.int .u64 m],.int .u64 x] w fun e w'=>e=.returned (.bool (decide (matchP i f o z m x)))∧Below w.heap.size w w':=by
 have A1:bits .and .u64 x 127=x % 128:=and_low x 7 h0 (by omega) (by decide)
 have A2:bits .and .u64 (x / 4096) 7=x / 4096 % 8:=and_low (x / 4096) 3 (by omega) (by omega) (by decide)
 have A3:bits .and .u64 (x / 128) 31=x / 128 % 32:=and_low (x / 128) 5 (by omega) (by omega) (by decide)
 have A4:bits .and .u64 (x / 1048576) 31=x / 1048576 % 32:=and_low (x / 1048576) 5 (by omega) (by omega) (by decide)
 cases f
 case x =>
  have H:=hx.out rfl
  have A5:IntKind.u64.wrap (m*1048576)=m*1048576:=by rw [IntKind.wrap_u64];omega
  have A6:bits .or .u64 (m*1048576) o=m*1048576+o:=by
   rw [u64_or _ _ (by omega) (by omega) (by omega) (by omega)]
   rw [nat_join 20 _ _ (by omega) (by omega)];omega
  clear H
  simp only [Fm.str]
  go_enter Tryz.func70,Tryz.ntmps70
  go_wp2_with fail
  all_goals go_ret
  all_goals refine ⟨?_,(Below.refl _ _).alloc (Nat.le_refl _) _⟩
  all_goals (clear hx;go_tidy;show Ending.returned (Value.bool _)=Ending.returned (Value.bool _);congr 2;rw [Bool.eq_iff_iff,decide_eq_true_iff];simp only [matchP,bne_iff_ne,beq_iff_eq,bne_eq_false_iff_eq,Bool.false_eq_true,ne_eq,false_iff] at *)
  all_goals omega
 all_goals (
  simp only [Fm.str]
  go_enter Tryz.func70,Tryz.ntmps70
  go_wp2_with fail
  all_goals go_ret
  all_goals refine ⟨?_,(Below.refl _ _).alloc (Nat.le_refl _) _⟩
  all_goals (clear hx;go_tidy;show Ending.returned (Value.bool _)=Ending.returned (Value.bool _);congr 2;rw [Bool.eq_iff_iff,decide_eq_true_iff];simp only [matchP,bne_iff_ne,beq_iff_eq,bne_eq_false_iff_eq,Bool.false_eq_true,ne_eq,true_iff,false_iff,and_true] at *)
  all_goals omega)

set_option maxHeartbeats 1600000 in
theorem l2Imm_any (f:Fm) (x:Int) (h0:0≤x) (h1:x < 4294967296) (w:World) :
 Calls Tryz.prog 71 #[.string f.str,.int .u64 x] w fun e w'=>e=.returned (.int .i64 (immV f x))∧w'=w:=by
 cases f
 case i =>
  simp only [Fm.str]
  go_enter Tryz.func71,Tryz.ntmps71
  go_wp2_with fail
  refine (l1Widen_any (x / 1048576) 12 (by decide) (by decide) _).mono ?_
  rintro e w1 ⟨rfl,rfl⟩
  go_wp2_with fail
  go_ret
  exact ⟨rfl,rfl⟩
 case s =>
  have A1:IntKind.u64.wrap (x / 33554432*32)=x / 33554432*32:=by rw [IntKind.wrap_u64];omega
  have A2:bits .and .u64 (x / 128) 31=x / 128 % 32:=and_low (x / 128) 5 (by omega) (by omega) (by decide)
  have A3:bits .or .u64 (x / 33554432*32) (x / 128 % 32)=x / 33554432*32+x / 128 % 32:=by
   have:=or64 (x / 33554432*32) (x / 128 % 32) 0 5 (by omega) (by omega) (by omega) (by omega) (by omega) (by omega)
   simpa using this
  simp only [Fm.str]
  go_enter Tryz.func71,Tryz.ntmps71
  go_wp2_with fail
  refine (l1Widen_any (x / 33554432*32+x / 128 % 32) 12 (by decide) (by decide) _).mono ?_
  rintro e w1 ⟨rfl,rfl⟩
  go_wp2_with fail
  go_ret
  exact ⟨rfl,rfl⟩
 case b =>
  have A1:IntKind.u64.wrap (x / 2147483648*4096)=x / 2147483648*4096:=by rw [IntKind.wrap_u64];omega
  have A2:bits .and .u64 (x / 128) 1=x / 128 % 2:=and_low (x / 128) 1 (by omega) (by omega) (by decide)
  have A3:IntKind.u64.wrap (x / 128 % 2*2048)=x / 128 % 2*2048:=by rw [IntKind.wrap_u64];omega
  have A4:bits .or .u64 (x / 2147483648*4096) (x / 128 % 2*2048)=x / 2147483648*4096+x / 128 % 2*2048 :=
   or64 (x / 2147483648*4096) (x / 128 % 2) 11 1 (by omega) (by omega) (by omega) (by omega) (by omega) (by omega)
  have A5:bits .and .u64 (x / 33554432) 63=x / 33554432 % 64:=and_low (x / 33554432) 6 (by omega) (by omega) (by decide)
  have A6:IntKind.u64.wrap (x / 33554432 % 64*32)=x / 33554432 % 64*32:=by rw [IntKind.wrap_u64];omega
  have A7:bits .or .u64 (x / 2147483648*4096+x / 128 % 2*2048) (x / 33554432 % 64*32)=x / 2147483648*4096+x / 128 % 2*2048+x / 33554432 % 64*32 :=
   or64 (x / 2147483648*4096+x / 128 % 2*2048) (x / 33554432 % 64) 5 6 (by omega) (by omega) (by omega) (by omega) (by omega) (by omega)
  have A8:bits .and .u64 (x / 256) 15=x / 256 % 16:=and_low (x / 256) 4 (by omega) (by omega) (by decide)
  have A9:IntKind.u64.wrap (x / 256 % 16*2)=x / 256 % 16*2:=by rw [IntKind.wrap_u64];omega
  have A10:bits .or .u64 (x / 2147483648*4096+x / 128 % 2*2048+x / 33554432 % 64*32) (x / 256 % 16*2)=x / 2147483648*4096+x / 128 % 2*2048+x / 33554432 % 64*32+x / 256 % 16*2 :=
   or64 (x / 2147483648*4096+x / 128 % 2*2048+x / 33554432 % 64*32) (x / 256 % 16) 1 4 (by omega) (by omega) (by omega) (by omega) (by omega) (by omega)
  simp only [Fm.str]
  go_enter Tryz.func71,Tryz.ntmps71
  go_wp2_with fail
  refine (l1Widen_any (x / 2147483648*4096+x / 128 % 2*2048+x / 33554432 % 64*32+x / 256 % 16*2) 13 (by decide) (by decide) _).mono ?_
  rintro e w1 ⟨rfl,rfl⟩
  go_wp2_with fail
  go_ret
  exact ⟨rfl,rfl⟩
 case u =>
  have A1:IntKind.u64.wrap (x / 4096*4096)=x / 4096*4096:=by rw [IntKind.wrap_u64];omega
  simp only [Fm.str]
  go_enter Tryz.func71,Tryz.ntmps71
  go_wp2_with fail
  refine (l1Widen_any (x / 4096*4096) 32 (by decide) (by decide) _).mono ?_
  rintro e w1 ⟨rfl,rfl⟩
  go_wp2_with fail
  go_ret
  exact ⟨rfl,rfl⟩
 case j =>
  have A1:IntKind.u64.wrap (x / 2147483648*1048576)=x / 2147483648*1048576:=by rw [IntKind.wrap_u64];omega
  have A2:bits .and .u64 (x / 4096) 255=x / 4096 % 256:=and_low (x / 4096) 8 (by omega) (by omega) (by decide)
  have A3:IntKind.u64.wrap (x / 4096 % 256*4096)=x / 4096 % 256*4096:=by rw [IntKind.wrap_u64];omega
  have A4:bits .or .u64 (x / 2147483648*1048576) (x / 4096 % 256*4096)=x / 2147483648*1048576+x / 4096 % 256*4096 :=
   or64 (x / 2147483648*1048576) (x / 4096 % 256) 12 8 (by omega) (by omega) (by omega) (by omega) (by omega) (by omega)
  have A5:bits .and .u64 (x / 1048576) 1=x / 1048576 % 2:=and_low (x / 1048576) 1 (by omega) (by omega) (by decide)
  have A6:IntKind.u64.wrap (x / 1048576 % 2*2048)=x / 1048576 % 2*2048:=by rw [IntKind.wrap_u64];omega
  have A7:bits .or .u64 (x / 2147483648*1048576+x / 4096 % 256*4096) (x / 1048576 % 2*2048)=x / 2147483648*1048576+x / 4096 % 256*4096+x / 1048576 % 2*2048 :=
   or64 (x / 2147483648*1048576+x / 4096 % 256*4096) (x / 1048576 % 2) 11 1 (by omega) (by omega) (by omega) (by omega) (by omega) (by omega)
  have A8:bits .and .u64 (x / 2097152) 1023=x / 2097152 % 1024:=and_low (x / 2097152) 10 (by omega) (by omega) (by decide)
  have A9:IntKind.u64.wrap (x / 2097152 % 1024*2)=x / 2097152 % 1024*2:=by rw [IntKind.wrap_u64];omega
  have A10:bits .or .u64 (x / 2147483648*1048576+x / 4096 % 256*4096+x / 1048576 % 2*2048) (x / 2097152 % 1024*2)=x / 2147483648*1048576+x / 4096 % 256*4096+x / 1048576 % 2*2048+x / 2097152 % 1024*2 :=
   or64 (x / 2147483648*1048576+x / 4096 % 256*4096+x / 1048576 % 2*2048) (x / 2097152 % 1024) 1 10 (by omega) (by omega) (by omega) (by omega) (by omega) (by omega)
  simp only [Fm.str]
  go_enter Tryz.func71,Tryz.ntmps71
  go_wp2_with fail
  refine (l1Widen_any (x / 2147483648*1048576+x / 4096 % 256*4096+x / 1048576 % 2*2048+x / 2097152 % 1024*2) 21 (by decide) (by decide) _).mono ?_
  rintro e w1 ⟨rfl,rfl⟩
  go_wp2_with fail
  go_ret
  exact ⟨rfl,rfl⟩
 case h =>
  have A1:bits .and .u64 (x / 1048576) 63=x / 1048576 % 64:=and_low (x / 1048576) 6 (by omega) (by omega) (by decide)
  have F:Hid (immV .h x=x / 1048576 % 64):=widen64 (x / 1048576 % 64) (by omega) (by omega)
  simp only [Fm.str]
  go_enter Tryz.func71,Tryz.ntmps71
  go_wp2_with fail
  go_ret
  exact ⟨by rw [F.out];rfl,rfl⟩
 case w =>
  have A1:bits .and .u64 (x / 1048576) 31=x / 1048576 % 32:=and_low (x / 1048576) 5 (by omega) (by omega) (by decide)
  have F:Hid (immV .w x=x / 1048576 % 32):=widen64 (x / 1048576 % 32) (by omega) (by omega)
  simp only [Fm.str]
  go_enter Tryz.func71,Tryz.ntmps71
  go_wp2_with fail
  go_ret
  exact ⟨by rw [F.out];rfl,rfl⟩
 case a =>
  have A1:bits .and .u64 (x / 33554432) 3=x / 33554432 % 4:=and_low (x / 33554432) 2 (by omega) (by omega) (by decide)
  have F:Hid (immV .a x=x / 33554432 % 4):=widen64 (x / 33554432 % 4) (by omega) (by omega)
  simp only [Fm.str]
  go_enter Tryz.func71,Tryz.ntmps71
  go_wp2_with fail
  go_ret
  exact ⟨by rw [F.out];rfl,rfl⟩
 case c =>
  have F:Hid (immV .c x=x / 1048576):=widen64 (x / 1048576) (by omega) (by omega)
  simp only [Fm.str]
  go_enter Tryz.func71,Tryz.ntmps71
  go_wp2_with fail
  go_ret
  exact ⟨by rw [F.out];rfl,rfl⟩
 case r =>
  have F:Hid (immV .r x=0):=widen64 (0) (by omega) (by omega)
  simp only [Fm.str]
  go_enter Tryz.func71,Tryz.ntmps71
  go_wp2_with fail
  go_ret
  exact ⟨by rw [F.out];rfl,rfl⟩
 case x =>
  have F:Hid (immV .x x=0):=widen64 (0) (by omega) (by omega)
  simp only [Fm.str]
  go_enter Tryz.func71,Tryz.ntmps71
  go_wp2_with fail
  go_ret
  exact ⟨by rw [F.out];rfl,rfl⟩

theorem rowOk_x {k:Nat} {r:Row} (h:rowOk k r=true):r.fm=.x→0≤r.op∧r.op < 128∧0≤r.more∧r.more < 4096:=by
 intro hx
 simp only [rowOk,hx,Bool.and_eq_true,decide_eq_true_eq] at h
 omega

set_option maxHeartbeats 3200000 in
theorem specDecode_any (x:Int) (h0:0≤x) (h1:x < 18446744073709551616) (w:World) :
 Calls Tryz.prog 50 #[.int .u64 x] w fun e w'=>e=.returned (decV x)∧Below w.heap.size w w':=by
 by_cases hbig:x < 4294967296
 ·have d1:(x / 4294967296 != 0)=false:=by simp;omega
  have HH:Hid (∀ k,findRow x 98 0=some k→decV x=.tuple #[(insAt k x).val,.bool true]):=fun k (h:findRow x 98 0=some k)=>decV_hit x k hbig h
  have HM:Hid (findRow x 98 0=none→decV x=.tuple #[noIns.val,.bool false]):=fun (h:findRow x 98 0=none)=>decV_miss x hbig h
  obtain ⟨V,hV⟩:∃ V,V=decV x:=⟨_,rfl⟩
  rw [← hV] at HH HM ⊢
  clear hV
  go_enter Tryz.func50,Tryz.ntmps50
  go_wp2_with fail
  refine (l2Rows_T _).mono ?_
  rintro e w1 ⟨rfl,hT,hb⟩
  have hsz:w.heap.size+1 < w1.heap.size:=by have:=hT.out.1;simp at this;omega
  have G0:Hid (w1.heap[w.heap.size]?=some (.cells #[.int .i64 0,.int .i64 0,.int .i64 0,.int .i64 0,.int .i64 0] 63 (0,0))):=by
   show _=_
   rw [hb.block _ (by simp)];exact none_row w
  have hb0:Below w.heap.size w w1:=((Below.refl _ _).alloc (Nat.le_refl _) _).trans (hb.mono (by simp))
  obtain ⟨g,hg⟩:∃ g,g=(w.alloc (.cells #[.int .i64 0,.int .i64 0,.int .i64 0,.int .i64 0,.int .i64 0] 63)).heap.size:=⟨_,rfl⟩
  rw [← hg] at hT ⊢
  clear hb hg
  go_wp2_with fail
  go_loopw [5] (fun i wr=>∃ k:Nat,k≤98∧i=.int .i64 k∧Hid (findRow x (98 - k) k=findRow x 98 0)∧Hid (TabS wr g) ∧
   Hid (wr.heap[w.heap.size]?=some (.cells #[.int .i64 0,.int .i64 0,.int .i64 0,.int .i64 0,.int .i64 0] 63 (0,0)))∧Below w.heap.size w wr)
   (fun i _=>98 - (intOf i).toNat)
  case atStart=>exact ⟨0,by omega,rfl,(rfl:findRow x (98 - 0) 0=findRow x 98 0),hT,G0,hb0⟩
  case round =>
   obtain ⟨k,hk,rfl,hf,hT2,G,hb2⟩:=hrel
   clear G0 hb0 hT
   by_cases hlt:k < 98
   ·have RX:=rowOk_x (rows_ok k hlt)
    obtain ⟨r,hr0⟩:∃ r,r=rowAt k:=⟨_,rfl⟩
    obtain ⟨c0,c1,c2,c3,c4⟩:=hT2.out.2 k hlt r hr0
    have MB:decide (matchP k r.fm r.op r.f3 r.more x)=matchB k x:=by rw [hr0];rfl
    have IV:Hid (Value.agg #[.int .i64 ((k:Int)+1),.int .i64 (rdV r.fm x),.int .i64 (aV r.fm x),.int .i64 (bV r.fm x),.int .i64 (immV r.fm x)]=(insAt k x).val):=by
     show _=_
     rw [hr0];rfl
    rw [← hr0] at RX
    have LM0:=l2Match_any k hlt r.name r.fm r.op r.f3 r.more x h0 hbig RX
    rw [MB] at LM0
    clear hr0 MB RX
    obtain ⟨nm,f,o,z,m⟩:=r
    simp only at c0 c1 c2 c3 c4 IV LM0
    obtain ⟨s,hs⟩:∃ s,s=f.str:=⟨_,rfl⟩
    rw [← hs] at c1 LM0
    obtain ⟨mb,hmb⟩:∃ b,b=matchB k x:=⟨_,rfl⟩
    rw [← hmb] at LM0
    have LM:Hid (∀ w:World,Calls Tryz.prog 70 #[.int .i64 k,.agg #[.string nm,.string s,.int .u64 o,.int .i64 z,.int .u64 m],.int .u64 x] w fun e w'=>e=.returned (.bool mb)∧Below w.heap.size w w'):=LM0
    have HMB:Hid (mb=matchB k x):=hmb
    have HS:Hid (s=f.str):=hs
    clear LM0 hmb hs
    go_wp2_with fail
    refine (LM.out _).mono ?_
    rintro e w2 ⟨rfl,hbp⟩
    have hbw:Below wr.heap.size wr w2:=((Below.refl _ _).alloc (Nat.le_refl _) _).trans (hbp.mono (by simp))
    have c1':w2.cell? ⟨wr.heap.size,1,none⟩=some (.string s):=by
     rw [hbp.cell (by simp)]
     rw [cell_of_row _ _ _ _ _ _ (heap_alloc_new _ _)];rfl
    have G2:w2.heap[w.heap.size]?=some (.cells #[.int .i64 0,.int .i64 0,.int .i64 0,.int .i64 0,.int .i64 0] 63 (0,0)):=keep_some hbw G.out
    have hT3:Hid (TabS w2 g):=TabS.below hT2.out hT2.out.1 hbw
    have hb3:=below_trans hb2 hbw
    have hlt2:wr.heap.size < w2.heap.size:=by have:=hbp.size;simp at this;omega
    have c1a:∀ o,(w2.alloc o).cell? ⟨wr.heap.size,1,none⟩=some (.string s):=fun o=>(((Below.refl w2.heap.size w2).alloc (Nat.le_refl _) o).cell (p:=⟨wr.heap.size,1,none⟩) hlt2).trans c1'
    have G2a:∀ o,(w2.alloc o).heap[w.heap.size]?=some (.cells #[.int .i64 0,.int .i64 0,.int .i64 0,.int .i64 0,.int .i64 0] 63 (0,0)):=fun o=>keep_some ((Below.refl w2.heap.size w2).alloc (Nat.le_refl _) o) G2
    have HG2a:Hid (∀ o,(w2.alloc o).heap[w.heap.size]?=some (.cells #[.int .i64 0,.int .i64 0,.int .i64 0,.int .i64 0,.int .i64 0] 63 (0,0))):=G2a
    have HG2:Hid (w2.heap[w.heap.size]?=some (.cells #[.int .i64 0,.int .i64 0,.int .i64 0,.int .i64 0,.int .i64 0] 63 (0,0))):=G2
    clear G2 G2a
    clear hbp LM c0 c1 c2 c3 c4
    cases mb with
    | true =>
      have F:Hid (V=.tuple #[(insAt k x).val,.bool true]):=HH.out k (hf.out.symm.trans (findRow_hit x k hlt HMB.out.symm))
      have A7:bits .and .u64 (x / 128) 31=x / 128 % 32:=and_low (x / 128) 5 (by omega) (by omega) (by decide)
      have A15:bits .and .u64 (x / 32768) 31=x / 32768 % 32:=and_low (x / 32768) 5 (by omega) (by omega) (by decide)
      have A20:bits .and .u64 (x / 1048576) 31=x / 1048576 % 32:=and_low (x / 1048576) 5 (by omega) (by omega) (by decide)
      have hs:=HS.out
      subst hs
      have LI0:=l2Imm_any f x h0 hbig
      obtain ⟨y4,hy4⟩:∃ y,y=immV f x:=⟨_,rfl⟩
      rw [← hy4] at LI0 IV
      have LI:Hid (∀ w:World,Calls Tryz.prog 71 #[.string f.str,.int .u64 x] w fun e w'=>e=.returned (.int .i64 y4)∧w'=w):=LI0
      clear LI0 hy4 HS
      cases f
      all_goals (
       simp only [Fm.str] at c1' c1a LI ⊢
       go_wp2_with fail
       refine (LI.out _).mono ?_
       rintro e w3 ⟨rfl,hw3⟩
       have hw4:=hw3.symm
       subst hw4
       go_wp2_with (refine wpList_store_rowTo rfl 63 (.tmp 2) (.tmp 82) rfl rfl w.heap.size _ rfl rfl 63 _ (HG2a.out _) inst_size rfl (inst_one _ _ _ _ _) ?_)
       refine bodyPost_ret (results_row2 Tryz.results50 _ _ _ _ _ _ _ rfl (setRow_heap _ _ _ _ _ _ (HG2a.out _)) Tryz.underlying63 rfl inst_size) rfl ⟨?_,?_⟩
       ·rw [F.out,← IV.out];rfl
       ·exact below_setRow (hb3.alloc hb3.size _) (Nat.le_refl _) _)
    | false =>
      have F:Hid (findRow x (98 - (k+1)) (k+1)=findRow x 98 0):=(findRow_miss x k hlt HMB.out.symm).symm.trans hf.out
      go_wp2_with fail
      go_roundw
      case rel=>exact ⟨k+1,by omega,by go_num,F,hT3,HG2,hb3⟩
      case measure=>simp [intOf];omega
   ·have hk2:k=98:=by omega
    subst hk2
    have F:Hid (V=.tuple #[noIns.val,.bool false]):=HM.out hf.out.symm
    have G3:=G.out
    go_wp2_with (refine wpList_store_rowTo rfl 63 (.tmp 2) (.tmp 83) rfl rfl w.heap.size #[.int .i64 0,.int .i64 0,.int .i64 0,.int .i64 0,.int .i64 0] rfl rfl 63 _ G3 inst_size rfl (inst_one _ _ _ _ _) ?_)
    refine bodyPost_ret (results_row2 Tryz.results50 _ _ _ _ _ _ _ rfl (setRow_heap _ _ _ _ _ _ G3) Tryz.underlying63 rfl inst_size) rfl ⟨?_,?_⟩
    ·rw [F.out];rfl
    ·exact below_setRow hb2 (Nat.le_refl _) _
 ·have d1:(x / 4294967296 != 0)=true:=by simp;omega
  have F:Hid (decV x=.tuple #[noIns.val,.bool false]):=decV_far x hbig
  obtain ⟨V,hV⟩:∃ V,V=decV x:=⟨_,rfl⟩
  rw [← hV] at F ⊢
  clear hV
  go_enter Tryz.func50,Tryz.ntmps50
  go_wp2_with fail
  refine bodyPost_ret (results_row2 Tryz.results50 _ _ _ _ _ _ _ rfl (none_row w) Tryz.underlying63 rfl inst_size) rfl ⟨?_,?_⟩
  ·rw [F.out];rfl
  ·exact (Below.refl _ _).alloc (Nat.le_refl _) _

theorem ranks_drop (k:Nat) (h:k < 6):ranks.drop k=ranks.getD k 0 :: ranks.drop (k+1):=by
 have e:k=0∨k=1∨k=2∨k=3∨k=4∨k=5:=by omega
 rcases e with rfl | rfl | rfl | rfl | rfl | rfl<;>rfl

theorem ranks_lt (k:Nat):ranks.getD k 0 < 64:=by
 by_cases h:k < 6
 ·have e:k=0∨k=1∨k=2∨k=3∨k=4∨k=5:=by omega
  rcases e with rfl | rfl | rfl | rfl | rfl | rfl<;>decide
 ·have:ranks.getD k 0=0:=by simp [ranks,List.getD,List.getElem?_eq_none (show [11,3,7,9,1,5].length≤k by simp;omega)]
  omega

theorem ranks_yes (x:Int) (k:Nat) (h:k < 6) (hf:firstIn x (ranks.drop k)=firstV x) (hb:(bitAt x (ranks.getD k 0)==1)=true):firstV x=(ranks.getD k 0:Nat):=by
 rw [← hf,ranks_drop k h,firstIn,hb]

theorem ranks_no (x:Int) (k:Nat) (h:k < 6) (hf:firstIn x (ranks.drop k)=firstV x) (hb:(bitAt x (ranks.getD k 0)==1)=false):firstIn x (ranks.drop (k+1))=firstV x:=by
 rw [← hf,ranks_drop k h,firstIn,hb]

def rankCells:Array Value:=#[.int .i64 11,.int .i64 3,.int .i64 7,.int .i64 9,.int .i64 1,.int .i64 5]

theorem rank_cell (k:Nat) (h:k < 6):rankCells[k]?=some (.int .i64 (ranks.getD k 0:Nat)):=by
 have e:k=0∨k=1∨k=2∨k=3∨k=4∨k=5:=by omega
 rcases e with rfl | rfl | rfl | rfl | rfl | rfl<;>rfl

set_option maxHeartbeats 1600000 in
theorem l5First_any (x:Int) (w:World):Calls Tryz.prog 74 #[.int .u64 x] w fun e w'=>e=.returned (.int .i64 (firstV x))∧Below w.heap.size w w':=by
 go_enter Tryz.func74,Tryz.ntmps74
 go_wp2_with fail
 have B1:Below w.heap.size w (w.alloc (Obj.cells #[.int .i64 11,.int .i64 3,.int .i64 7,.int .i64 9,.int .i64 1,.int .i64 5] 2)):=(Below.refl _ _).alloc (Nat.le_refl _) _
 have C1:Hid (∀ k,k < 6→(w.alloc (Obj.cells #[.int .i64 11,.int .i64 3,.int .i64 7,.int .i64 9,.int .i64 1,.int .i64 5] 2)).cell? ⟨w.heap.size,k,none⟩=some (.int .i64 (ranks.getD k 0:Nat))):=fun k hk=>(cell_of_row _ _ _ _ _ _ (heap_alloc_new _ _)).trans (rank_cell k hk)
 generalize w.alloc (Obj.cells #[.int .i64 11,.int .i64 3,.int .i64 7,.int .i64 9,.int .i64 1,.int .i64 5] 2)=w1 at *
 go_loopw [4] (fun i wr=>∃ k:Nat,k≤6∧i=.int .i64 k∧Hid (firstIn x (ranks.drop k)=firstV x)∧wr=w1)
  (fun i _=>6 - (intOf i).toNat)
 case atStart=>exact ⟨0,by omega,rfl,(rfl:firstIn x (ranks.drop 0)=firstV x),rfl⟩
 case round =>
  obtain ⟨k,hk,rfl,hf,rfl⟩:=hrel
  by_cases hlt:k < 6
  ·have hc:=C1.out k hlt
   have YES:Hid ((bitAt x (ranks.getD k 0)==1)=true→Hid (firstV x=(ranks.getD k 0:Nat))):=fun h=>ranks_yes x k hlt hf.out h
   have NO:Hid ((bitAt x (ranks.getD k 0)==1)=false→Hid (firstIn x (ranks.drop (k+1))=firstV x)):=fun h=>ranks_no x k hlt hf.out h
   have hr:=ranks_lt k
   generalize ranks.getD k 0=r at *
   have HB:Hid (∀ w,Calls Tryz.prog 73 #[.int .u64 x,.int .u64 r] w fun e w'=>e=.returned (.int .u64 (bitAt x r))∧w'=w):=fun w=>l5Bit_any x r hr w
   have hw:IntKind.u64.wrap (r:Int)=r:=by rw [IntKind.wrap_u64];omega
   have dk:decide ((k:Int) < 6)=true:=by simp;omega
   have hk0:(0:Int)≤(k:Int):=by omega
   have hk1:(k:Int) < 6:=by omega
   clear hr hf
   generalize bitAt x r=y at *
   cases d:(y==1) with
   | true =>
     have F:=YES.out d
     clear YES NO
     go_wp2_with fail
     refine (HB.out _).mono ?_
     rintro e wx ⟨rfl,hwx⟩
     have hwy:=hwx.symm
     subst hwy
     go_wp2_with fail
     go_ret
     exact ⟨by rw [F.out];rfl,B1⟩
   | false =>
     have F:=NO.out d
     clear YES NO
     go_wp2_with fail
     refine (HB.out _).mono ?_
     rintro e wx ⟨rfl,hwx⟩
     have hwy:=hwx.symm
     subst hwy
     go_wp2_with fail
     go_roundw
     case rel=>exact ⟨k+1,by omega,by go_num,F,trivial⟩
     case measure=>simp [intOf];omega
  ·have hk2:k=6:=by omega
   subst hk2
   have F:Hid (firstV x=-1):=hf.out.symm
   go_wp2_with fail
   go_ret
   exact ⟨by rw [F.out];rfl,B1⟩

end Go.Proofs.YtbajeckeeekhnaaGreat
