/- Own lemmas. -/
import Derived.Test.YtbajeckeeekhnaaGreatK01
import Derived.Test.YtbajeckeeekhnaaGreatK02
import Derived.BigQuiet
import Derived.Deep.RegionWith
import Derived.Laws.Tables
import Derived.RegionTactic
import Derived.WalkKit
namespace Go.Proofs.YtbajeckeeekhnaaGreat
open Go.RowKit
set_option linter.unusedVariables false

theorem stV_0 (D:DV) (x:Int):stV D x 0=(⟨D.t,D.cm,bits .and .u64 x 1==1,D.xs,D.ys,D.ir⟩,true):=by rw [stV]

theorem stV_1 (D:DV) (x:Int):stV D x 1=(⟨D.t,x,D.so,D.xs,D.ys,D.ir⟩,true):=by rw [stV]

theorem stV_2 (D:DV) (x:Int):stV D x 2=(⟨x,D.cm,D.so,D.xs,D.ys,D.ir⟩,true):=by rw [stV]

theorem stV_3r (D:DV) (x:Int) (h:D.ys.length < 4096):stV D x 3=(⟨D.t,D.cm,D.so,D.xs,D.ys ++ [IntKind.u8.wrap x],D.ir⟩,true):=by rw [stV,if_pos h]

theorem stV_3f (D:DV) (x:Int) (h:¬ D.ys.length < 4096):stV D x 3=(D,true):=by rw [stV,if_neg h]

theorem stV_4 (D:DV) (x:Int):stV D x 4=(⟨D.t,D.cm,D.so,D.xs,D.ys,wrap64 (bits .and .u64 x 1)⟩,true):=by rw [stV]

theorem stV_5 (D:DV) (x:Int):stV D x 5=(D,true):=by rw [stV]

theorem stV_6 (D:DV) (x:Int):stV D x 6=(zeroD,false):=by
 rw [stV]<;>omega

set_option maxRecDepth 100000 in
set_option maxHeartbeats 1600000 in
theorem l8Lines_any (t cm:Int) (so:Bool) (a1:Option Addr) (n1 c1:Nat) (a2:Option Addr) (n2 c2:Nat) (ir:Int) (w:World) (hn1:n1≤1048576) :
 Calls Tryz.prog 26 #[.agg #[.int .u64 t,.int .u64 cm,.bool so,.slice a1 n1 c1,.slice a2 n2 c2,.int .i64 ir]] w fun e w'=>e=.returned (.int .u64 (IntKind.u64.wrap (IntKind.u64.wrap (IntKind.u64.wrap (8*oneIf so)+IntKind.u64.wrap (128*oneIf (decide (cm≤t))))+IntKind.u64.wrap (2048*oneIf ((ir==1)&&decide (0 < n1))))))∧Below w.heap.size w w':=by
 have HI:Hid (∀ (b:Bool) w,Calls Tryz.prog 45 #[.bool b] w fun e w'=>e=.returned (.int .u64 (oneIf b))∧∃ m,w'=w.drewN m):=fun b w=>(l3If_dev b w).mono fun _ _ h=>⟨h.1,0,h.2⟩
 have hB:∀ o m,Below w.heap.size w ((w.alloc o).drewN m):=fun o m=>⟨rfl,rfl,rfl,by simp,fun k hk=>Below.heap_alloc w o k hk⟩
 clear hn1
 cases ti:(ir==1) with
 | true =>
   go_enter Tryz.func26,Tryz.ntmps26
   go_wp2_with fail
   go_quiet (first | (go_at_call 45;with_reducible refine Calls.quiet_of (HI.out _ _)))
   go_wp2_with fail
   go_ret
   exact ⟨rfl,hB _ _⟩
 | false =>
   go_enter Tryz.func26,Tryz.ntmps26
   go_wp2_with fail
   go_quiet (first | (go_at_call 45;with_reducible refine Calls.quiet_of (HI.out _ _)))
   go_wp2_with fail
   go_ret
   exact ⟨rfl,hB _ _⟩

set_option maxRecDepth 100000 in
set_option maxHeartbeats 6400000 in
theorem l9Line_x (pc:Int) (ax:Option Addr) (nx cx:Nat) (pr:Int) (g cc:Nat) (ar:Option Addr) (nr cr:Nat) (t cm:Int) (so:Bool) (ai:Option Addr) (ni ci:Nat) (ao:Option Addr) (no co:Nat) (ir hd:Int) (hl wt:Bool) (b:Nat) (y ln:Int) (w:World) (hrow:w.heap[b]?=some (.cells #[.int .u64 pc,.slice ax nx cx,.int .i64 pr,.slice (some ⟨g,0,none⟩) 22 cc,.slice ar nr cr,.int .u64 t,.int .u64 cm,.bool so,.slice ai ni ci,.slice ao no co,.int .i64 ir,.int .u64 hd,.bool hl,.bool wt] 29 (0,0))) (hcell:w.cell? ⟨g,9,none⟩=some (.int .u64 y)) (hfz:w.frozen? ⟨g,9,none⟩=false) (hg:g < w.heap.size)
 (hN:∀ w',Below w.heap.size w w'→Calls Tryz.prog 26 #[.agg #[.int .u64 t,.int .u64 cm,.bool so,.slice ai ni ci,.slice ao no co,.int .i64 ir]] w' fun e w''=>e=.returned (.int .u64 ln)∧Below w'.heap.size w' w'') :
 Calls Tryz.prog 41 #[.pointer (some ⟨b,0,none⟩)] w fun e w'=>e=.returned (.tuple #[])∧∃ w1,Below w.heap.size w w1∧w'=w1.setCell ⟨g,9,none⟩ (.int .u64 (bits .or .u64 (bits .andNot .u64 y 2184) ln)):=by
 have HN:Hid (Calls Tryz.prog 26 #[.agg #[.int .u64 t,.int .u64 cm,.bool so,.slice ai ni ci,.slice ao no co,.int .i64 ir]] w.drew fun e w''=>e=.returned (.int .u64 ln)∧Below w.drew.heap.size w.drew w''):=hN w.drew (Below.refl _ _).drew
 have HROW:=dhid hrow
 have HG:=dhid hg
 have HC:=dhid (And.intro hcell hfz)
 obtain ⟨p0,p1,p2,p3,p4,p5,p6,p7,p8,p9,p10,p11,p12,p13⟩:=cells14 hrow
 clear hN hrow hg
 go_enter Tryz.func41,Tryz.ntmps41
 go_wp2_with fail
 go_region_with (first | (go_at_call 26;with_reducible refine HN.out.mono ?_;rintro e w1 ⟨rfl,hb1⟩;have B1:=dhid (below_trans (Below.refl w.heap.size w).drew hb1);clear hb1;obtain ⟨q0,q1,q2,q3,q4,q5,q6,q7,q8,q9,q10,q11,q12,q13⟩:=cells14 (dstays B1.out HROW.out);have hc1:=(B1.out.cell (p:=⟨g,9,none⟩) HG.out).trans HC.out.1;have hf1:w1.frozen? ⟨g,9,none⟩=false:=(by have h1:=HC.out.2;have h2:=B1.out.block g HG.out;unfold World.frozen? at h1 ⊢;dsimp only at h1 ⊢;rw [h2];exact h1)))
 all_goals go_wp2_with fail
 all_goals refine bodyPost_end (results_none rfl _ _ _) rfl ?_
 all_goals exact ⟨rfl,w1,B1.out,rfl⟩

def lineM (M:MV):MV:=⟨M.pc,M.x,M.pr,M.cs.set 9 (bits .or .u64 (bits .andNot .u64 (M.cs.getD 9 0) 2184) (linesV M.d)),M.ram,M.d,M.hd,M.hl,M.wt⟩

theorem mvc_line (M:MV) (A:MA):mvc (lineM M) A=mvc M A:=by
 simp [mvc,lineM]

theorem grown_one (w:World) (g i:Nat) (v:Value):w.grownBy (w.setCell ⟨g,i,none⟩ v) (some g) :=
 ⟨rfl,rfl,rfl,by rw [size_set];exact Nat.le_refl _,fun k _ hk=>Below.heap_setCell w ⟨g,i,none⟩ v k (fun h=>hk (by rw [h]))⟩

theorem l9Line_any (M:MV) (A:MA) (b B E:Nat) (w:World) (h22:M.cs.length=22) (hl:MLen M) (hrow:w.heap[b]?=some (.cells (mvc M A) 29 (0,0))) (hf:Fam B E w (mvF M A)) (hb:∀ q ∈ mvF M A,q.v.ownBlock≠some b) :
 Calls Tryz.prog 41 #[.pointer (some ⟨b,0,none⟩)] w fun e w'=>e=.returned (.tuple #[])∧w'.heap[b]?=some (.cells (mvc (lineM M) A) 29 (0,0))∧Fam B E w' (mvF (lineM M) A)∧KeepL (mvF M A) w w':=by
 have hmem:wRow A.ac M.cs.length A.cc M.cs ∈ mvF M A:=by simp [mvF]
 have ho:=hf.own _ hmem
 have hsl:=hf.msl
 obtain ⟨g,off,hac,hg,hc⟩:=hsl.cs 9 (by omega)
 have hoff:off=0:=by
  rcases ho.2 with ⟨e,_⟩ | ⟨g',cap,cur,e,_⟩
  ·have e2:Value.slice A.ac M.cs.length A.cc=.slice none 0 0:=e
   injection e2 with e3
   rw [hac] at e3
   cases e3
  ·have e2:Value.slice A.ac M.cs.length A.cc=.slice (some ⟨g',0,none⟩) M.cs.length cap:=e
   injection e2 with e3
   rw [hac] at e3
   injection e3 with e4
   injection e4
 subst hoff
 rw [Nat.zero_add] at hc
 have hblk:(wRow A.ac M.cs.length A.cc M.cs).v.ownBlock=some g:=by show (Value.slice A.ac M.cs.length A.cc).ownBlock=_;rw [hac];rfl
 have hgb:g≠b:=fun e=>hb _ hmem (by rw [hblk,e])
 have hfz:w.frozen? ⟨g,9,none⟩=false:=by
  rcases ho.2 with ⟨e,_⟩ | ⟨g',cap,cur,e,h1,h2,_⟩
  ·have e2:Value.slice A.ac M.cs.length A.cc=.slice none 0 0:=e
   rw [hac] at e2
   cases e2
  ·have e2:Value.slice A.ac M.cs.length A.cc=.slice (some ⟨g',0,none⟩) M.cs.length cap:=e
   rw [hac] at e2
   injection e2 with e3
   injection e3 with e4
   injection e4 with e5
   subst e5
   exact froz h2 9
 have hr2:=hrow
 unfold mvc at hr2
 rw [hac,h22] at hr2
 refine (l9Line_x _ _ _ _ _ g _ _ _ _ _ _ _ _ _ _ _ _ _ _ _ _ _ b (M.cs.getD 9 0) (linesV M.d) w hr2 hc hfz hg (fun w' hw=>l8Lines_any _ _ _ _ _ _ _ _ _ _ w' hl.xs)).mono ?_
 rintro e w' ⟨rfl,w1,hb1,rfl⟩
 have hf1:=hf.below hb1
 have ho1:=hf1.own _ hmem
 refine ⟨rfl,?_,?_⟩
 ·rw [mvc_line]
  exact row_far (dstays hb1 hrow) ⟨g,9,none⟩ _ (fun e=>hgb e.symm)
 ·have hgr:w1.grownBy (w1.setCell ⟨g,9,none⟩ (.int .u64 (bits .or .u64 (bits .andNot .u64 (M.cs.getD 9 0) 2184) (linesV M.d)))) (wRow A.ac M.cs.length A.cc M.cs).v.ownBlock:=by rw [hblk];exact grown_one _ _ _ _
  have hst:(w1.setCell ⟨g,9,none⟩ (.int .u64 (bits .or .u64 (bits .andNot .u64 (M.cs.getD 9 0) 2184) (linesV M.d)))).ownsRow B 24 1 (.slice A.ac M.cs.length A.cc) M.cs.length ((lineM M).cs.map (Value.int .u64)):=by
   have h2:w1.ownsRow B 24 1 (.slice A.ac M.cs.length A.cc) M.cs.length (M.cs.map (Value.int .u64)):=ho1
   rw [hac] at h2 ⊢
   have h3:=(h2.stored 9 (.int .u64 (bits .or .u64 (bits .andNot .u64 (M.cs.getD 9 0) 2184) (linesV M.d)))).1
   rw [map_set_u64] at h3
   exact h3
  have hm:=Fam.markL (L1:=[wRow A.ax M.x.length A.cx M.x]) (L2:=[bRow A.ar M.ram.length A.cr M.ram,bRow A.ai M.d.xs.length A.ci M.d.xs,bRow A.ao M.d.ys.length A.co M.d.ys]) (r:=wRow A.ac M.cs.length A.cc M.cs) hf1 hgr _ hst
  refine ⟨?_,(KeepL.of_below hb1).trans hm.2⟩
  have hlen:(lineM M).cs.length=M.cs.length:=by simp [lineM]
  unfold mvF
  rw [hlen]
  exact hm.1

theorem wpH_row9 {K:Act→World→Prop} {Q:Exit→Act→World→Prop} {o:Oper} {a:Act} {W:World} {ys:Nat→Option Bool} (hw:Region.wanted o ys=true) (ty:TypeId) (p x:Operand) (hop:o.op=.store ty p x) (g:Nat) (hp:a.eval p=.pointer (some ⟨g,0,none⟩)) (old cells:Array Value) (hx:a.eval x=.agg cells) (t:TypeId) (hg:W.heap[g]?=some (.cells old t (0,0)))
 (hi:(Tryz.prog.info? ty).map (·.size)=some cells.size) (ho:old.size=cells.size) (h1:cells.all (·.oneCell')=true) (h:K (a.put o.dst undef) (W.setRow g cells)) :
 if Region.wanted o ys=true then Oper.wp Tryz.prog o a W K Q else K (a.put o.dst undef) W:=by
 rw [if_pos hw]
 exact wp_store_row ty p x hop g cells hp hx t old hg hi ho h1 h

theorem row_below {B:Nat} {v w:World} (h:Below B v w) {g:Nat} (hg:B≤g) (cs:Array Value):Below B v (w.setRow g cs) :=
 ⟨h.os,h.tape,h.output,by rw [setRow_size];exact h.size,fun k hk=>(setRow_other w g k cs (by omega)).trans (h.block k hk)⟩

structure Mp (B r:Nat) (M:MV) (A:MA) (W:World):Prop where
 row:W.heap[r]?=some (.cells (mvc M A) 29 (0,0))
 fam:Fam B W.heap.size W (mvF M A)
 ne:∀ q ∈ mvF M A,q.v.ownBlock≠some r
 lo:B≤r

structure Kx (r:Nat) (L L':List FRow) (w w':World):Prop where
 os:w'.os=w.os
 tape:w'.tape=w.tape
 output:w'.output=w.output
 size:w.heap.size≤w'.heap.size
 block:∀ k,k < w.heap.size→k≠r→(∀ q ∈ L,q.v.ownBlock≠some k)→w'.heap[k]?=w.heap[k]?
 own:∀ q ∈ L',∀ k,q.v.ownBlock=some k→k < w.heap.size→∃ q0 ∈ L,q0.v.ownBlock=some k

theorem Kx.refl (r:Nat) (L:List FRow) (w:World):Kx r L L w w:=⟨rfl,rfl,rfl,Nat.le_refl _,fun _ _ _ _=>rfl,fun q hq k e _=>⟨q,hq,e⟩⟩

theorem Kx.trans {r:Nat} {L1 L2 L3:List FRow} {a b c:World} (h:Kx r L1 L2 a b) (k:Kx r L2 L3 b c):Kx r L1 L3 a c :=
 ⟨k.os.trans h.os,k.tape.trans h.tape,k.output.trans h.output,Nat.le_trans h.size k.size,
  fun i hi hr ho=>(k.block i (Nat.lt_of_lt_of_le hi h.size) hr (fun q hq e=>by obtain ⟨q0,h0,e0⟩:=h.own q hq i e hi;exact ho q0 h0 e0)).trans (h.block i hi hr ho),
  fun q hq i e hi=>by obtain ⟨q1,h1,e1⟩:=k.own q hq i e (Nat.lt_of_lt_of_le hi h.size);exact h.own q1 h1 i e1 hi⟩

theorem Kx.of_below {r:Nat} {L:List FRow} {w w':World} (h:Below w.heap.size w w'):Kx r L L w w' :=
 ⟨h.os,h.tape,h.output,h.size,fun k hk _ _=>h.block k hk,fun q hq k e _=>⟨q,hq,e⟩⟩

theorem Kx.set {r:Nat} {L:List FRow} (w:World) (i:Nat) (v:Value):Kx r L L w (w.setCell ⟨r,i,none⟩ v) :=
 ⟨rfl,rfl,rfl,by rw [size_set];exact Nat.le_refl _,fun k _ hr _=>Below.heap_setCell w ⟨r,i,none⟩ v k (fun e=>hr (by rw [e])),fun q hq k e _=>⟨q,hq,e⟩⟩

theorem Kx.of_keepL {r:Nat} {L L':List FRow} {w w':World} (h:KeepL L w w') (hs:∀ q ∈ L',∃ q0 ∈ L,q0.v=q.v):Kx r L L' w w' :=
 ⟨h.os,h.tape,h.output,h.size,fun k hk _ ho=>h.block k hk ho,fun q hq k e _=>by obtain ⟨q0,h0,e0⟩:=hs q hq;exact ⟨q0,h0,by rw [e0];exact e⟩⟩

theorem Kx.below {r B:Nat} {L L':List FRow} {w w':World} (h:Kx r L L' w w') (hr:B≤r) (hB:B≤w.heap.size) (hL:∀ q ∈ L,∀ k,q.v.ownBlock=some k→B≤k):Below B w w' :=
 ⟨h.os,h.tape,h.output,h.size,fun k hk=>h.block k (by omega) (by omega) (fun q hq e=>by have:=hL q hq k e;omega)⟩

theorem Mp.below {B r:Nat} {M:MV} {A:MA} {w w':World} (h:Mp B r M A w) (hb:Below w.heap.size w w'):Mp B r M A w' :=
 ⟨dstays hb h.row,(h.fam.below hb).low (Nat.le_refl _) hb.size,h.ne,h.lo⟩

theorem Mp.lt {B r:Nat} {M:MV} {A:MA} {w:World} (h:Mp B r M A w):r < w.heap.size:=(Array.getElem?_eq_some_iff.1 h.row).1

theorem Mp.under {B r:Nat} {M M':MV} {A A':MA} {w w':World} (h:Mp B r M A w) (k:Kx r (mvF M A) (mvF M' A') w w'):Below B w w' :=
 k.below h.lo (by have:=h.lt;have:=h.lo;omega) (fun q hq i e=>((h.fam.own q hq).lt i e).1)

theorem mvF_same {M M':MV} {A:MA} (h1:M'.x.length=M.x.length) (h2:M'.cs.length=M.cs.length) (h3:M'.ram.length=M.ram.length) (h4:M'.d.xs.length=M.d.xs.length) (h5:M'.d.ys.length=M.d.ys.length):∀ q ∈ mvF M' A,∃ q0 ∈ mvF M A,q0.v=q.v:=by
 intro q hq
 simp only [mvF,List.mem_cons,List.not_mem_nil,or_false] at hq
 rcases hq with rfl | rfl | rfl | rfl | rfl
 ·exact ⟨wRow A.ax M.x.length A.cx M.x,by simp [mvF],by rw [h1];rfl⟩
 ·exact ⟨wRow A.ac M.cs.length A.cc M.cs,by simp [mvF],by rw [h2];rfl⟩
 ·exact ⟨bRow A.ar M.ram.length A.cr M.ram,by simp [mvF],by rw [h3];rfl⟩
 ·exact ⟨bRow A.ai M.d.xs.length A.ci M.d.xs,by simp [mvF],by rw [h4];rfl⟩
 ·exact ⟨bRow A.ao M.d.ys.length A.co M.d.ys,by simp [mvF],by rw [h5];rfl⟩

theorem l9Line_mp (M:MV) (A:MA) (B r:Nat) (w:World) (h22:M.cs.length=22) (hl:MLen M) (h:Mp B r M A w) :
 Calls Tryz.prog 41 #[.pointer (some ⟨r,0,none⟩)] w fun e w'=>e=.returned (.tuple #[])∧Mp B r (lineM M) A w'∧Kx r (mvF M A) (mvF (lineM M) A) w w':=by
 refine (l9Line_any M A r B w.heap.size w h22 hl h.row h.fam h.ne).mono fun e w' ⟨h1,h2,h3,h4⟩=>⟨h1,⟨h2,h3.low (Nat.le_refl _) h4.size,?_,h.lo⟩,Kx.of_keepL h4 (mvF_same rfl (by simp [lineM]) rfl rfl rfl)⟩
 intro q hq e
 obtain ⟨q0,h0,e0⟩:=mvF_same (M:=M) (M':=lineM M) (A:=A) rfl (by simp [lineM]) rfl rfl rfl q hq
 exact h.ne q0 h0 (by rw [e0];exact e)

def mst (x:Int):Int:=if (bits .and .u64 (bits .and .u64 x 924074 / 2048) 3==2)=true then bits .andNot .u64 (bits .and .u64 x 924074) 6144 else bits .and .u64 x 924074

def cfgByte (x:Int) (k:Nat):Int :=
 if (bits .and .u64 (bits .and .u64 (x / 2 ^ (8*k)) 159) 1==0)=true then bits .andNot .u64 (bits .and .u64 (x / 2 ^ (8*k)) 159) 2 else bits .and .u64 (x / 2 ^ (8*k)) 159

def cfgSum (x:Int):Nat→Int
 | 0=>0
 | k+1=>bits .or .u64 (cfgSum x k) (IntKind.u64.wrap (cfgByte x k*2 ^ (8*k)))

def legal (p x:Int):Int :=
 if p=0 then mst x else if p=1 then bits .and .u64 x 46079 else if p=2 then bits .and .u64 x 546 else if p=3 then bits .and .u64 x 2730
 else if p=4∨p=10 then bits .andNot .u64 x 2 else if p=6∨p=12 then bits .andNot .u64 x 3 else if p=7∨p=13 then bits .and .u64 x 9223372036854775823
 else if p=16 then cfgSum x 4 else if p=17∨p=18∨p=19∨p=20 then bits .and .u64 x 18014398509481983 else x

def okAt (k:Nat) (x:Int):Bool :=
 if k=9 then (bits .and .u64 x 2730==x) else if k=15 then (x / 1152921504606846976==0)||(x / 1152921504606846976==8) else (legal k x==x)

def okRest (l:List Int):Nat→Nat→Bool
 | 0,_=>true
 | n+1,k=>okAt k (l.getD k 0)&&okRest l n (k+1)

def csrsOk (n:Nat) (l:List Int):Bool:=decide (n=22)&&okRest l 22 0

theorem okRest_yes (l:List Int) (k:Nat) (hk:k < 22) (h:okAt k (l.getD k 0)=true):okRest l (22 - k) k=okRest l (22 - (k+1)) (k+1):=by
 rw [show 22 - k=(22 - (k+1))+1 from by omega,okRest,h,Bool.true_and]

theorem okRest_no (l:List Int) (k:Nat) (hk:k < 22) (h:okAt k (l.getD k 0)=false):okRest l (22 - k) k=false:=by
 rw [show 22 - k=(22 - (k+1))+1 from by omega,okRest,h,Bool.false_and]

def csrNumbers:List Int:=[768,770,771,772,773,832,833,834,835,836,261,320,321,322,323,384,928,944,945,946,947,2818]

def findNum (x:Int):Nat→Nat→Int
 | 0,_=>-1
 | n+1,k=>if (csrNumbers.getD k 0==x)=true then (k:Int) else findNum x n (k+1)

theorem findNum_hit (x:Int) (k:Nat) (hk:k < 22) (h:(csrNumbers.getD k 0==x)=true):findNum x (22 - k) k=(k:Int):=by
 rw [show 22 - k=(22 - (k+1))+1 from by omega,findNum,if_pos h]

theorem findNum_miss (x:Int) (k:Nat) (hk:k < 22) (h:(csrNumbers.getD k 0==x)=false):findNum x (22 - k) k=findNum x (22 - (k+1)) (k+1):=by
 rw [show 22 - k=(22 - (k+1))+1 from by omega,findNum,if_neg (by rw [h];decide)]

def placeV (x:Int):Int:=if x=256 then 0 else if x=260 then 3 else if x=324 then 9 else findNum x 22 0

theorem findNum_bd (x:Int):∀ n k,k+n≤22→-1≤findNum x n k∧findNum x n k < 22:=by
 intro n
 induction n with
 | zero=>intro k _;simp [findNum]
 | succ n ih =>
   intro k hk
   unfold findNum
   split
   ·omega
   ·exact ih (k+1) (by omega)

theorem placeV_bd (x:Int) : -1≤placeV x∧placeV x < 22:=by
 have:=findNum_bd x 22 0 (by omega)
 unfold placeV
 split
 ·omega
 ·split
  ·omega
  ·split
   ·omega
   ·exact this

def knownB (x:Int):Bool:=(x==3860)||(x==769)||decide (0≤placeV x)

def privB (p:Int):Bool:=(p==0)||(p==1)||(p==3)

def mayB (n:Nat) (l:List Int) (x p:Int):Bool:=csrsOk n l&&knownB x&&privB p&&decide ((wrap64 (x.tdiv 256)).tmod 4≤p)

def readV (l:List Int) (x:Int):Int :=
 if x=3860 then 0 else if x=769 then 9223372036856090881 else if x=256 then bits .and .u64 (l.getD 0 0) 786722
 else if x=260 then bits .and .u64 (l.getD 3 0) (l.getD 2 0) else if x=324 then bits .and .u64 (l.getD 9 0) (l.getD 2 0) else l.getD (placeV x).toNat 0

def cfgAt (l:List Int) (i:Nat):Int:=bits .and .u64 (l.getD 16 0 / 2 ^ (8*i)) 255

def lockB (l:List Int) (i:Nat):Bool:=(cfgAt l i / 128==1)||(decide (i < 3)&&(cfgAt l (i+1) / 128==1)&&(bits .and .u64 (cfgAt l (i+1) / 8) 3==1))

def cfgKeep (l:List Int) (y:Int):Nat→Int
 | 0=>y
 | k+1=>if (cfgAt l k / 128==1)=true then bits .or .u64 (bits .andNot .u64 (cfgKeep l y k) (IntKind.u64.wrap (255*2 ^ (8*k)))) (bits .and .u64 (l.getD 16 0) (IntKind.u64.wrap (255*2 ^ (8*k)))) else cfgKeep l y k

def mixV (old m x:Int):Int:=bits .or .u64 (bits .andNot .u64 old m) (bits .and .u64 x m)

def putV (l:List Int) (p x:Int):List Int :=
 if p=9 then l.set 9 (mixV (l.getD 9 0) 546 x)
 else if p=15 then (if ((x / 1152921504606846976==0)||(x / 1152921504606846976==8))=true then l.set 15 x else l)
 else if p=16 then l.set 16 (cfgKeep l (legal 16 x) 4)
 else if p=17∨p=18∨p=19∨p=20 then (if lockB l (p - 17).toNat=true then l else l.set p.toNat (legal p x))
 else l.set p.toNat (legal p x)

def writeV (l:List Int) (n x:Int):List Int :=
 if n=769∨n=3860 then l
 else if n=256 then l.set 0 (mixV (l.getD 0 0) 786722 x)
 else if n=260 then l.set 3 (legal 3 (mixV (l.getD 3 0) (l.getD 2 0) x))
 else if n=324 then l.set 9 (mixV (l.getD 9 0) (bits .and .u64 (l.getD 2 0) 2) x)
 else putV l (placeV n) x

theorem putV_len (l:List Int) (p x:Int):(putV l p x).length=l.length:=by
 unfold putV
 split
 ·simp
 ·split
  ·split<;>simp
  ·split
   ·simp
   ·split
    ·split<;>simp
    ·simp

theorem writeV_len (l:List Int) (n x:Int):(writeV l n x).length=l.length:=by
 unfold writeV
 split
 ·rfl
 ·split
  ·simp
  ·split
   ·simp
   ·split
    ·simp
    ·exact putV_len _ _ _

def legalB (n:Nat) (l:List Int) (p:Int):Bool:=csrsOk n l&&privB p

theorem l4Numbers_any (w:World):Calls Tryz.prog 72 #[] w fun e w'=>e=.returned (.slice (some ⟨w.heap.size,0,none⟩) 22 22)∧w'=w.alloc (.cells (csrNumbers.map (Value.int .i64)).toArray 2):=by
 go_enter Tryz.func72,Tryz.ntmps72
 go_wp2_with fail
 go_ret
 exact ⟨rfl,rfl⟩

def NumS (w:World) (g:Nat):Prop:=g < w.heap.size∧∀ k,k < 22→w.cell? ⟨g,k,none⟩=some (.int .i64 (csrNumbers.getD k 0))

theorem l4Numbers_T (w:World):Calls Tryz.prog 72 #[] w fun e w'=>e=.returned (.slice (some ⟨w.heap.size,0,none⟩) 22 22)∧Hid (NumS w' w.heap.size)∧Below w.heap.size w w' :=
 (l4Numbers_any w).mono fun e w' h=>by
  obtain ⟨h1,rfl⟩:=h
  refine ⟨h1,?_,(Below.refl _ _).alloc (Nat.le_refl _) _⟩
  show NumS _ _
  refine ⟨by simp,fun k hk=>?_⟩
  rw [cell_of_row _ _ _ _ _ _ (heap_alloc_new _ _)]
  have hl:k < csrNumbers.length:=hk
  simp [List.getD,List.getElem?_eq_getElem hl]

set_option maxHeartbeats 800000 in
theorem specPlace_any (x:Int) (w:World):Calls Tryz.prog 91 #[.int .i64 x] w fun e w'=>e=.returned (.int .i64 (placeV x))∧Below w.heap.size w w':=by
 by_cases h1:x=256
 ·subst h1
  go_enter Tryz.func91,Tryz.ntmps91
  go_wp2_with fail
  go_ret
  exact ⟨rfl,Below.refl _ _⟩
 by_cases h2:x=260
 ·subst h2
  go_enter Tryz.func91,Tryz.ntmps91
  go_wp2_with fail
  go_ret
  exact ⟨rfl,Below.refl _ _⟩
 by_cases h3:x=324
 ·subst h3
  go_enter Tryz.func91,Tryz.ntmps91
  go_wp2_with fail
  go_ret
  exact ⟨rfl,Below.refl _ _⟩
 have hp:placeV x=findNum x 22 0:=by unfold placeV;rw [if_neg h1,if_neg h2,if_neg h3]
 rw [hp]
 have d1:(x==256)=false:=by simpa using h1
 have d2:(x==260)=false:=by simpa using h2
 have d3:(x==324)=false:=by simpa using h3
 clear h1 h2 h3 hp
 go_enter Tryz.func91,Tryz.ntmps91
 go_wp2_with fail
 refine (l4Numbers_T _).mono ?_
 rintro e w1 ⟨rfl,hT,hb⟩
 go_wp2_with fail
 go_loopw [4] (fun i wr=>∃ k:Nat,k≤22∧i=.int .i64 k∧Hid (findNum x (22 - k) k=findNum x 22 0)∧wr=w1)
  (fun i _=>22 - (intOf i).toNat)
 case atStart=>exact ⟨0,by omega,rfl,(rfl:findNum x (22 - 0) 0=findNum x 22 0),rfl⟩
 case round =>
  obtain ⟨k,hk,rfl,hf,rfl⟩:=hrel
  by_cases hlt:k < 22
  ·have c0:=hT.out.2 k hlt
   cases hn:(csrNumbers.getD k 0==x) with
   | true =>
     have F:Hid (findNum x 22 0=(k:Int)):=hf.out.symm.trans (findNum_hit x k hlt hn)
     generalize csrNumbers.getD k 0=y at *
     go_wp2_with fail
     go_ret
     exact ⟨by rw [F.out];rfl,hb⟩
   | false =>
     have F:Hid (findNum x (22 - (k+1)) (k+1)=findNum x 22 0):=(findNum_miss x k hlt hn).symm.trans hf.out
     generalize csrNumbers.getD k 0=y at *
     go_wp2_with fail
     go_roundw
     case rel=>exact ⟨k+1,by omega,by go_num,F,trivial⟩
     case measure=>simp [intOf];omega
  ·have hk2:k=22:=by omega
   subst hk2
   have F:Hid (findNum x 22 0=-1):=hf.out.symm
   go_wp2_with fail
   go_ret
   exact ⟨by rw [F.out];rfl,hb⟩

theorem l4Legal_1 (x:Int) (w:World):Calls Tryz.prog 55 #[.int .i64 1,.int .u64 x] w fun e w'=>e=.returned (.int .u64 (legal 1 x))∧w'=w:=by
 go_enter Tryz.func55,Tryz.ntmps55
 go_wp2_with fail
 go_ret
 exact ⟨rfl,rfl⟩

theorem l4Legal_2 (x:Int) (w:World):Calls Tryz.prog 55 #[.int .i64 2,.int .u64 x] w fun e w'=>e=.returned (.int .u64 (legal 2 x))∧w'=w:=by
 go_enter Tryz.func55,Tryz.ntmps55
 go_wp2_with fail
 go_ret
 exact ⟨rfl,rfl⟩

theorem l4Legal_3 (x:Int) (w:World):Calls Tryz.prog 55 #[.int .i64 3,.int .u64 x] w fun e w'=>e=.returned (.int .u64 (legal 3 x))∧w'=w:=by
 go_enter Tryz.func55,Tryz.ntmps55
 go_wp2_with fail
 go_ret
 exact ⟨rfl,rfl⟩

theorem l4Legal_4 (x:Int) (w:World):Calls Tryz.prog 55 #[.int .i64 4,.int .u64 x] w fun e w'=>e=.returned (.int .u64 (legal 4 x))∧w'=w:=by
 go_enter Tryz.func55,Tryz.ntmps55
 go_wp2_with fail
 go_ret
 exact ⟨rfl,rfl⟩

theorem l4Legal_10 (x:Int) (w:World):Calls Tryz.prog 55 #[.int .i64 10,.int .u64 x] w fun e w'=>e=.returned (.int .u64 (legal 10 x))∧w'=w:=by
 go_enter Tryz.func55,Tryz.ntmps55
 go_wp2_with fail
 go_ret
 exact ⟨rfl,rfl⟩

theorem l4Legal_6 (x:Int) (w:World):Calls Tryz.prog 55 #[.int .i64 6,.int .u64 x] w fun e w'=>e=.returned (.int .u64 (legal 6 x))∧w'=w:=by
 go_enter Tryz.func55,Tryz.ntmps55
 go_wp2_with fail
 go_ret
 exact ⟨rfl,rfl⟩

theorem l4Legal_12 (x:Int) (w:World):Calls Tryz.prog 55 #[.int .i64 12,.int .u64 x] w fun e w'=>e=.returned (.int .u64 (legal 12 x))∧w'=w:=by
 go_enter Tryz.func55,Tryz.ntmps55
 go_wp2_with fail
 go_ret
 exact ⟨rfl,rfl⟩

theorem l4Legal_7 (x:Int) (w:World):Calls Tryz.prog 55 #[.int .i64 7,.int .u64 x] w fun e w'=>e=.returned (.int .u64 (legal 7 x))∧w'=w:=by
 go_enter Tryz.func55,Tryz.ntmps55
 go_wp2_with fail
 go_ret
 exact ⟨rfl,rfl⟩

theorem l4Legal_13 (x:Int) (w:World):Calls Tryz.prog 55 #[.int .i64 13,.int .u64 x] w fun e w'=>e=.returned (.int .u64 (legal 13 x))∧w'=w:=by
 go_enter Tryz.func55,Tryz.ntmps55
 go_wp2_with fail
 go_ret
 exact ⟨rfl,rfl⟩

theorem l4Legal_17 (x:Int) (w:World):Calls Tryz.prog 55 #[.int .i64 17,.int .u64 x] w fun e w'=>e=.returned (.int .u64 (legal 17 x))∧w'=w:=by
 go_enter Tryz.func55,Tryz.ntmps55
 go_wp2_with fail
 go_ret
 exact ⟨rfl,rfl⟩

theorem l4Legal_18 (x:Int) (w:World):Calls Tryz.prog 55 #[.int .i64 18,.int .u64 x] w fun e w'=>e=.returned (.int .u64 (legal 18 x))∧w'=w:=by
 go_enter Tryz.func55,Tryz.ntmps55
 go_wp2_with fail
 go_ret
 exact ⟨rfl,rfl⟩

theorem l4Legal_19 (x:Int) (w:World):Calls Tryz.prog 55 #[.int .i64 19,.int .u64 x] w fun e w'=>e=.returned (.int .u64 (legal 19 x))∧w'=w:=by
 go_enter Tryz.func55,Tryz.ntmps55
 go_wp2_with fail
 go_ret
 exact ⟨rfl,rfl⟩

theorem l4Legal_20 (x:Int) (w:World):Calls Tryz.prog 55 #[.int .i64 20,.int .u64 x] w fun e w'=>e=.returned (.int .u64 (legal 20 x))∧w'=w:=by
 go_enter Tryz.func55,Tryz.ntmps55
 go_wp2_with fail
 go_ret
 exact ⟨rfl,rfl⟩

theorem l4Legal_0 (x:Int) (w:World):Calls Tryz.prog 55 #[.int .i64 0,.int .u64 x] w fun e w'=>e=.returned (.int .u64 (legal 0 x))∧w'=w:=by
 have F0:legal 0 x=mst x:=rfl
 unfold mst at F0
 obtain ⟨y,hy⟩:∃ y,bits .and .u64 x 924074=y:=⟨_,rfl⟩
 rw [hy] at F0
 cases hc:(bits .and .u64 (y / 2048) 3==2) with
 | true =>
   have F:Hid (legal 0 x=bits .andNot .u64 y 6144):=by show _=_;rw [F0,if_pos hc]
   clear F0
   go_enter Tryz.func55,Tryz.ntmps55
   go_wp2_with fail
   go_ret
   exact ⟨by rw [F.out];rfl,rfl⟩
 | false =>
   have F:Hid (legal 0 x=y):=by show _=_;rw [F0,if_neg (by rw [hc];decide)]
   clear F0
   go_enter Tryz.func55,Tryz.ntmps55
   go_wp2_with fail
   go_ret
   exact ⟨by rw [F.out];rfl,rfl⟩

set_option maxHeartbeats 800000 in
theorem l4Legal_16 (x:Int) (w:World):Calls Tryz.prog 55 #[.int .i64 16,.int .u64 x] w fun e w'=>e=.returned (.int .u64 (legal 16 x))∧w'=w:=by
 go_enter Tryz.func55,Tryz.ntmps55
 go_wp2_with fail
 go_loopw [5,6] (fun y i wr=>∃ k:Nat,k≤4∧i=.int .u64 k∧y=.int .u64 (cfgSum x k)∧wr=w)
  (fun _ i _=>4 - (intOf i).toNat)
 case atStart=>exact ⟨0,by omega,rfl,rfl,rfl⟩
 case round =>
  obtain ⟨k,hk,rfl,rfl,rfl⟩:=hrel
  by_cases hlt:k < 4
  ·have F0:cfgSum x (k+1)=bits .or .u64 (cfgSum x k) (IntKind.u64.wrap (cfgByte x k*2 ^ (8*k))):=rfl
   unfold cfgByte at F0
   have hk8:IntKind.u64.wrap (8*(k:Int))=((8*k:Nat):Int):=by rw [IntKind.wrap_u64];omega
   have hlt8:8*k < 64:=by omega
   have d:decide ((k:Int) < 4)=true:=by simp;omega
   obtain ⟨b,hb⟩:∃ b,bits .and .u64 (x / 2 ^ (8*k)) 159=b:=⟨_,rfl⟩
   obtain ⟨y,hy⟩:∃ y,y=cfgSum x k:=⟨_,rfl⟩
   rw [hb,← hy] at F0
   rw [← hy]
   cases hc:(bits .and .u64 b 1==0) with
   | true =>
     rw [if_pos hc] at F0
     have F:Hid (cfgSum x (k+1)=bits .or .u64 y (IntKind.u64.wrap (bits .andNot .u64 b 2*2 ^ (8*k)))):=F0
     clear F0 hy
     go_wp2_with fail
     go_roundw
     case rel=>exact ⟨k+1,by omega,by go_num,by rw [F.out],trivial⟩
     case measure=>simp [intOf];omega
   | false =>
     rw [if_neg (by rw [hc];decide)] at F0
     have F:Hid (cfgSum x (k+1)=bits .or .u64 y (IntKind.u64.wrap (b*2 ^ (8*k)))):=F0
     clear F0 hy
     go_wp2_with fail
     go_roundw
     case rel=>exact ⟨k+1,by omega,by go_num,by rw [F.out],trivial⟩
     case measure=>simp [intOf];omega
  ·have hk4:k=4:=by omega
   subst hk4
   have F:Hid (legal 16 x=cfgSum x 4):=(rfl:legal 16 x=cfgSum x 4)
   generalize cfgSum x 4=y at *
   go_wp2_with fail
   go_ret
   exact ⟨by rw [F.out];rfl,rfl⟩

theorem legal_other {p:Int} (h:¬ (p=0∨p=1∨p=2∨p=3∨p=4∨p=10∨p=6∨p=12∨p=7∨p=13∨p=16∨p=17∨p=18∨p=19∨p=20)) (x:Int):legal p x=x:=by
 unfold legal
 rw [if_neg (by omega),if_neg (by omega),if_neg (by omega),if_neg (by omega),if_neg (by omega),if_neg (by omega),if_neg (by omega),if_neg (by omega),if_neg (by omega)]

set_option maxHeartbeats 800000 in
theorem l4Legal_any (p x:Int) (w:World):Calls Tryz.prog 55 #[.int .i64 p,.int .u64 x] w fun e w'=>e=.returned (.int .u64 (legal p x))∧w'=w:=by
 by_cases h:p=0∨p=1∨p=2∨p=3∨p=4∨p=10∨p=6∨p=12∨p=7∨p=13∨p=16∨p=17∨p=18∨p=19∨p=20
 ·rcases h with rfl | rfl | rfl | rfl | rfl | rfl | rfl | rfl | rfl | rfl | rfl | rfl | rfl | rfl | rfl
  ·exact l4Legal_0 x w
  ·exact l4Legal_1 x w
  ·exact l4Legal_2 x w
  ·exact l4Legal_3 x w
  ·exact l4Legal_4 x w
  ·exact l4Legal_10 x w
  ·exact l4Legal_6 x w
  ·exact l4Legal_12 x w
  ·exact l4Legal_7 x w
  ·exact l4Legal_13 x w
  ·exact l4Legal_16 x w
  ·exact l4Legal_17 x w
  ·exact l4Legal_18 x w
  ·exact l4Legal_19 x w
  ·exact l4Legal_20 x w
 ·have F:Hid (legal p x=x):=legal_other h x
  have d0:(p==0)=false:=by simp;omega
  have d1:(p==1)=false:=by simp;omega
  have d2:(p==2)=false:=by simp;omega
  have d3:(p==3)=false:=by simp;omega
  have d4:(p==4)=false:=by simp;omega
  have d10:(p==10)=false:=by simp;omega
  have d6:(p==6)=false:=by simp;omega
  have d12:(p==12)=false:=by simp;omega
  have d7:(p==7)=false:=by simp;omega
  have d13:(p==13)=false:=by simp;omega
  have d16:(p==16)=false:=by simp;omega
  have d17:(p==17)=false:=by simp;omega
  have d18:(p==18)=false:=by simp;omega
  have d19:(p==19)=false:=by simp;omega
  have d20:(p==20)=false:=by simp;omega
  clear h
  go_enter Tryz.func55,Tryz.ntmps55
  go_wp2_with fail
  go_ret
  exact ⟨by rw [F.out];rfl,rfl⟩

set_option maxHeartbeats 800000 in
theorem specCsrsOk_any (a:Option Addr) (n cap:Nat) (l:List Int) (w:World) (hz:l.length=n) (hs:Sl .u64 w a l) :
 Calls Tryz.prog 43 #[.slice a n cap] w fun e w'=>e=.returned (.bool (csrsOk n l))∧w'=w:=by
 by_cases hn:n=22
 ·have hok:csrsOk n l=okRest l 22 0:=by simp [csrsOk,hn]
  rw [hok]
  have HZ:Hid (l.length=n):=hz
  subst hn
  clear hz hok
  go_enter Tryz.func43,Tryz.ntmps43
  go_wp2_with fail
  go_loopw [3] (fun i wr=>∃ k:Nat,k≤22∧i=.int .i64 k∧Hid (okRest l (22 - k) k=okRest l 22 0)∧wr=w)
   (fun i _=>22 - (intOf i).toNat)
  case atStart=>exact ⟨0,by omega,rfl,(rfl:okRest l (22 - 0) 0=okRest l 22 0),rfl⟩
  case round =>
   obtain ⟨k,hk,rfl,hf,rfl⟩:=hrel
   by_cases hlt:k < 22
   ·obtain ⟨b,off,rfl,hb,hc⟩:=hs k (by rw [HZ.out];exact hlt)
    have Yes:okAt k (l.getD k 0)=true→Hid (okRest l (22 - (k+1)) (k+1)=okRest l 22 0):=fun h=>(okRest_yes l k hlt h).symm.trans hf.out
    have No:okAt k (l.getD k 0)=false→Hid (okRest l 22 0=false):=fun h=>hf.out.symm.trans (okRest_no l k hlt h)
    generalize l.getD k 0=x at *
    have dk:decide ((k:Int) < 22)=true:=by simp;omega
    by_cases h9:k=9
    ·subst h9
     cases ho:(bits .and .u64 x 2730==x) with
     | true =>
       have F:=Yes (by simpa [okAt] using ho)
       have d:(bits .and .u64 x 2730 != x)=false:=by simp [bne,ho]
       clear Yes No
       go_wp2_with fail
       go_roundw
       case rel=>exact ⟨9+1,by omega,by go_num,F,trivial⟩
       case measure=>simp [intOf]
     | false =>
       have F:=No (by simpa [okAt] using ho)
       have d:(bits .and .u64 x 2730 != x)=true:=by simp [bne,ho]
       clear Yes No
       go_wp2_with fail
       go_ret
       exact ⟨by rw [F.out];rfl,rfl⟩
    ·have d9:((k:Int)==9)=false:=by simp;omega
     by_cases h15:k=15
     ·subst h15
      have eo:okAt 15 x=((x / 1152921504606846976==0)||(x / 1152921504606846976==8)):=by simp [okAt]
      obtain ⟨y,hy⟩:∃ y,x / 1152921504606846976=y:=⟨_,rfl⟩
      rw [hy] at eo
      cases h0:(y==0) with
      | true =>
        have F:=Yes (by rw [eo,h0];rfl)
        have d:(y != 0)=false:=by simp [bne,h0]
        clear Yes No eo
        go_wp2_with fail
        go_roundw
        case rel=>exact ⟨15+1,by omega,by go_num,F,trivial⟩
        case measure=>simp [intOf]
      | false =>
        have d:(y != 0)=true:=by simp [bne,h0]
        cases h8:(y==8) with
        | true =>
          have F:=Yes (by rw [eo,h0,h8];rfl)
          have d2:(y != 8)=false:=by simp [bne,h8]
          clear Yes No eo
          go_wp2_with fail
          go_roundw
          case rel=>exact ⟨15+1,by omega,by go_num,F,trivial⟩
          case measure=>simp [intOf]
        | false =>
          have F:=No (by rw [eo,h0,h8];rfl)
          have d2:(y != 8)=true:=by simp [bne,h8]
          clear Yes No eo
          go_wp2_with fail
          go_ret
          exact ⟨by rw [F.out];rfl,rfl⟩
     ·have d15:((k:Int)==15)=false:=by simp;omega
      have ek:okAt k x=(legal k x==x):=by simp [okAt,h9,h15]
      cases ho:(legal k x==x) with
      | true =>
        have F:=Yes (ek.trans ho)
        have d:(legal k x != x)=false:=by simp [bne,ho]
        clear Yes No ek
        go_wp2_with fail
        refine (l4Legal_any _ _ _).mono ?_
        rintro e w1 ⟨rfl,hw1⟩
        subst hw1
        generalize legal k x=y at *
        go_wp2_with fail
        go_roundw
        case rel=>exact ⟨k+1,by omega,by go_num,F,trivial⟩
        case measure=>simp [intOf];omega
      | false =>
        have F:=No (ek.trans ho)
        have d:(legal k x != x)=true:=by simp [bne,ho]
        clear Yes No ek
        go_wp2_with fail
        refine (l4Legal_any _ _ _).mono ?_
        rintro e w1 ⟨rfl,hw1⟩
        subst hw1
        generalize legal k x=y at *
        go_wp2_with fail
        go_ret
        exact ⟨by rw [F.out];rfl,rfl⟩
   ·have hk2:k=22:=by omega
    subst hk2
    have F:Hid (okRest l 22 0=true):=hf.out.symm
    go_wp2_with fail
    go_ret
    exact ⟨by rw [F.out];rfl,rfl⟩
 ·have F:Hid (csrsOk n l=false):=by show _=_;simp [csrsOk,hn]
  have d:((n:Int) != 22)=true:=by simp;omega
  go_enter Tryz.func43,Tryz.ntmps43
  go_wp2_with fail
  go_ret
  exact ⟨by rw [F.out];rfl,rfl⟩

end Go.Proofs.YtbajeckeeekhnaaGreat

namespace Go.Proofs.YtbajeckeeekhnaaGreat
open Go.RowKit
set_option linter.unusedVariables false

theorem l4Priv_any (p:Int) (w:World):Calls Tryz.prog 44 #[.int .i64 p] w fun e w'=>e=.returned (.bool (privB p))∧w'=w:=by
 cases h0:(p==0) with
 | true =>
   have F:Hid (privB p=true):=by show _=_;simp [privB,h0]
   go_enter Tryz.func44,Tryz.ntmps44
   go_wp2_with fail
   go_ret
   exact ⟨by rw [F.out];rfl,rfl⟩
 | false =>
   cases h1:(p==1) with
   | true =>
     have F:Hid (privB p=true):=by show _=_;simp [privB,h1]
     go_enter Tryz.func44,Tryz.ntmps44
     go_wp2_with fail
     go_ret
     exact ⟨by rw [F.out];rfl,rfl⟩
   | false =>
     have F:Hid (privB p=(p==3)):=by show _=_;simp [privB,h0,h1]
     obtain ⟨c,hc⟩:∃ c,(p==3)=c:=⟨_,rfl⟩
     rw [hc] at F
     go_enter Tryz.func44,Tryz.ntmps44
     go_wp2_with fail
     go_ret
     exact ⟨by rw [F.out];rfl,rfl⟩

theorem l4Known_any (x:Int) (w:World):Calls Tryz.prog 100 #[.int .i64 x] w fun e w'=>e=.returned (.bool (knownB x))∧Below w.heap.size w w':=by
 cases h0:(x==3860) with
 | true =>
   have F:Hid (knownB x=true):=by show _=_;simp [knownB,h0]
   go_enter Tryz.func100,Tryz.ntmps100
   go_wp2_with fail
   go_ret
   exact ⟨by rw [F.out];rfl,Below.refl _ _⟩
 | false =>
   cases h1:(x==769) with
   | true =>
     have F:Hid (knownB x=true):=by show _=_;simp [knownB,h1]
     go_enter Tryz.func100,Tryz.ntmps100
     go_wp2_with fail
     go_ret
     exact ⟨by rw [F.out];rfl,Below.refl _ _⟩
   | false =>
     have F:Hid (knownB x=decide (0≤placeV x)):=by show _=_;simp [knownB,h0,h1]
     have HP:Hid (∀ w,Calls Tryz.prog 91 #[.int .i64 x] w fun e w'=>e=.returned (.int .i64 (placeV x))∧Below w.heap.size w w'):=specPlace_any x
     generalize placeV x=y at *
     obtain ⟨c,hc⟩:∃ c,decide (0≤y)=c:=⟨_,rfl⟩
     rw [hc] at F
     go_enter Tryz.func100,Tryz.ntmps100
     go_wp2_with fail
     refine (HP.out _).mono ?_
     rintro e w1 ⟨rfl,hb⟩
     go_wp2_with fail
     go_ret
     exact ⟨by rw [F.out];rfl,hb⟩

set_option maxHeartbeats 800000 in
theorem l4May_any (a:Option Addr) (n cap:Nat) (l:List Int) (x p:Int) (w:World) (hz:l.length=n) (hs:Sl .u64 w a l) :
 Calls Tryz.prog 88 #[.slice a n cap,.int .i64 x,.int .i64 p] w fun e w'=>e=.returned (.bool (mayB n l x p))∧Below w.heap.size w w':=by
 have HO:Hid (Calls Tryz.prog 43 #[.slice a n cap] w fun e w'=>e=.returned (.bool (csrsOk n l))∧w'=w):=specCsrsOk_any a n cap l w hz hs
 have F:Hid (mayB n l x p=(csrsOk n l&&knownB x&&privB p&&decide ((wrap64 (x.tdiv 256)).tmod 4≤p))):=(rfl:mayB n l x p=_)
 have HK:=l4Known_any x
 have HP:=l4Priv_any p
 generalize csrsOk n l=o at *
 generalize knownB x=k at *
 generalize privB p=q at *
 have HK2:Hid (∀ w,Calls Tryz.prog 100 #[.int .i64 x] w fun e w'=>e=.returned (.bool k)∧Below w.heap.size w w'):=HK
 have HP2:Hid (∀ w,Calls Tryz.prog 44 #[.int .i64 p] w fun e w'=>e=.returned (.bool q)∧w'=w):=HP
 obtain ⟨d,hd⟩:∃ d,decide ((wrap64 (x.tdiv 256)).tmod 4≤p)=d:=⟨_,rfl⟩
 rw [hd] at F
 clear HK HP hs hz
 cases o with
 | false =>
   go_enter Tryz.func88,Tryz.ntmps88
   go_wp2_with fail
   refine HO.out.mono ?_
   rintro e w1 ⟨rfl,hw1⟩
   subst hw1
   go_wp2_with fail
   go_ret
   exact ⟨by rw [F.out];rfl,Below.refl _ _⟩
 | true =>
   go_enter Tryz.func88,Tryz.ntmps88
   go_wp2_with fail
   refine HO.out.mono ?_
   rintro e w1 ⟨rfl,hw1⟩
   subst hw1
   go_wp2_with fail
   refine (HK2.out _).mono ?_
   rintro e w2 ⟨rfl,hb⟩
   cases k with
   | false =>
     go_wp2_with fail
     go_ret
     exact ⟨by rw [F.out];rfl,hb⟩
   | true =>
     go_wp2_with fail
     refine (HP2.out _).mono ?_
     rintro e w3 ⟨rfl,hw3⟩
     subst hw3
     cases q with
     | false =>
       go_wp2_with fail
       go_ret
       exact ⟨by rw [F.out];rfl,hb⟩
     | true =>
       go_wp2_with fail
       go_ret
       exact ⟨by rw [F.out];rfl,hb⟩

theorem specLegal_any (a:Option Addr) (n cap:Nat) (l:List Int) (p:Int) (w:World) (hz:l.length=n) (hs:Sl .u64 w a l) :
 Calls Tryz.prog 23 #[.slice a n cap,.int .i64 p] w fun e w'=>e=.returned (.bool (legalB n l p))∧w'=w:=by
 have HO:Hid (Calls Tryz.prog 43 #[.slice a n cap] w fun e w'=>e=.returned (.bool (csrsOk n l))∧w'=w):=specCsrsOk_any a n cap l w hz hs
 have HP:Hid (∀ w,Calls Tryz.prog 44 #[.int .i64 p] w fun e w'=>e=.returned (.bool (privB p))∧w'=w):=l4Priv_any p
 have F:Hid (legalB n l p=(csrsOk n l&&privB p)):=(rfl:legalB n l p=_)
 generalize csrsOk n l=o at *
 generalize privB p=q at *
 clear hz hs
 cases o with
 | false =>
   go_enter Tryz.func23,Tryz.ntmps23
   go_wp2_with fail
   refine HO.out.mono ?_
   rintro e w1 ⟨rfl,hw1⟩
   subst hw1
   go_wp2_with fail
   go_ret
   exact ⟨by rw [F.out];rfl,rfl⟩
 | true =>
   go_enter Tryz.func23,Tryz.ntmps23
   go_wp2_with fail
   refine HO.out.mono ?_
   rintro e w1 ⟨rfl,hw1⟩
   subst hw1
   go_wp2_with fail
   refine (HP.out _).mono ?_
   rintro e w2 ⟨rfl,hw2⟩
   subst hw2
   go_wp2_with fail
   go_ret
   exact ⟨by rw [F.out];rfl,rfl⟩

end Go.Proofs.YtbajeckeeekhnaaGreat
