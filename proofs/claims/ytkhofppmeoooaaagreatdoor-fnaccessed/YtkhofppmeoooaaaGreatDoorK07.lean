/- Own lemmas. -/
import Derived.Test.YtkhofppmeoooaaaGreatDoorK01
import Derived.Test.YtkhofppmeoooaaaGreatDoorK02
import Derived.Test.YtkhofppmeoooaaaGreatDoorK03
import Derived.Test.YtkhofppmeoooaaaGreatDoorK04
import Derived.Test.YtkhofppmeoooaaaGreatDoorK06
import Derived.BigQuiet
import Derived.OwnWalk
import Derived.Deep.Cut
namespace Go.Proofs.YtkhofppmeoooaaaGreatDoor
open Go.RowKit
set_option linter.unusedVariables false

theorem Fam.sub {B E:Nat} {w:World} {L L':List FRow} (h:Fam B E w L) (hs:L'.Sublist L):Fam B E w L' :=
 ⟨fun q hq=>h.own q (hs.subset hq),fun q hq=>h.hi q (hs.subset hq),h.ne.sublist hs⟩

theorem Fam.ins {B E E':Nat} {w:World} {L1 L2:List FRow} {q:FRow} (h:Fam B E w (L1 ++ L2)) (hq:w.ownsRow E q.t 1 q.v q.n q.xs) (h1:B≤E) (h2:w.heap.size≤E') (h3:E≤E'):Fam B E' w (L1 ++ q :: L2):=by
 have hne:=List.pairwise_append.1 h.ne
 have hi:∀ s ∈ L1 ++ L2,∀ k,s.v.ownBlock=some k→k < E:=fun s hs k e=>h.hi s hs k e
 have lo:∀ k,q.v.ownBlock=some k→E≤k∧k < w.heap.size:=fun k e=>hq.lt k e
 refine ⟨fun s hs=>?_,fun s hs k e=>?_,List.pairwise_append.2 ⟨hne.1,List.pairwise_cons.2 ⟨fun s hs k e e2=>?_,hne.2.1⟩,fun s hs t ht k e e2=>?_⟩⟩
 ·rcases List.mem_append.1 hs with hs | hs
  ·exact h.own s (List.mem_append_left _ hs)
  ·rcases List.mem_cons.1 hs with rfl | hs
   ·exact own_low hq h1
   ·exact h.own s (List.mem_append_right _ hs)
 ·rcases List.mem_append.1 hs with hs | hs
  ·have:=hi s (List.mem_append_left _ hs) k e;omega
  ·rcases List.mem_cons.1 hs with rfl | hs
   ·have:=lo k e;omega
   ·have:=hi s (List.mem_append_right _ hs) k e;omega
 ·have:=lo k e
  have:=hi s (List.mem_append_right _ hs) k e2
  omega
 ·rcases List.mem_cons.1 ht with rfl | ht
  ·have:=lo k e2
   have:=hi s (List.mem_append_left _ hs) k e
   omega
  ·exact hne.2.2 s hs t ht k e e2

theorem Fam.app {B E E':Nat} {w:World} {L1 L2:List FRow} (h:Fam B E w L1) (h2:Fam E E' w L2) (h1:B≤E) (h3:E≤E'):Fam B E' w (L1 ++ L2):=by
 refine ⟨fun s hs=>?_,fun s hs k e=>?_,List.pairwise_append.2 ⟨h.ne,h2.ne,fun s hs t ht k e e2=>?_⟩⟩
 ·rcases List.mem_append.1 hs with hs | hs
  ·exact h.own s hs
  ·exact own_low (h2.own s hs) h1
 ·rcases List.mem_append.1 hs with hs | hs
  ·have:=h.hi s hs k e;omega
  ·exact h2.hi s hs k e
 ·have:=h.hi s hs k e
  have:=((h2.own t ht).lt k e2).1
  omega

def devA (A:MA) (b1:Option Addr) (d1:Nat) (b2:Option Addr) (d2:Nat):MA:=⟨A.ax,A.cx,A.ac,A.cc,A.ar,A.cr,b1,d1,b2,d2⟩

theorem dev_fam {B:Nat} {M:MV} {A:MA} {w w':World} (h:Fam B w.heap.size w (mvF M A)) (hB:B≤w.heap.size) (hb:Below w.heap.size w w') (D:DV) {b1:Option Addr} {d1:Nat} {b2:Option Addr} {d2:Nat} (hr:Renew w w' A.ai A.ci M.d.xs A.ao A.co M.d.ys b1 d1 D.xs b2 d2 D.ys):Fam B w'.heap.size w' (mvF (devM M D) (devA A b1 d1 b2 d2)):=by
 have hf:=h.below hb
 rcases hr with ⟨⟨rfl,rfl,e1⟩,rfl,rfl,e2⟩ | ⟨h1,rfl,rfl,e2⟩ | ⟨⟨rfl,rfl,e1⟩,h1⟩ | h1
 ·unfold mvF devM devA
  dsimp only
  rw [e1,e2]
  exact hf.low (Nat.le_refl _) hb.size
 ·have h4:Fam B w.heap.size w' ([wRow A.ax M.x.length A.cx M.x,wRow A.ac M.cs.length A.cc M.cs,bRow A.ar M.ram.length A.cr M.ram] ++ [bRow A.ao M.d.ys.length A.co M.d.ys]):=hf.sub (by unfold mvF;simp)
  unfold mvF devM devA
  dsimp only
  rw [e2]
  exact h4.ins (q:=bRow b1 D.xs.length d1 D.xs) h1 hB (Nat.le_refl _) hb.size
 ·have h4:Fam B w.heap.size w' ([wRow A.ax M.x.length A.cx M.x,wRow A.ac M.cs.length A.cc M.cs,bRow A.ar M.ram.length A.cr M.ram,bRow A.ai M.d.xs.length A.ci M.d.xs] ++ []):=hf.sub (by unfold mvF;simp)
  unfold mvF devM devA
  dsimp only
  rw [e1]
  exact h4.ins (q:=bRow b2 D.ys.length d2 D.ys) h1 hB (Nat.le_refl _) hb.size
 ·have h4:Fam B w.heap.size w' [wRow A.ax M.x.length A.cx M.x,wRow A.ac M.cs.length A.cc M.cs,bRow A.ar M.ram.length A.cr M.ram]:=hf.sub (by unfold mvF;simp)
  exact h4.app h1 hB hb.size

theorem dev_own {M:MV} {A:MA} {w w':World} (D:DV) {b1:Option Addr} {d1:Nat} {b2:Option Addr} {d2:Nat} (hr:Renew w w' A.ai A.ci M.d.xs A.ao A.co M.d.ys b1 d1 D.xs b2 d2 D.ys):∀ q ∈ mvF (devM M D) (devA A b1 d1 b2 d2),∀ k,q.v.ownBlock=some k→k < w.heap.size→∃ q0 ∈ mvF M A,q0.v.ownBlock=some k:=by
 intro q hq k e hk
 simp only [mvF,devM,devA,List.mem_cons,List.not_mem_nil,or_false] at hq
 have nw:∀ (b:Option Addr) (d:Nat) (zs:List Int),w'.ownsRow w.heap.size 5 1 (.slice b zs.length d) zs.length (zs.map (Value.int .u8))→∀ k,(Value.slice b zs.length d).ownBlock=some k→k < w.heap.size→False:=fun b d zs h k e hk=>by have:=(h.lt k e).1;omega
 have m4:bRow A.ai M.d.xs.length A.ci M.d.xs ∈ mvF M A:=by simp [mvF]
 have m5:bRow A.ao M.d.ys.length A.co M.d.ys ∈ mvF M A:=by simp [mvF]
 rcases hq with rfl | rfl | rfl | rfl | rfl
 ·exact ⟨_,by simp [mvF],e⟩
 ·exact ⟨wRow A.ac M.cs.length A.cc M.cs,by simp [mvF],e⟩
 ·exact ⟨bRow A.ar M.ram.length A.cr M.ram,by simp [mvF],e⟩
 ·rcases hr with ⟨⟨rfl,rfl,e1⟩,_⟩ | ⟨h1,_⟩ | ⟨⟨rfl,rfl,e1⟩,_⟩ | h1
  ·rw [e1] at e;exact ⟨_,m4,e⟩
  ·exact (nw _ _ _ h1 k e hk).elim
  ·rw [e1] at e;exact ⟨_,m4,e⟩
  ·exact (nw _ _ _ (h1.own (bRow b1 D.xs.length d1 D.xs) (by simp [devF])) k e hk).elim
 ·rcases hr with ⟨_,rfl,rfl,e2⟩ | ⟨_,rfl,rfl,e2⟩ | ⟨_,h1⟩ | h1
  ·rw [e2] at e;exact ⟨_,m5,e⟩
  ·rw [e2] at e;exact ⟨_,m5,e⟩
  ·exact (nw _ _ _ h1 k e hk).elim
  ·exact (nw _ _ _ (h1.own (bRow b2 D.ys.length d2 D.ys) (by simp [devF])) k e hk).elim

def put6r (w:World) (r:Nat) (D:DV) (b1:Option Addr) (d1:Nat) (b2:Option Addr) (d2:Nat):World:=(((((w.setCell ⟨r,5,none⟩ (.int .u64 D.t)).setCell ⟨r,6,none⟩ (.int .u64 D.cm)).setCell ⟨r,7,none⟩ (.bool D.so)).setCell ⟨r,8,none⟩ (.slice b1 D.xs.length d1)).setCell ⟨r,9,none⟩ (.slice b2 D.ys.length d2)).setCell ⟨r,10,none⟩ (.int .i64 D.ir)

theorem Kx.put6r {r:Nat} {L:List FRow} (w:World) (D:DV) (b1:Option Addr) (d1:Nat) (b2:Option Addr) (d2:Nat):Kx r L L w (put6r w r D b1 d1 b2 d2) :=
 (((((Kx.set w 5 _).trans (Kx.set _ 6 _)).trans (Kx.set _ 7 _)).trans (Kx.set _ 8 _)).trans (Kx.set _ 9 _)).trans (Kx.set _ 10 _)

theorem Mp.fam_set {B r:Nat} {L:List FRow} {w:World} (h:Fam B w.heap.size w L) (hne:∀ q ∈ L,q.v.ownBlock≠some r) (i:Nat) (v:Value):Fam B (w.setCell ⟨r,i,none⟩ v).heap.size (w.setCell ⟨r,i,none⟩ v) L :=
 ⟨fun q hq=>fown_of (h.own q hq) (fun k e=>Below.heap_setCell w ⟨r,i,none⟩ v k (fun e2=>hne q hq (by rw [show r=k from e2.symm];exact e))),fun q hq k e=>by rw [size_set];exact h.hi q hq k e,h.ne⟩

theorem Mp.dev {B r:Nat} {M:MV} {A:MA} {w w':World} (h:Mp B r M A w) (hb:Below w.heap.size w w') (D:DV) {b1:Option Addr} {d1:Nat} {b2:Option Addr} {d2:Nat} (hr:Renew w w' A.ai A.ci M.d.xs A.ao A.co M.d.ys b1 d1 D.xs b2 d2 D.ys):Mp B r (devM M D) (devA A b1 d1 b2 d2) (put6r w' r D b1 d1 b2 d2)∧Kx r (mvF M A) (mvF (devM M D) (devA A b1 d1 b2 d2)) w (put6r w' r D b1 d1 b2 d2):=by
 have hlt:=h.lt
 have hB:B≤w.heap.size:=by have:=h.lo;omega
 have hown:=dev_own D hr
 have hne:∀ q ∈ mvF (devM M D) (devA A b1 d1 b2 d2),q.v.ownBlock≠some r:=fun q hq e=>by
  obtain ⟨q0,h0,e0⟩:=hown q hq r e hlt
  exact h.ne q0 h0 e0
 have hf:=dev_fam h.fam hB hb D hr
 refine ⟨⟨?_,?_,hne,h.lo⟩,?_⟩
 ·have R0:=dstays hb h.row
  unfold mvc at R0
  have R1:=row_set R0 5 (.int .u64 D.t)
  have R2:=row_set R1 6 (.int .u64 D.cm)
  have R3:=row_set R2 7 (.bool D.so)
  have R4:=row_set R3 8 (.slice b1 D.xs.length d1)
  have R5:=row_set R4 9 (.slice b2 D.ys.length d2)
  exact row_set R5 10 (.int .i64 D.ir)
 ·exact Mp.fam_set (Mp.fam_set (Mp.fam_set (Mp.fam_set (Mp.fam_set (Mp.fam_set hf hne 5 _) hne 6 _) hne 7 _) hne 8 _) hne 9 _) hne 10 _
 ·have k1:Kx r (mvF M A) (mvF (devM M D) (devA A b1 d1 b2 d2)) w w':=⟨hb.os,hb.tape,hb.output,hb.size,fun k hk _ _=>hb.block k hk,hown⟩
  exact k1.trans (Kx.put6r w' D b1 d1 b2 d2)

def put2r (w:World) (r:Nat):World:=(w.setCell ⟨r,12,none⟩ (.bool false)).setCell ⟨r,11,none⟩ (.int .u64 0)

theorem Mp.free {B r:Nat} {M:MV} {A:MA} {w:World} (h:Mp B r M A w):Mp B r (freeM M) A (put2r w r)∧Kx r (mvF M A) (mvF (freeM M) A) w (put2r w r):=by
 refine ⟨⟨?_,Mp.fam_set (Mp.fam_set h.fam h.ne 12 _) h.ne 11 _,h.ne,h.lo⟩,(Kx.set w 12 _).trans (Kx.set _ 11 _)⟩
 have R0:=h.row
 unfold mvc at R0
 exact row_set (row_set R0 12 (.bool false)) 11 (.int .u64 0)

theorem l1Put_mp (M:MV) (A:MA) (B r:Nat) (addr size x:Int) (w:World) (hl:M.ram.length≤1048576) (hok:okB M.ram.length addr size=true) (hx0:0≤x) (hx1:x≤18446744073709551615) (h:Mp B r M A w) :
 Calls Tryz.prog 62 #[.slice A.ar M.ram.length A.cr,.int .u64 addr,.int .i64 size,.int .u64 x] w fun e w'=>e=.returned (.tuple #[])∧Mp B r (memM M (put M.ram (addr - 2147483648).toNat x size.toNat)) A w'∧Kx r (mvF M A) (mvF (memM M (put M.ram (addr - 2147483648).toNat x size.toNat)) A) w w':=by
 have hb:=okB_true hok
 obtain ⟨f,hf⟩:∃ f:Nat,f=(addr - 2147483648).toNat:=⟨_,rfl⟩
 obtain ⟨m,hm⟩:∃ m:Nat,m=size.toNat:=⟨_,rfl⟩
 have ea:addr=2147483648+(f:Int):=by omega
 have es:size=(m:Int):=by omega
 have hmem:bRow A.ar M.ram.length A.cr M.ram ∈ mvF M A:=by simp [mvF]
 have ho:=h.fam.own _ hmem
 have hfm:f+m≤M.ram.length:=by omega
 have hg:∃ g,A.ar=some ⟨g,0,none⟩:=by
  rcases ho.2 with ⟨e,e0⟩ | ⟨g',cap,cur,e,_⟩
  ·have:M.ram.length=0:=e0;omega
  ·have e2:Value.slice A.ar M.ram.length A.cr=.slice (some ⟨g',0,none⟩) M.ram.length cap:=e
   injection e2 with e3
   exact ⟨g',e3⟩
 obtain ⟨g,hg⟩:=hg
 have hplen:(put M.ram f x m).length=M.ram.length:=put_len _ _ _ _
 rw [← hf,← hm]
 rw [ea,es]
 have ho2:w.ownsRow B 5 1 (.slice (some ⟨g,0,none⟩) M.ram.length A.cr) M.ram.length (M.ram.map (Value.int .u8)):=by rw [← hg];exact ho
 rw [hg]
 refine (l1Put_any g M.ram.length A.cr f m B M.ram x w hl (by omega) hfm hx0 hx1 ho2).mono fun e w' ⟨h1,h2,h3⟩=>⟨h1,?_⟩
 have hgr:w.grownBy w' (bRow A.ar M.ram.length A.cr M.ram).v.ownBlock:=by
  have e:(bRow A.ar M.ram.length A.cr M.ram).v.ownBlock=some g:=by show (Value.slice A.ar M.ram.length A.cr).ownBlock=_;rw [hg];rfl
  rw [e];exact h3
 have hst:w'.ownsRow B 5 1 (bRow A.ar M.ram.length A.cr M.ram).v M.ram.length ((put M.ram f x m).map (Value.int .u8)):=by
  show w'.ownsRow B 5 1 (.slice A.ar M.ram.length A.cr) _ _
  rw [hg];exact h2
 have hmk:=Fam.markL (L1:=[wRow A.ax M.x.length A.cx M.x,wRow A.ac M.cs.length A.cc M.cs]) (L2:=[bRow A.ai M.d.xs.length A.ci M.d.xs,bRow A.ao M.d.ys.length A.co M.d.ys]) (r:=bRow A.ar M.ram.length A.cr M.ram) h.fam hgr _ hst
 have hsame:=mvF_same (M:=M) (M':=memM M (put M.ram f x m)) (A:=A) rfl rfl hplen rfl rfl
 have hF:Fam B w.heap.size w' (mvF (memM M (put M.ram f x m)) A):=by
  unfold mvF memM
  dsimp only
  rw [hplen]
  exact hmk.1
 refine ⟨⟨?_,hF.low (Nat.le_refl _) h3.size,fun q hq e=>?_,h.lo⟩,Kx.of_keepL hmk.2 hsame⟩
 ·have hr:w'.heap[r]?=w.heap[r]?:=hmk.2.block r h.lt (fun q hq e=>h.ne q hq e)
  rw [hr,h.row]
  unfold mvc memM
  dsimp only
  rw [hplen]
 ·obtain ⟨q0,h0,e0⟩:=hsame q hq
  exact h.ne q0 h0 (by rw [e0];exact e)

theorem and_i64 (z:Int) (m:Nat) (hm:m < 9223372036854775808):0≤bits .and .i64 z (m:Int)∧bits .and .i64 z (m:Int)≤m:=by
 have e:bits .and .i64 z (m:Int)=wrap64 (((BitVec.ofInt 64 z).toNat &&& m:Nat):Int):=by
  show IntKind.i64.wrap ((BitVec.ofInt 64 z &&& BitVec.ofInt 64 (m:Int)).toNat:Int)=_
  rw [BitVec.toNat_and,BitVec.ofInt_natCast,BitVec.toNat_ofNat,Nat.mod_eq_of_lt (show m < 2 ^ 64 by omega)]
  rw [IntKind.wrap_i64];unfold wrap64;rfl
 have h:(BitVec.ofInt 64 z).toNat &&& m≤m:=Nat.and_le_right
 rw [e]
 unfold wrap64
 omega

structure Code (w0:World) (a:Option Addr) (n:Nat) (zs:List Int):Prop where
 len:zs.length=n
 few:n≤4096
 sl:Sl .u8 w0 a zs
 bd:∀ y ∈ zs,(Lit.int .u8 y).wf=true

structure Cur (w0 w:World) (g:Nat) (a:Option Addr) (n cap:Nat):Prop where
 new:w0.heap.size≤g
 below:Below w0.heap.size w0 w
 row:∃ (i:Nat) (h:Int),i≤n∧w.heap[g]?=some (.cells #[.slice a n cap,.int .i64 (i:Int),.int .i64 h] 61 (0,0))

theorem grown_set (w:World) (g i:Nat) (v:Value):w.grownBy (w.setCell ⟨g,i,none⟩ v) (some g) :=
 ⟨rfl,rfl,rfl,by simp,fun k _ hk=>heap_setCell_other _ _ _ _ (by intro h;exact hk (by rw [h]))⟩

theorem grown_dN (w:World) (n:Nat) (row:Option Nat):w.grownBy (w.drewN n) row:=⟨rfl,rfl,rfl,Nat.le_refl _,fun _ _ _=>rfl⟩

theorem grown_alloc (w:World) (o:Obj) (row:Option Nat):w.grownBy (w.alloc o) row :=
 ⟨rfl,rfl,rfl,by simp,fun k hk _=>heap_alloc_old w o hk⟩

theorem Cur.grown {w0 w w':World} {g:Nat} {a:Option Addr} {n cap:Nat} (hc:Cur w0 w g a n cap) (hw:w.grownBy w' none):Cur w0 w' g a n cap:=by
 obtain ⟨i,h,hi,hrow⟩:=hc.row
 have lt:∀ k o,w.heap[k]?=some o→k < w.heap.size:=by
  intro k o hk
  by_cases hl:k < w.heap.size
  ·exact hl
  ·rw [Array.getElem?_eq_none (by omega)] at hk;cases hk
 refine ⟨hc.new,?_,i,h,hi,?_⟩
 ·exact ⟨hw.os.trans hc.below.os,hw.tape.trans hc.below.tape,hw.output.trans hc.below.output,Nat.le_trans hc.below.size hw.size,fun k hk=>(hw.block k (Nat.lt_of_lt_of_le hk hc.below.size) (by simp)).trans (hc.below.block k hk)⟩
 ·rw [hw.block g (lt _ _ hrow) (by simp)];exact hrow

theorem Cur.set2 {w0 w:World} {g:Nat} {a:Option Addr} {n cap:Nat} (hc:Cur w0 w g a n cap) (v:Int):Cur w0 (w.setCell ⟨g,2,none⟩ (.int .i64 v)) g a n cap:=by
 obtain ⟨i,h,hi,hrow⟩:=hc.row
 exact ⟨hc.new,hc.below.setCell hc.new _,i,v,hi,heap_setCell_same w g 2 _ _ _ hrow⟩

theorem Cur.set1 {w0 w:World} {g:Nat} {a:Option Addr} {n cap:Nat} (hc:Cur w0 w g a n cap) (j:Nat) (hj:j≤n):Cur w0 (w.setCell ⟨g,1,none⟩ (.int .i64 (j:Int))) g a n cap:=by
 obtain ⟨i,h,hi,hrow⟩:=hc.row
 exact ⟨hc.new,hc.below.setCell hc.new _,j,h,hj,heap_setCell_same w g 1 _ _ _ hrow⟩

theorem Cur.dN {w0 w:World} {g:Nat} {a:Option Addr} {n cap:Nat} (hc:Cur w0 w g a n cap) (m:Nat):Cur w0 (w.drewN m) g a n cap:=hc.grown (grown_dN w m none)

set_option maxHeartbeats 1600000 in
theorem l1Byte_any {w0:World} {g:Nat} {a:Option Addr} {n cap:Nat} {zs:List Int} (hcd:Code w0 a n zs) (w:World) (hc:Cur w0 w g a n cap) :
 Calls Tryz.prog 37 #[.pointer (some ⟨g,0,none⟩)] w fun e w'=>∃ x:Int,e=.returned (.int .i64 x)∧0≤x∧x≤255∧Cur w0 w' g a n cap∧w.grownBy w' (some g):=by
 obtain ⟨i,h,hi,hrow⟩:=hc.row
 have c2:=cell_of_row w g 2 _ _ _ hrow
 have f2:=frozen_of_row w g 2 _ _ hrow
 simp at c2
 have R:∀ v,(w.setCell ⟨g,2,none⟩ v).heap[g]?=some (.cells #[.slice a n cap,.int .i64 (i:Int),v] 61 (0,0)):=fun v=>heap_setCell_same w g 2 _ _ v hrow
 have K0:∀ v,(w.setCell ⟨g,2,none⟩ v).cell? ⟨g,0,none⟩=some (.slice a n cap):=fun v=>cell_of_row _ _ _ _ _ _ (R v)
 have K1:∀ v,(w.setCell ⟨g,2,none⟩ v).cell? ⟨g,1,none⟩=some (.int .i64 (i:Int)):=fun v=>cell_of_row _ _ _ _ _ _ (R v)
 have K2:∀ v,(w.setCell ⟨g,2,none⟩ v).cell? ⟨g,2,none⟩=some v:=fun v=>cell_of_row _ _ _ _ _ _ (R v)
 have F1:∀ v,(w.setCell ⟨g,2,none⟩ v).frozen? ⟨g,1,none⟩=false:=fun v=>frozen_of_row _ _ _ _ _ (R v)
 have HR:Hid (∀ v,(w.setCell ⟨g,2,none⟩ v).heap[g]?=some (.cells #[.slice a n cap,.int .i64 (i:Int),v] 61 (0,0))):=R
 have HC:Hid (Cur w0 w g a n cap):=hc
 have HD:Hid (Code w0 a n zs):=hcd
 clear R hrow hc hcd
 by_cases hlt:i < n
 ·obtain ⟨b,off,rfl,hb,hcl⟩:=HD.out.sl i (by rw [HD.out.len];exact hlt)
  have KC:∀ v,(w.setCell ⟨g,2,none⟩ v).cell? ⟨b,off+i,none⟩=some (.int .u8 (zs.getD i 0)):=fun v=>((HC.out.below.setCell HC.out.new v).cell (by exact hb)).trans hcl
  obtain ⟨y,hy⟩:∃ y,y=zs.getD i 0:=⟨_,rfl⟩
  rw [← hy] at KC
  clear hcl hy
  go_enter Tryz.func37,Tryz.ntmps37
  go_wp2_with fail
  go_quiet (fail)
  go_wp2_with fail
  go_quiet (fail)
  go_wp2_with fail
  go_quiet (fail)
  go_wp2_with fail
  have hi1:wrap64 ((i:Int)+1)=((i+1:Nat):Int):=by
   have:=HD.out.few
   unfold wrap64;omega
  rw [hi1]
  go_ret
  refine ⟨_,rfl,(and_i64 _ 255 (by omega)).1,(and_i64 _ 255 (by omega)).2,?_,?_⟩
  ·exact ((HC.out.set2 _).dN _).set1 _ (by omega)
  ·exact grown_trans (grown_trans (grown_set _ _ _ _) (grown_dN _ _ _)) (grown_set _ _ _ _)
 ·go_enter Tryz.func37,Tryz.ntmps37
  go_wp2_with fail
  go_quiet (fail)
  go_wp2_with fail
  go_quiet (fail)
  go_wp2_with fail
  go_ret
  refine ⟨_,rfl,(and_i64 _ 255 (by omega)).1,(and_i64 _ 255 (by omega)).2,?_,?_⟩
  ·exact ((HC.out.set2 _).dN _).dN _
  ·exact grown_trans (grown_trans (grown_set _ _ _ _) (grown_dN _ _ _)) (grown_dN _ _ _)

def Cs (w0:World) (g:Nat) (a:Option Addr) (n cap:Nat) (w w':World):Prop:=Cur w0 w' g a n cap∧w.grownBy w' (some g)

theorem Cs.trans {w0 w1 w2 w3:World} {g:Nat} {a:Option Addr} {n cap:Nat} (h:Cs w0 g a n cap w1 w2) (k:Cs w0 g a n cap w2 w3):Cs w0 g a n cap w1 w3:=⟨k.1,grown_trans h.2 k.2⟩

theorem Cs.refl {w0 w:World} {g:Nat} {a:Option Addr} {n cap:Nat} (h:Cur w0 w g a n cap):Cs w0 g a n cap w w:=⟨h,grown_refl _ _⟩

theorem l1Byte_c {w0:World} {g:Nat} {a:Option Addr} {n cap:Nat} {zs:List Int} (hcd:Code w0 a n zs) (w:World) (hc:Cur w0 w g a n cap) :
 Calls Tryz.prog 37 #[.pointer (some ⟨g,0,none⟩)] w fun e w'=>∃ x:Int,e=.returned (.int .i64 x)∧(0≤x∧x≤255)∧Hid (Cs w0 g a n cap w w') :=
 (l1Byte_any hcd w hc).mono fun e w' ⟨x,h1,h2,h3,h4,h5⟩=>⟨x,h1,⟨h2,h3⟩,⟨h4,h5⟩⟩

set_option maxHeartbeats 1600000 in
theorem l1Below_c {w0:World} {g:Nat} {a:Option Addr} {n cap:Nat} {zs:List Int} (hcd:Code w0 a n zs) (m:Int) (hm:0 < m) (w:World) (hc:Cur w0 w g a n cap) :
 Calls Tryz.prog 35 #[.pointer (some ⟨g,0,none⟩),.int .i64 m] w fun e w'=>∃ x:Int,e=.returned (.int .i64 x)∧(0≤x∧x < m)∧Hid (Cs w0 g a n cap w w'):=by
 have HD:Hid (Code w0 a n zs):=hcd
 have HC:Hid (Cur w0 w g a n cap):=hc
 have d1:decide (m≤0)=false:=by simp;omega
 have dz:¬ m=0:=by omega
 clear hcd hc
 by_cases hle:m≤256
 ·have d2:decide (m≤256)=true:=by simpa using hle
  go_enter Tryz.func35,Tryz.ntmps35
  go_wp2_with fail
  refine (l1Byte_c HD.out _ HC.out).mono ?_
  rintro e w1 ⟨x,rfl,⟨hx0,hx1⟩,hs⟩
  go_wp2_with fail
  go_ret
  refine ⟨_,rfl,?_,hs⟩
  exact ⟨Int.emod_nonneg _ dz,Int.emod_lt_of_pos _ hm⟩
 ·have d2:decide (m≤256)=false:=by simpa using hle
  go_enter Tryz.func35,Tryz.ntmps35
  go_wp2_with fail
  refine (l1Byte_c HD.out _ HC.out).mono ?_
  rintro e w1 ⟨x,rfl,⟨hx0,hx1⟩,hs1⟩
  go_wp2_with fail
  refine (l1Byte_c HD.out _ hs1.out.1).mono ?_
  rintro e w2 ⟨y,rfl,⟨hy0,hy1⟩,hs2⟩
  go_wp2_with fail
  refine (l1Byte_c HD.out _ hs2.out.1).mono ?_
  rintro e w3 ⟨z,rfl,⟨hz0,hz1⟩,hs3⟩
  go_wp2_with fail
  refine (l1Byte_c HD.out _ hs3.out.1).mono ?_
  rintro e w4 ⟨u,rfl,⟨hu0,hu1⟩,hs4⟩
  go_wp2_with fail
  go_ret
  refine ⟨_,rfl,?_,hs1.out.trans (hs2.out.trans (hs3.out.trans hs4.out))⟩
  exact ⟨Int.emod_nonneg _ dz,Int.emod_lt_of_pos _ hm⟩

theorem l1Once_c {w0:World} {g:Nat} {a:Option Addr} {n cap:Nat} {zs:List Int} (hcd:Code w0 a n zs) (m:Int) (hm:0 < m) (w:World) (hc:Cur w0 w g a n cap) :
 Calls Tryz.prog 17 #[.pointer (some ⟨g,0,none⟩),.int .i64 m] w fun e w'=>∃ c:Bool,e=.returned (.bool c)∧Hid (Cs w0 g a n cap w w'):=by
 have HD:Hid (Code w0 a n zs):=hcd
 have HC:Hid (Cur w0 w g a n cap):=hc
 clear hcd hc
 go_enter Tryz.func17,Tryz.ntmps17
 go_wp2_with fail
 refine (l1Below_c HD.out m hm _ HC.out).mono ?_
 rintro e w1 ⟨x,rfl,⟨hx0,hx1⟩,hs⟩
 go_wp2_with fail
 go_ret
 exact ⟨_,rfl,hs⟩

set_option maxHeartbeats 1600000 in
theorem l1New_c {a:Option Addr} {n:Nat} (cap:Nat) {zs:List Int} (w:World) (hcd:Code w a n zs) :
 Calls Tryz.prog 12 #[.slice a n cap] w fun e w'=>∃ g,e=.returned (.pointer (some ⟨g,0,none⟩))∧Hid (Cur w w' g a n cap):=by
 have HD:Hid (Code w a n zs):=hcd
 have hn:=hcd.few
 clear hcd
 go_enter Tryz.func12,Tryz.ntmps12
 go_wp2_with fail
 go_loopw [3,4] (fun h i wr=>∃ (k:Nat) (x:Int),k≤n∧h=.int .i64 x∧i=.int .i64 k∧Hid (Below w.heap.size w wr))
  (fun _ i _=>n - (intOf i).toNat)
 case atStart=>exact ⟨0,_,Nat.zero_le _,rfl,rfl,Below.refl _ _⟩
 case round =>
  obtain ⟨k,x,hk,rfl,rfl,hbel⟩:=hrel
  by_cases hlt:k < n
  ·obtain ⟨b,off,rfl,hb,hcl⟩:=HD.out.sl k (by rw [HD.out.len];exact hlt)
   have KC:wr.cell? ⟨b,off+k,none⟩=some (.int .u8 (zs.getD k 0)):=(hbel.out.cell (by exact hb)).trans hcl
   clear hcl
   go_wp2_with fail
   go_roundw
   case rel=>exact ⟨k+1,_,by omega,rfl,by go_num,hbel⟩
   case measure=>simp [intOf];omega
  ·go_wp2_with fail
   go_ret
   refine ⟨_,rfl,?_⟩
   exact ⟨hbel.out.size,hbel.out.alloc hbel.out.size _,0,x,Nat.zero_le _,heap_alloc_new _ _⟩

theorem wf64 {x:Int} (h0 : -9223372036854775808≤x) (h1:x≤9223372036854775807):(Lit.int .i64 x).wf=true:=by
 have hmin:IntKind.i64.min=-9223372036854775808:=rfl
 have hmax:IntKind.i64.max=9223372036854775807:=rfl
 simp only [Lit.wf,Bool.and_eq_true,decide_eq_true_eq]
 omega

theorem Cs.keep {w0 w w':World} {g:Nat} {a:Option Addr} {n cap:Nat} (h:Cs w0 g a n cap w w') {k:Nat} {o:Obj} (hk:w.heap[k]?=some o) (hne:k≠g):w'.heap[k]?=some o:=by
 by_cases hl:k < w.heap.size
 ·rw [h.2.block k hl (by simp [hne])];exact hk
 ·rw [Array.getElem?_eq_none (by omega)] at hk;cases hk

theorem Cur.lt {w0 w:World} {g:Nat} {a:Option Addr} {n cap:Nat} (h:Cur w0 w g a n cap):g < w.heap.size:=by
 obtain ⟨i,x,_,hrow⟩:=h.row
 by_cases hl:g < w.heap.size
 ·exact hl
 ·rw [Array.getElem?_eq_none (by omega)] at hrow;cases hrow

set_option maxHeartbeats 3200000 in
theorem l1DrawWord_c {w0:World} {g:Nat} {a:Option Addr} {n cap:Nat} {zs:List Int} (hcd:Code w0 a n zs) (w:World) (hc:Cur w0 w g a n cap) :
 Calls Tryz.prog 19 #[.pointer (some ⟨g,0,none⟩)] w fun e w'=>∃ x:Int,e=.returned (.int .u64 x)∧(0≤x∧x < 18446744073709551616)∧Hid (Cs w0 g a n cap w w'):=by
 have HD:Hid (Code w0 a n zs):=hcd
 have HC:Hid (Cur w0 w g a n cap):=hc
 clear hcd hc
 go_enter Tryz.func19,Tryz.ntmps19
 go_wp2_with fail
 go_loopw [3,4] (fun h i wr=>∃ (k:Nat) (x:Int),k≤8∧h=.int .u64 x∧i=.int .i64 k∧(0≤x∧x < 18446744073709551616)∧Hid (Cs w0 g a n cap w wr))
  (fun _ i _=>8 - (intOf i).toNat)
 case atStart=>exact ⟨0,0,Nat.zero_le _,rfl,rfl,by omega,Cs.refl HC.out⟩
 case round =>
  obtain ⟨k,x,hk,rfl,rfl,⟨hx0,hx1⟩,hs⟩:=hrel
  by_cases hlt:k < 8
  ·go_wp2_with fail
   refine (l1Byte_c HD.out _ hs.out.1).mono ?_
   rintro e w1 ⟨y,rfl,⟨hy0,hy1⟩,hs1⟩
   obtain ⟨z,hz⟩:∃ z,z=IntKind.u64.wrap (IntKind.u64.wrap (x*256)+y):=⟨_,rfl⟩
   go_wp2_with fail
   go_roundw
   case rel =>
    refine ⟨k+1,_,by omega,rfl,by go_num,?_,hs.out.trans hs1.out⟩
    rw [IntKind.wrap_u64];omega
   case measure=>simp [intOf];omega
  ·go_wp2_with fail
   refine (l1Below_c HD.out 5 (by omega) _ hs.out.1).mono ?_
   rintro e w1 ⟨y,rfl,⟨hy0,hy1⟩,hs1⟩
   have HS1:Hid (Cs w0 g a n cap w w1):=hs.out.trans hs1.out
   have hm:0≤x % 100∧x % 100 < 18446744073709551616:=by omega
   have hsh:0≤IntKind.u64.wrap (wrap64 x / 1099511627776)∧IntKind.u64.wrap (wrap64 x / 1099511627776) < 18446744073709551616:=by rw [IntKind.wrap_u64];omega
   obtain ⟨k,rfl⟩:=Int.eq_ofNat_of_zero_le hy0
   match k,hy1 with
   | 0,_ =>
    go_wp2_with fail
    have HA:Hid (Cur w0 (w1.alloc (.cells #[.int .u64 0,.int .u64 1,.int .u64 18446744073709551615,.int .u64 9223372036854775808,.int .u64 9223372036854775807,.int .u64 2147483648,.int .u64 2147483647,.int .u64 18446744071562067968,.int .u64 4294967295,.int .u64 64] 24)) g a n cap):=hs1.out.1.grown (grown_alloc _ _ _)
    refine (l1Below_c HD.out 10 (by omega) _ HA.out).mono ?_
    rintro e w2 ⟨y,rfl,⟨hx0,hx1⟩,hs2⟩
    obtain ⟨k,rfl⟩:=Int.eq_ofNat_of_zero_le hx0
    have hrow:w2.heap[w1.heap.size]?=some (.cells #[.int .u64 0,.int .u64 1,.int .u64 18446744073709551615,.int .u64 9223372036854775808,.int .u64 9223372036854775807,.int .u64 2147483648,.int .u64 2147483647,.int .u64 18446744071562067968,.int .u64 4294967295,.int .u64 64] 24 (0,0)):=hs2.out.keep (heap_alloc_new _ _) (Nat.ne_of_gt hs1.out.1.lt)
    obtain ⟨v,hv,hcell⟩:∃ v:Int,(0≤v∧v < 18446744073709551616)∧w2.cell? ⟨w1.heap.size,k,none⟩=some (.int .u64 v):=by
     have ec:=cell_of_row w2 w1.heap.size k _ _ _ hrow
     match k,hx1 with
     | 0,_=>exact ⟨_,by omega,ec⟩
     | 1,_=>exact ⟨_,by omega,ec⟩
     | 2,_=>exact ⟨_,by omega,ec⟩
     | 3,_=>exact ⟨_,by omega,ec⟩
     | 4,_=>exact ⟨_,by omega,ec⟩
     | 5,_=>exact ⟨_,by omega,ec⟩
     | 6,_=>exact ⟨_,by omega,ec⟩
     | 7,_=>exact ⟨_,by omega,ec⟩
     | 8,_=>exact ⟨_,by omega,ec⟩
     | 9,_=>exact ⟨_,by omega,ec⟩
     | k+10,h=>exact absurd h (by omega)
    have HV:Hid (0≤v∧v < 18446744073709551616):=hv
    have HS:Hid (Cs w0 g a n cap w w2):=⟨hs2.out.1,grown_trans HS1.out.2 (grown_trans (grown_alloc _ _ _) hs2.out.2)⟩
    clear hrow hv hs hs1 hs2 HA HC HS1
    go_wp2_with fail
    go_ret
    exact ⟨_,rfl,HV.out,HS⟩
   | 1,_ =>
    go_wp2_with fail
    go_ret
    exact ⟨_,rfl,hm,HS1⟩
   | 2,_ =>
    go_wp2_with fail
    go_ret
    exact ⟨_,rfl,hsh,HS1⟩
   | 3,_ =>
    go_wp2_with fail
    go_ret
    exact ⟨_,rfl,⟨hx0,hx1⟩,HS1⟩
   | 4,_ =>
    go_wp2_with fail
    go_ret
    exact ⟨_,rfl,⟨hx0,hx1⟩,HS1⟩
   | k+5,h=>exact absurd h (by omega)

theorem Cs.alloc {w0:World} {g:Nat} {a:Option Addr} {n cap:Nat} {w:World} (h:Cur w0 w g a n cap) (o:Obj):Cs w0 g a n cap w (w.alloc o):=⟨h.grown (grown_alloc _ _ _),grown_alloc _ _ _⟩

theorem few_words {w:World} {b k:Nat} (cs:List Int) (t:TypeId) (hr:w.heap[b]?=some (.cells (cs.map (Value.int .u64)).toArray t (0,0))) (hu:∀ x ∈ cs,U x) (hk:k < cs.length):∃ v,U v∧w.cell? ⟨b,k,none⟩=some (.int .u64 v):=by
 refine ⟨cs[k],hu _ (List.getElem_mem hk),?_⟩
 rw [cell_of_row _ _ _ _ _ _ hr]
 simp [List.getElem?_eq_getElem hk]

theorem few_ints {w:World} {b k:Nat} (cs:List Int) (t:TypeId) (hr:w.heap[b]?=some (.cells (cs.map (Value.int .i64)).toArray t (0,0))) (hu:∀ x ∈ cs,(Lit.int .i64 x).wf=true) (hk:k < cs.length):∃ v,(Lit.int .i64 v).wf=true∧w.cell? ⟨b,k,none⟩=some (.int .i64 v):=by
 refine ⟨cs[k],hu _ (List.getElem_mem hk),?_⟩
 rw [cell_of_row _ _ _ _ _ _ hr]
 simp [List.getElem?_eq_getElem hk]

theorem Cs.of_below {w0:World} {g:Nat} {a:Option Addr} {n cap:Nat} {w wx:World} (hc:Cur w0 w g a n cap) (hb:Below w.heap.size w wx):Cs w0 g a n cap w wx:=by
 have hg:=hc.lt
 obtain ⟨i,x,hi,hrow⟩:=hc.row
 exact ⟨⟨hc.new,below_trans hc.below hb,i,x,hi,by rw [hb.block g hg];exact hrow⟩,⟨hb.os,hb.tape,hb.output,hb.size,fun k hk _=>hb.block k hk⟩⟩

theorem infoI:(Tryz.prog.info? 2).map (fun i=>(i.zero,i.size,i.bytes))=some (some (.int .i64 0),1,8):=by kernel_rfl

set_option maxHeartbeats 1600000 in
theorem l4DrawNumber_c {w0:World} {g:Nat} {a:Option Addr} {n cap:Nat} {zs:List Int} (hcd:Code w0 a n zs) (w:World) (hc:Cur w0 w g a n cap) :
 Calls Tryz.prog 107 #[.pointer (some ⟨g,0,none⟩)] w fun e w'=>∃ x:Int,e=.returned (.int .i64 x)∧(Lit.int .i64 x).wf=true∧Hid (Cs w0 g a n cap w w'):=by
 have HD:Hid (Code w0 a n zs):=hcd
 have HC:Hid (Cur w0 w g a n cap):=hc
 obtain ⟨i0,hi,hz0,hz1,hz2⟩:=info_parts infoI
 have hb9:(22+5)*8≤140737488355328:=by omega
 have hm9:22+5≤maxLen:=by unfold maxLen;omega
 have h1c:∀ u ∈ ([256,260,324,3860,769]:List Int).map (Value.int .i64),u.oneCell'=true:=ints_oneCell _ _
 have hnews:∀ (W:World) (j:Nat) (u:Value),(([256,260,324,3860,769]:List Int).map (Value.int .i64))[j]?=some u→(W.alloc (.cells #[.int .i64 256,.int .i64 260,.int .i64 324,.int .i64 3860,.int .i64 769] 2)).cell? ((⟨W.heap.size,0,none⟩:Addr).add j)=some u:=by
  intro W j u hu
  rw [adds,Nat.zero_add,cell_of_row _ _ _ _ _ _ (heap_alloc_new _ _)]
  rw [← hu]
  simp
 have HN:Hid (∀ (W:World) (j:Nat) (u:Value),(([256,260,324,3860,769]:List Int).map (Value.int .i64))[j]?=some u→(W.alloc (.cells #[.int .i64 256,.int .i64 260,.int .i64 324,.int .i64 3860,.int .i64 769] 2)).cell? ((⟨W.heap.size,0,none⟩:Addr).add j)=some u):=hnews
 clear hcd hc hnews
 go_enter Tryz.func107,Tryz.ntmps107
 go_wp2_with fail
 refine (l4Numbers_any _).mono ?_
 rintro e w1 ⟨rfl,hw1⟩
 have ho1:w1.ownsRow w.heap.size 2 1 (.slice (some ⟨w.heap.size,0,none⟩) 22 22) 22 (csrNumbers.map (Value.int .i64)):=by
  rw [hw1];exact World.ownsRow_lit w _ 22 (Nat.le_refl _) (by unfold maxLen;omega) rfl
 have hb1:Below w.heap.size w w1:=by rw [hw1];exact (Below.refl _ _).alloc (Nat.le_refl _) _
 have hE:=ho1.alloc (.cells #[.int .i64 256,.int .i64 260,.int .i64 324,.int .i64 3860,.int .i64 769] 2)
 have hlt1:w.heap.size < w1.heap.size:=by rw [hw1];simp
 clear hw1 ho1
 go_wp2_with (at_builtin;refine wpList_append_own _ rfl (.tmp 4) (.tmp 5) 63 rfl _ 2 i0 (.int .i64 0) 1 8 Tryz.underlying63 hi hz0 hz1 hz2 rfl (by decide) _ 22 (csrNumbers.map (Value.int .i64)) (by rfl) hE ⟨w1.heap.size,0,none⟩ 5 5 (([256,260,324,3860,769]:List Int).map (Value.int .i64)) rfl rfl (HN.out _) h1c hm9 hb9 (by simp;omega) ?_;intro v' w2 hown1 hgrow1 hnil1)
 obtain ⟨g2,c2,hv2,hg2⟩:=own_shape hown1 (by omega)
 have B2:Below w.heap.size w w2:=Below.grown (hb1.alloc hb1.size _) hgrow1 (by simp;omega) (by intro k hk;simp [Value.ownBlock] at hk;omega)
 have HS2:Hid (Cs w0 g a n cap w w2):=Cs.of_below HC.out B2
 obtain ⟨L,hL⟩:∃ L,L=csrNumbers ++ ([256,260,324,3860,769]:List Int):=⟨_,rfl⟩
 rw [hv2,← List.map_append,← hL] at hown1
 have HWF:Hid (∀ x ∈ L,(Lit.int .i64 x).wf=true):=by rw [hL];show ∀ x ∈ _,_;decide
 have HLL:Hid (L.length=27):=by rw [hL];rfl
 have HO:Hid (w2.ownsRow w.heap.size 2 1 (.slice (some ⟨g2,0,none⟩) 27 c2) 27 (L.map (Value.int .i64))):=hown1
 have HNE:Hid (g < g2):=Nat.lt_of_lt_of_le HC.out.lt hg2
 rw [hv2]
 clear hL hown1 hgrow1 hnil1 hv2 hE hb1 hlt1 HN h1c hg2 B2
 go_wp2_with fail
 refine (l1Once_c HD.out 14 (by omega) _ HS2.out.1).mono ?_
 rintro e w3 ⟨c,rfl,hs3⟩
 cases c with
 | true =>
  go_wp2_with fail
  have HA:=Cs.alloc hs3.out.1 (.cells #[.int .i64 0,.int .i64 1,.int .i64 769,.int .i64 2816,.int .i64 3072,.int .i64 4095] 2)
  refine (l1Below_c HD.out 6 (by omega) _ HA.1).mono ?_
  rintro e w4 ⟨x,rfl,⟨hx0,hx1⟩,hs4⟩
  obtain ⟨k,rfl⟩:=Int.eq_ofNat_of_zero_le hx0
  obtain ⟨v,hv,hcell⟩:=few_ints [0,1,769,2816,3072,4095] 2 (hs4.out.keep (heap_alloc_new _ _) (Nat.ne_of_gt hs3.out.1.lt)) (by decide) (k:=k) (by simp;omega)
  have HV:Hid ((Lit.int .i64 v).wf=true):=hv
  have HS:Hid (Cs w0 g a n cap w w4):=HS2.out.trans (hs3.out.trans (HA.trans hs4.out))
  clear hv hs3 hs4 HA HC
  go_wp2_with fail
  go_ret
  exact ⟨_,rfl,HV.out,HS⟩
 | false =>
  go_wp2_with fail
  refine (l1Below_c HD.out 27 (by omega) _ hs3.out.1).mono ?_
  rintro e w4 ⟨x,rfl,⟨hx0,hx1⟩,hs4⟩
  obtain ⟨k,rfl⟩:=Int.eq_ofNat_of_zero_le hx0
  have hs34:=hs3.out.trans hs4.out
  have ho4:=kept_of HO.out hs34.2 (by intro j hj hne;have:=HNE.out;simp [Value.ownBlock] at hj hne;omega)
  obtain ⟨b,off,e,_,hcl⟩:=own_sl ho4 k (by have:=HLL.out;omega)
  simp only [Option.some.injEq,Addr.mk.injEq,and_true] at e
  obtain ⟨rfl,rfl⟩:=e
  rw [Nat.zero_add] at hcl
  have HV:Hid ((Lit.int .i64 (L.getD k 0)).wf=true):=by
   have hk:k < L.length:=by have:=HLL.out;omega
   have e:L.getD k 0=L[k]:=by simp [List.getD,List.getElem?_eq_getElem hk]
   show (Lit.int .i64 (L.getD k 0)).wf=true
   rw [e];exact HWF.out _ (List.getElem_mem hk)
  generalize L.getD k 0=v at *
  have HS:Hid (Cs w0 g a n cap w w4):=HS2.out.trans hs34
  clear ho4 hs34 hs3 hs4 HC
  go_wp2_with fail
  go_ret
  exact ⟨_,rfl,HV.out,HS⟩

def Rm (w0:World) (g:Nat) (a:Option Addr) (n cap:Nat) (w:World) (b m:Nat) (wr:World):Prop :=
 ∃ zs:List Int,(∀ y ∈ zs,(Lit.int .u8 y).wf=true)∧wr.ownsRow w.heap.size 5 1 (.slice (some ⟨b,0,none⟩) m m) m (zs.map (Value.int .u8))∧Cs w0 g a n cap w wr∧g < w.heap.size∧w.heap.size≤b

theorem Rm.next {w0:World} {g:Nat} {a:Option Addr} {n cap:Nat} {w wr wx:World} {b m:Nat} (h:Rm w0 g a n cap w b m wr) (k:Cs w0 g a n cap wr wx):Rm w0 g a n cap w b m wx:=by
 obtain ⟨zs,hu,ho,hc,hg,hb⟩:=h
 refine ⟨zs,hu,kept_of ho k.2 ?_,hc.trans k,hg,hb⟩
 intro j hj hne
 simp [Value.ownBlock] at hj hne
 omega

theorem Rm.cur {w0:World} {g:Nat} {a:Option Addr} {n cap:Nat} {w wr:World} {b m:Nat} (h:Rm w0 g a n cap w b m wr):Cur w0 wr g a n cap:=by
 obtain ⟨zs,hu,ho,hc,hg,hb⟩:=h
 exact hc.1

theorem wf8 {y:Int} (h0:0≤y) (h1:y≤255):(Lit.int .u8 y).wf=true:=by
 have hmin:IntKind.u8.min=0:=rfl
 have hmax:IntKind.u8.max=255:=rfl
 simp only [Lit.wf,Bool.and_eq_true,decide_eq_true_eq]
 omega

theorem zeros_wf (m:Nat):∀ y ∈ List.replicate m (0:Int),(Lit.int .u8 y).wf=true:=by
 intro y hy
 rw [(List.mem_replicate.mp hy).2];decide

theorem l1Max_any (x y:Int) (w:World):Calls Tryz.prog 36 #[.int .i64 x,.int .i64 y] w fun e w'=>e=.returned (.int .i64 (if y < x then x else y))∧w'=w:=by
 by_cases h:y < x
 ·have d:decide (y < x)=true:=by simpa using h
  rw [if_pos h]
  clear h
  go_enter Tryz.func36,Tryz.ntmps36
  go_wp2_with fail
  go_ret
  exact ⟨rfl,rfl⟩
 ·have d:decide (y < x)=false:=by simpa using h
  rw [if_neg h]
  clear h
  go_enter Tryz.func36,Tryz.ntmps36
  go_wp2_with fail
  go_ret
  exact ⟨rfl,rfl⟩

set_option maxHeartbeats 3200000 in
theorem l1DrawAddr_c {w0:World} {g:Nat} {a:Option Addr} {n cap:Nat} {zs:List Int} (hcd:Code w0 a n zs) (b:Option Addr) (m c:Nat) (hm:m≤1048576) (w:World) (hc:Cur w0 w g a n cap) :
 Calls Tryz.prog 16 #[.pointer (some ⟨g,0,none⟩),.slice b m c] w fun e w'=>∃ x:Int,e=.returned (.int .u64 x)∧U x∧Hid (Cs w0 g a n cap w w'):=by
 have HD:Hid (Code w0 a n zs):=hcd
 have HC:Hid (Cur w0 w g a n cap):=hc
 clear hcd hc
 go_enter Tryz.func16,Tryz.ntmps16
 go_wp2_with fail
 refine (l1Once_c HD.out 12 (by omega) _ HC.out).mono ?_
 rintro e w1 ⟨cc,rfl,hs1⟩
 cases cc with
 | true =>
  obtain ⟨v1,hv1⟩:∃ v,2147483648+(m:Int)=v:=⟨_,rfl⟩
  go_wp2_with fail
  have HA:=Cs.alloc hs1.out.1 (.cells #[.int .u64 2147483647,.int .u64 v1,.int .u64 (v1 - 1),.int .u64 (v1 - 7),.int .u64 0,.int .u64 18446744073709551615,.int .u64 18446744073709551612] 24)
  refine (l1Below_c HD.out 7 (by omega) _ HA.1).mono ?_
  rintro e w2 ⟨x,rfl,⟨hx0,hx1⟩,hs2⟩
  obtain ⟨k,rfl⟩:=Int.eq_ofNat_of_zero_le hx0
  obtain ⟨v,hv,hcell⟩:=few_words [2147483647,v1,v1 - 1,v1 - 7,0,18446744073709551615,18446744073709551612] 24 (hs2.out.keep (heap_alloc_new _ _) (Nat.ne_of_gt hs1.out.1.lt)) (by intro x hx;simp only [List.mem_cons,List.not_mem_nil,or_false] at hx;constructor<;>omega) (k:=k) (by simp;omega)
  have HV:Hid (U v):=hv
  have HS:Hid (Cs w0 g a n cap w w2):=hs1.out.trans (HA.trans hs2.out)
  clear hv hs1 hs2 HA HC
  go_wp2_with fail
  go_ret
  exact ⟨_,rfl,HV.out,HS⟩
 | false =>
  go_wp2_with fail
  refine (l1Max_any 1 (m:Int) _).mono ?_
  rintro e w2 ⟨rfl,hw2⟩
  have hw3:=hw2.symm
  subst hw3
  obtain ⟨q,hq,hq0⟩:∃ q:Int,(if (m:Int) < 1 then (1:Int) else (m:Int))=q∧0 < q∧q≤1048576:=⟨_,rfl,by split<;>omega,by split<;>omega⟩
  rw [hq]
  have q0:=hq0.1
  have q1:=hq0.2
  clear hq hq0
  go_wp2_with fail
  refine (l1Below_c HD.out q (by omega) _ hs1.out.1).mono ?_
  rintro e w3 ⟨x,rfl,⟨hx0,hx1⟩,hs3⟩
  go_wp2_with fail
  go_ret
  refine ⟨_,rfl,?_,hs1.out.trans hs3.out⟩
  first | exact U_wrap _ | (constructor<;>omega)

theorem l1DrawSize_c {w0:World} {g:Nat} {a:Option Addr} {n cap:Nat} {zs:List Int} (hcd:Code w0 a n zs) (w:World) (hc:Cur w0 w g a n cap) :
 Calls Tryz.prog 15 #[.pointer (some ⟨g,0,none⟩)] w fun e w'=>∃ x:Int,e=.returned (.int .i64 x)∧(Lit.int .i64 x).wf=true∧Hid (Cs w0 g a n cap w w'):=by
 have HD:Hid (Code w0 a n zs):=hcd
 have HC:Hid (Cur w0 w g a n cap):=hc
 clear hcd hc
 go_enter Tryz.func15,Tryz.ntmps15
 go_wp2_with fail
 refine (l1Once_c HD.out 20 (by omega) _ HC.out).mono ?_
 rintro e w1 ⟨c,rfl,hs1⟩
 cases c with
 | true =>
  go_wp2_with fail
  have HA:=Cs.alloc hs1.out.1 (.cells #[.int .i64 0,.int .i64 3,.int .i64 16,.int .i64 (-1)] 2)
  refine (l1Below_c HD.out 4 (by omega) _ HA.1).mono ?_
  rintro e w2 ⟨x,rfl,⟨hx0,hx1⟩,hs2⟩
  obtain ⟨k,rfl⟩:=Int.eq_ofNat_of_zero_le hx0
  obtain ⟨v,hv,hcell⟩:=few_ints [0,3,16,-1] 2 (hs2.out.keep (heap_alloc_new _ _) (Nat.ne_of_gt hs1.out.1.lt)) (by decide) (k:=k) (by simp;omega)
  have HV:Hid ((Lit.int .i64 v).wf=true):=hv
  have HS:Hid (Cs w0 g a n cap w w2):=hs1.out.trans (HA.trans hs2.out)
  clear hv hs1 hs2 HA HC
  go_wp2_with fail
  go_ret
  exact ⟨_,rfl,HV.out,HS⟩
 | false =>
  go_wp2_with fail
  have HA:=Cs.alloc hs1.out.1 (.cells #[.int .i64 1,.int .i64 2,.int .i64 4,.int .i64 8] 2)
  refine (l1Below_c HD.out 4 (by omega) _ HA.1).mono ?_
  rintro e w2 ⟨x,rfl,⟨hx0,hx1⟩,hs2⟩
  obtain ⟨k,rfl⟩:=Int.eq_ofNat_of_zero_le hx0
  obtain ⟨v,hv,hcell⟩:=few_ints [1,2,4,8] 2 (hs2.out.keep (heap_alloc_new _ _) (Nat.ne_of_gt hs1.out.1.lt)) (by decide) (k:=k) (by simp;omega)
  have HV:Hid ((Lit.int .i64 v).wf=true):=hv
  have HS:Hid (Cs w0 g a n cap w w2):=hs1.out.trans (HA.trans hs2.out)
  clear hv hs1 hs2 HA HC
  go_wp2_with fail
  go_ret
  exact ⟨_,rfl,HV.out,HS⟩

set_option maxRecDepth 100000 in
theorem append_where {w:World} {base n:Nat} {v:Value} {xs:List Value} (ty:TypeId) (hown:w.ownsRow base 5 1 v n xs) (a:Addr) (c:Nat) (b:Int) (hnews:∀ j u,[Value.int .u8 b][j]?=some u→w.cell? (a.add j)=some u) (hn:n≤1048576) {v':Value} {w':World}
 (hr:(Builtin.append_ #[22,22] ty #[v,.slice (some a) 1 c]).run Tryz.prog w=.ok v' w'):v'.ownBlock=v.ownBlock∨v'.ownBlock=some w.heap.size:=by
 obtain ⟨i0,hi,hz0,hz1,hz2⟩:=info_parts Tryz.info5
 have h1:∀ u ∈ [Value.int .u8 b],u.oneCell'=true:=by simp [Value.oneCell']
 have hl:[Value.int .u8 b].length=1*i0.size:=by rw [hz1];rfl
 rcases hown.2 with ⟨e,e0⟩ | ⟨g,cap,cur,e,hg,hcur,hc1,hc2,hcs,htk⟩
 ·subst e
  right
  have h:=run_append_grow_src (P:=Tryz.prog) w 22 22 ty 5 i0 (.int .u8 0) Tryz.underlying22 hi hz0 none 0 0 [] (run_firstCells_none w.drew i0.size 0 0 0) (.slice (some a) 1 c) 1 [.int .u8 b] (Src.ofSlice w Tryz.underlying22 a 1 c [.int .u8 b] hl hnews h1) (by omega) (by omega) (growslice_fits (by omega) (by rw [hz2];omega))
  rw [h] at hr
  injection hr with e1 _
  rw [← e1]
  rfl
 ·subst e
  by_cases hroom:n+1≤cap
  ·left
   have h:=run_append_room (P:=Tryz.prog) w 22 ty 5 i0 Tryz.underlying22 hi g n cap cur hcur a 1 c [.int .u8 b] hl hnews h1 hroom (by rw [hz1] at *;simp;omega)
   rw [h] at hr
   injection hr with e1 _
   rw [← e1]
   rfl
  ·right
   have holds:∀ j u,xs[j]?=some u→w.cell? ((⟨g,0,none⟩:Addr).add j)=some u:=hown.cells (g:=g) rfl
   have h:=run_append_grow (P:=Tryz.prog) w 22 ty 5 i0 (.int .u8 0) Tryz.underlying22 hi hz0 ⟨g,0,none⟩ n cap xs (by rw [hz1];exact hown.1) holds a 1 c [.int .u8 b] hl hnews (by omega) (by omega) (growslice_fits (by omega) (by rw [hz2];omega))
   rw [h] at hr
   injection hr with e1 _
   rw [← e1]
   rfl

theorem wpList_push8 {ops:Array Oper} {rest:List Oper} {o:Oper} {a:Act} {Q:Exit→Act→World→Prop} {w:World} (hgd:o.guard=none) (s x:Operand)
 (ho:o.op=.call { callee:=.builtin .append,args:=#[s,x],argTypes:=#[22,22] }) (base n:Nat) (v:Value) (zs:List Int) (hs:a.eval s=v) (hown:w.ownsRow base 5 1 v n (zs.map (Value.int .u8))) (hn:n≤1048576)
 (ad:Addr) (c:Nat) (b:Int) (hx:a.eval x=.slice (some ad) 1 c) (hnews:∀ j u,[Value.int .u8 b][j]?=some u→w.cell? (ad.add j)=some u) (hbase:base≤w.heap.size)
 (h:∀ a' c' w',w'.ownsRow base 5 1 (.slice a' (n+1) c') (n+1) ((zs ++ [b]).map (Value.int .u8))→w.grownBy w' v.ownBlock→((Value.slice a' (n+1) c').ownBlock=v.ownBlock∨(Value.slice a' (n+1) c').ownBlock=some w.heap.size)→wpList Tryz.prog ops Q rest (a.put o.dst (.slice a' (n+1) c')) w'):wpList Tryz.prog ops Q (o :: rest) a w:=by
 obtain ⟨i0,hi,hz0,hz1,hz2⟩:=info_parts Tryz.info5
 obtain ⟨v',w',hr,h2,h3,h4⟩:=run_append_own (P:=Tryz.prog) w base 22 o.type 5 i0 (.int .u8 0) 1 1 Tryz.underlying22 hi hz0 hz1 hz2 rfl (by decide) v n (zs.map (Value.int .u8)) hown ad 1 c [.int .u8 b] rfl hnews (by simp [Value.oneCell']) (by unfold maxLen;omega) (by omega) hbase
 have hw:=append_where o.type hown ad c b hnews hn hr
 have hv:∃ a' c',v'=.slice a' (n+1) c':=by
  rcases h2.2 with ⟨_,e0⟩ | ⟨g',cap,cur,e,_⟩
  ·omega
  ·exact ⟨_,_,e⟩
 obtain ⟨a',c',rfl⟩:=hv
 refine wpList_plain hgd fun K hK=>?_
 unfold Oper.wp execOp
 simp only [ho,resolve,invoke,builtin,Sem.run_bind,Sem.run_pure,Result.andThen_ok,List.map_toArray,List.map_cons,List.map_nil,hs,hx,hr]
 exact hK _ _ (h a' c' w' (by rw [List.map_append];exact h2) h3 hw)

theorem one_new8 (w:World) (b:Int) (j:Nat) (u:Value) (h:[Value.int .u8 b][j]?=some u):(w.alloc (.cells #[.int .u8 b] 5)).cell? ((⟨w.heap.size,0,none⟩:Addr).add j)=some u:=by
 have hj:j=0:=by
  rcases Nat.eq_zero_or_pos j with h0 | h0
  ·exact h0
  ·rw [List.getElem?_eq_none (by simp;omega)] at h;cases h
 subst hj
 rw [adds]
 simp only [List.getElem?_cons_zero,Option.some.injEq] at h
 subst h
 have e:=heap_alloc_new w (.cells #[.int .u8 b] 5)
 show (w.alloc (.cells #[.int .u8 b] 5)).cell? ⟨w.heap.size,0,none⟩=_
 simp only [World.cell?,e]
 rfl

theorem Fam.pushIn {B E:Nat} {w w':World} {a1:Option Addr} {n1 c1:Nat} {xs:List Int} {a2:Option Addr} {n2 c2:Nat} {ys:List Int} (h:Fam B E w (devF a1 n1 c1 xs a2 n2 c2 ys)) (hE:E≤w.heap.size) (gr:w.grownBy w' (Value.slice a1 n1 c1).ownBlock) {f:Option Addr} {m g:Nat} {zs:List Int} (ho:w'.ownsRow B 5 1 (.slice f m g) m (zs.map (Value.int .u8))) (hw:(Value.slice f m g).ownBlock=(Value.slice a1 n1 c1).ownBlock∨(Value.slice f m g).ownBlock=some w.heap.size):Fam B w'.heap.size w' (devF f m g zs a2 n2 c2 ys):=by
 have hne:=(List.pairwise_cons.1 h.ne).1 (bRow a2 n2 c2 ys) (List.mem_singleton.2 rfl)
 have h2:=h.own (bRow a2 n2 c2 ys) (by simp [devF])
 have hi2:=h.hi (bRow a2 n2 c2 ys) (by simp [devF])
 refine ⟨fun r hr=>?_,fun r hr k e=>?_,List.pairwise_cons.2 ⟨fun r hr k e e2=>?_,List.pairwise_singleton _ _⟩⟩
 ·rcases List.mem_cons.1 hr with rfl | hr
  ·exact ho
  ·rw [List.mem_singleton.1 hr]
   exact fown_of h2 (fun k e=>gr.block k (h2.lt k e).2 (fun e2=>hne k e2.symm e))
 ·rcases List.mem_cons.1 hr with rfl | hr
  ·exact (ho.lt k e).2
  ·rw [List.mem_singleton.1 hr] at e
   have:=(h2.lt k e).2
   have:=gr.size
   omega
 ·rw [List.mem_singleton.1 hr] at e2
  rcases hw with hw | hw
  ·exact hne k (hw.symm.trans e) e2
  ·have e3:some w.heap.size=some k:=hw.symm.trans e
   cases e3
   have:=hi2 _ e2
   omega

theorem push_run (ty:TypeId) {w:World} (base n:Nat) (v:Value) (zs:List Int) (hown:w.ownsRow base 5 1 v n (zs.map (Value.int .u8))) (hn:n≤1048576) (ad:Addr) (c:Nat) (b:Int) (hnews:∀ j u,[Value.int .u8 b][j]?=some u→w.cell? (ad.add j)=some u) (hbase:base≤w.heap.size) :
 ∃ a' c' w',(Builtin.append_ #[22,22] ty #[v,.slice (some ad) 1 c]).run Tryz.prog w=.ok (.slice a' (n+1) c') w'∧w'.ownsRow base 5 1 (.slice a' (n+1) c') (n+1) ((zs ++ [b]).map (Value.int .u8))∧w.grownBy w' v.ownBlock∧((Value.slice a' (n+1) c').ownBlock=v.ownBlock∨(Value.slice a' (n+1) c').ownBlock=some w.heap.size):=by
 obtain ⟨i0,hi,hz0,hz1,hz2⟩:=info_parts Tryz.info5
 obtain ⟨v',w',hr,h2,h3,h4⟩:=run_append_own (P:=Tryz.prog) w base 22 ty 5 i0 (.int .u8 0) 1 1 Tryz.underlying22 hi hz0 hz1 hz2 rfl (by decide) v n (zs.map (Value.int .u8)) hown ad 1 c [.int .u8 b] rfl hnews (by simp [Value.oneCell']) (by unfold maxLen;omega) (by omega) hbase
 have hw:=append_where ty hown ad c b hnews hn hr
 have hv:∃ a' c',v'=.slice a' (n+1) c':=by
  rcases h2.2 with ⟨_,e0⟩ | ⟨g',cap,cur,e,_⟩
  ·omega
  ·exact ⟨_,_,e⟩
 obtain ⟨a',c',rfl⟩:=hv
 exact ⟨a',c',w',hr,by rw [List.map_append];exact h2,h3,hw⟩

structure Dc (w0:World) (g:Nat) (a:Option Addr) (n cap:Nat) (w:World) (r b:Nat) (T:TypeId) (rs cs:Array Value) (wr:World):Prop where
 row:wr.heap[b]?=some (.cells cs T (0,0))
 res:wr.heap[r]?=some (.cells rs T (0,0))
 cu:Cs w0 g a n cap w wr
 glt:g < r
 rlt:r < b
 wle:w.heap.size≤r

theorem blk {w:World} {k:Nat} {o:Obj} (h:w.heap[k]?=some o):k < w.heap.size:=(Array.getElem?_eq_some_iff.1 h).1

theorem Dc.next {w0 w wr wx:World} {g:Nat} {a:Option Addr} {n cap r b:Nat} {T:TypeId} {rs cs:Array Value} (h:Dc w0 g a n cap w r b T rs cs wr) (k:Cs w0 g a n cap wr wx):Dc w0 g a n cap w r b T rs cs wx:=by
 have hg:=h.glt
 have hr:=h.rlt
 have keep:∀ j o,j≠g→wr.heap[j]?=some o→wx.heap[j]?=some o:=fun j o hj ho=>(k.2.block j (blk ho) (by simp;omega)).trans ho
 exact ⟨keep _ _ (by omega) h.row,keep _ _ (by omega) h.res,h.cu.trans k,hg,hr,h.wle⟩

theorem Dc.drew {w0 w wr:World} {g:Nat} {a:Option Addr} {n cap r b:Nat} {T:TypeId} {rs cs:Array Value} (h:Dc w0 g a n cap w r b T rs cs wr):Dc w0 g a n cap w r b T rs cs wr.drew:=⟨h.row,h.res,⟨h.cu.1.grown (grown_dN wr 1 none),grown_trans h.cu.2 (grown_dN wr 1 _)⟩,h.glt,h.rlt,h.wle⟩

theorem Cs.setc {w0 w wr:World} {g:Nat} {a:Option Addr} {n cap:Nat} (h:Cs w0 g a n cap w wr) (k i:Nat) (v:Value) (hk:w.heap.size≤k) (hg:g≠k) (hw0:w0.heap.size≤k):Cs w0 g a n cap w (wr.setCell ⟨k,i,none⟩ v):=by
 obtain ⟨j,x,hj,hrow⟩:=h.1.row
 refine ⟨⟨h.1.new,h.1.below.setCell hw0 v,j,x,hj,(Below.heap_setCell wr ⟨k,i,none⟩ v g hg).trans hrow⟩,h.2.os,h.2.tape,h.2.output,by rw [size_set];exact h.2.size,fun q hq hne=>?_⟩
 rw [Below.heap_setCell wr ⟨k,i,none⟩ v q (by dsimp only;omega)]
 exact h.2.block q hq hne

theorem Dc.put {w0 w wr:World} {g:Nat} {a:Option Addr} {n cap r b:Nat} {T:TypeId} {rs cs:Array Value} (h:Dc w0 g a n cap w r b T rs cs wr) (i:Nat) (v:Value):Dc w0 g a n cap w r b T rs (cs.setIfInBounds i v) (wr.setCell ⟨b,i,none⟩ v):=by
 have hg:=h.glt
 have hr:=h.rlt
 have hw:=h.wle
 have h0:=h.cu.1.new
 exact ⟨row_set h.row i v,row_far h.res ⟨b,i,none⟩ v (by dsimp only;omega),h.cu.setc b i v (by omega) (by omega) (by omega),hg,hr,hw⟩

theorem Dc.on {w0 w wr wx:World} {g E:Nat} {a:Option Addr} {n cap r b:Nat} {T:TypeId} {rs cs:Array Value} (h:Dc w0 g a n cap w r b T rs cs wr) (k:Keep (b+1) E wr wx):Dc w0 g a n cap w r b T rs cs wx:=by
 have hg:=h.glt
 have hr:=h.rlt
 have hw:=h.wle
 have hb:=blk h.row
 have h0:=h.cu.1.new
 obtain ⟨j,x,hj,hrow⟩:=h.cu.1.row
 have keep:∀ j o,j < b+1→wr.heap[j]?=some o→wx.heap[j]?=some o:=fun j o hj ho=>(k.block j (blk ho) (.inl hj)).trans ho
 exact ⟨keep _ _ (by omega) h.row,keep _ _ (by omega) h.res,⟨⟨h.cu.1.new,h.cu.1.below.trans (k.below (by omega) (by have:=h.cu.1.below.size;omega)),j,x,hj,keep _ _ (by omega) hrow⟩,k.os.trans h.cu.2.os,k.tape.trans h.cu.2.tape,k.output.trans h.cu.2.output,Nat.le_trans h.cu.2.size k.size,fun q hq hne=>(k.block q (by omega) (.inl (by omega))).trans (h.cu.2.block q hq hne)⟩,hg,hr,hw⟩

structure Dx (w0:World) (g:Nat) (a:Option Addr) (n cap:Nat) (w:World) (r b:Nat) (D:DV) (a1:Option Addr) (c1:Nat) (a2:Option Addr) (c2:Nat) (wr:World):Prop where
 c:Dc w0 g a n cap w r b 27 (dvc zeroD none 0 none 0) (dvc D a1 c1 a2 c2) wr
 fam:Fam (b+1) wr.heap.size wr (dvF D a1 c1 a2 c2)

theorem Dx.next {w0 w wr wx:World} {g:Nat} {a:Option Addr} {n cap r b:Nat} {D:DV} {a1:Option Addr} {c1:Nat} {a2:Option Addr} {c2:Nat} (h:Dx w0 g a n cap w r b D a1 c1 a2 c2 wr) (k:Cs w0 g a n cap wr wx):Dx w0 g a n cap w r b D a1 c1 a2 c2 wx:=by
 have hg:=h.c.glt
 have hr:=h.c.rlt
 exact ⟨h.c.next k,(h.fam.mono fun j h1 h2 h3=>k.2.block j h3 (by simp;omega)).low (Nat.le_refl _) k.2.size⟩

theorem Dx.drew {w0 w wr:World} {g:Nat} {a:Option Addr} {n cap r b:Nat} {D:DV} {a1:Option Addr} {c1:Nat} {a2:Option Addr} {c2:Nat} (h:Dx w0 g a n cap w r b D a1 c1 a2 c2 wr):Dx w0 g a n cap w r b D a1 c1 a2 c2 wr.drew:=⟨h.c.drew,h.fam.mono fun j _ _ _=>rfl⟩

theorem Dx.cur {w0 w wr:World} {g:Nat} {a:Option Addr} {n cap r b:Nat} {D:DV} {a1:Option Addr} {c1:Nat} {a2:Option Addr} {c2:Nat} (h:Dx w0 g a n cap w r b D a1 c1 a2 c2 wr):Cur w0 wr g a n cap:=h.c.cu.1

theorem dvc_in (D:DV) (a1:Option Addr) (c1:Nat) (a2:Option Addr) (c2:Nat) (zs:List Int) (f:Option Addr) (m c:Nat) (hm:zs.length=m):(dvc D a1 c1 a2 c2).setIfInBounds 3 (.slice f m c)=dvc ⟨D.t,D.cm,D.so,zs,D.ys,D.ir⟩ f c a2 c2:=by subst hm;rfl

theorem dvc_out (D:DV) (a1:Option Addr) (c1:Nat) (a2:Option Addr) (c2:Nat) (zs:List Int) (f:Option Addr) (m c:Nat) (hm:zs.length=m):(dvc D a1 c1 a2 c2).setIfInBounds 4 (.slice f m c)=dvc ⟨D.t,D.cm,D.so,D.xs,zs,D.ir⟩ a1 c1 f c:=by subst hm;rfl

theorem Dx.cmp {w0 w wr:World} {g:Nat} {a:Option Addr} {n cap r b:Nat} {D:DV} {a1:Option Addr} {c1:Nat} {a2:Option Addr} {c2:Nat} (h:Dx w0 g a n cap w r b D a1 c1 a2 c2 wr) (x:Int):Dx w0 g a n cap w r b ⟨D.t,x,D.so,D.xs,D.ys,D.ir⟩ a1 c1 a2 c2 (wr.setCell ⟨b,1,none⟩ (.int .u64 x)) :=
 ⟨h.c.put 1 (.int .u64 x),(h.fam.set ⟨b,1,none⟩ _ (.inl (by dsimp only;omega))).low (Nat.le_refl _) (by rw [size_set];exact Nat.le_refl _)⟩

theorem Fam.pushOut {B E:Nat} {w w':World} {a1:Option Addr} {n1 c1:Nat} {xs:List Int} {a2:Option Addr} {n2 c2:Nat} {ys:List Int} (h:Fam B E w (devF a1 n1 c1 xs a2 n2 c2 ys)) (hE:E≤w.heap.size) (gr:w.grownBy w' (Value.slice a2 n2 c2).ownBlock) {f:Option Addr} {m g:Nat} {zs:List Int} (ho:w'.ownsRow B 5 1 (.slice f m g) m (zs.map (Value.int .u8))) (hw:(Value.slice f m g).ownBlock=(Value.slice a2 n2 c2).ownBlock∨(Value.slice f m g).ownBlock=some w.heap.size):Fam B w'.heap.size w' (devF a1 n1 c1 xs f m g zs):=by
 have hne:=(List.pairwise_cons.1 h.ne).1 (bRow a2 n2 c2 ys) (List.mem_singleton.2 rfl)
 have h1:=h.own (bRow a1 n1 c1 xs) (by simp [devF])
 have hi1:=h.hi (bRow a1 n1 c1 xs) (by simp [devF])
 refine ⟨fun r hr=>?_,fun r hr k e=>?_,List.pairwise_cons.2 ⟨fun r hr k e e2=>?_,List.pairwise_singleton _ _⟩⟩
 ·rcases List.mem_cons.1 hr with rfl | hr
  ·exact fown_of h1 (fun k e=>gr.block k (h1.lt k e).2 (fun e2=>hne k e e2.symm))
  ·rw [List.mem_singleton.1 hr]
   exact ho
 ·rcases List.mem_cons.1 hr with rfl | hr
  ·have:=(h1.lt k e).2
   have:=gr.size
   omega
  ·rw [List.mem_singleton.1 hr] at e
   exact (ho.lt k e).2
 ·rw [List.mem_singleton.1 hr] at e2
  rcases hw with hw | hw
  ·exact hne k e (hw.symm.trans e2)
  ·have e3:some w.heap.size=some k:=hw.symm.trans e2
   cases e3
   have:=hi1 _ e
   omega

theorem Dx.pushIn {w0 w wr:World} {g:Nat} {a:Option Addr} {n cap r b:Nat} {D:DV} {a1:Option Addr} {c1:Nat} {a2:Option Addr} {c2:Nat} (h:Dx w0 g a n cap w r b D a1 c1 a2 c2 wr) (hl:D.xs.length≤1048576) (y:Int) (ty:TypeId):∃ (f:Option Addr) (q:Nat) (wx:World),(Builtin.append_ #[22,22] ty #[.slice a1 D.xs.length c1,.slice (some ⟨wr.heap.size,0,none⟩) 1 1]).run Tryz.prog (wr.alloc (.cells #[.int .u8 y] 5))=.ok (.slice f (D.xs.length+1) q) wx∧wx.cell? ⟨b,3,none⟩=some (.slice a1 D.xs.length c1)∧wx.frozen? ⟨b,3,none⟩=false ∧
 Dx w0 g a n cap w r b ⟨D.t,D.cm,D.so,D.xs ++ [y],D.ys,D.ir⟩ f q a2 c2 (wx.setCell ⟨b,3,none⟩ (.slice f (D.xs.length+1) q)):=by
 have hb:=blk h.c.row
 have FW:Fam (b+1) wr.heap.size (wr.alloc (.cells #[.int .u8 y] 5)) (devF a1 D.xs.length c1 D.xs a2 D.ys.length c2 D.ys):=h.fam.below ((Below.refl _ _).alloc (Nat.le_refl _) _)
 have how:=FW.own (bRow a1 D.xs.length c1 D.xs) (by simp [devF])
 obtain ⟨f,q,wx,hr,ho,gr,hw⟩:=push_run ty (b+1) D.xs.length _ D.xs how hl ⟨wr.heap.size,0,none⟩ 1 y (one_new8 wr y) (by rw [World.size_alloc];omega)
 have FX:=FW.pushIn (by rw [World.size_alloc];omega) gr ho hw
 have kp:Keep (b+1) wx.heap.size wr wx:=by
  have hs:=gr.size
  rw [World.size_alloc] at hs
  exact ⟨gr.os,gr.tape,gr.output,by omega,fun k hk hne=>(gr.block k (by rw [World.size_alloc];omega) (fun e=>by have:=(how.lt k e.symm).1;omega)).trans (Below.heap_alloc wr _ k hk)⟩
 have CX:=h.c.on kp
 refine ⟨f,q,wx,hr,(cells6 CX.row).2.2.2.1,froz CX.row 3,?_,?_⟩
 ·rw [← dvc_in D a1 c1 a2 c2 (D.xs ++ [y]) f (D.xs.length+1) q (by simp)]
  exact CX.put 3 _
 ·unfold dvF
  dsimp only
  rw [show (D.xs ++ [y]).length=D.xs.length+1 by simp]
  exact (FX.set ⟨b,3,none⟩ _ (.inl (by dsimp only;omega))).low (Nat.le_refl _) (by rw [size_set];exact Nat.le_refl _)

theorem Dx.pushOut {w0 w wr:World} {g:Nat} {a:Option Addr} {n cap r b:Nat} {D:DV} {a1:Option Addr} {c1:Nat} {a2:Option Addr} {c2:Nat} (h:Dx w0 g a n cap w r b D a1 c1 a2 c2 wr) (hl:D.ys.length≤1048576) (y:Int) (ty:TypeId):∃ (f:Option Addr) (q:Nat) (wx:World),(Builtin.append_ #[22,22] ty #[.slice a2 D.ys.length c2,.slice (some ⟨wr.heap.size,0,none⟩) 1 1]).run Tryz.prog (wr.alloc (.cells #[.int .u8 y] 5))=.ok (.slice f (D.ys.length+1) q) wx∧wx.cell? ⟨b,4,none⟩=some (.slice a2 D.ys.length c2)∧wx.frozen? ⟨b,4,none⟩=false ∧
 Dx w0 g a n cap w r b ⟨D.t,D.cm,D.so,D.xs,D.ys ++ [y],D.ir⟩ a1 c1 f q (wx.setCell ⟨b,4,none⟩ (.slice f (D.ys.length+1) q)):=by
 have hb:=blk h.c.row
 have FW:Fam (b+1) wr.heap.size (wr.alloc (.cells #[.int .u8 y] 5)) (devF a1 D.xs.length c1 D.xs a2 D.ys.length c2 D.ys):=h.fam.below ((Below.refl _ _).alloc (Nat.le_refl _) _)
 have how:=FW.own (bRow a2 D.ys.length c2 D.ys) (by simp [devF])
 obtain ⟨f,q,wx,hr,ho,gr,hw⟩:=push_run ty (b+1) D.ys.length _ D.ys how hl ⟨wr.heap.size,0,none⟩ 1 y (one_new8 wr y) (by rw [World.size_alloc];omega)
 have FX:=FW.pushOut (by rw [World.size_alloc];omega) gr ho hw
 have kp:Keep (b+1) wx.heap.size wr wx:=by
  have hs:=gr.size
  rw [World.size_alloc] at hs
  exact ⟨gr.os,gr.tape,gr.output,by omega,fun k hk hne=>(gr.block k (by rw [World.size_alloc];omega) (fun e=>by have:=(how.lt k e.symm).1;omega)).trans (Below.heap_alloc wr _ k hk)⟩
 have CX:=h.c.on kp
 refine ⟨f,q,wx,hr,(cells6 CX.row).2.2.2.2.1,froz CX.row 4,?_,?_⟩
 ·rw [← dvc_out D a1 c1 a2 c2 (D.ys ++ [y]) f (D.ys.length+1) q (by simp)]
  exact CX.put 4 _
 ·unfold dvF
  dsimp only
  rw [show (D.ys ++ [y]).length=D.ys.length+1 by simp]
  exact (FX.set ⟨b,4,none⟩ _ (.inl (by dsimp only;omega))).low (Nat.le_refl _) (by rw [size_set];exact Nat.le_refl _)

theorem Dx.newIn {w0 w wr wx:World} {g:Nat} {a:Option Addr} {n cap r b:Nat} {D:DV} {a1:Option Addr} {c1:Nat} {a2:Option Addr} {c2:Nat} (h:Dx w0 g a n cap w r b D a1 c1 a2 c2 wr) (f:Option Addr) (m q:Nat) (zs:List Int) (hz:zs.length=m) (ho:wx.ownsRow wr.heap.size 5 1 (.slice f m q) m (zs.map (Value.int .u8))) (hb:Below wr.heap.size wr wx):wx.cell? ⟨b,3,none⟩=some (.slice a1 D.xs.length c1)∧wx.frozen? ⟨b,3,none⟩=false∧Dx w0 g a n cap w r b ⟨D.t,D.cm,D.so,zs,D.ys,D.ir⟩ f q a2 c2 (wx.setCell ⟨b,3,none⟩ (.slice f m q)):=by
 have hbl:=blk h.c.row
 have CX:=h.c.on (Keep.of_below (E:=wx.heap.size) hb)
 refine ⟨(cells6 CX.row).2.2.2.1,froz CX.row 3,?_,?_⟩
 ·rw [← dvc_in D a1 c1 a2 c2 zs f m q hz]
  exact CX.put 3 _
 ·unfold dvF
  dsimp only
  rw [hz]
  exact ((Fam.newIn (h.fam.below hb) f m q zs _ wx.heap.size ho (Nat.le_refl _) (by omega) (Nat.le_refl _) hb.size).set ⟨b,3,none⟩ _ (.inl (by dsimp only;omega))).low (Nat.le_refl _) (by rw [size_set];exact Nat.le_refl _)

theorem Dx.newOut {w0 w wr wx:World} {g:Nat} {a:Option Addr} {n cap r b:Nat} {D:DV} {a1:Option Addr} {c1:Nat} {a2:Option Addr} {c2:Nat} (h:Dx w0 g a n cap w r b D a1 c1 a2 c2 wr) (f:Option Addr) (m q:Nat) (zs:List Int) (hz:zs.length=m) (ho:wx.ownsRow wr.heap.size 5 1 (.slice f m q) m (zs.map (Value.int .u8))) (hb:Below wr.heap.size wr wx):wx.cell? ⟨b,4,none⟩=some (.slice a2 D.ys.length c2)∧wx.frozen? ⟨b,4,none⟩=false∧Dx w0 g a n cap w r b ⟨D.t,D.cm,D.so,D.xs,zs,D.ir⟩ a1 c1 f q (wx.setCell ⟨b,4,none⟩ (.slice f m q)):=by
 have hbl:=blk h.c.row
 have CX:=h.c.on (Keep.of_below (E:=wx.heap.size) hb)
 refine ⟨(cells6 CX.row).2.2.2.2.1,froz CX.row 4,?_,?_⟩
 ·rw [← dvc_out D a1 c1 a2 c2 zs f m q hz]
  exact CX.put 4 _
 ·unfold dvF
  dsimp only
  rw [hz]
  exact ((Fam.newOut (h.fam.below hb) f m q zs _ wx.heap.size ho (Nat.le_refl _) (by omega) (Nat.le_refl _) hb.size).set ⟨b,4,none⟩ _ (.inl (by dsimp only;omega))).low (Nat.le_refl _) (by rw [size_set];exact Nat.le_refl _)

structure Fits (D:DV) (k1 k2:Nat):Prop where
 t:U D.t
 cm:U D.cm
 ir:D.ir=0∨D.ir=1
 by_:bytesOk D
 l1:D.xs.length≤k1
 l2:D.ys.length≤k2

end Go.Proofs.YtkhofppmeoooaaaGreatDoor
