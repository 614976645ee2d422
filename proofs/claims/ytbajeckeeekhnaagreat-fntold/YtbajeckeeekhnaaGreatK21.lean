/- Own lemmas. -/
import Derived.Test.YtbajeckeeekhnaaGreatK14
import Derived.Test.YtbajeckeeekhnaaGreatK20
namespace Go.Proofs.YtbajeckeeekhnaaGreat
open Go.RowKit
set_option linter.unusedVariables false

theorem Fam.sub {B E:Nat} {w:World} {L L':List FRow} (h:Fam B E w L) (hs:L'.Sublist L):Fam B E w L' :=
 ⟨fun q hq=>h.own q (hs.subset hq),fun q hq=>h.hi q (hs.subset hq),h.ne.sublist hs⟩

theorem Fam.ins {B E E':Nat} {w:World} {L1 L2:List FRow} {q:FRow} (h:Fam B E w (L1 ++ L2)) (hq:w.ownsRow E q.t 1 q.v q.n q.xs) (h1:B≤E) (h2:w.heap.size≤E') (h3:E≤E'):Fam B E' w (L1 ++ q :: L2):=by
 have hne:=List.pairwise_append.1 h.ne
 have hi:∀ s ∈ L1 ++ L2,∀ k,s.v.ownBlock=some k→k < E:=fun s hs k e=>h.hi s hs k e
 have lo:∀ k,q.v.ownBlock=some k→E≤k∧k < w.heap.size:=fun k e=>hq.lt k e
 refine ⟨fun s hs=>?_,fun s hs k e=>?_,List.pairwise_append.2 ⟨hne.1,List.pairwise_cons.2 ⟨fun s hs k e e2=>?_,hne.2.1⟩,fun s hs t ht k e e2=>?_⟩⟩
 ·rcases List.mem_append.1 hs with hs | hs
  ·exact h.own s (List.mem_append_left _ hs)
  ·rcases List.mem_cons.1 hs with rfl | hs
   ·exact own_low hq h1
   ·exact h.own s (List.mem_append_right _ hs)
 ·rcases List.mem_append.1 hs with hs | hs
  ·have:=hi s (List.mem_append_left _ hs) k e;omega
  ·rcases List.mem_cons.1 hs with rfl | hs
   ·have:=lo k e;omega
   ·have:=hi s (List.mem_append_right _ hs) k e;omega
 ·have:=lo k e
  have:=hi s (List.mem_append_right _ hs) k e2
  omega
 ·rcases List.mem_cons.1 ht with rfl | ht
  ·have:=lo k e2
   have:=hi s (List.mem_append_left _ hs) k e
   omega
  ·exact hne.2.2 s hs t ht k e e2

theorem Fam.app {B E E':Nat} {w:World} {L1 L2:List FRow} (h:Fam B E w L1) (h2:Fam E E' w L2) (h1:B≤E) (h3:E≤E'):Fam B E' w (L1 ++ L2):=by
 refine ⟨fun s hs=>?_,fun s hs k e=>?_,List.pairwise_append.2 ⟨h.ne,h2.ne,fun s hs t ht k e e2=>?_⟩⟩
 ·rcases List.mem_append.1 hs with hs | hs
  ·exact h.own s hs
  ·exact own_low (h2.own s hs) h1
 ·rcases List.mem_append.1 hs with hs | hs
  ·have:=h.hi s hs k e;omega
  ·exact h2.hi s hs k e
 ·have:=h.hi s hs k e
  have:=((h2.own t ht).lt k e2).1
  omega

def devA (A:MA) (b1:Option Addr) (d1:Nat) (b2:Option Addr) (d2:Nat):MA:=⟨A.ax,A.cx,A.ac,A.cc,A.ar,A.cr,b1,d1,b2,d2⟩

theorem dev_fam {B:Nat} {M:MV} {A:MA} {w w':World} (h:Fam B w.heap.size w (mvF M A)) (hB:B≤w.heap.size) (hb:Below w.heap.size w w') (D:DV) {b1:Option Addr} {d1:Nat} {b2:Option Addr} {d2:Nat} (hr:Renew w w' A.ai A.ci M.d.xs A.ao A.co M.d.ys b1 d1 D.xs b2 d2 D.ys):Fam B w'.heap.size w' (mvF (devM M D) (devA A b1 d1 b2 d2)):=by
 have hf:=h.below hb
 rcases hr with ⟨⟨rfl,rfl,e1⟩,rfl,rfl,e2⟩ | ⟨h1,rfl,rfl,e2⟩ | ⟨⟨rfl,rfl,e1⟩,h1⟩ | h1
 ·unfold mvF devM devA
  dsimp only
  rw [e1,e2]
  exact hf.low (Nat.le_refl _) hb.size
 ·have h4:Fam B w.heap.size w' ([wRow A.ax M.x.length A.cx M.x,wRow A.ac M.cs.length A.cc M.cs,bRow A.ar M.ram.length A.cr M.ram] ++ [bRow A.ao M.d.ys.length A.co M.d.ys]):=hf.sub (by unfold mvF;simp)
  unfold mvF devM devA
  dsimp only
  rw [e2]
  exact h4.ins (q:=bRow b1 D.xs.length d1 D.xs) h1 hB (Nat.le_refl _) hb.size
 ·have h4:Fam B w.heap.size w' ([wRow A.ax M.x.length A.cx M.x,wRow A.ac M.cs.length A.cc M.cs,bRow A.ar M.ram.length A.cr M.ram,bRow A.ai M.d.xs.length A.ci M.d.xs] ++ []):=hf.sub (by unfold mvF;simp)
  unfold mvF devM devA
  dsimp only
  rw [e1]
  exact h4.ins (q:=bRow b2 D.ys.length d2 D.ys) h1 hB (Nat.le_refl _) hb.size
 ·have h4:Fam B w.heap.size w' [wRow A.ax M.x.length A.cx M.x,wRow A.ac M.cs.length A.cc M.cs,bRow A.ar M.ram.length A.cr M.ram]:=hf.sub (by unfold mvF;simp)
  exact h4.app h1 hB hb.size

theorem dev_own {M:MV} {A:MA} {w w':World} (D:DV) {b1:Option Addr} {d1:Nat} {b2:Option Addr} {d2:Nat} (hr:Renew w w' A.ai A.ci M.d.xs A.ao A.co M.d.ys b1 d1 D.xs b2 d2 D.ys):∀ q ∈ mvF (devM M D) (devA A b1 d1 b2 d2),∀ k,q.v.ownBlock=some k→k < w.heap.size→∃ q0 ∈ mvF M A,q0.v.ownBlock=some k:=by
 intro q hq k e hk
 simp only [mvF,devM,devA,List.mem_cons,List.not_mem_nil,or_false] at hq
 have nw:∀ (b:Option Addr) (d:Nat) (zs:List Int),w'.ownsRow w.heap.size 5 1 (.slice b zs.length d) zs.length (zs.map (Value.int .u8))→∀ k,(Value.slice b zs.length d).ownBlock=some k→k < w.heap.size→False:=fun b d zs h k e hk=>by have:=(h.lt k e).1;omega
 have m4:bRow A.ai M.d.xs.length A.ci M.d.xs ∈ mvF M A:=by simp [mvF]
 have m5:bRow A.ao M.d.ys.length A.co M.d.ys ∈ mvF M A:=by simp [mvF]
 rcases hq with rfl | rfl | rfl | rfl | rfl
 ·exact ⟨_,by simp [mvF],e⟩
 ·exact ⟨wRow A.ac M.cs.length A.cc M.cs,by simp [mvF],e⟩
 ·exact ⟨bRow A.ar M.ram.length A.cr M.ram,by simp [mvF],e⟩
 ·rcases hr with ⟨⟨rfl,rfl,e1⟩,_⟩ | ⟨h1,_⟩ | ⟨⟨rfl,rfl,e1⟩,_⟩ | h1
  ·rw [e1] at e;exact ⟨_,m4,e⟩
  ·exact (nw _ _ _ h1 k e hk).elim
  ·rw [e1] at e;exact ⟨_,m4,e⟩
  ·exact (nw _ _ _ (h1.own (bRow b1 D.xs.length d1 D.xs) (by simp [devF])) k e hk).elim
 ·rcases hr with ⟨_,rfl,rfl,e2⟩ | ⟨_,rfl,rfl,e2⟩ | ⟨_,h1⟩ | h1
  ·rw [e2] at e;exact ⟨_,m5,e⟩
  ·rw [e2] at e;exact ⟨_,m5,e⟩
  ·exact (nw _ _ _ h1 k e hk).elim
  ·exact (nw _ _ _ (h1.own (bRow b2 D.ys.length d2 D.ys) (by simp [devF])) k e hk).elim

def put6r (w:World) (r:Nat) (D:DV) (b1:Option Addr) (d1:Nat) (b2:Option Addr) (d2:Nat):World:=(((((w.setCell ⟨r,5,none⟩ (.int .u64 D.t)).setCell ⟨r,6,none⟩ (.int .u64 D.cm)).setCell ⟨r,7,none⟩ (.bool D.so)).setCell ⟨r,8,none⟩ (.slice b1 D.xs.length d1)).setCell ⟨r,9,none⟩ (.slice b2 D.ys.length d2)).setCell ⟨r,10,none⟩ (.int .i64 D.ir)

theorem Kx.put6r {r:Nat} {L:List FRow} (w:World) (D:DV) (b1:Option Addr) (d1:Nat) (b2:Option Addr) (d2:Nat):Kx r L L w (put6r w r D b1 d1 b2 d2) :=
 (((((Kx.set w 5 _).trans (Kx.set _ 6 _)).trans (Kx.set _ 7 _)).trans (Kx.set _ 8 _)).trans (Kx.set _ 9 _)).trans (Kx.set _ 10 _)

theorem Mp.fam_set {B r:Nat} {L:List FRow} {w:World} (h:Fam B w.heap.size w L) (hne:∀ q ∈ L,q.v.ownBlock≠some r) (i:Nat) (v:Value):Fam B (w.setCell ⟨r,i,none⟩ v).heap.size (w.setCell ⟨r,i,none⟩ v) L :=
 ⟨fun q hq=>fown_of (h.own q hq) (fun k e=>Below.heap_setCell w ⟨r,i,none⟩ v k (fun e2=>hne q hq (by rw [show r=k from e2.symm];exact e))),fun q hq k e=>by rw [size_set];exact h.hi q hq k e,h.ne⟩

theorem Mp.dev {B r:Nat} {M:MV} {A:MA} {w w':World} (h:Mp B r M A w) (hb:Below w.heap.size w w') (D:DV) {b1:Option Addr} {d1:Nat} {b2:Option Addr} {d2:Nat} (hr:Renew w w' A.ai A.ci M.d.xs A.ao A.co M.d.ys b1 d1 D.xs b2 d2 D.ys):Mp B r (devM M D) (devA A b1 d1 b2 d2) (put6r w' r D b1 d1 b2 d2)∧Kx r (mvF M A) (mvF (devM M D) (devA A b1 d1 b2 d2)) w (put6r w' r D b1 d1 b2 d2):=by
 have hlt:=h.lt
 have hB:B≤w.heap.size:=by have:=h.lo;omega
 have hown:=dev_own D hr
 have hne:∀ q ∈ mvF (devM M D) (devA A b1 d1 b2 d2),q.v.ownBlock≠some r:=fun q hq e=>by
  obtain ⟨q0,h0,e0⟩:=hown q hq r e hlt
  exact h.ne q0 h0 e0
 have hf:=dev_fam h.fam hB hb D hr
 refine ⟨⟨?_,?_,hne,h.lo⟩,?_⟩
 ·have R0:=dstays hb h.row
  unfold mvc at R0
  have R1:=row_set R0 5 (.int .u64 D.t)
  have R2:=row_set R1 6 (.int .u64 D.cm)
  have R3:=row_set R2 7 (.bool D.so)
  have R4:=row_set R3 8 (.slice b1 D.xs.length d1)
  have R5:=row_set R4 9 (.slice b2 D.ys.length d2)
  exact row_set R5 10 (.int .i64 D.ir)
 ·exact Mp.fam_set (Mp.fam_set (Mp.fam_set (Mp.fam_set (Mp.fam_set (Mp.fam_set hf hne 5 _) hne 6 _) hne 7 _) hne 8 _) hne 9 _) hne 10 _
 ·have k1:Kx r (mvF M A) (mvF (devM M D) (devA A b1 d1 b2 d2)) w w':=⟨hb.os,hb.tape,hb.output,hb.size,fun k hk _ _=>hb.block k hk,hown⟩
  exact k1.trans (Kx.put6r w' D b1 d1 b2 d2)

def put2r (w:World) (r:Nat):World:=(w.setCell ⟨r,12,none⟩ (.bool false)).setCell ⟨r,11,none⟩ (.int .u64 0)

theorem Mp.free {B r:Nat} {M:MV} {A:MA} {w:World} (h:Mp B r M A w):Mp B r (freeM M) A (put2r w r)∧Kx r (mvF M A) (mvF (freeM M) A) w (put2r w r):=by
 refine ⟨⟨?_,Mp.fam_set (Mp.fam_set h.fam h.ne 12 _) h.ne 11 _,h.ne,h.lo⟩,(Kx.set w 12 _).trans (Kx.set _ 11 _)⟩
 have R0:=h.row
 unfold mvc at R0
 exact row_set (row_set R0 12 (.bool false)) 11 (.int .u64 0)

theorem l1Put_mp (M:MV) (A:MA) (B r:Nat) (addr size x:Int) (w:World) (hl:M.ram.length≤1048576) (hok:okB M.ram.length addr size=true) (hx0:0≤x) (hx1:x≤18446744073709551615) (h:Mp B r M A w) :
 Calls Tryz.prog 36 #[.slice A.ar M.ram.length A.cr,.int .u64 addr,.int .i64 size,.int .u64 x] w fun e w'=>e=.returned (.tuple #[])∧Mp B r (memM M (put M.ram (addr - 2147483648).toNat x size.toNat)) A w'∧Kx r (mvF M A) (mvF (memM M (put M.ram (addr - 2147483648).toNat x size.toNat)) A) w w':=by
 have hb:=okB_true hok
 obtain ⟨f,hf⟩:∃ f:Nat,f=(addr - 2147483648).toNat:=⟨_,rfl⟩
 obtain ⟨m,hm⟩:∃ m:Nat,m=size.toNat:=⟨_,rfl⟩
 have ea:addr=2147483648+(f:Int):=by omega
 have es:size=(m:Int):=by omega
 have hmem:bRow A.ar M.ram.length A.cr M.ram ∈ mvF M A:=by simp [mvF]
 have ho:=h.fam.own _ hmem
 have hfm:f+m≤M.ram.length:=by omega
 have hg:∃ g,A.ar=some ⟨g,0,none⟩:=by
  rcases ho.2 with ⟨e,e0⟩ | ⟨g',cap,cur,e,_⟩
  ·have:M.ram.length=0:=e0;omega
  ·have e2:Value.slice A.ar M.ram.length A.cr=.slice (some ⟨g',0,none⟩) M.ram.length cap:=e
   injection e2 with e3
   exact ⟨g',e3⟩
 obtain ⟨g,hg⟩:=hg
 have hplen:(put M.ram f x m).length=M.ram.length:=put_len _ _ _ _
 rw [← hf,← hm]
 rw [ea,es]
 have ho2:w.ownsRow B 5 1 (.slice (some ⟨g,0,none⟩) M.ram.length A.cr) M.ram.length (M.ram.map (Value.int .u8)):=by rw [← hg];exact ho
 rw [hg]
 refine (l1Put_any g M.ram.length A.cr f m B M.ram x w hl (by omega) hfm hx0 hx1 ho2).mono fun e w' ⟨h1,h2,h3⟩=>⟨h1,?_⟩
 have hgr:w.grownBy w' (bRow A.ar M.ram.length A.cr M.ram).v.ownBlock:=by
  have e:(bRow A.ar M.ram.length A.cr M.ram).v.ownBlock=some g:=by show (Value.slice A.ar M.ram.length A.cr).ownBlock=_;rw [hg];rfl
  rw [e];exact h3
 have hst:w'.ownsRow B 5 1 (bRow A.ar M.ram.length A.cr M.ram).v M.ram.length ((put M.ram f x m).map (Value.int .u8)):=by
  show w'.ownsRow B 5 1 (.slice A.ar M.ram.length A.cr) _ _
  rw [hg];exact h2
 have hmk:=Fam.markL (L1:=[wRow A.ax M.x.length A.cx M.x,wRow A.ac M.cs.length A.cc M.cs]) (L2:=[bRow A.ai M.d.xs.length A.ci M.d.xs,bRow A.ao M.d.ys.length A.co M.d.ys]) (r:=bRow A.ar M.ram.length A.cr M.ram) h.fam hgr _ hst
 have hsame:=mvF_same (M:=M) (M':=memM M (put M.ram f x m)) (A:=A) rfl rfl hplen rfl rfl
 have hF:Fam B w.heap.size w' (mvF (memM M (put M.ram f x m)) A):=by
  unfold mvF memM
  dsimp only
  rw [hplen]
  exact hmk.1
 refine ⟨⟨?_,hF.low (Nat.le_refl _) h3.size,fun q hq e=>?_,h.lo⟩,Kx.of_keepL hmk.2 hsame⟩
 ·have hr:w'.heap[r]?=w.heap[r]?:=hmk.2.block r h.lt (fun q hq e=>h.ne q hq e)
  rw [hr,h.row]
  unfold mvc memM
  dsimp only
  rw [hplen]
 ·obtain ⟨q0,h0,e0⟩:=hsame q hq
  exact h.ne q0 h0 (by rw [e0];exact e)

end Go.Proofs.YtbajeckeeekhnaaGreat
