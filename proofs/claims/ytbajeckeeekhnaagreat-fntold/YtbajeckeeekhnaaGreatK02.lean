/- Own lemmas. -/
import Derived.Test.YtbajeckeeekhnaaGreatK01
import Derived.Deep.RegionWith
namespace Go.Proofs.YtbajeckeeekhnaaGreat
open Go.RowKit
set_option linter.unusedVariables false

structure MV where
 pc:Int
 x:List Int
 pr:Int
 cs:List Int
 ram:List Int
 d:DV
 hd:Int
 hl:Bool
 wt:Bool

structure MA where
 ax:Option Addr
 cx:Nat
 ac:Option Addr
 cc:Nat
 ar:Option Addr
 cr:Nat
 ai:Option Addr
 ci:Nat
 ao:Option Addr
 co:Nat

def zeroM:MV:=⟨0,[],0,[],[],zeroD,0,false,false⟩

def zeroA:MA:=⟨none,0,none,0,none,0,none,0,none,0⟩

def mvc (M:MV) (A:MA):Array Value:=#[.int .u64 M.pc,.slice A.ax M.x.length A.cx,.int .i64 M.pr,.slice A.ac M.cs.length A.cc,.slice A.ar M.ram.length A.cr,.int .u64 M.d.t,.int .u64 M.d.cm,.bool M.d.so,.slice A.ai M.d.xs.length A.ci,.slice A.ao M.d.ys.length A.co,.int .i64 M.d.ir,.int .u64 M.hd,.bool M.hl,.bool M.wt]

def wRow (a:Option Addr) (n c:Nat) (xs:List Int):FRow:=⟨24,.slice a n c,n,xs.map (Value.int .u64)⟩

def mvF (M:MV) (A:MA):List FRow:=[wRow A.ax M.x.length A.cx M.x,wRow A.ac M.cs.length A.cc M.cs,bRow A.ar M.ram.length A.cr M.ram,bRow A.ai M.d.xs.length A.ci M.d.xs,bRow A.ao M.d.ys.length A.co M.d.ys]

structure MSl (w:World) (M:MV) (A:MA):Prop where
 x:Sl .u64 w A.ax M.x
 cs:Sl .u64 w A.ac M.cs
 ram:Sl .u8 w A.ar M.ram
 xs:Sl .u8 w A.ai M.d.xs
 ys:Sl .u8 w A.ao M.d.ys

theorem MSl.below {w w':World} {M:MV} {A:MA} (h:MSl w M A) (hb:Below w.heap.size w w'):MSl w' M A:=⟨h.x.below hb,h.cs.below hb,h.ram.below hb,h.xs.below hb,h.ys.below hb⟩

theorem Fam.msl {B E:Nat} {w:World} {M:MV} {A:MA} (h:Fam B E w (mvF M A)):MSl w M A :=
 ⟨own_sl' (h.own (wRow A.ax M.x.length A.cx M.x) (by simp [mvF])),own_sl' (h.own (wRow A.ac M.cs.length A.cc M.cs) (by simp [mvF])),own_sl' (h.own (bRow A.ar M.ram.length A.cr M.ram) (by simp [mvF])),own_sl' (h.own (bRow A.ai M.d.xs.length A.ci M.d.xs) (by simp [mvF])),own_sl' (h.own (bRow A.ao M.d.ys.length A.co M.d.ys) (by simp [mvF]))⟩

theorem cells14 {W:World} {g:Nat} {v0 v1 v2 v3 v4 v5 v6 v7 v8 v9 v10 v11 v12 v13:Value} {t:TypeId} (h:W.heap[g]?=some (.cells #[v0,v1,v2,v3,v4,v5,v6,v7,v8,v9,v10,v11,v12,v13] t (0,0))):W.cell? ⟨g,0,none⟩=some v0∧W.cell? ⟨g,1,none⟩=some v1∧W.cell? ⟨g,2,none⟩=some v2∧W.cell? ⟨g,3,none⟩=some v3∧W.cell? ⟨g,4,none⟩=some v4∧W.cell? ⟨g,5,none⟩=some v5∧W.cell? ⟨g,6,none⟩=some v6∧W.cell? ⟨g,7,none⟩=some v7∧W.cell? ⟨g,8,none⟩=some v8∧W.cell? ⟨g,9,none⟩=some v9∧W.cell? ⟨g,10,none⟩=some v10∧W.cell? ⟨g,11,none⟩=some v11∧W.cell? ⟨g,12,none⟩=some v12∧W.cell? ⟨g,13,none⟩=some v13:=by
 simp [World.cell?,h]

theorem froz14 {W:World} {g:Nat} {cs:Array Value} {t:TypeId} (h:W.heap[g]?=some (.cells cs t (0,0))):W.frozen? ⟨g,0,none⟩=false∧W.frozen? ⟨g,1,none⟩=false∧W.frozen? ⟨g,2,none⟩=false∧W.frozen? ⟨g,3,none⟩=false∧W.frozen? ⟨g,4,none⟩=false∧W.frozen? ⟨g,5,none⟩=false∧W.frozen? ⟨g,6,none⟩=false∧W.frozen? ⟨g,7,none⟩=false∧W.frozen? ⟨g,8,none⟩=false∧W.frozen? ⟨g,9,none⟩=false∧W.frozen? ⟨g,10,none⟩=false∧W.frozen? ⟨g,11,none⟩=false∧W.frozen? ⟨g,12,none⟩=false∧W.frozen? ⟨g,13,none⟩=false :=
 ⟨froz h 0,froz h 1,froz h 2,froz h 3,froz h 4,froz h 5,froz h 6,froz h 7,froz h 8,froz h 9,froz h 10,froz h 11,froz h 12,froz h 13⟩

def put14 (w:World) (g:Nat) (x0 x1 x2 x3 x4 x5 x6 x7 x8 x9 x10 x11 x12 x13:Value):World:=(((((((((((((w.setCell ⟨g,0,none⟩ x0).setCell ⟨g,1,none⟩ x1).setCell ⟨g,2,none⟩ x2).setCell ⟨g,3,none⟩ x3).setCell ⟨g,4,none⟩ x4).setCell ⟨g,5,none⟩ x5).setCell ⟨g,6,none⟩ x6).setCell ⟨g,7,none⟩ x7).setCell ⟨g,8,none⟩ x8).setCell ⟨g,9,none⟩ x9).setCell ⟨g,10,none⟩ x10).setCell ⟨g,11,none⟩ x11).setCell ⟨g,12,none⟩ x12).setCell ⟨g,13,none⟩ x13

theorem row_put14 {w:World} {g:Nat} {v0 v1 v2 v3 v4 v5 v6 v7 v8 v9 v10 v11 v12 v13:Value} {t:TypeId} {fr:Nat × Nat} (h:w.heap[g]?=some (.cells #[v0,v1,v2,v3,v4,v5,v6,v7,v8,v9,v10,v11,v12,v13] t fr)) (x0 x1 x2 x3 x4 x5 x6 x7 x8 x9 x10 x11 x12 x13:Value):(put14 w g x0 x1 x2 x3 x4 x5 x6 x7 x8 x9 x10 x11 x12 x13).heap[g]?=some (.cells #[x0,x1,x2,x3,x4,x5,x6,x7,x8,x9,x10,x11,x12,x13] t fr):=by
 have h0:(w.setCell ⟨g,0,none⟩ x0).heap[g]?=some (.cells #[x0,v1,v2,v3,v4,v5,v6,v7,v8,v9,v10,v11,v12,v13] t fr):=row_set h 0 x0
 have h1:((w.setCell ⟨g,0,none⟩ x0).setCell ⟨g,1,none⟩ x1).heap[g]?=some (.cells #[x0,x1,v2,v3,v4,v5,v6,v7,v8,v9,v10,v11,v12,v13] t fr):=row_set h0 1 x1
 have h2:(((w.setCell ⟨g,0,none⟩ x0).setCell ⟨g,1,none⟩ x1).setCell ⟨g,2,none⟩ x2).heap[g]?=some (.cells #[x0,x1,x2,v3,v4,v5,v6,v7,v8,v9,v10,v11,v12,v13] t fr):=row_set h1 2 x2
 have h3:((((w.setCell ⟨g,0,none⟩ x0).setCell ⟨g,1,none⟩ x1).setCell ⟨g,2,none⟩ x2).setCell ⟨g,3,none⟩ x3).heap[g]?=some (.cells #[x0,x1,x2,x3,v4,v5,v6,v7,v8,v9,v10,v11,v12,v13] t fr):=row_set h2 3 x3
 have h4:(((((w.setCell ⟨g,0,none⟩ x0).setCell ⟨g,1,none⟩ x1).setCell ⟨g,2,none⟩ x2).setCell ⟨g,3,none⟩ x3).setCell ⟨g,4,none⟩ x4).heap[g]?=some (.cells #[x0,x1,x2,x3,x4,v5,v6,v7,v8,v9,v10,v11,v12,v13] t fr):=row_set h3 4 x4
 have h5:((((((w.setCell ⟨g,0,none⟩ x0).setCell ⟨g,1,none⟩ x1).setCell ⟨g,2,none⟩ x2).setCell ⟨g,3,none⟩ x3).setCell ⟨g,4,none⟩ x4).setCell ⟨g,5,none⟩ x5).heap[g]?=some (.cells #[x0,x1,x2,x3,x4,x5,v6,v7,v8,v9,v10,v11,v12,v13] t fr):=row_set h4 5 x5
 have h6:(((((((w.setCell ⟨g,0,none⟩ x0).setCell ⟨g,1,none⟩ x1).setCell ⟨g,2,none⟩ x2).setCell ⟨g,3,none⟩ x3).setCell ⟨g,4,none⟩ x4).setCell ⟨g,5,none⟩ x5).setCell ⟨g,6,none⟩ x6).heap[g]?=some (.cells #[x0,x1,x2,x3,x4,x5,x6,v7,v8,v9,v10,v11,v12,v13] t fr):=row_set h5 6 x6
 have h7:((((((((w.setCell ⟨g,0,none⟩ x0).setCell ⟨g,1,none⟩ x1).setCell ⟨g,2,none⟩ x2).setCell ⟨g,3,none⟩ x3).setCell ⟨g,4,none⟩ x4).setCell ⟨g,5,none⟩ x5).setCell ⟨g,6,none⟩ x6).setCell ⟨g,7,none⟩ x7).heap[g]?=some (.cells #[x0,x1,x2,x3,x4,x5,x6,x7,v8,v9,v10,v11,v12,v13] t fr):=row_set h6 7 x7
 have h8:(((((((((w.setCell ⟨g,0,none⟩ x0).setCell ⟨g,1,none⟩ x1).setCell ⟨g,2,none⟩ x2).setCell ⟨g,3,none⟩ x3).setCell ⟨g,4,none⟩ x4).setCell ⟨g,5,none⟩ x5).setCell ⟨g,6,none⟩ x6).setCell ⟨g,7,none⟩ x7).setCell ⟨g,8,none⟩ x8).heap[g]?=some (.cells #[x0,x1,x2,x3,x4,x5,x6,x7,x8,v9,v10,v11,v12,v13] t fr):=row_set h7 8 x8
 have h9:((((((((((w.setCell ⟨g,0,none⟩ x0).setCell ⟨g,1,none⟩ x1).setCell ⟨g,2,none⟩ x2).setCell ⟨g,3,none⟩ x3).setCell ⟨g,4,none⟩ x4).setCell ⟨g,5,none⟩ x5).setCell ⟨g,6,none⟩ x6).setCell ⟨g,7,none⟩ x7).setCell ⟨g,8,none⟩ x8).setCell ⟨g,9,none⟩ x9).heap[g]?=some (.cells #[x0,x1,x2,x3,x4,x5,x6,x7,x8,x9,v10,v11,v12,v13] t fr):=row_set h8 9 x9
 have h10:(((((((((((w.setCell ⟨g,0,none⟩ x0).setCell ⟨g,1,none⟩ x1).setCell ⟨g,2,none⟩ x2).setCell ⟨g,3,none⟩ x3).setCell ⟨g,4,none⟩ x4).setCell ⟨g,5,none⟩ x5).setCell ⟨g,6,none⟩ x6).setCell ⟨g,7,none⟩ x7).setCell ⟨g,8,none⟩ x8).setCell ⟨g,9,none⟩ x9).setCell ⟨g,10,none⟩ x10).heap[g]?=some (.cells #[x0,x1,x2,x3,x4,x5,x6,x7,x8,x9,x10,v11,v12,v13] t fr):=row_set h9 10 x10
 have h11:((((((((((((w.setCell ⟨g,0,none⟩ x0).setCell ⟨g,1,none⟩ x1).setCell ⟨g,2,none⟩ x2).setCell ⟨g,3,none⟩ x3).setCell ⟨g,4,none⟩ x4).setCell ⟨g,5,none⟩ x5).setCell ⟨g,6,none⟩ x6).setCell ⟨g,7,none⟩ x7).setCell ⟨g,8,none⟩ x8).setCell ⟨g,9,none⟩ x9).setCell ⟨g,10,none⟩ x10).setCell ⟨g,11,none⟩ x11).heap[g]?=some (.cells #[x0,x1,x2,x3,x4,x5,x6,x7,x8,x9,x10,x11,v12,v13] t fr):=row_set h10 11 x11
 have h12:(((((((((((((w.setCell ⟨g,0,none⟩ x0).setCell ⟨g,1,none⟩ x1).setCell ⟨g,2,none⟩ x2).setCell ⟨g,3,none⟩ x3).setCell ⟨g,4,none⟩ x4).setCell ⟨g,5,none⟩ x5).setCell ⟨g,6,none⟩ x6).setCell ⟨g,7,none⟩ x7).setCell ⟨g,8,none⟩ x8).setCell ⟨g,9,none⟩ x9).setCell ⟨g,10,none⟩ x10).setCell ⟨g,11,none⟩ x11).setCell ⟨g,12,none⟩ x12).heap[g]?=some (.cells #[x0,x1,x2,x3,x4,x5,x6,x7,x8,x9,x10,x11,x12,v13] t fr):=row_set h11 12 x12
 have h13:((((((((((((((w.setCell ⟨g,0,none⟩ x0).setCell ⟨g,1,none⟩ x1).setCell ⟨g,2,none⟩ x2).setCell ⟨g,3,none⟩ x3).setCell ⟨g,4,none⟩ x4).setCell ⟨g,5,none⟩ x5).setCell ⟨g,6,none⟩ x6).setCell ⟨g,7,none⟩ x7).setCell ⟨g,8,none⟩ x8).setCell ⟨g,9,none⟩ x9).setCell ⟨g,10,none⟩ x10).setCell ⟨g,11,none⟩ x11).setCell ⟨g,12,none⟩ x12).setCell ⟨g,13,none⟩ x13).heap[g]?=some (.cells #[x0,x1,x2,x3,x4,x5,x6,x7,x8,x9,x10,x11,x12,x13] t fr):=row_set h12 13 x13
 exact h13

theorem below_put14 {B:Nat} {v w:World} (h:Below B v w) {g:Nat} (hg:B≤g) (x0 x1 x2 x3 x4 x5 x6 x7 x8 x9 x10 x11 x12 x13:Value):Below B v (put14 w g x0 x1 x2 x3 x4 x5 x6 x7 x8 x9 x10 x11 x12 x13) :=
 ((((((((((((((h.setCell (p:=⟨g,0,none⟩) hg x0).setCell (p:=⟨g,1,none⟩) hg x1).setCell (p:=⟨g,2,none⟩) hg x2).setCell (p:=⟨g,3,none⟩) hg x3).setCell (p:=⟨g,4,none⟩) hg x4).setCell (p:=⟨g,5,none⟩) hg x5).setCell (p:=⟨g,6,none⟩) hg x6).setCell (p:=⟨g,7,none⟩) hg x7).setCell (p:=⟨g,8,none⟩) hg x8).setCell (p:=⟨g,9,none⟩) hg x9).setCell (p:=⟨g,10,none⟩) hg x10).setCell (p:=⟨g,11,none⟩) hg x11).setCell (p:=⟨g,12,none⟩) hg x12).setCell (p:=⟨g,13,none⟩) hg x13)

theorem Fam.put14 {B E:Nat} {w:World} {L:List FRow} (h:Fam B E w L) (g:Nat) (hg:g < B∨E≤g) (x0 x1 x2 x3 x4 x5 x6 x7 x8 x9 x10 x11 x12 x13:Value):Fam B E (put14 w g x0 x1 x2 x3 x4 x5 x6 x7 x8 x9 x10 x11 x12 x13) L :=
 ((((((((((((((h.set ⟨g,0,none⟩ x0 hg).set ⟨g,1,none⟩ x1 hg).set ⟨g,2,none⟩ x2 hg).set ⟨g,3,none⟩ x3 hg).set ⟨g,4,none⟩ x4 hg).set ⟨g,5,none⟩ x5 hg).set ⟨g,6,none⟩ x6 hg).set ⟨g,7,none⟩ x7 hg).set ⟨g,8,none⟩ x8 hg).set ⟨g,9,none⟩ x9 hg).set ⟨g,10,none⟩ x10 hg).set ⟨g,11,none⟩ x11 hg).set ⟨g,12,none⟩ x12 hg).set ⟨g,13,none⟩ x13 hg)

theorem mac_size:(Tryz.prog.info? 29).map (·.size)=some 14:=by kernel_rfl

structure MLen (M:MV):Prop where
 x:M.x.length≤1048576
 cs:M.cs.length≤1048576
 ram:M.ram.length≤1048576
 xs:M.d.xs.length≤1048576
 ys:M.d.ys.length≤1048576

structure KeepL (L:List FRow) (w w':World):Prop where
 os:w'.os=w.os
 tape:w'.tape=w.tape
 output:w'.output=w.output
 size:w.heap.size≤w'.heap.size
 block:∀ k,k < w.heap.size→(∀ q ∈ L,q.v.ownBlock≠some k)→w'.heap[k]?=w.heap[k]?

theorem KeepL.trans {L:List FRow} {a b c:World} (h:KeepL L a b) (k:KeepL L b c):KeepL L a c :=
 ⟨k.os.trans h.os,k.tape.trans h.tape,k.output.trans h.output,Nat.le_trans h.size k.size,fun i hi ho=>(k.block i (Nat.lt_of_lt_of_le hi h.size) ho).trans (h.block i hi ho)⟩

theorem KeepL.of_below {L:List FRow} {w w':World} (h:Below w.heap.size w w'):KeepL L w w':=⟨h.os,h.tape,h.output,h.size,fun k hk _=>h.block k hk⟩

theorem KeepL.of_grown {L:List FRow} {w w':World} {q:FRow} (h:w.grownBy w' q.v.ownBlock) (hq:q ∈ L):KeepL L w w' :=
 ⟨h.os,h.tape,h.output,h.size,fun k hk ho=>h.block k hk (fun e=>ho q hq e.symm)⟩

theorem KeepL.keep {L:List FRow} {B E:Nat} {w w':World} (h:KeepL L w w') (hf:Fam B E w L):Keep B E w w' :=
 ⟨h.os,h.tape,h.output,h.size,fun k hk ho=>h.block k hk (fun q hq e=>by have h1:=((hf.own q hq).lt k e).1;have h2:=hf.hi q hq k e;omega)⟩

theorem Fam.markL {B E:Nat} {w w':World} {L1 L2:List FRow} {r:FRow} (h:Fam B E w (L1 ++ r :: L2)) (hg:w.grownBy w' r.v.ownBlock) (xs:List Value) (ho:w'.ownsRow B r.t 1 r.v r.n xs):Fam B E w' (L1 ++ ⟨r.t,r.v,r.n,xs⟩ :: L2)∧KeepL (L1 ++ r :: L2) w w' :=
 ⟨(h.mark hg xs ho).1,KeepL.of_grown hg (by simp)⟩

theorem l3If_dev (b:Bool) (w:World):Calls Tryz.prog 45 #[.bool b] w fun e w'=>e=.returned (.int .u64 (oneIf b))∧w'=w:=by
 cases b with
 | false =>
   go_enter Tryz.func45,Tryz.ntmps45
   go_wp2_with fail
   go_ret
   exact ⟨rfl,rfl⟩
 | true =>
   go_enter Tryz.func45,Tryz.ntmps45
   go_wp2_with fail
   go_ret
   exact ⟨rfl,rfl⟩

theorem l1In_8 (x:Int) (w:World):Calls Tryz.prog 27 #[.int .i64 x,.int .i64 0,.int .i64 1] w fun e w'=>e=.returned (.bool (decide (0≤x∧x≤1)))∧w'=w:=by
 by_cases h1:0≤x
 ·by_cases h2:x≤1
  ·have F:Hid (decide (0≤x∧x≤1)=true):=by show decide (0≤x∧x≤1)=true;simp [h1,h2]
   have d1:decide (0≤x)=true:=by simpa using h1
   have d2:decide (x≤1)=true:=by simpa using h2
   clear h1 h2
   generalize decide (0≤x∧x≤1)=v at *
   go_enter Tryz.func27,Tryz.ntmps27
   go_wp2
   go_ret
   exact ⟨by rw [F.out];rfl,rfl⟩
  ·have F:Hid (decide (0≤x∧x≤1)=false):=by show _=false;simp;omega
   have d1:decide (0≤x)=true:=by simpa using h1
   have d2:decide (x≤1)=false:=by simpa using h2
   clear h1 h2
   generalize decide (0≤x∧x≤1)=v at *
   go_enter Tryz.func27,Tryz.ntmps27
   go_wp2
   go_ret
   exact ⟨by rw [F.out];rfl,rfl⟩
 ·have F:Hid (decide (0≤x∧x≤1)=false):=by show _=false;simp;omega
  have d1:decide (0≤x)=false:=by simpa using h1
  clear h1
  generalize decide (0≤x∧x≤1)=v at *
  go_enter Tryz.func27,Tryz.ntmps27
  go_wp2
  go_ret
  exact ⟨by rw [F.out];rfl,rfl⟩

theorem specDevOk_any (t cm:Int) (so:Bool) (a1:Option Addr) (n1 c1:Nat) (a2:Option Addr) (n2 c2:Nat) (ir:Int) (w:World) (hn1:n1≤1048576) (hn2:n2≤1048576) :
 Calls Tryz.prog 25 #[.agg #[.int .u64 t,.int .u64 cm,.bool so,.slice a1 n1 c1,.slice a2 n2 c2,.int .i64 ir]] w fun e w'=>e=.returned (.bool (okD n1 n2 ir))∧Below w.heap.size w w':=by
 have HI:Hid (∀ w,Calls Tryz.prog 27 #[.int .i64 ir,.int .i64 0,.int .i64 1] w fun e w'=>e=.returned (.bool (decide (0≤ir∧ir≤1)))∧w'=w):=l1In_8 ir
 have hB:∀ o,Below w.heap.size w (w.alloc o):=fun o=>(Below.refl _ _).alloc (Nat.le_refl _) o
 have F:okD n1 n2 ir=(decide (n1≤16)&&decide (n2≤4096)&&decide (0≤ir∧ir≤1)):=rfl
 generalize okD n1 n2 ir=v at *
 generalize decide (0≤ir∧ir≤1)=q at *
 by_cases h1:n1≤16
 ·have d1:decide ((n1:Int)≤16)=true:=by simp;omega
  by_cases h2:n2≤4096
  ·have d2:decide ((n2:Int)≤4096)=true:=by simp;omega
   have F2:Hid (v=q):=by show v=q;rw [F,decide_eq_true h1,decide_eq_true h2];rfl
   clear F h1 h2 hn1 hn2
   go_enter Tryz.func25,Tryz.ntmps25
   go_wp2_with fail
   refine (HI.out _).mono ?_
   rintro e w1 ⟨rfl,hw1⟩
   subst hw1
   go_wp2_with fail
   go_ret
   exact ⟨by rw [F2.out];rfl,hB _⟩
  ·have d2:decide ((n2:Int)≤4096)=false:=by simp;omega
   have F2:Hid (v=false):=by show v=_;rw [F,decide_eq_true h1,decide_eq_false h2];rfl
   clear F h1 h2 hn1 hn2
   go_enter Tryz.func25,Tryz.ntmps25
   go_wp2_with fail
   go_ret
   exact ⟨by rw [F2.out];rfl,hB _⟩
 ·have d1:decide ((n1:Int)≤16)=false:=by simp;omega
  have F2:Hid (v=false):=by show v=_;rw [F,decide_eq_false h1];rfl
  clear F h1 hn1 hn2
  go_enter Tryz.func25,Tryz.ntmps25
  go_wp2_with fail
  go_ret
  exact ⟨by rw [F2.out];rfl,hB _⟩

theorem row_al8 {W:World} {g:Nat} {o:Obj} (h:W.heap[g]?=some o) (o':Obj):(W.alloc o').heap[g]?=some o:=(Below.heap_alloc W o' g (Array.getElem?_eq_some_iff.1 h).1).trans h

theorem app2 {w w1:World} {o1 o2 o3:Obj} (gr:(((w.alloc o1).alloc o2).alloc o3).grownBy w1 (some (w.heap.size+1+1))):w1.heap[w.heap.size]?=some o1∧w1.heap[w.heap.size+1]?=some o2∧Below w.heap.size w w1∧w.heap.size+1+1+1≤w1.heap.size:=by
 obtain ⟨h1,h2,_⟩:=rows3 (w:=w) (o1:=o1) (o2:=o2) (o3:=o3) (Below.refl _ (((w.alloc o1).alloc o2).alloc o3))
 have hs:=gr.size
 simp only [World.size_alloc] at hs
 refine ⟨(gr.block _ (by simp only [World.size_alloc];omega) (by simp;omega)).trans h1,(gr.block _ (by simp only [World.size_alloc];omega) (by simp)).trans h2,?_,hs⟩
 exact Below.grown ((((Below.refl _ _).alloc (Nat.le_refl _) o1).alloc (by simp) o2).alloc (by simp;omega) o3) gr (by simp only [World.size_alloc];omega) (fun k hk=>by simp at hk;omega)

theorem app1 {w w1:World} {o:Obj} {g:Nat} (gr:(w.alloc o).grownBy w1 (some g)) (hg:g=w.heap.size):Below w.heap.size w w1:=by
 subst hg
 exact Below.grown ((Below.refl _ _).alloc (Nat.le_refl _) o) gr (by simp) (fun k hk=>by simp at hk;omega)

set_option maxRecDepth 100000 in
set_option maxHeartbeats 1600000 in
theorem l8Copy_any (t cm:Int) (so:Bool) (a1:Option Addr) (n1 c1:Nat) (a2:Option Addr) (n2 c2:Nat) (ir:Int) (xs ys:List Int) (w:World) (hx:xs.length=n1) (hy:ys.length=n2) (hn1:n1≤1048576) (hn2:n2≤1048576) (hs1:Sl .u8 w a1 xs) (hs2:Sl .u8 w a2 ys) :
 Calls Tryz.prog 46 #[.agg #[.int .u64 t,.int .u64 cm,.bool so,.slice a1 n1 c1,.slice a2 n2 c2,.int .i64 ir]] w fun e w'=>∃ (b1:Option Addr) (d1:Nat) (b2:Option Addr) (d2:Nat),e=.returned (.agg #[.int .u64 t,.int .u64 cm,.bool so,.slice b1 n1 d1,.slice b2 n2 d2,.int .i64 ir]) ∧
  Fam w.heap.size w'.heap.size w' (devF b1 n1 d1 xs b2 n2 d2 ys)∧Below w.heap.size w w':=by
 have hB2:∀ o1 o2,Below w.heap.size w ((w.alloc o1).alloc o2):=fun o1 o2=>((Below.refl _ _).alloc (Nat.le_refl _) o1).alloc (by simp) o2
 have hE:=own_empty8 ((w.alloc (.cells #[.int .u64 t,.int .u64 cm,.bool so,.slice a1 n1 c1,.slice a2 n2 c2,.int .i64 ir] 27)).alloc (.cells #[.int .u64 0,.int .u64 0,.bool false,.slice none 0 0,.slice none 0 0,.int .i64 0] 27)) (w.heap.size+1+1) (by simp) (.cells #[] 5 (0,0)) rfl
 rw [World.size_alloc,World.size_alloc] at hE
 have HS1:Hid (∀ w',Below w.heap.size w w'→Sl .u8 w' a1 xs):=fun w' hb=>hs1.below hb
 have HS2:Hid (∀ w',Below w.heap.size w w'→Sl .u8 w' a2 ys):=fun w' hb=>hs2.below hb
 have HX:Hid (xs.length=n1∧ys.length=n2∧n1≤1048576∧n2≤1048576):=⟨hx,hy,hn1,hn2⟩
 clear hs1 hs2 hx hy hn1 hn2
 go_enter Tryz.func46,Tryz.ntmps46
 go_wp2_with (first
  | (at_builtin;refine wpList_app8 rfl (.tmp 3) (.tmp 5) rfl (w.heap.size+1+1) _ rfl hE a1 n1 c1 xs rfl HX.out.1 HX.out.2.2.1 (HS1.out _ ((hB2 _ _).alloc (hB2 _ _).size _)) (by simp) ?_;intro b1 d1 w1 ow1 gr1;obtain ⟨r0,r1,hb1,z1⟩:=app2 gr1;have R0:=dhid r0;have R1:=dhid r1;have B1:=dhid hb1;have Z1:=dhid z1;have A1:=dhid ((Fam.nil (w.heap.size+1+1) (w.heap.size+1+1) w1).snoc (bRow b1 n1 d1 xs) _ w1.heap.size ow1 (Nat.le_refl _) (Nat.le_refl _) (Nat.le_refl _) (by omega));obtain ⟨p0,p1,p2,p3,p4,p5⟩:=cells6 r0;have f3:=froz r0 3;have hE2:=own_empty8 (w1.setCell ⟨w.heap.size,3,none⟩ (.slice b1 n1 d1)) w1.heap.size (by rw [size_set];exact Nat.le_refl _) (.cells #[] 5 (0,0)) rfl;rw [size_set] at hE2;have R0':(w1.setCell ⟨w.heap.size,3,none⟩ (.slice b1 n1 d1)).heap[w.heap.size]?=some (.cells #[.int .u64 t,.int .u64 cm,.bool so,.slice b1 n1 d1,.slice a2 n2 c2,.int .i64 ir] 27 (0,0)):=row_set R0.out 3 (.slice b1 n1 d1);have p4':=fun o=>(cells6 (row_al8 R0' o)).2.2.2.2.1;clear r0 r1 hb1 z1 ow1 gr1 R0')
  | (at_builtin;refine wpList_app8 rfl (.tmp 8) (.tmp 10) rfl w1.heap.size _ rfl hE2 a2 n2 c2 ys rfl HX.out.2.1 HX.out.2.2.2 (HS2.out _ ((B1.out.setCell (p:=⟨w.heap.size,3,none⟩) (Nat.le_refl _) _).alloc (B1.out.setCell (p:=⟨w.heap.size,3,none⟩) (Nat.le_refl _) _).size _)) (by rw [World.size_alloc,size_set];omega) ?_;intro b2 d2 w2 ow2 gr2;have hb2:=app1 gr2 (by rw [size_set]);have z2:=hb2.size;have S0:Hid (w2.heap[w.heap.size]?=some (.cells #[.int .u64 t,.int .u64 cm,.bool so,.slice b1 n1 d1,.slice a2 n2 c2,.int .i64 ir] 27 (0,0))):=dstays hb2 (row_set R0.out 3 (.slice b1 n1 d1));have S1:=dhid (dstays hb2 (row_far R1.out ⟨w.heap.size,3,none⟩ (.slice b1 n1 d1) (by dsimp only;omega)));have B2:=dhid (below_trans (B1.out.setCell (p:=⟨w.heap.size,3,none⟩) (Nat.le_refl _) (.slice b1 n1 d1)) hb2);rw [size_set] at z2;have A2:=dhid (((A1.out.set ⟨w.heap.size,3,none⟩ (.slice b1 n1 d1) (.inl (by dsimp only;omega))).below hb2).snoc (bRow b2 n2 d2 ys) _ w2.heap.size ow2 (Nat.le_refl _) (by have:=Z1.out;omega) (Nat.le_refl _) z2);clear p0 p1 p2 p3 p4 p5 f3 p4';obtain ⟨p0,p1,p2,p3,p4,p5⟩:=cells6 S0.out;have f4:=froz S0.out 4;obtain ⟨s0,s1,s2,s3,s4,s5⟩:=cells6 S1.out;obtain ⟨y0,y1,y2,y3,y4,y5⟩:=froz6 S1.out;clear ow2 gr2 hb2 z2))
 have T1:=row_far S1.out ⟨w.heap.size,4,none⟩ (.slice b2 n2 d2) (by dsimp only;omega)
 have A3:=(A2.out.set ⟨w.heap.size,4,none⟩ (.slice b2 n2 d2) (.inl (by dsimp only;omega))).put6 (w.heap.size+1) (.inl (by omega)) (.int .u64 t) (.int .u64 cm) (.bool so) (.slice b1 n1 d1) (.slice b2 n2 d2) (.int .i64 ir)
 have B3:=below_put6 (B2.out.setCell (p:=⟨w.heap.size,4,none⟩) (Nat.le_refl _) (.slice b2 n2 d2)) (g:=w.heap.size+1) (by omega) (.int .u64 t) (.int .u64 cm) (.bool so) (.slice b1 n1 d1) (.slice b2 n2 d2) (.int .i64 ir)
 exact bodyPost_ret (results_cell_row Tryz.results46 _ _ _ _ _ _ _ rfl (row_put6 T1 _ _ _ _ _ _) Tryz.underlying27 rfl dev_size) rfl ⟨b1,d1,b2,d2,rfl,A3.low (by omega) (by simp only [size_set];exact Nat.le_refl _),B3⟩

theorem row_drew {W:World} {g:Nat} {o:Obj} (h:W.heap[g]?=some o):W.drew.heap[g]?=some o:=h

theorem row2d {w:World} {o1 o2:Obj}:((w.alloc o1).alloc o2).drew.heap[w.heap.size+1]?=some o2:=(rows2 (w:=w) (o1:=o1) (o2:=o2) (Below.refl _ ((w.alloc o1).alloc o2))).2

theorem row2n {w:World} {o1 o2:Obj}:((w.alloc o1).alloc o2).heap[w.heap.size+1]?=some o2:=(rows2 (w:=w) (o1:=o1) (o2:=o2) (Below.refl _ ((w.alloc o1).alloc o2))).2

theorem below2d {w:World} {o1 o2:Obj}:Below w.heap.size w ((w.alloc o1).alloc o2).drew:=(((Below.refl _ _).alloc (Nat.le_refl _) o1).alloc (by simp) o2).drew

theorem below2n {w:World} {o1 o2:Obj}:Below w.heap.size w ((w.alloc o1).alloc o2):=((Below.refl _ _).alloc (Nat.le_refl _) o1).alloc (by simp) o2

set_option maxRecDepth 100000 in
set_option maxHeartbeats 1600000 in
theorem l8Load_0 (t cm:Int) (so:Bool) (a1:Option Addr) (n1 c1:Nat) (a2:Option Addr) (n2 c2:Nat) (ir:Int) (w:World) :
 Calls Tryz.prog 81 #[.agg #[.int .u64 t,.int .u64 cm,.bool so,.slice a1 n1 c1,.slice a2 n2 c2,.int .i64 ir],.int .u64 33554432,.int .i64 4] w fun e w'=>e=.returned (.tuple #[.int .u64 (oneIf so),.agg #[.int .u64 t,.int .u64 cm,.bool so,.slice a1 n1 c1,.slice a2 n2 c2,.int .i64 ir],.bool true])∧Below w.heap.size w w':=by
 have HI:Hid (∀ w,Calls Tryz.prog 45 #[.bool so] w fun e w'=>e=.returned (.int .u64 (oneIf so))∧w'=w):=l3If_dev so
 generalize oneIf so=v at *
 go_enter Tryz.func81,Tryz.ntmps81
 go_wp2_with fail
 go_region_with (first | (go_at_call 45;with_reducible refine (HI.out _).mono ?_;rintro e w1 ⟨rfl,hw1⟩;subst hw1))
 all_goals go_wp2_with fail
 all_goals exact bodyPost_ret (results_tct8 Tryz.results81 _ _ _ _ _ _ _ rfl row2d Tryz.underlying27 rfl dev_size) rfl ⟨rfl,below2d⟩

set_option maxRecDepth 100000 in
set_option maxHeartbeats 1600000 in
theorem l8Load_1 (t cm:Int) (so:Bool) (a1:Option Addr) (n1 c1:Nat) (a2:Option Addr) (n2 c2:Nat) (ir:Int) (w:World) :
 Calls Tryz.prog 81 #[.agg #[.int .u64 t,.int .u64 cm,.bool so,.slice a1 n1 c1,.slice a2 n2 c2,.int .i64 ir],.int .u64 33570816,.int .i64 8] w fun e w'=>e=.returned (.tuple #[.int .u64 cm,.agg #[.int .u64 t,.int .u64 cm,.bool so,.slice a1 n1 c1,.slice a2 n2 c2,.int .i64 ir],.bool true])∧Below w.heap.size w w':=by
 go_enter Tryz.func81,Tryz.ntmps81
 go_wp2_with fail
 go_region
 go_wp2_with fail
 exact bodyPost_ret (results_tct8 Tryz.results81 _ _ _ _ _ _ _ rfl row2d Tryz.underlying27 rfl dev_size) rfl ⟨rfl,below2d⟩

set_option maxRecDepth 100000 in
set_option maxHeartbeats 1600000 in
theorem l8Load_2 (t cm:Int) (so:Bool) (a1:Option Addr) (n1 c1:Nat) (a2:Option Addr) (n2 c2:Nat) (ir:Int) (w:World) :
 Calls Tryz.prog 81 #[.agg #[.int .u64 t,.int .u64 cm,.bool so,.slice a1 n1 c1,.slice a2 n2 c2,.int .i64 ir],.int .u64 33603576,.int .i64 8] w fun e w'=>e=.returned (.tuple #[.int .u64 t,.agg #[.int .u64 t,.int .u64 cm,.bool so,.slice a1 n1 c1,.slice a2 n2 c2,.int .i64 ir],.bool true])∧Below w.heap.size w w':=by
 go_enter Tryz.func81,Tryz.ntmps81
 go_wp2_with fail
 go_region
 go_wp2_with fail
 exact bodyPost_ret (results_tct8 Tryz.results81 _ _ _ _ _ _ _ rfl row2d Tryz.underlying27 rfl dev_size) rfl ⟨rfl,below2d⟩

set_option maxRecDepth 100000 in
set_option maxHeartbeats 1600000 in
theorem l8Load_3e (t cm:Int) (so:Bool) (a1:Option Addr) (c1:Nat) (a2:Option Addr) (n2 c2:Nat) (ir:Int) (w:World) :
 Calls Tryz.prog 81 #[.agg #[.int .u64 t,.int .u64 cm,.bool so,.slice a1 0 c1,.slice a2 n2 c2,.int .i64 ir],.int .u64 268435456,.int .i64 1] w fun e w'=>e=.returned (.tuple #[.int .u64 0,.agg #[.int .u64 t,.int .u64 cm,.bool so,.slice a1 0 c1,.slice a2 n2 c2,.int .i64 ir],.bool true])∧Below w.heap.size w w':=by
 go_enter Tryz.func81,Tryz.ntmps81
 go_wp2_with fail
 go_region
 go_wp2_with fail
 exact bodyPost_ret (results_tct8 Tryz.results81 _ _ _ _ _ _ _ rfl row2d Tryz.underlying27 rfl dev_size) rfl ⟨rfl,below2d⟩

set_option maxRecDepth 100000 in
set_option maxHeartbeats 1600000 in
theorem l8Load_4 (t cm:Int) (so:Bool) (a1:Option Addr) (n1 c1:Nat) (a2:Option Addr) (n2 c2:Nat) (ir:Int) (w:World) :
 Calls Tryz.prog 81 #[.agg #[.int .u64 t,.int .u64 cm,.bool so,.slice a1 n1 c1,.slice a2 n2 c2,.int .i64 ir],.int .u64 268435457,.int .i64 1] w fun e w'=>e=.returned (.tuple #[.int .u64 (IntKind.u64.wrap ir),.agg #[.int .u64 t,.int .u64 cm,.bool so,.slice a1 n1 c1,.slice a2 n2 c2,.int .i64 ir],.bool true])∧Below w.heap.size w w':=by
 go_enter Tryz.func81,Tryz.ntmps81
 go_wp2_with fail
 go_region
 go_wp2_with fail
 exact bodyPost_ret (results_tct8 Tryz.results81 _ _ _ _ _ _ _ rfl row2d Tryz.underlying27 rfl dev_size) rfl ⟨rfl,below2d⟩

set_option maxRecDepth 100000 in
set_option maxHeartbeats 1600000 in
theorem l8Load_5 (t cm:Int) (so:Bool) (a1:Option Addr) (n1 c1:Nat) (a2:Option Addr) (n2 c2:Nat) (ir:Int) (hn1:n1≤1048576) (w:World) :
 Calls Tryz.prog 81 #[.agg #[.int .u64 t,.int .u64 cm,.bool so,.slice a1 n1 c1,.slice a2 n2 c2,.int .i64 ir],.int .u64 268435461,.int .i64 1] w fun e w'=>e=.returned (.tuple #[.int .u64 (IntKind.u64.wrap (32+oneIf (decide (0 < n1)))),.agg #[.int .u64 t,.int .u64 cm,.bool so,.slice a1 n1 c1,.slice a2 n2 c2,.int .i64 ir],.bool true])∧Below w.heap.size w w':=by
 have HI:Hid (∀ w,Calls Tryz.prog 45 #[.bool (decide (0 < n1))] w fun e w'=>e=.returned (.int .u64 (oneIf (decide (0 < n1))))∧w'=w):=l3If_dev _
 generalize oneIf (decide (0 < n1))=v at *
 clear hn1
 go_enter Tryz.func81,Tryz.ntmps81
 go_wp2_with fail
 go_region_with (first | (go_at_call 45;with_reducible refine (HI.out _).mono ?_;rintro e w1 ⟨rfl,hw1⟩;subst hw1))
 all_goals go_wp2_with fail
 all_goals exact bodyPost_ret (results_tct8 Tryz.results81 _ _ _ _ _ _ _ rfl row2d Tryz.underlying27 rfl dev_size) rfl ⟨rfl,below2d⟩

set_option maxRecDepth 100000 in
set_option maxHeartbeats 1600000 in
theorem l8Load_6 (t cm:Int) (so:Bool) (a1:Option Addr) (n1 c1:Nat) (a2:Option Addr) (n2 c2:Nat) (ir:Int) (addr size:Int) (k0:addr=33554432→¬ size=4) (k1:addr=33570816→¬ size=8) (k2:addr=33603576→¬ size=8) (k3:addr=268435456→¬ size=1) (k4:addr=268435457→¬ size=1) (k5:addr=268435461→¬ size=1) (w:World) :
 Calls Tryz.prog 81 #[.agg #[.int .u64 t,.int .u64 cm,.bool so,.slice a1 n1 c1,.slice a2 n2 c2,.int .i64 ir],.int .u64 addr,.int .i64 size] w fun e w'=>e=.returned (.tuple #[.int .u64 0,.agg #[.int .u64 0,.int .u64 0,.bool false,.slice none 0 0,.slice none 0 0,.int .i64 0],.bool false])∧Below w.heap.size w w':=by
 by_cases q0:addr=33554432
 ·have s0:(size==4)=false:=by simpa using k0 q0
  subst q0
  clear k0 k1 k2 k3 k4 k5
  go_enter Tryz.func81,Tryz.ntmps81
  go_wp2_with fail
  exact bodyPost_ret (results_tct8 Tryz.results81 _ _ _ _ _ _ _ rfl row2n Tryz.underlying27 rfl dev_size) rfl ⟨rfl,below2n⟩
 ·have t0:(addr==33554432)=false:=by simpa using q0
  by_cases q1:addr=33570816
  ·have s1:(size==8)=false:=by simpa using k1 q1
   subst q1
   clear k0 k1 k2 k3 k4 k5
   go_enter Tryz.func81,Tryz.ntmps81
   go_wp2_with fail
   exact bodyPost_ret (results_tct8 Tryz.results81 _ _ _ _ _ _ _ rfl row2n Tryz.underlying27 rfl dev_size) rfl ⟨rfl,below2n⟩
  ·have t1:(addr==33570816)=false:=by simpa using q1
   by_cases q2:addr=33603576
   ·have s2:(size==8)=false:=by simpa using k2 q2
    subst q2
    clear k0 k1 k2 k3 k4 k5
    go_enter Tryz.func81,Tryz.ntmps81
    go_wp2_with fail
    exact bodyPost_ret (results_tct8 Tryz.results81 _ _ _ _ _ _ _ rfl row2n Tryz.underlying27 rfl dev_size) rfl ⟨rfl,below2n⟩
   ·have t2:(addr==33603576)=false:=by simpa using q2
    by_cases q3:addr=268435456
    ·have s3:(size==1)=false:=by simpa using k3 q3
     subst q3
     clear k0 k1 k2 k3 k4 k5
     go_enter Tryz.func81,Tryz.ntmps81
     go_wp2_with fail
     exact bodyPost_ret (results_tct8 Tryz.results81 _ _ _ _ _ _ _ rfl row2n Tryz.underlying27 rfl dev_size) rfl ⟨rfl,below2n⟩
    ·have t3:(addr==268435456)=false:=by simpa using q3
     by_cases q4:addr=268435457
     ·have s4:(size==1)=false:=by simpa using k4 q4
      subst q4
      clear k0 k1 k2 k3 k4 k5
      go_enter Tryz.func81,Tryz.ntmps81
      go_wp2_with fail
      exact bodyPost_ret (results_tct8 Tryz.results81 _ _ _ _ _ _ _ rfl row2n Tryz.underlying27 rfl dev_size) rfl ⟨rfl,below2n⟩
     ·have t4:(addr==268435457)=false:=by simpa using q4
      by_cases q5:addr=268435461
      ·have s5:(size==1)=false:=by simpa using k5 q5
       subst q5
       clear k0 k1 k2 k3 k4 k5
       go_enter Tryz.func81,Tryz.ntmps81
       go_wp2_with fail
       exact bodyPost_ret (results_tct8 Tryz.results81 _ _ _ _ _ _ _ rfl row2n Tryz.underlying27 rfl dev_size) rfl ⟨rfl,below2n⟩
      ·have t5:(addr==268435461)=false:=by simpa using q5
       clear k0 k1 k2 k3 k4 k5 q0 q1 q2 q3 q4 q5
       go_enter Tryz.func81,Tryz.ntmps81
       go_wp2_with fail
       exact bodyPost_ret (results_tct8 Tryz.results81 _ _ _ _ _ _ _ rfl row2n Tryz.underlying27 rfl dev_size) rfl ⟨rfl,below2n⟩

theorem Sl.next {w:World} {b off:Nat} {zs:List Int} (h:Sl .u8 w (some ⟨b,off,none⟩) zs):Sl .u8 w (some ⟨b,off+1,none⟩) (zs.drop 1):=by
 intro i hi
 rw [List.length_drop] at hi
 obtain ⟨b',off',e,hb,hc⟩:=h (i+1) (by omega)
 simp only [Option.some.injEq,Addr.mk.injEq,and_true] at e
 obtain ⟨rfl,rfl⟩:=e
 refine ⟨_,_,rfl,hb,?_⟩
 have e2:(zs.drop 1).getD i 0=zs.getD (i+1) 0:=by
  rw [List.getD_eq_getElem?_getD,List.getD_eq_getElem?_getD,List.getElem?_drop,Nat.add_comm]
 rw [e2,show off+1+i=off+(i+1) from by omega]
 exact hc

theorem fam_shape {B E:Nat} {w:World} {a1:Option Addr} {n1 c1:Nat} {xs:List Int} {a2:Option Addr} {n2 c2:Nat} {ys:List Int} (h:Fam B E w (devF a1 n1 c1 xs a2 n2 c2 ys)) (hn:1≤n1):∃ g,a1=some ⟨g,0,none⟩∧n1≤c1∧c1≤maxLen:=by
 have ho:=h.own (bRow a1 n1 c1 xs) (by simp [devF])
 rcases ho.2 with ⟨_,h3⟩ | ⟨g,cap,cur,hv,_,_,h4,h5,_⟩
 ·have:n1=0:=h3
  omega
 ·injection hv with e1 e2 e3
  subst e1 e3
  exact ⟨g,rfl,h4,h5⟩

theorem okD_bd {n1 n2:Nat} {ir:Int} (h:okD n1 n2 ir=true):n1≤16∧n2≤4096∧0≤ir∧ir≤1:=by
 unfold okD at h
 simp only [Bool.and_eq_true,decide_eq_true_eq] at h
 exact ⟨h.1.1,h.1.2,h.2.1,h.2.2⟩

set_option maxRecDepth 100000 in
set_option maxHeartbeats 1600000 in
theorem l8Store_0 (t cm:Int) (so:Bool) (a1:Option Addr) (n1 c1:Nat) (a2:Option Addr) (n2 c2:Nat) (ir:Int) (x:Int) (w:World) :
 Calls Tryz.prog 82 #[.agg #[.int .u64 t,.int .u64 cm,.bool so,.slice a1 n1 c1,.slice a2 n2 c2,.int .i64 ir],.int .u64 33554432,.int .i64 4,.int .u64 x] w fun e w'=>e=.returned (.tuple #[.agg #[.int .u64 t,.int .u64 cm,.bool (bits .and .u64 x 1==1),.slice a1 n1 c1,.slice a2 n2 c2,.int .i64 ir],.bool true])∧Below w.heap.size w w':=by
 go_enter Tryz.func82,Tryz.ntmps82
 go_wp2_with fail
 exact bodyPost_ret (results_ct8 Tryz.results82 _ _ _ _ _ _ _ rfl row2n Tryz.underlying27 rfl dev_size) rfl ⟨rfl,below2n⟩

set_option maxRecDepth 100000 in
set_option maxHeartbeats 1600000 in
theorem l8Store_1 (t cm:Int) (so:Bool) (a1:Option Addr) (n1 c1:Nat) (a2:Option Addr) (n2 c2:Nat) (ir:Int) (x:Int) (w:World) :
 Calls Tryz.prog 82 #[.agg #[.int .u64 t,.int .u64 cm,.bool so,.slice a1 n1 c1,.slice a2 n2 c2,.int .i64 ir],.int .u64 33570816,.int .i64 8,.int .u64 x] w fun e w'=>e=.returned (.tuple #[.agg #[.int .u64 t,.int .u64 x,.bool so,.slice a1 n1 c1,.slice a2 n2 c2,.int .i64 ir],.bool true])∧Below w.heap.size w w':=by
 go_enter Tryz.func82,Tryz.ntmps82
 go_wp2_with fail
 exact bodyPost_ret (results_ct8 Tryz.results82 _ _ _ _ _ _ _ rfl row2n Tryz.underlying27 rfl dev_size) rfl ⟨rfl,below2n⟩

set_option maxRecDepth 100000 in
set_option maxHeartbeats 1600000 in
theorem l8Store_2 (t cm:Int) (so:Bool) (a1:Option Addr) (n1 c1:Nat) (a2:Option Addr) (n2 c2:Nat) (ir:Int) (x:Int) (w:World) :
 Calls Tryz.prog 82 #[.agg #[.int .u64 t,.int .u64 cm,.bool so,.slice a1 n1 c1,.slice a2 n2 c2,.int .i64 ir],.int .u64 33603576,.int .i64 8,.int .u64 x] w fun e w'=>e=.returned (.tuple #[.agg #[.int .u64 x,.int .u64 cm,.bool so,.slice a1 n1 c1,.slice a2 n2 c2,.int .i64 ir],.bool true])∧Below w.heap.size w w':=by
 go_enter Tryz.func82,Tryz.ntmps82
 go_wp2_with fail
 exact bodyPost_ret (results_ct8 Tryz.results82 _ _ _ _ _ _ _ rfl row2n Tryz.underlying27 rfl dev_size) rfl ⟨rfl,below2n⟩

set_option maxRecDepth 100000 in
set_option maxHeartbeats 1600000 in
theorem l8Store_3f (t cm:Int) (so:Bool) (a1:Option Addr) (n1 c1:Nat) (a2:Option Addr) (n2 c2:Nat) (ir:Int) (x:Int) (hf:¬ n2 < 4096) (hn2:n2≤4096) (w:World) :
 Calls Tryz.prog 82 #[.agg #[.int .u64 t,.int .u64 cm,.bool so,.slice a1 n1 c1,.slice a2 n2 c2,.int .i64 ir],.int .u64 268435456,.int .i64 1,.int .u64 x] w fun e w'=>e=.returned (.tuple #[.agg #[.int .u64 t,.int .u64 cm,.bool so,.slice a1 n1 c1,.slice a2 n2 c2,.int .i64 ir],.bool true])∧Below w.heap.size w w':=by
 have dd:decide ((n2:Int) < 4096)=false:=by simp;omega
 clear hf hn2
 go_enter Tryz.func82,Tryz.ntmps82
 go_wp2_with fail
 exact bodyPost_ret (results_ct8 Tryz.results82 _ _ _ _ _ _ _ rfl row2n Tryz.underlying27 rfl dev_size) rfl ⟨rfl,below2n⟩

set_option maxRecDepth 100000 in
set_option maxHeartbeats 1600000 in
theorem l8Store_4 (t cm:Int) (so:Bool) (a1:Option Addr) (n1 c1:Nat) (a2:Option Addr) (n2 c2:Nat) (ir:Int) (x:Int) (w:World) :
 Calls Tryz.prog 82 #[.agg #[.int .u64 t,.int .u64 cm,.bool so,.slice a1 n1 c1,.slice a2 n2 c2,.int .i64 ir],.int .u64 268435457,.int .i64 1,.int .u64 x] w fun e w'=>e=.returned (.tuple #[.agg #[.int .u64 t,.int .u64 cm,.bool so,.slice a1 n1 c1,.slice a2 n2 c2,.int .i64 (wrap64 (bits .and .u64 x 1))],.bool true])∧Below w.heap.size w w':=by
 go_enter Tryz.func82,Tryz.ntmps82
 go_wp2_with fail
 exact bodyPost_ret (results_ct8 Tryz.results82 _ _ _ _ _ _ _ rfl row2n Tryz.underlying27 rfl dev_size) rfl ⟨rfl,below2n⟩

set_option maxRecDepth 100000 in
set_option maxHeartbeats 1600000 in
theorem l8Store_5 (t cm:Int) (so:Bool) (a1:Option Addr) (n1 c1:Nat) (a2:Option Addr) (n2 c2:Nat) (ir:Int) (x:Int) (w:World) :
 Calls Tryz.prog 82 #[.agg #[.int .u64 t,.int .u64 cm,.bool so,.slice a1 n1 c1,.slice a2 n2 c2,.int .i64 ir],.int .u64 268435461,.int .i64 1,.int .u64 x] w fun e w'=>e=.returned (.tuple #[.agg #[.int .u64 t,.int .u64 cm,.bool so,.slice a1 n1 c1,.slice a2 n2 c2,.int .i64 ir],.bool true])∧Below w.heap.size w w':=by
 go_enter Tryz.func82,Tryz.ntmps82
 go_wp2_with fail
 exact bodyPost_ret (results_ct8 Tryz.results82 _ _ _ _ _ _ _ rfl row2n Tryz.underlying27 rfl dev_size) rfl ⟨rfl,below2n⟩

set_option maxRecDepth 100000 in
set_option maxHeartbeats 1600000 in
theorem l8Store_6 (t cm:Int) (so:Bool) (a1:Option Addr) (n1 c1:Nat) (a2:Option Addr) (n2 c2:Nat) (ir:Int) (x addr size:Int) (k0:addr=33554432→¬ size=4) (k1:addr=33570816→¬ size=8) (k2:addr=33603576→¬ size=8) (k3:addr=268435456→¬ size=1) (k4:addr=268435457→¬ size=1) (k5:addr=268435461→¬ size=1) (w:World) :
 Calls Tryz.prog 82 #[.agg #[.int .u64 t,.int .u64 cm,.bool so,.slice a1 n1 c1,.slice a2 n2 c2,.int .i64 ir],.int .u64 addr,.int .i64 size,.int .u64 x] w fun e w'=>e=.returned (.tuple #[.agg #[.int .u64 0,.int .u64 0,.bool false,.slice none 0 0,.slice none 0 0,.int .i64 0],.bool false])∧Below w.heap.size w w':=by
 by_cases q0:addr=33554432
 ·have s0:(size==4)=false:=by simpa using k0 q0
  subst q0
  clear k0 k1 k2 k3 k4 k5
  go_enter Tryz.func82,Tryz.ntmps82
  go_wp2_with fail
  exact bodyPost_ret (results_ct8 Tryz.results82 _ _ _ _ _ _ _ rfl row2n Tryz.underlying27 rfl dev_size) rfl ⟨rfl,below2n⟩
 ·have t0:(addr==33554432)=false:=by simpa using q0
  by_cases q1:addr=33570816
  ·have s1:(size==8)=false:=by simpa using k1 q1
   subst q1
   clear k0 k1 k2 k3 k4 k5
   go_enter Tryz.func82,Tryz.ntmps82
   go_wp2_with fail
   exact bodyPost_ret (results_ct8 Tryz.results82 _ _ _ _ _ _ _ rfl row2n Tryz.underlying27 rfl dev_size) rfl ⟨rfl,below2n⟩
  ·have t1:(addr==33570816)=false:=by simpa using q1
   by_cases q2:addr=33603576
   ·have s2:(size==8)=false:=by simpa using k2 q2
    subst q2
    clear k0 k1 k2 k3 k4 k5
    go_enter Tryz.func82,Tryz.ntmps82
    go_wp2_with fail
    exact bodyPost_ret (results_ct8 Tryz.results82 _ _ _ _ _ _ _ rfl row2n Tryz.underlying27 rfl dev_size) rfl ⟨rfl,below2n⟩
   ·have t2:(addr==33603576)=false:=by simpa using q2
    by_cases q3:addr=268435456
    ·have s3:(size==1)=false:=by simpa using k3 q3
     subst q3
     clear k0 k1 k2 k3 k4 k5
     go_enter Tryz.func82,Tryz.ntmps82
     go_wp2_with fail
     exact bodyPost_ret (results_ct8 Tryz.results82 _ _ _ _ _ _ _ rfl row2n Tryz.underlying27 rfl dev_size) rfl ⟨rfl,below2n⟩
    ·have t3:(addr==268435456)=false:=by simpa using q3
     by_cases q4:addr=268435457
     ·have s4:(size==1)=false:=by simpa using k4 q4
      subst q4
      clear k0 k1 k2 k3 k4 k5
      go_enter Tryz.func82,Tryz.ntmps82
      go_wp2_with fail
      exact bodyPost_ret (results_ct8 Tryz.results82 _ _ _ _ _ _ _ rfl row2n Tryz.underlying27 rfl dev_size) rfl ⟨rfl,below2n⟩
     ·have t4:(addr==268435457)=false:=by simpa using q4
      by_cases q5:addr=268435461
      ·have s5:(size==1)=false:=by simpa using k5 q5
       subst q5
       clear k0 k1 k2 k3 k4 k5
       go_enter Tryz.func82,Tryz.ntmps82
       go_wp2_with fail
       exact bodyPost_ret (results_ct8 Tryz.results82 _ _ _ _ _ _ _ rfl row2n Tryz.underlying27 rfl dev_size) rfl ⟨rfl,below2n⟩
      ·have t5:(addr==268435461)=false:=by simpa using q5
       clear k0 k1 k2 k3 k4 k5 q0 q1 q2 q3 q4 q5
       go_enter Tryz.func82,Tryz.ntmps82
       go_wp2_with fail
       exact bodyPost_ret (results_ct8 Tryz.results82 _ _ _ _ _ _ _ rfl row2n Tryz.underlying27 rfl dev_size) rfl ⟨rfl,below2n⟩

theorem one_new (w:World) (b:Int) (j:Nat) (u:Value) (h:[Value.int .u8 b][j]?=some u):(w.alloc (.cells #[.int .u8 b] 5)).cell? ((⟨w.heap.size,0,none⟩:Addr).add j)=some u:=by
 have hj:j=0:=by
  rcases Nat.eq_zero_or_pos j with h0 | h0
  ·exact h0
  ·rw [List.getElem?_eq_none (by simp;omega)] at h;cases h
 subst hj
 rw [adds]
 simp only [List.getElem?_cons_zero,Option.some.injEq] at h
 subst h
 have e:=heap_alloc_new w (.cells #[.int .u8 b] 5)
 show (w.alloc (.cells #[.int .u8 b] 5)).cell? ⟨w.heap.size,0,none⟩=_
 simp only [World.cell?,e]
 rfl

theorem own_form {w:World} {base n:Nat} {t:TypeId} {v:Value} {xs:List Value} (h:w.ownsRow base t 1 v n xs):∃ a c,v=.slice a n c:=by
 rcases h.2 with ⟨e,e0⟩ | ⟨g',cap,cur,e,_⟩
 ·exact ⟨none,0,by rw [e,e0]⟩
 ·exact ⟨_,_,e⟩

theorem app3 {w w1 w2:World} {o o1 o2:Obj} {n:Nat} {t:TypeId} {v:Value} {xs:List Value} (h0:w1.heap[w.heap.size]?=some o1) (h1:w1.heap[w.heap.size+1]?=some o2) (ho:w1.ownsRow (w.heap.size+1+1) t 1 v n xs) (gr:(w1.alloc o).grownBy w2 v.ownBlock) :
 w2.heap[w.heap.size]?=some o1∧w2.heap[w.heap.size+1]?=some o2∧Below (w.heap.size+1+1) w1 w2:=by
 have z:=(Array.getElem?_eq_some_iff.1 h1).1
 have hk:∀ k,k < w.heap.size+1+1→w2.heap[k]?=w1.heap[k]?:=fun k hk=>(gr.block k (by rw [World.size_alloc];omega) (fun e=>by have:=(ho.lt k e.symm).1;omega)).trans (Below.heap_alloc w1 o k (by omega))
 refine ⟨(hk _ (by omega)).trans h0,(hk _ (by omega)).trans h1,⟨gr.os,gr.tape,gr.output,?_,hk⟩⟩
 have:=gr.size
 rw [World.size_alloc] at this
 omega

end Go.Proofs.YtbajeckeeekhnaaGreat
