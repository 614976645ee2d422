/- Own lemmas. -/
import Derived.Test.YtkhofppmeoooaaaGreatDoorK01
import Derived.Test.YtkhofppmeoooaaaGreatDoorProg
import Derived.Deep.RegionWith
import Derived.BigQuiet
import Derived.Laws.Tables
import Derived.RegionTactic
import Derived.WalkKit
namespace Go.Proofs.YtkhofppmeoooaaaGreatDoor
open Go.RowKit
set_option linter.unusedVariables false

structure DV where
 t:Int
 cm:Int
 so:Bool
 xs:List Int
 ys:List Int
 ir:Int

def zeroD:DV:=⟨0,0,false,[],[],0⟩

def dvc (D:DV) (a1:Option Addr) (c1:Nat) (a2:Option Addr) (c2:Nat):Array Value:=#[.int .u64 D.t,.int .u64 D.cm,.bool D.so,.slice a1 D.xs.length c1,.slice a2 D.ys.length c2,.int .i64 D.ir]

def dvF (D:DV) (a1:Option Addr) (c1:Nat) (a2:Option Addr) (c2:Nat):List FRow:=devF a1 D.xs.length c1 D.xs a2 D.ys.length c2 D.ys

def bytesOk (D:DV):Prop:=(∀ y ∈ D.xs,(Lit.int .u8 y).wf=true)∧∀ y ∈ D.ys,(Lit.int .u8 y).wf=true

def okD (n1 n2:Nat) (ir:Int):Bool:=decide (n1≤16)&&decide (n2≤4096)&&decide (0≤ir∧ir≤1)

def sel (addr size:Int):Nat :=
 if addr=33554432∧size=4 then 0 else if addr=33570816∧size=8 then 1 else if addr=33603576∧size=8 then 2 else if addr=268435456∧size=1 then 3 else if addr=268435457∧size=1 then 4 else if addr=268435461∧size=1 then 5 else 6

def oneIf (b:Bool):Int:=if b=true then 1 else 0

def ldV (D:DV):Nat→Int × DV × Bool
 | 0=>(oneIf D.so,D,true)
 | 1=>(D.cm,D,true)
 | 2=>(D.t,D,true)
 | 3=>(D.xs.getD 0 0,⟨D.t,D.cm,D.so,D.xs.drop 1,D.ys,D.ir⟩,true)
 | 4=>(IntKind.u64.wrap D.ir,D,true)
 | 5=>(IntKind.u64.wrap (32+oneIf (decide (0 < D.xs.length))),D,true)
 | _=>(0,zeroD,false)

def stV (D:DV) (x:Int):Nat→DV × Bool
 | 0=>(⟨D.t,D.cm,bits .and .u64 x 1==1,D.xs,D.ys,D.ir⟩,true)
 | 1=>(⟨D.t,x,D.so,D.xs,D.ys,D.ir⟩,true)
 | 2=>(⟨x,D.cm,D.so,D.xs,D.ys,D.ir⟩,true)
 | 3=>(⟨D.t,D.cm,D.so,D.xs,if D.ys.length < 4096 then D.ys ++ [IntKind.u8.wrap x] else D.ys,D.ir⟩,true)
 | 4=>(⟨D.t,D.cm,D.so,D.xs,D.ys,wrap64 (bits .and .u64 x 1)⟩,true)
 | 5=>(D,true)
 | _=>(zeroD,false)

def linesV (D:DV):Int:=IntKind.u64.wrap (IntKind.u64.wrap (IntKind.u64.wrap (8*oneIf D.so)+IntKind.u64.wrap (128*oneIf (decide (D.cm≤D.t))))+IntKind.u64.wrap (2048*oneIf ((D.ir==1)&&decide (0 < D.xs.length))))

def loadD (D:DV) (addr size:Int):Int × DV × Bool:=if okD D.xs.length D.ys.length D.ir=true then ldV D (sel addr size) else (0,zeroD,false)

def storeD (D:DV) (addr size x:Int):DV × Bool:=if okD D.xs.length D.ys.length D.ir=true then stV D x (sel addr size) else (zeroD,false)

def linesD (D:DV):Int:=if okD D.xs.length D.ys.length D.ir=true then linesV D else 0

theorem sel_cases (addr size:Int) (P:Nat→Prop) (h0:addr=33554432→size=4→P 0) (h1:addr=33570816→size=8→P 1) (h2:addr=33603576→size=8→P 2) (h3:addr=268435456→size=1→P 3) (h4:addr=268435457→size=1→P 4) (h5:addr=268435461→size=1→P 5)
 (h6:(addr=33554432→¬ size=4)→(addr=33570816→¬ size=8)→(addr=33603576→¬ size=8)→(addr=268435456→¬ size=1)→(addr=268435457→¬ size=1)→(addr=268435461→¬ size=1)→P 6):P (sel addr size):=by
 unfold sel
 split
 ·rename_i h;exact h0 h.1 h.2
 ·rename_i k0
  split
  ·rename_i h;exact h1 h.1 h.2
  ·rename_i k1
   split
   ·rename_i h;exact h2 h.1 h.2
   ·rename_i k2
    split
    ·rename_i h;exact h3 h.1 h.2
    ·rename_i k3
     split
     ·rename_i h;exact h4 h.1 h.2
     ·rename_i k4
      split
      ·rename_i h;exact h5 h.1 h.2
      ·rename_i k5
       exact h6 (fun a b=>k0 ⟨a,b⟩) (fun a b=>k1 ⟨a,b⟩) (fun a b=>k2 ⟨a,b⟩) (fun a b=>k3 ⟨a,b⟩) (fun a b=>k4 ⟨a,b⟩) (fun a b=>k5 ⟨a,b⟩)

theorem fam_zero (B E:Nat) (w:World):Fam B E w (dvF zeroD none 0 none 0):=by
 refine ⟨fun r hr=>?_,fun r hr k e=>?_,?_⟩
 ·simp only [dvF,devF,List.mem_cons,List.not_mem_nil,or_false] at hr
  rcases hr with rfl | rfl
  ·exact ⟨rfl,.inl ⟨rfl,rfl⟩⟩
  ·exact ⟨rfl,.inl ⟨rfl,rfl⟩⟩
 ·simp only [dvF,devF,List.mem_cons,List.not_mem_nil,or_false] at hr
  rcases hr with rfl | rfl
  ·cases e
  ·cases e
 ·exact List.pairwise_cons.2 ⟨fun s hs k e=>(by cases e),List.pairwise_singleton _ _⟩

theorem Fam.newIn {B E:Nat} {w:World} {a1:Option Addr} {n1 c1:Nat} {xs:List Int} {a2:Option Addr} {n2 c2:Nat} {ys:List Int} (h:Fam B E w (devF a1 n1 c1 xs a2 n2 c2 ys)) (a:Option Addr) (n c:Nat) (zs:List Int) (base E':Nat) (ho:w.ownsRow base 5 1 (.slice a n c) n (zs.map (Value.int .u8))) (h1:E≤base) (h2:B≤base) (h3:w.heap.size≤E') (h4:E≤E'):Fam B E' w (devF a n c zs a2 n2 c2 ys):=by
 have t:Fam B E w [bRow a2 n2 c2 ys]:=⟨fun r hr=>h.own r (List.mem_cons_of_mem _ hr),fun r hr=>h.hi r (List.mem_cons_of_mem _ hr),(List.pairwise_cons.1 h.ne).2⟩
 exact t.cons (bRow a n c zs) base E' ho h1 h2 h3 h4

theorem Fam.newOut {B E:Nat} {w:World} {a1:Option Addr} {n1 c1:Nat} {xs:List Int} {a2:Option Addr} {n2 c2:Nat} {ys:List Int} (h:Fam B E w (devF a1 n1 c1 xs a2 n2 c2 ys)) (a:Option Addr) (n c:Nat) (zs:List Int) (base E':Nat) (ho:w.ownsRow base 5 1 (.slice a n c) n (zs.map (Value.int .u8))) (h1:E≤base) (h2:B≤base) (h3:w.heap.size≤E') (h4:E≤E'):Fam B E' w (devF a1 n1 c1 xs a n c zs):=by
 have t:Fam B E w [bRow a1 n1 c1 xs]:=⟨fun r hr=>h.own r (by rw [List.mem_singleton.1 hr];exact List.mem_cons_self ..),fun r hr=>h.hi r (by rw [List.mem_singleton.1 hr];exact List.mem_cons_self ..),List.pairwise_singleton _ _⟩
 exact t.snoc (bRow a n c zs) base E' ho h1 h2 h3 h4

theorem results_tct8 {P:Program} {fn:Func} {s p u:Tmp} {ty:TypeId} (h:fn.results=#[.tmp s,.cell p ty,.tmp u]) (tmps:Array Value) (w:World) (g:Nat) (t:TypeId) (cs:Array Value) (fr:Nat × Nat) (d:TypeDesc)
 (hp:tmps.getD p undef=.pointer (some ⟨g,0,none⟩)) (hg:w.heap[g]?=some (.cells cs t fr))
 (hu:P.underlying ty=some d) (hd:(match d with | .struct _ | .array _ _=>true | _=>false)=true) (hi:(P.info? ty).map (·.size)=some cs.size) :
 (results fn tmps).run P w=.ok (.tuple #[tmps.getD s undef,.agg cs,tmps.getD u undef]) w:=by
 have h1:(results fn tmps).run P w=((asAddr (tmps.getD p undef)).run P w).andThen fun a w₁=>((loadVar ty a).run P w₁).andThen fun v w₂=>.ok (.tuple #[tmps.getD s undef,v,tmps.getD u undef]) w₂:=by
  simp only [results,h]
  simp [Sem.run_bind,Result.andThen]
 rw [h1,hp]
 simp [asAddr,run_loadVar_row w g t ty cs fr d hg hu hd hi]

theorem results_ct8 {P:Program} {fn:Func} {p u:Tmp} {ty:TypeId} (h:fn.results=#[.cell p ty,.tmp u]) (tmps:Array Value) (w:World) (g:Nat) (t:TypeId) (cs:Array Value) (fr:Nat × Nat) (d:TypeDesc)
 (hp:tmps.getD p undef=.pointer (some ⟨g,0,none⟩)) (hg:w.heap[g]?=some (.cells cs t fr))
 (hu:P.underlying ty=some d) (hd:(match d with | .struct _ | .array _ _=>true | _=>false)=true) (hi:(P.info? ty).map (·.size)=some cs.size) :
 (results fn tmps).run P w=.ok (.tuple #[.agg cs,tmps.getD u undef]) w:=by
 have h1:(results fn tmps).run P w=((asAddr (tmps.getD p undef)).run P w).andThen fun a w₁=>((loadVar ty a).run P w₁).andThen fun v w₂=>.ok (.tuple #[v,tmps.getD u undef]) w₂:=by
  simp only [results,h]
  simp [Sem.run_bind,Result.andThen]
 rw [h1,hp]
 simp [asAddr,run_loadVar_row w g t ty cs fr d hg hu hd hi]

theorem infoW:(Tryz.prog.info? 24).map (fun i=>(i.zero,i.size,i.bytes))=some (some (.int .u64 0),1,8):=by kernel_rfl

theorem map_set_u64 (zs:List Int) (i:Nat) (y:Int):(zs.map (Value.int .u64)).set i (.int .u64 y)=(zs.set i y).map (Value.int .u64):=by
 rw [List.map_set]

structure MV where
 pc:Int
 x:List Int
 pr:Int
 cs:List Int
 ram:List Int
 d:DV
 hd:Int
 hl:Bool
 wt:Bool

structure MA where
 ax:Option Addr
 cx:Nat
 ac:Option Addr
 cc:Nat
 ar:Option Addr
 cr:Nat
 ai:Option Addr
 ci:Nat
 ao:Option Addr
 co:Nat

def zeroM:MV:=⟨0,[],0,[],[],zeroD,0,false,false⟩

def zeroA:MA:=⟨none,0,none,0,none,0,none,0,none,0⟩

def mvc (M:MV) (A:MA):Array Value:=#[.int .u64 M.pc,.slice A.ax M.x.length A.cx,.int .i64 M.pr,.slice A.ac M.cs.length A.cc,.slice A.ar M.ram.length A.cr,.int .u64 M.d.t,.int .u64 M.d.cm,.bool M.d.so,.slice A.ai M.d.xs.length A.ci,.slice A.ao M.d.ys.length A.co,.int .i64 M.d.ir,.int .u64 M.hd,.bool M.hl,.bool M.wt]

def wRow (a:Option Addr) (n c:Nat) (xs:List Int):FRow:=⟨24,.slice a n c,n,xs.map (Value.int .u64)⟩

def mvF (M:MV) (A:MA):List FRow:=[wRow A.ax M.x.length A.cx M.x,wRow A.ac M.cs.length A.cc M.cs,bRow A.ar M.ram.length A.cr M.ram,bRow A.ai M.d.xs.length A.ci M.d.xs,bRow A.ao M.d.ys.length A.co M.d.ys]

structure MSl (w:World) (M:MV) (A:MA):Prop where
 x:Sl .u64 w A.ax M.x
 cs:Sl .u64 w A.ac M.cs
 ram:Sl .u8 w A.ar M.ram
 xs:Sl .u8 w A.ai M.d.xs
 ys:Sl .u8 w A.ao M.d.ys

theorem MSl.below {w w':World} {M:MV} {A:MA} (h:MSl w M A) (hb:Below w.heap.size w w'):MSl w' M A:=⟨h.x.below hb,h.cs.below hb,h.ram.below hb,h.xs.below hb,h.ys.below hb⟩

theorem Fam.msl {B E:Nat} {w:World} {M:MV} {A:MA} (h:Fam B E w (mvF M A)):MSl w M A :=
 ⟨own_sl' (h.own (wRow A.ax M.x.length A.cx M.x) (by simp [mvF])),own_sl' (h.own (wRow A.ac M.cs.length A.cc M.cs) (by simp [mvF])),own_sl' (h.own (bRow A.ar M.ram.length A.cr M.ram) (by simp [mvF])),own_sl' (h.own (bRow A.ai M.d.xs.length A.ci M.d.xs) (by simp [mvF])),own_sl' (h.own (bRow A.ao M.d.ys.length A.co M.d.ys) (by simp [mvF]))⟩

theorem cells14 {W:World} {g:Nat} {v0 v1 v2 v3 v4 v5 v6 v7 v8 v9 v10 v11 v12 v13:Value} {t:TypeId} (h:W.heap[g]?=some (.cells #[v0,v1,v2,v3,v4,v5,v6,v7,v8,v9,v10,v11,v12,v13] t (0,0))):W.cell? ⟨g,0,none⟩=some v0∧W.cell? ⟨g,1,none⟩=some v1∧W.cell? ⟨g,2,none⟩=some v2∧W.cell? ⟨g,3,none⟩=some v3∧W.cell? ⟨g,4,none⟩=some v4∧W.cell? ⟨g,5,none⟩=some v5∧W.cell? ⟨g,6,none⟩=some v6∧W.cell? ⟨g,7,none⟩=some v7∧W.cell? ⟨g,8,none⟩=some v8∧W.cell? ⟨g,9,none⟩=some v9∧W.cell? ⟨g,10,none⟩=some v10∧W.cell? ⟨g,11,none⟩=some v11∧W.cell? ⟨g,12,none⟩=some v12∧W.cell? ⟨g,13,none⟩=some v13:=by
 simp [World.cell?,h]

theorem froz14 {W:World} {g:Nat} {cs:Array Value} {t:TypeId} (h:W.heap[g]?=some (.cells cs t (0,0))):W.frozen? ⟨g,0,none⟩=false∧W.frozen? ⟨g,1,none⟩=false∧W.frozen? ⟨g,2,none⟩=false∧W.frozen? ⟨g,3,none⟩=false∧W.frozen? ⟨g,4,none⟩=false∧W.frozen? ⟨g,5,none⟩=false∧W.frozen? ⟨g,6,none⟩=false∧W.frozen? ⟨g,7,none⟩=false∧W.frozen? ⟨g,8,none⟩=false∧W.frozen? ⟨g,9,none⟩=false∧W.frozen? ⟨g,10,none⟩=false∧W.frozen? ⟨g,11,none⟩=false∧W.frozen? ⟨g,12,none⟩=false∧W.frozen? ⟨g,13,none⟩=false :=
 ⟨froz h 0,froz h 1,froz h 2,froz h 3,froz h 4,froz h 5,froz h 6,froz h 7,froz h 8,froz h 9,froz h 10,froz h 11,froz h 12,froz h 13⟩

def put14 (w:World) (g:Nat) (x0 x1 x2 x3 x4 x5 x6 x7 x8 x9 x10 x11 x12 x13:Value):World:=(((((((((((((w.setCell ⟨g,0,none⟩ x0).setCell ⟨g,1,none⟩ x1).setCell ⟨g,2,none⟩ x2).setCell ⟨g,3,none⟩ x3).setCell ⟨g,4,none⟩ x4).setCell ⟨g,5,none⟩ x5).setCell ⟨g,6,none⟩ x6).setCell ⟨g,7,none⟩ x7).setCell ⟨g,8,none⟩ x8).setCell ⟨g,9,none⟩ x9).setCell ⟨g,10,none⟩ x10).setCell ⟨g,11,none⟩ x11).setCell ⟨g,12,none⟩ x12).setCell ⟨g,13,none⟩ x13

theorem row_put14 {w:World} {g:Nat} {v0 v1 v2 v3 v4 v5 v6 v7 v8 v9 v10 v11 v12 v13:Value} {t:TypeId} {fr:Nat × Nat} (h:w.heap[g]?=some (.cells #[v0,v1,v2,v3,v4,v5,v6,v7,v8,v9,v10,v11,v12,v13] t fr)) (x0 x1 x2 x3 x4 x5 x6 x7 x8 x9 x10 x11 x12 x13:Value):(put14 w g x0 x1 x2 x3 x4 x5 x6 x7 x8 x9 x10 x11 x12 x13).heap[g]?=some (.cells #[x0,x1,x2,x3,x4,x5,x6,x7,x8,x9,x10,x11,x12,x13] t fr):=by
 have h0:(w.setCell ⟨g,0,none⟩ x0).heap[g]?=some (.cells #[x0,v1,v2,v3,v4,v5,v6,v7,v8,v9,v10,v11,v12,v13] t fr):=row_set h 0 x0
 have h1:((w.setCell ⟨g,0,none⟩ x0).setCell ⟨g,1,none⟩ x1).heap[g]?=some (.cells #[x0,x1,v2,v3,v4,v5,v6,v7,v8,v9,v10,v11,v12,v13] t fr):=row_set h0 1 x1
 have h2:(((w.setCell ⟨g,0,none⟩ x0).setCell ⟨g,1,none⟩ x1).setCell ⟨g,2,none⟩ x2).heap[g]?=some (.cells #[x0,x1,x2,v3,v4,v5,v6,v7,v8,v9,v10,v11,v12,v13] t fr):=row_set h1 2 x2
 have h3:((((w.setCell ⟨g,0,none⟩ x0).setCell ⟨g,1,none⟩ x1).setCell ⟨g,2,none⟩ x2).setCell ⟨g,3,none⟩ x3).heap[g]?=some (.cells #[x0,x1,x2,x3,v4,v5,v6,v7,v8,v9,v10,v11,v12,v13] t fr):=row_set h2 3 x3
 have h4:(((((w.setCell ⟨g,0,none⟩ x0).setCell ⟨g,1,none⟩ x1).setCell ⟨g,2,none⟩ x2).setCell ⟨g,3,none⟩ x3).setCell ⟨g,4,none⟩ x4).heap[g]?=some (.cells #[x0,x1,x2,x3,x4,v5,v6,v7,v8,v9,v10,v11,v12,v13] t fr):=row_set h3 4 x4
 have h5:((((((w.setCell ⟨g,0,none⟩ x0).setCell ⟨g,1,none⟩ x1).setCell ⟨g,2,none⟩ x2).setCell ⟨g,3,none⟩ x3).setCell ⟨g,4,none⟩ x4).setCell ⟨g,5,none⟩ x5).heap[g]?=some (.cells #[x0,x1,x2,x3,x4,x5,v6,v7,v8,v9,v10,v11,v12,v13] t fr):=row_set h4 5 x5
 have h6:(((((((w.setCell ⟨g,0,none⟩ x0).setCell ⟨g,1,none⟩ x1).setCell ⟨g,2,none⟩ x2).setCell ⟨g,3,none⟩ x3).setCell ⟨g,4,none⟩ x4).setCell ⟨g,5,none⟩ x5).setCell ⟨g,6,none⟩ x6).heap[g]?=some (.cells #[x0,x1,x2,x3,x4,x5,x6,v7,v8,v9,v10,v11,v12,v13] t fr):=row_set h5 6 x6
 have h7:((((((((w.setCell ⟨g,0,none⟩ x0).setCell ⟨g,1,none⟩ x1).setCell ⟨g,2,none⟩ x2).setCell ⟨g,3,none⟩ x3).setCell ⟨g,4,none⟩ x4).setCell ⟨g,5,none⟩ x5).setCell ⟨g,6,none⟩ x6).setCell ⟨g,7,none⟩ x7).heap[g]?=some (.cells #[x0,x1,x2,x3,x4,x5,x6,x7,v8,v9,v10,v11,v12,v13] t fr):=row_set h6 7 x7
 have h8:(((((((((w.setCell ⟨g,0,none⟩ x0).setCell ⟨g,1,none⟩ x1).setCell ⟨g,2,none⟩ x2).setCell ⟨g,3,none⟩ x3).setCell ⟨g,4,none⟩ x4).setCell ⟨g,5,none⟩ x5).setCell ⟨g,6,none⟩ x6).setCell ⟨g,7,none⟩ x7).setCell ⟨g,8,none⟩ x8).heap[g]?=some (.cells #[x0,x1,x2,x3,x4,x5,x6,x7,x8,v9,v10,v11,v12,v13] t fr):=row_set h7 8 x8
 have h9:((((((((((w.setCell ⟨g,0,none⟩ x0).setCell ⟨g,1,none⟩ x1).setCell ⟨g,2,none⟩ x2).setCell ⟨g,3,none⟩ x3).setCell ⟨g,4,none⟩ x4).setCell ⟨g,5,none⟩ x5).setCell ⟨g,6,none⟩ x6).setCell ⟨g,7,none⟩ x7).setCell ⟨g,8,none⟩ x8).setCell ⟨g,9,none⟩ x9).heap[g]?=some (.cells #[x0,x1,x2,x3,x4,x5,x6,x7,x8,x9,v10,v11,v12,v13] t fr):=row_set h8 9 x9
 have h10:(((((((((((w.setCell ⟨g,0,none⟩ x0).setCell ⟨g,1,none⟩ x1).setCell ⟨g,2,none⟩ x2).setCell ⟨g,3,none⟩ x3).setCell ⟨g,4,none⟩ x4).setCell ⟨g,5,none⟩ x5).setCell ⟨g,6,none⟩ x6).setCell ⟨g,7,none⟩ x7).setCell ⟨g,8,none⟩ x8).setCell ⟨g,9,none⟩ x9).setCell ⟨g,10,none⟩ x10).heap[g]?=some (.cells #[x0,x1,x2,x3,x4,x5,x6,x7,x8,x9,x10,v11,v12,v13] t fr):=row_set h9 10 x10
 have h11:((((((((((((w.setCell ⟨g,0,none⟩ x0).setCell ⟨g,1,none⟩ x1).setCell ⟨g,2,none⟩ x2).setCell ⟨g,3,none⟩ x3).setCell ⟨g,4,none⟩ x4).setCell ⟨g,5,none⟩ x5).setCell ⟨g,6,none⟩ x6).setCell ⟨g,7,none⟩ x7).setCell ⟨g,8,none⟩ x8).setCell ⟨g,9,none⟩ x9).setCell ⟨g,10,none⟩ x10).setCell ⟨g,11,none⟩ x11).heap[g]?=some (.cells #[x0,x1,x2,x3,x4,x5,x6,x7,x8,x9,x10,x11,v12,v13] t fr):=row_set h10 11 x11
 have h12:(((((((((((((w.setCell ⟨g,0,none⟩ x0).setCell ⟨g,1,none⟩ x1).setCell ⟨g,2,none⟩ x2).setCell ⟨g,3,none⟩ x3).setCell ⟨g,4,none⟩ x4).setCell ⟨g,5,none⟩ x5).setCell ⟨g,6,none⟩ x6).setCell ⟨g,7,none⟩ x7).setCell ⟨g,8,none⟩ x8).setCell ⟨g,9,none⟩ x9).setCell ⟨g,10,none⟩ x10).setCell ⟨g,11,none⟩ x11).setCell ⟨g,12,none⟩ x12).heap[g]?=some (.cells #[x0,x1,x2,x3,x4,x5,x6,x7,x8,x9,x10,x11,x12,v13] t fr):=row_set h11 12 x12
 have h13:((((((((((((((w.setCell ⟨g,0,none⟩ x0).setCell ⟨g,1,none⟩ x1).setCell ⟨g,2,none⟩ x2).setCell ⟨g,3,none⟩ x3).setCell ⟨g,4,none⟩ x4).setCell ⟨g,5,none⟩ x5).setCell ⟨g,6,none⟩ x6).setCell ⟨g,7,none⟩ x7).setCell ⟨g,8,none⟩ x8).setCell ⟨g,9,none⟩ x9).setCell ⟨g,10,none⟩ x10).setCell ⟨g,11,none⟩ x11).setCell ⟨g,12,none⟩ x12).setCell ⟨g,13,none⟩ x13).heap[g]?=some (.cells #[x0,x1,x2,x3,x4,x5,x6,x7,x8,x9,x10,x11,x12,x13] t fr):=row_set h12 13 x13
 exact h13

theorem below_put14 {B:Nat} {v w:World} (h:Below B v w) {g:Nat} (hg:B≤g) (x0 x1 x2 x3 x4 x5 x6 x7 x8 x9 x10 x11 x12 x13:Value):Below B v (put14 w g x0 x1 x2 x3 x4 x5 x6 x7 x8 x9 x10 x11 x12 x13) :=
 ((((((((((((((h.setCell (p:=⟨g,0,none⟩) hg x0).setCell (p:=⟨g,1,none⟩) hg x1).setCell (p:=⟨g,2,none⟩) hg x2).setCell (p:=⟨g,3,none⟩) hg x3).setCell (p:=⟨g,4,none⟩) hg x4).setCell (p:=⟨g,5,none⟩) hg x5).setCell (p:=⟨g,6,none⟩) hg x6).setCell (p:=⟨g,7,none⟩) hg x7).setCell (p:=⟨g,8,none⟩) hg x8).setCell (p:=⟨g,9,none⟩) hg x9).setCell (p:=⟨g,10,none⟩) hg x10).setCell (p:=⟨g,11,none⟩) hg x11).setCell (p:=⟨g,12,none⟩) hg x12).setCell (p:=⟨g,13,none⟩) hg x13)

theorem Fam.put14 {B E:Nat} {w:World} {L:List FRow} (h:Fam B E w L) (g:Nat) (hg:g < B∨E≤g) (x0 x1 x2 x3 x4 x5 x6 x7 x8 x9 x10 x11 x12 x13:Value):Fam B E (put14 w g x0 x1 x2 x3 x4 x5 x6 x7 x8 x9 x10 x11 x12 x13) L :=
 ((((((((((((((h.set ⟨g,0,none⟩ x0 hg).set ⟨g,1,none⟩ x1 hg).set ⟨g,2,none⟩ x2 hg).set ⟨g,3,none⟩ x3 hg).set ⟨g,4,none⟩ x4 hg).set ⟨g,5,none⟩ x5 hg).set ⟨g,6,none⟩ x6 hg).set ⟨g,7,none⟩ x7 hg).set ⟨g,8,none⟩ x8 hg).set ⟨g,9,none⟩ x9 hg).set ⟨g,10,none⟩ x10 hg).set ⟨g,11,none⟩ x11 hg).set ⟨g,12,none⟩ x12 hg).set ⟨g,13,none⟩ x13 hg)

theorem mac_size:(Tryz.prog.info? 29).map (·.size)=some 14:=by kernel_rfl

structure MLen (M:MV):Prop where
 x:M.x.length≤1048576
 cs:M.cs.length≤1048576
 ram:M.ram.length≤1048576
 xs:M.d.xs.length≤1048576
 ys:M.d.ys.length≤1048576

structure KeepL (L:List FRow) (w w':World):Prop where
 os:w'.os=w.os
 tape:w'.tape=w.tape
 output:w'.output=w.output
 size:w.heap.size≤w'.heap.size
 block:∀ k,k < w.heap.size→(∀ q ∈ L,q.v.ownBlock≠some k)→w'.heap[k]?=w.heap[k]?

theorem KeepL.trans {L:List FRow} {a b c:World} (h:KeepL L a b) (k:KeepL L b c):KeepL L a c :=
 ⟨k.os.trans h.os,k.tape.trans h.tape,k.output.trans h.output,Nat.le_trans h.size k.size,fun i hi ho=>(k.block i (Nat.lt_of_lt_of_le hi h.size) ho).trans (h.block i hi ho)⟩

theorem KeepL.of_below {L:List FRow} {w w':World} (h:Below w.heap.size w w'):KeepL L w w':=⟨h.os,h.tape,h.output,h.size,fun k hk _=>h.block k hk⟩

theorem KeepL.of_grown {L:List FRow} {w w':World} {q:FRow} (h:w.grownBy w' q.v.ownBlock) (hq:q ∈ L):KeepL L w w' :=
 ⟨h.os,h.tape,h.output,h.size,fun k hk ho=>h.block k hk (fun e=>ho q hq e.symm)⟩

theorem KeepL.keep {L:List FRow} {B E:Nat} {w w':World} (h:KeepL L w w') (hf:Fam B E w L):Keep B E w w' :=
 ⟨h.os,h.tape,h.output,h.size,fun k hk ho=>h.block k hk (fun q hq e=>by have h1:=((hf.own q hq).lt k e).1;have h2:=hf.hi q hq k e;omega)⟩

theorem Fam.markL {B E:Nat} {w w':World} {L1 L2:List FRow} {r:FRow} (h:Fam B E w (L1 ++ r :: L2)) (hg:w.grownBy w' r.v.ownBlock) (xs:List Value) (ho:w'.ownsRow B r.t 1 r.v r.n xs):Fam B E w' (L1 ++ ⟨r.t,r.v,r.n,xs⟩ :: L2)∧KeepL (L1 ++ r :: L2) w w' :=
 ⟨(h.mark hg xs ho).1,KeepL.of_grown hg (by simp)⟩

theorem l3If_dev (b:Bool) (w:World):Calls Tryz.prog 95 #[.bool b] w fun e w'=>e=.returned (.int .u64 (oneIf b))∧w'=w:=by
 cases b with
 | false =>
  go_enter Tryz.func95,Tryz.ntmps95
  go_wp2_with fail
  go_ret
  exact ⟨rfl,rfl⟩
 | true =>
  go_enter Tryz.func95,Tryz.ntmps95
  go_wp2_with fail
  go_ret
  exact ⟨rfl,rfl⟩

theorem l1In_8 (x:Int) (w:World):Calls Tryz.prog 55 #[.int .i64 x,.int .i64 0,.int .i64 1] w fun e w'=>e=.returned (.bool (decide (0≤x∧x≤1)))∧w'=w:=by
 by_cases h1:0≤x
 ·by_cases h2:x≤1
  ·have F:Hid (decide (0≤x∧x≤1)=true):=by show decide (0≤x∧x≤1)=true;simp [h1,h2]
   have d1:decide (0≤x)=true:=by simpa using h1
   have d2:decide (x≤1)=true:=by simpa using h2
   clear h1 h2
   generalize decide (0≤x∧x≤1)=v at *
   go_enter Tryz.func55,Tryz.ntmps55
   go_wp2
   go_ret
   exact ⟨by rw [F.out];rfl,rfl⟩
  ·have F:Hid (decide (0≤x∧x≤1)=false):=by show _=false;simp;omega
   have d1:decide (0≤x)=true:=by simpa using h1
   have d2:decide (x≤1)=false:=by simpa using h2
   clear h1 h2
   generalize decide (0≤x∧x≤1)=v at *
   go_enter Tryz.func55,Tryz.ntmps55
   go_wp2
   go_ret
   exact ⟨by rw [F.out];rfl,rfl⟩
 ·have F:Hid (decide (0≤x∧x≤1)=false):=by show _=false;simp;omega
  have d1:decide (0≤x)=false:=by simpa using h1
  clear h1
  generalize decide (0≤x∧x≤1)=v at *
  go_enter Tryz.func55,Tryz.ntmps55
  go_wp2
  go_ret
  exact ⟨by rw [F.out];rfl,rfl⟩

theorem specDevOk_any (t cm:Int) (so:Bool) (a1:Option Addr) (n1 c1:Nat) (a2:Option Addr) (n2 c2:Nat) (ir:Int) (w:World) (hn1:n1≤1048576) (hn2:n2≤1048576) :
 Calls Tryz.prog 53 #[.agg #[.int .u64 t,.int .u64 cm,.bool so,.slice a1 n1 c1,.slice a2 n2 c2,.int .i64 ir]] w fun e w'=>e=.returned (.bool (okD n1 n2 ir))∧Below w.heap.size w w':=by
 have HI:Hid (∀ w,Calls Tryz.prog 55 #[.int .i64 ir,.int .i64 0,.int .i64 1] w fun e w'=>e=.returned (.bool (decide (0≤ir∧ir≤1)))∧w'=w):=l1In_8 ir
 have hB:∀ o,Below w.heap.size w (w.alloc o):=fun o=>(Below.refl _ _).alloc (Nat.le_refl _) o
 have F:okD n1 n2 ir=(decide (n1≤16)&&decide (n2≤4096)&&decide (0≤ir∧ir≤1)):=rfl
 generalize okD n1 n2 ir=v at *
 generalize decide (0≤ir∧ir≤1)=q at *
 by_cases h1:n1≤16
 ·have d1:decide ((n1:Int)≤16)=true:=by simp;omega
  by_cases h2:n2≤4096
  ·have d2:decide ((n2:Int)≤4096)=true:=by simp;omega
   have F2:Hid (v=q):=by show v=q;rw [F,decide_eq_true h1,decide_eq_true h2];rfl
   clear F h1 h2 hn1 hn2
   go_enter Tryz.func53,Tryz.ntmps53
   go_wp2_with fail
   refine (HI.out _).mono ?_
   rintro e w1 ⟨rfl,hw1⟩
   subst hw1
   go_wp2_with fail
   go_ret
   exact ⟨by rw [F2.out];rfl,hB _⟩
  ·have d2:decide ((n2:Int)≤4096)=false:=by simp;omega
   have F2:Hid (v=false):=by show v=_;rw [F,decide_eq_true h1,decide_eq_false h2];rfl
   clear F h1 h2 hn1 hn2
   go_enter Tryz.func53,Tryz.ntmps53
   go_wp2_with fail
   go_ret
   exact ⟨by rw [F2.out];rfl,hB _⟩
 ·have d1:decide ((n1:Int)≤16)=false:=by simp;omega
  have F2:Hid (v=false):=by show v=_;rw [F,decide_eq_false h1];rfl
  clear F h1 hn1 hn2
  go_enter Tryz.func53,Tryz.ntmps53
  go_wp2_with fail
  go_ret
  exact ⟨by rw [F2.out];rfl,hB _⟩

theorem row_al8 {W:World} {g:Nat} {o:Obj} (h:W.heap[g]?=some o) (o':Obj):(W.alloc o').heap[g]?=some o:=(Below.heap_alloc W o' g (Array.getElem?_eq_some_iff.1 h).1).trans h

theorem app2 {w w1:World} {o1 o2 o3:Obj} (gr:(((w.alloc o1).alloc o2).alloc o3).grownBy w1 (some (w.heap.size+1+1))):w1.heap[w.heap.size]?=some o1∧w1.heap[w.heap.size+1]?=some o2∧Below w.heap.size w w1∧w.heap.size+1+1+1≤w1.heap.size:=by
 obtain ⟨h1,h2,_⟩:=rows3 (w:=w) (o1:=o1) (o2:=o2) (o3:=o3) (Below.refl _ (((w.alloc o1).alloc o2).alloc o3))
 have hs:=gr.size
 simp only [World.size_alloc] at hs
 refine ⟨(gr.block _ (by simp only [World.size_alloc];omega) (by simp;omega)).trans h1,(gr.block _ (by simp only [World.size_alloc];omega) (by simp)).trans h2,?_,hs⟩
 exact Below.grown ((((Below.refl _ _).alloc (Nat.le_refl _) o1).alloc (by simp) o2).alloc (by simp;omega) o3) gr (by simp only [World.size_alloc];omega) (fun k hk=>by simp at hk;omega)

theorem app1 {w w1:World} {o:Obj} {g:Nat} (gr:(w.alloc o).grownBy w1 (some g)) (hg:g=w.heap.size):Below w.heap.size w w1:=by
 subst hg
 exact Below.grown ((Below.refl _ _).alloc (Nat.le_refl _) o) gr (by simp) (fun k hk=>by simp at hk;omega)

set_option maxRecDepth 100000 in
set_option maxHeartbeats 1600000 in
theorem l8Copy_any (t cm:Int) (so:Bool) (a1:Option Addr) (n1 c1:Nat) (a2:Option Addr) (n2 c2:Nat) (ir:Int) (xs ys:List Int) (w:World) (hx:xs.length=n1) (hy:ys.length=n2) (hn1:n1≤1048576) (hn2:n2≤1048576) (hs1:Sl .u8 w a1 xs) (hs2:Sl .u8 w a2 ys) :
 Calls Tryz.prog 56 #[.agg #[.int .u64 t,.int .u64 cm,.bool so,.slice a1 n1 c1,.slice a2 n2 c2,.int .i64 ir]] w fun e w'=>∃ (b1:Option Addr) (d1:Nat) (b2:Option Addr) (d2:Nat),e=.returned (.agg #[.int .u64 t,.int .u64 cm,.bool so,.slice b1 n1 d1,.slice b2 n2 d2,.int .i64 ir]) ∧
  Fam w.heap.size w'.heap.size w' (devF b1 n1 d1 xs b2 n2 d2 ys)∧Below w.heap.size w w':=by
 have hB2:∀ o1 o2,Below w.heap.size w ((w.alloc o1).alloc o2):=fun o1 o2=>((Below.refl _ _).alloc (Nat.le_refl _) o1).alloc (by simp) o2
 have hE:=own_empty8 ((w.alloc (.cells #[.int .u64 t,.int .u64 cm,.bool so,.slice a1 n1 c1,.slice a2 n2 c2,.int .i64 ir] 27)).alloc (.cells #[.int .u64 0,.int .u64 0,.bool false,.slice none 0 0,.slice none 0 0,.int .i64 0] 27)) (w.heap.size+1+1) (by simp) (.cells #[] 5 (0,0)) rfl
 rw [World.size_alloc,World.size_alloc] at hE
 have HS1:Hid (∀ w',Below w.heap.size w w'→Sl .u8 w' a1 xs):=fun w' hb=>hs1.below hb
 have HS2:Hid (∀ w',Below w.heap.size w w'→Sl .u8 w' a2 ys):=fun w' hb=>hs2.below hb
 have HX:Hid (xs.length=n1∧ys.length=n2∧n1≤1048576∧n2≤1048576):=⟨hx,hy,hn1,hn2⟩
 clear hs1 hs2 hx hy hn1 hn2
 go_enter Tryz.func56,Tryz.ntmps56
 go_wp2_with (first
  | (at_builtin;refine wpList_app8 rfl (.tmp 3) (.tmp 5) rfl (w.heap.size+1+1) _ rfl hE a1 n1 c1 xs rfl HX.out.1 HX.out.2.2.1 (HS1.out _ ((hB2 _ _).alloc (hB2 _ _).size _)) (by simp) ?_;intro b1 d1 w1 ow1 gr1;obtain ⟨r0,r1,hb1,z1⟩:=app2 gr1;have R0:=dhid r0;have R1:=dhid r1;have B1:=dhid hb1;have Z1:=dhid z1;have A1:=dhid ((Fam.nil (w.heap.size+1+1) (w.heap.size+1+1) w1).snoc (bRow b1 n1 d1 xs) _ w1.heap.size ow1 (Nat.le_refl _) (Nat.le_refl _) (Nat.le_refl _) (by omega));obtain ⟨p0,p1,p2,p3,p4,p5⟩:=cells6 r0;have f3:=froz r0 3;have hE2:=own_empty8 (w1.setCell ⟨w.heap.size,3,none⟩ (.slice b1 n1 d1)) w1.heap.size (by rw [size_set];exact Nat.le_refl _) (.cells #[] 5 (0,0)) rfl;rw [size_set] at hE2;have R0':(w1.setCell ⟨w.heap.size,3,none⟩ (.slice b1 n1 d1)).heap[w.heap.size]?=some (.cells #[.int .u64 t,.int .u64 cm,.bool so,.slice b1 n1 d1,.slice a2 n2 c2,.int .i64 ir] 27 (0,0)):=row_set R0.out 3 (.slice b1 n1 d1);have p4':=fun o=>(cells6 (row_al8 R0' o)).2.2.2.2.1;clear r0 r1 hb1 z1 ow1 gr1 R0')
  | (at_builtin;refine wpList_app8 rfl (.tmp 8) (.tmp 10) rfl w1.heap.size _ rfl hE2 a2 n2 c2 ys rfl HX.out.2.1 HX.out.2.2.2 (HS2.out _ ((B1.out.setCell (p:=⟨w.heap.size,3,none⟩) (Nat.le_refl _) _).alloc (B1.out.setCell (p:=⟨w.heap.size,3,none⟩) (Nat.le_refl _) _).size _)) (by rw [World.size_alloc,size_set];omega) ?_;intro b2 d2 w2 ow2 gr2;have hb2:=app1 gr2 (by rw [size_set]);have z2:=hb2.size;have S0:Hid (w2.heap[w.heap.size]?=some (.cells #[.int .u64 t,.int .u64 cm,.bool so,.slice b1 n1 d1,.slice a2 n2 c2,.int .i64 ir] 27 (0,0))):=dstays hb2 (row_set R0.out 3 (.slice b1 n1 d1));have S1:=dhid (dstays hb2 (row_far R1.out ⟨w.heap.size,3,none⟩ (.slice b1 n1 d1) (by dsimp only;omega)));have B2:=dhid (below_trans (B1.out.setCell (p:=⟨w.heap.size,3,none⟩) (Nat.le_refl _) (.slice b1 n1 d1)) hb2);rw [size_set] at z2;have A2:=dhid (((A1.out.set ⟨w.heap.size,3,none⟩ (.slice b1 n1 d1) (.inl (by dsimp only;omega))).below hb2).snoc (bRow b2 n2 d2 ys) _ w2.heap.size ow2 (Nat.le_refl _) (by have:=Z1.out;omega) (Nat.le_refl _) z2);clear p0 p1 p2 p3 p4 p5 f3 p4';obtain ⟨p0,p1,p2,p3,p4,p5⟩:=cells6 S0.out;have f4:=froz S0.out 4;obtain ⟨s0,s1,s2,s3,s4,s5⟩:=cells6 S1.out;obtain ⟨y0,y1,y2,y3,y4,y5⟩:=froz6 S1.out;clear ow2 gr2 hb2 z2))
 have T1:=row_far S1.out ⟨w.heap.size,4,none⟩ (.slice b2 n2 d2) (by dsimp only;omega)
 have A3:=(A2.out.set ⟨w.heap.size,4,none⟩ (.slice b2 n2 d2) (.inl (by dsimp only;omega))).put6 (w.heap.size+1) (.inl (by omega)) (.int .u64 t) (.int .u64 cm) (.bool so) (.slice b1 n1 d1) (.slice b2 n2 d2) (.int .i64 ir)
 have B3:=below_put6 (B2.out.setCell (p:=⟨w.heap.size,4,none⟩) (Nat.le_refl _) (.slice b2 n2 d2)) (g:=w.heap.size+1) (by omega) (.int .u64 t) (.int .u64 cm) (.bool so) (.slice b1 n1 d1) (.slice b2 n2 d2) (.int .i64 ir)
 exact bodyPost_ret (results_cell_row Tryz.results56 _ _ _ _ _ _ _ rfl (row_put6 T1 _ _ _ _ _ _) Tryz.underlying27 rfl dev_size) rfl ⟨b1,d1,b2,d2,rfl,A3.low (by omega) (by simp only [size_set];exact Nat.le_refl _),B3⟩

theorem row_drew {W:World} {g:Nat} {o:Obj} (h:W.heap[g]?=some o):W.drew.heap[g]?=some o:=h

theorem row2d {w:World} {o1 o2:Obj}:((w.alloc o1).alloc o2).drew.heap[w.heap.size+1]?=some o2:=(rows2 (w:=w) (o1:=o1) (o2:=o2) (Below.refl _ ((w.alloc o1).alloc o2))).2

theorem row2n {w:World} {o1 o2:Obj}:((w.alloc o1).alloc o2).heap[w.heap.size+1]?=some o2:=(rows2 (w:=w) (o1:=o1) (o2:=o2) (Below.refl _ ((w.alloc o1).alloc o2))).2

theorem below2d {w:World} {o1 o2:Obj}:Below w.heap.size w ((w.alloc o1).alloc o2).drew:=(((Below.refl _ _).alloc (Nat.le_refl _) o1).alloc (by simp) o2).drew

theorem below2n {w:World} {o1 o2:Obj}:Below w.heap.size w ((w.alloc o1).alloc o2):=((Below.refl _ _).alloc (Nat.le_refl _) o1).alloc (by simp) o2

set_option maxRecDepth 100000 in
set_option maxHeartbeats 1600000 in
theorem l8Load_0 (t cm:Int) (so:Bool) (a1:Option Addr) (n1 c1:Nat) (a2:Option Addr) (n2 c2:Nat) (ir:Int) (w:World) :
 Calls Tryz.prog 63 #[.agg #[.int .u64 t,.int .u64 cm,.bool so,.slice a1 n1 c1,.slice a2 n2 c2,.int .i64 ir],.int .u64 33554432,.int .i64 4] w fun e w'=>e=.returned (.tuple #[.int .u64 (oneIf so),.agg #[.int .u64 t,.int .u64 cm,.bool so,.slice a1 n1 c1,.slice a2 n2 c2,.int .i64 ir],.bool true])∧Below w.heap.size w w':=by
 have HI:Hid (∀ w,Calls Tryz.prog 95 #[.bool so] w fun e w'=>e=.returned (.int .u64 (oneIf so))∧w'=w):=l3If_dev so
 generalize oneIf so=v at *
 go_enter Tryz.func63,Tryz.ntmps63
 go_wp2_with fail
 go_region_with (first | (go_at_call 95;with_reducible refine (HI.out _).mono ?_;rintro e w1 ⟨rfl,hw1⟩;subst hw1))
 all_goals go_wp2_with fail
 all_goals exact bodyPost_ret (results_tct8 Tryz.results63 _ _ _ _ _ _ _ rfl row2d Tryz.underlying27 rfl dev_size) rfl ⟨rfl,below2d⟩

set_option maxRecDepth 100000 in
set_option maxHeartbeats 1600000 in
theorem l8Load_1 (t cm:Int) (so:Bool) (a1:Option Addr) (n1 c1:Nat) (a2:Option Addr) (n2 c2:Nat) (ir:Int) (w:World) :
 Calls Tryz.prog 63 #[.agg #[.int .u64 t,.int .u64 cm,.bool so,.slice a1 n1 c1,.slice a2 n2 c2,.int .i64 ir],.int .u64 33570816,.int .i64 8] w fun e w'=>e=.returned (.tuple #[.int .u64 cm,.agg #[.int .u64 t,.int .u64 cm,.bool so,.slice a1 n1 c1,.slice a2 n2 c2,.int .i64 ir],.bool true])∧Below w.heap.size w w':=by
 go_enter Tryz.func63,Tryz.ntmps63
 go_wp2_with fail
 go_region
 go_wp2_with fail
 exact bodyPost_ret (results_tct8 Tryz.results63 _ _ _ _ _ _ _ rfl row2d Tryz.underlying27 rfl dev_size) rfl ⟨rfl,below2d⟩

set_option maxRecDepth 100000 in
set_option maxHeartbeats 1600000 in
theorem l8Load_2 (t cm:Int) (so:Bool) (a1:Option Addr) (n1 c1:Nat) (a2:Option Addr) (n2 c2:Nat) (ir:Int) (w:World) :
 Calls Tryz.prog 63 #[.agg #[.int .u64 t,.int .u64 cm,.bool so,.slice a1 n1 c1,.slice a2 n2 c2,.int .i64 ir],.int .u64 33603576,.int .i64 8] w fun e w'=>e=.returned (.tuple #[.int .u64 t,.agg #[.int .u64 t,.int .u64 cm,.bool so,.slice a1 n1 c1,.slice a2 n2 c2,.int .i64 ir],.bool true])∧Below w.heap.size w w':=by
 go_enter Tryz.func63,Tryz.ntmps63
 go_wp2_with fail
 go_region
 go_wp2_with fail
 exact bodyPost_ret (results_tct8 Tryz.results63 _ _ _ _ _ _ _ rfl row2d Tryz.underlying27 rfl dev_size) rfl ⟨rfl,below2d⟩

set_option maxRecDepth 100000 in
set_option maxHeartbeats 1600000 in
theorem l8Load_3e (t cm:Int) (so:Bool) (a1:Option Addr) (c1:Nat) (a2:Option Addr) (n2 c2:Nat) (ir:Int) (w:World) :
 Calls Tryz.prog 63 #[.agg #[.int .u64 t,.int .u64 cm,.bool so,.slice a1 0 c1,.slice a2 n2 c2,.int .i64 ir],.int .u64 268435456,.int .i64 1] w fun e w'=>e=.returned (.tuple #[.int .u64 0,.agg #[.int .u64 t,.int .u64 cm,.bool so,.slice a1 0 c1,.slice a2 n2 c2,.int .i64 ir],.bool true])∧Below w.heap.size w w':=by
 go_enter Tryz.func63,Tryz.ntmps63
 go_wp2_with fail
 go_region
 go_wp2_with fail
 exact bodyPost_ret (results_tct8 Tryz.results63 _ _ _ _ _ _ _ rfl row2d Tryz.underlying27 rfl dev_size) rfl ⟨rfl,below2d⟩

set_option maxRecDepth 100000 in
set_option maxHeartbeats 1600000 in
theorem l8Load_4 (t cm:Int) (so:Bool) (a1:Option Addr) (n1 c1:Nat) (a2:Option Addr) (n2 c2:Nat) (ir:Int) (w:World) :
 Calls Tryz.prog 63 #[.agg #[.int .u64 t,.int .u64 cm,.bool so,.slice a1 n1 c1,.slice a2 n2 c2,.int .i64 ir],.int .u64 268435457,.int .i64 1] w fun e w'=>e=.returned (.tuple #[.int .u64 (IntKind.u64.wrap ir),.agg #[.int .u64 t,.int .u64 cm,.bool so,.slice a1 n1 c1,.slice a2 n2 c2,.int .i64 ir],.bool true])∧Below w.heap.size w w':=by
 go_enter Tryz.func63,Tryz.ntmps63
 go_wp2_with fail
 go_region
 go_wp2_with fail
 exact bodyPost_ret (results_tct8 Tryz.results63 _ _ _ _ _ _ _ rfl row2d Tryz.underlying27 rfl dev_size) rfl ⟨rfl,below2d⟩

set_option maxRecDepth 100000 in
set_option maxHeartbeats 1600000 in
theorem l8Load_5 (t cm:Int) (so:Bool) (a1:Option Addr) (n1 c1:Nat) (a2:Option Addr) (n2 c2:Nat) (ir:Int) (hn1:n1≤1048576) (w:World) :
 Calls Tryz.prog 63 #[.agg #[.int .u64 t,.int .u64 cm,.bool so,.slice a1 n1 c1,.slice a2 n2 c2,.int .i64 ir],.int .u64 268435461,.int .i64 1] w fun e w'=>e=.returned (.tuple #[.int .u64 (IntKind.u64.wrap (32+oneIf (decide (0 < n1)))),.agg #[.int .u64 t,.int .u64 cm,.bool so,.slice a1 n1 c1,.slice a2 n2 c2,.int .i64 ir],.bool true])∧Below w.heap.size w w':=by
 have HI:Hid (∀ w,Calls Tryz.prog 95 #[.bool (decide (0 < n1))] w fun e w'=>e=.returned (.int .u64 (oneIf (decide (0 < n1))))∧w'=w):=l3If_dev _
 generalize oneIf (decide (0 < n1))=v at *
 clear hn1
 go_enter Tryz.func63,Tryz.ntmps63
 go_wp2_with fail
 go_region_with (first | (go_at_call 95;with_reducible refine (HI.out _).mono ?_;rintro e w1 ⟨rfl,hw1⟩;subst hw1))
 all_goals go_wp2_with fail
 all_goals exact bodyPost_ret (results_tct8 Tryz.results63 _ _ _ _ _ _ _ rfl row2d Tryz.underlying27 rfl dev_size) rfl ⟨rfl,below2d⟩

set_option maxRecDepth 100000 in
set_option maxHeartbeats 1600000 in
theorem l8Load_6 (t cm:Int) (so:Bool) (a1:Option Addr) (n1 c1:Nat) (a2:Option Addr) (n2 c2:Nat) (ir:Int) (addr size:Int) (k0:addr=33554432→¬ size=4) (k1:addr=33570816→¬ size=8) (k2:addr=33603576→¬ size=8) (k3:addr=268435456→¬ size=1) (k4:addr=268435457→¬ size=1) (k5:addr=268435461→¬ size=1) (w:World) :
 Calls Tryz.prog 63 #[.agg #[.int .u64 t,.int .u64 cm,.bool so,.slice a1 n1 c1,.slice a2 n2 c2,.int .i64 ir],.int .u64 addr,.int .i64 size] w fun e w'=>e=.returned (.tuple #[.int .u64 0,.agg #[.int .u64 0,.int .u64 0,.bool false,.slice none 0 0,.slice none 0 0,.int .i64 0],.bool false])∧Below w.heap.size w w':=by
 by_cases q0:addr=33554432
 ·have s0:(size==4)=false:=by simpa using k0 q0
  subst q0
  clear k0 k1 k2 k3 k4 k5
  go_enter Tryz.func63,Tryz.ntmps63
  go_wp2_with fail
  exact bodyPost_ret (results_tct8 Tryz.results63 _ _ _ _ _ _ _ rfl row2n Tryz.underlying27 rfl dev_size) rfl ⟨rfl,below2n⟩
 ·have t0:(addr==33554432)=false:=by simpa using q0
  by_cases q1:addr=33570816
  ·have s1:(size==8)=false:=by simpa using k1 q1
   subst q1
   clear k0 k1 k2 k3 k4 k5
   go_enter Tryz.func63,Tryz.ntmps63
   go_wp2_with fail
   exact bodyPost_ret (results_tct8 Tryz.results63 _ _ _ _ _ _ _ rfl row2n Tryz.underlying27 rfl dev_size) rfl ⟨rfl,below2n⟩
  ·have t1:(addr==33570816)=false:=by simpa using q1
   by_cases q2:addr=33603576
   ·have s2:(size==8)=false:=by simpa using k2 q2
    subst q2
    clear k0 k1 k2 k3 k4 k5
    go_enter Tryz.func63,Tryz.ntmps63
    go_wp2_with fail
    exact bodyPost_ret (results_tct8 Tryz.results63 _ _ _ _ _ _ _ rfl row2n Tryz.underlying27 rfl dev_size) rfl ⟨rfl,below2n⟩
   ·have t2:(addr==33603576)=false:=by simpa using q2
    by_cases q3:addr=268435456
    ·have s3:(size==1)=false:=by simpa using k3 q3
     subst q3
     clear k0 k1 k2 k3 k4 k5
     go_enter Tryz.func63,Tryz.ntmps63
     go_wp2_with fail
     exact bodyPost_ret (results_tct8 Tryz.results63 _ _ _ _ _ _ _ rfl row2n Tryz.underlying27 rfl dev_size) rfl ⟨rfl,below2n⟩
    ·have t3:(addr==268435456)=false:=by simpa using q3
     by_cases q4:addr=268435457
     ·have s4:(size==1)=false:=by simpa using k4 q4
      subst q4
      clear k0 k1 k2 k3 k4 k5
      go_enter Tryz.func63,Tryz.ntmps63
      go_wp2_with fail
      exact bodyPost_ret (results_tct8 Tryz.results63 _ _ _ _ _ _ _ rfl row2n Tryz.underlying27 rfl dev_size) rfl ⟨rfl,below2n⟩
     ·have t4:(addr==268435457)=false:=by simpa using q4
      by_cases q5:addr=268435461
      ·have s5:(size==1)=false:=by simpa using k5 q5
       subst q5
       clear k0 k1 k2 k3 k4 k5
       go_enter Tryz.func63,Tryz.ntmps63
       go_wp2_with fail
       exact bodyPost_ret (results_tct8 Tryz.results63 _ _ _ _ _ _ _ rfl row2n Tryz.underlying27 rfl dev_size) rfl ⟨rfl,below2n⟩
      ·have t5:(addr==268435461)=false:=by simpa using q5
       clear k0 k1 k2 k3 k4 k5 q0 q1 q2 q3 q4 q5
       go_enter Tryz.func63,Tryz.ntmps63
       go_wp2_with fail
       exact bodyPost_ret (results_tct8 Tryz.results63 _ _ _ _ _ _ _ rfl row2n Tryz.underlying27 rfl dev_size) rfl ⟨rfl,below2n⟩

theorem Sl.next {w:World} {b off:Nat} {zs:List Int} (h:Sl .u8 w (some ⟨b,off,none⟩) zs):Sl .u8 w (some ⟨b,off+1,none⟩) (zs.drop 1):=by
 intro i hi
 rw [List.length_drop] at hi
 obtain ⟨b',off',e,hb,hc⟩:=h (i+1) (by omega)
 simp only [Option.some.injEq,Addr.mk.injEq,and_true] at e
 obtain ⟨rfl,rfl⟩:=e
 refine ⟨_,_,rfl,hb,?_⟩
 have e2:(zs.drop 1).getD i 0=zs.getD (i+1) 0:=by
  rw [List.getD_eq_getElem?_getD,List.getD_eq_getElem?_getD,List.getElem?_drop,Nat.add_comm]
 rw [e2,show off+1+i=off+(i+1) from by omega]
 exact hc

theorem fam_shape {B E:Nat} {w:World} {a1:Option Addr} {n1 c1:Nat} {xs:List Int} {a2:Option Addr} {n2 c2:Nat} {ys:List Int} (h:Fam B E w (devF a1 n1 c1 xs a2 n2 c2 ys)) (hn:1≤n1):∃ g,a1=some ⟨g,0,none⟩∧n1≤c1∧c1≤maxLen:=by
 have ho:=h.own (bRow a1 n1 c1 xs) (by simp [devF])
 rcases ho.2 with ⟨_,h3⟩ | ⟨g,cap,cur,hv,_,_,h4,h5,_⟩
 ·have:n1=0:=h3
  omega
 ·injection hv with e1 e2 e3
  subst e1 e3
  exact ⟨g,rfl,h4,h5⟩

theorem okD_bd {n1 n2:Nat} {ir:Int} (h:okD n1 n2 ir=true):n1≤16∧n2≤4096∧0≤ir∧ir≤1:=by
 unfold okD at h
 simp only [Bool.and_eq_true,decide_eq_true_eq] at h
 exact ⟨h.1.1,h.1.2,h.2.1,h.2.2⟩

set_option maxRecDepth 100000 in
set_option maxHeartbeats 1600000 in
theorem l8Store_0 (t cm:Int) (so:Bool) (a1:Option Addr) (n1 c1:Nat) (a2:Option Addr) (n2 c2:Nat) (ir:Int) (x:Int) (w:World) :
 Calls Tryz.prog 65 #[.agg #[.int .u64 t,.int .u64 cm,.bool so,.slice a1 n1 c1,.slice a2 n2 c2,.int .i64 ir],.int .u64 33554432,.int .i64 4,.int .u64 x] w fun e w'=>e=.returned (.tuple #[.agg #[.int .u64 t,.int .u64 cm,.bool (bits .and .u64 x 1==1),.slice a1 n1 c1,.slice a2 n2 c2,.int .i64 ir],.bool true])∧Below w.heap.size w w':=by
 go_enter Tryz.func65,Tryz.ntmps65
 go_wp2_with fail
 exact bodyPost_ret (results_ct8 Tryz.results65 _ _ _ _ _ _ _ rfl row2n Tryz.underlying27 rfl dev_size) rfl ⟨rfl,below2n⟩

set_option maxRecDepth 100000 in
set_option maxHeartbeats 1600000 in
theorem l8Store_1 (t cm:Int) (so:Bool) (a1:Option Addr) (n1 c1:Nat) (a2:Option Addr) (n2 c2:Nat) (ir:Int) (x:Int) (w:World) :
 Calls Tryz.prog 65 #[.agg #[.int .u64 t,.int .u64 cm,.bool so,.slice a1 n1 c1,.slice a2 n2 c2,.int .i64 ir],.int .u64 33570816,.int .i64 8,.int .u64 x] w fun e w'=>e=.returned (.tuple #[.agg #[.int .u64 t,.int .u64 x,.bool so,.slice a1 n1 c1,.slice a2 n2 c2,.int .i64 ir],.bool true])∧Below w.heap.size w w':=by
 go_enter Tryz.func65,Tryz.ntmps65
 go_wp2_with fail
 exact bodyPost_ret (results_ct8 Tryz.results65 _ _ _ _ _ _ _ rfl row2n Tryz.underlying27 rfl dev_size) rfl ⟨rfl,below2n⟩

set_option maxRecDepth 100000 in
set_option maxHeartbeats 1600000 in
theorem l8Store_2 (t cm:Int) (so:Bool) (a1:Option Addr) (n1 c1:Nat) (a2:Option Addr) (n2 c2:Nat) (ir:Int) (x:Int) (w:World) :
 Calls Tryz.prog 65 #[.agg #[.int .u64 t,.int .u64 cm,.bool so,.slice a1 n1 c1,.slice a2 n2 c2,.int .i64 ir],.int .u64 33603576,.int .i64 8,.int .u64 x] w fun e w'=>e=.returned (.tuple #[.agg #[.int .u64 x,.int .u64 cm,.bool so,.slice a1 n1 c1,.slice a2 n2 c2,.int .i64 ir],.bool true])∧Below w.heap.size w w':=by
 go_enter Tryz.func65,Tryz.ntmps65
 go_wp2_with fail
 exact bodyPost_ret (results_ct8 Tryz.results65 _ _ _ _ _ _ _ rfl row2n Tryz.underlying27 rfl dev_size) rfl ⟨rfl,below2n⟩

set_option maxRecDepth 100000 in
set_option maxHeartbeats 1600000 in
theorem l8Store_3f (t cm:Int) (so:Bool) (a1:Option Addr) (n1 c1:Nat) (a2:Option Addr) (n2 c2:Nat) (ir:Int) (x:Int) (hf:¬ n2 < 4096) (hn2:n2≤4096) (w:World) :
 Calls Tryz.prog 65 #[.agg #[.int .u64 t,.int .u64 cm,.bool so,.slice a1 n1 c1,.slice a2 n2 c2,.int .i64 ir],.int .u64 268435456,.int .i64 1,.int .u64 x] w fun e w'=>e=.returned (.tuple #[.agg #[.int .u64 t,.int .u64 cm,.bool so,.slice a1 n1 c1,.slice a2 n2 c2,.int .i64 ir],.bool true])∧Below w.heap.size w w':=by
 have dd:decide ((n2:Int) < 4096)=false:=by simp;omega
 clear hf hn2
 go_enter Tryz.func65,Tryz.ntmps65
 go_wp2_with fail
 exact bodyPost_ret (results_ct8 Tryz.results65 _ _ _ _ _ _ _ rfl row2n Tryz.underlying27 rfl dev_size) rfl ⟨rfl,below2n⟩

set_option maxRecDepth 100000 in
set_option maxHeartbeats 1600000 in
theorem l8Store_4 (t cm:Int) (so:Bool) (a1:Option Addr) (n1 c1:Nat) (a2:Option Addr) (n2 c2:Nat) (ir:Int) (x:Int) (w:World) :
 Calls Tryz.prog 65 #[.agg #[.int .u64 t,.int .u64 cm,.bool so,.slice a1 n1 c1,.slice a2 n2 c2,.int .i64 ir],.int .u64 268435457,.int .i64 1,.int .u64 x] w fun e w'=>e=.returned (.tuple #[.agg #[.int .u64 t,.int .u64 cm,.bool so,.slice a1 n1 c1,.slice a2 n2 c2,.int .i64 (wrap64 (bits .and .u64 x 1))],.bool true])∧Below w.heap.size w w':=by
 go_enter Tryz.func65,Tryz.ntmps65
 go_wp2_with fail
 exact bodyPost_ret (results_ct8 Tryz.results65 _ _ _ _ _ _ _ rfl row2n Tryz.underlying27 rfl dev_size) rfl ⟨rfl,below2n⟩

set_option maxRecDepth 100000 in
set_option maxHeartbeats 1600000 in
theorem l8Store_5 (t cm:Int) (so:Bool) (a1:Option Addr) (n1 c1:Nat) (a2:Option Addr) (n2 c2:Nat) (ir:Int) (x:Int) (w:World) :
 Calls Tryz.prog 65 #[.agg #[.int .u64 t,.int .u64 cm,.bool so,.slice a1 n1 c1,.slice a2 n2 c2,.int .i64 ir],.int .u64 268435461,.int .i64 1,.int .u64 x] w fun e w'=>e=.returned (.tuple #[.agg #[.int .u64 t,.int .u64 cm,.bool so,.slice a1 n1 c1,.slice a2 n2 c2,.int .i64 ir],.bool true])∧Below w.heap.size w w':=by
 go_enter Tryz.func65,Tryz.ntmps65
 go_wp2_with fail
 exact bodyPost_ret (results_ct8 Tryz.results65 _ _ _ _ _ _ _ rfl row2n Tryz.underlying27 rfl dev_size) rfl ⟨rfl,below2n⟩

set_option maxRecDepth 100000 in
set_option maxHeartbeats 1600000 in
theorem l8Store_6 (t cm:Int) (so:Bool) (a1:Option Addr) (n1 c1:Nat) (a2:Option Addr) (n2 c2:Nat) (ir:Int) (x addr size:Int) (k0:addr=33554432→¬ size=4) (k1:addr=33570816→¬ size=8) (k2:addr=33603576→¬ size=8) (k3:addr=268435456→¬ size=1) (k4:addr=268435457→¬ size=1) (k5:addr=268435461→¬ size=1) (w:World) :
 Calls Tryz.prog 65 #[.agg #[.int .u64 t,.int .u64 cm,.bool so,.slice a1 n1 c1,.slice a2 n2 c2,.int .i64 ir],.int .u64 addr,.int .i64 size,.int .u64 x] w fun e w'=>e=.returned (.tuple #[.agg #[.int .u64 0,.int .u64 0,.bool false,.slice none 0 0,.slice none 0 0,.int .i64 0],.bool false])∧Below w.heap.size w w':=by
 by_cases q0:addr=33554432
 ·have s0:(size==4)=false:=by simpa using k0 q0
  subst q0
  clear k0 k1 k2 k3 k4 k5
  go_enter Tryz.func65,Tryz.ntmps65
  go_wp2_with fail
  exact bodyPost_ret (results_ct8 Tryz.results65 _ _ _ _ _ _ _ rfl row2n Tryz.underlying27 rfl dev_size) rfl ⟨rfl,below2n⟩
 ·have t0:(addr==33554432)=false:=by simpa using q0
  by_cases q1:addr=33570816
  ·have s1:(size==8)=false:=by simpa using k1 q1
   subst q1
   clear k0 k1 k2 k3 k4 k5
   go_enter Tryz.func65,Tryz.ntmps65
   go_wp2_with fail
   exact bodyPost_ret (results_ct8 Tryz.results65 _ _ _ _ _ _ _ rfl row2n Tryz.underlying27 rfl dev_size) rfl ⟨rfl,below2n⟩
  ·have t1:(addr==33570816)=false:=by simpa using q1
   by_cases q2:addr=33603576
   ·have s2:(size==8)=false:=by simpa using k2 q2
    subst q2
    clear k0 k1 k2 k3 k4 k5
    go_enter Tryz.func65,Tryz.ntmps65
    go_wp2_with fail
    exact bodyPost_ret (results_ct8 Tryz.results65 _ _ _ _ _ _ _ rfl row2n Tryz.underlying27 rfl dev_size) rfl ⟨rfl,below2n⟩
   ·have t2:(addr==33603576)=false:=by simpa using q2
    by_cases q3:addr=268435456
    ·have s3:(size==1)=false:=by simpa using k3 q3
     subst q3
     clear k0 k1 k2 k3 k4 k5
     go_enter Tryz.func65,Tryz.ntmps65
     go_wp2_with fail
     exact bodyPost_ret (results_ct8 Tryz.results65 _ _ _ _ _ _ _ rfl row2n Tryz.underlying27 rfl dev_size) rfl ⟨rfl,below2n⟩
    ·have t3:(addr==268435456)=false:=by simpa using q3
     by_cases q4:addr=268435457
     ·have s4:(size==1)=false:=by simpa using k4 q4
      subst q4
      clear k0 k1 k2 k3 k4 k5
      go_enter Tryz.func65,Tryz.ntmps65
      go_wp2_with fail
      exact bodyPost_ret (results_ct8 Tryz.results65 _ _ _ _ _ _ _ rfl row2n Tryz.underlying27 rfl dev_size) rfl ⟨rfl,below2n⟩
     ·have t4:(addr==268435457)=false:=by simpa using q4
      by_cases q5:addr=268435461
      ·have s5:(size==1)=false:=by simpa using k5 q5
       subst q5
       clear k0 k1 k2 k3 k4 k5
       go_enter Tryz.func65,Tryz.ntmps65
       go_wp2_with fail
       exact bodyPost_ret (results_ct8 Tryz.results65 _ _ _ _ _ _ _ rfl row2n Tryz.underlying27 rfl dev_size) rfl ⟨rfl,below2n⟩
      ·have t5:(addr==268435461)=false:=by simpa using q5
       clear k0 k1 k2 k3 k4 k5 q0 q1 q2 q3 q4 q5
       go_enter Tryz.func65,Tryz.ntmps65
       go_wp2_with fail
       exact bodyPost_ret (results_ct8 Tryz.results65 _ _ _ _ _ _ _ rfl row2n Tryz.underlying27 rfl dev_size) rfl ⟨rfl,below2n⟩

theorem one_new (w:World) (b:Int) (j:Nat) (u:Value) (h:[Value.int .u8 b][j]?=some u):(w.alloc (.cells #[.int .u8 b] 5)).cell? ((⟨w.heap.size,0,none⟩:Addr).add j)=some u:=by
 have hj:j=0:=by
  rcases Nat.eq_zero_or_pos j with h0 | h0
  ·exact h0
  ·rw [List.getElem?_eq_none (by simp;omega)] at h;cases h
 subst hj
 rw [adds]
 simp only [List.getElem?_cons_zero,Option.some.injEq] at h
 subst h
 have e:=heap_alloc_new w (.cells #[.int .u8 b] 5)
 show (w.alloc (.cells #[.int .u8 b] 5)).cell? ⟨w.heap.size,0,none⟩=_
 simp only [World.cell?,e]
 rfl

theorem own_form {w:World} {base n:Nat} {t:TypeId} {v:Value} {xs:List Value} (h:w.ownsRow base t 1 v n xs):∃ a c,v=.slice a n c:=by
 rcases h.2 with ⟨e,e0⟩ | ⟨g',cap,cur,e,_⟩
 ·exact ⟨none,0,by rw [e,e0]⟩
 ·exact ⟨_,_,e⟩

theorem app3 {w w1 w2:World} {o o1 o2:Obj} {n:Nat} {t:TypeId} {v:Value} {xs:List Value} (h0:w1.heap[w.heap.size]?=some o1) (h1:w1.heap[w.heap.size+1]?=some o2) (ho:w1.ownsRow (w.heap.size+1+1) t 1 v n xs) (gr:(w1.alloc o).grownBy w2 v.ownBlock) :
 w2.heap[w.heap.size]?=some o1∧w2.heap[w.heap.size+1]?=some o2∧Below (w.heap.size+1+1) w1 w2:=by
 have z:=(Array.getElem?_eq_some_iff.1 h1).1
 have hk:∀ k,k < w.heap.size+1+1→w2.heap[k]?=w1.heap[k]?:=fun k hk=>(gr.block k (by rw [World.size_alloc];omega) (fun e=>by have:=(ho.lt k e.symm).1;omega)).trans (Below.heap_alloc w1 o k (by omega))
 refine ⟨(hk _ (by omega)).trans h0,(hk _ (by omega)).trans h1,⟨gr.os,gr.tape,gr.output,?_,hk⟩⟩
 have:=gr.size
 rw [World.size_alloc] at this
 omega

theorem stV_0 (D:DV) (x:Int):stV D x 0=(⟨D.t,D.cm,bits .and .u64 x 1==1,D.xs,D.ys,D.ir⟩,true):=by rw [stV]

theorem stV_1 (D:DV) (x:Int):stV D x 1=(⟨D.t,x,D.so,D.xs,D.ys,D.ir⟩,true):=by rw [stV]

theorem stV_2 (D:DV) (x:Int):stV D x 2=(⟨x,D.cm,D.so,D.xs,D.ys,D.ir⟩,true):=by rw [stV]

theorem stV_3r (D:DV) (x:Int) (h:D.ys.length < 4096):stV D x 3=(⟨D.t,D.cm,D.so,D.xs,D.ys ++ [IntKind.u8.wrap x],D.ir⟩,true):=by rw [stV,if_pos h]

theorem stV_3f (D:DV) (x:Int) (h:¬ D.ys.length < 4096):stV D x 3=(D,true):=by rw [stV,if_neg h]

theorem stV_4 (D:DV) (x:Int):stV D x 4=(⟨D.t,D.cm,D.so,D.xs,D.ys,wrap64 (bits .and .u64 x 1)⟩,true):=by rw [stV]

theorem stV_5 (D:DV) (x:Int):stV D x 5=(D,true):=by rw [stV]

theorem stV_6 (D:DV) (x:Int):stV D x 6=(zeroD,false):=by
 rw [stV]<;>omega

set_option maxRecDepth 100000 in
set_option maxHeartbeats 1600000 in
theorem l8Lines_any (t cm:Int) (so:Bool) (a1:Option Addr) (n1 c1:Nat) (a2:Option Addr) (n2 c2:Nat) (ir:Int) (w:World) (hn1:n1≤1048576) :
 Calls Tryz.prog 54 #[.agg #[.int .u64 t,.int .u64 cm,.bool so,.slice a1 n1 c1,.slice a2 n2 c2,.int .i64 ir]] w fun e w'=>e=.returned (.int .u64 (IntKind.u64.wrap (IntKind.u64.wrap (IntKind.u64.wrap (8*oneIf so)+IntKind.u64.wrap (128*oneIf (decide (cm≤t))))+IntKind.u64.wrap (2048*oneIf ((ir==1)&&decide (0 < n1))))))∧Below w.heap.size w w':=by
 have HI:Hid (∀ (b:Bool) w,Calls Tryz.prog 95 #[.bool b] w fun e w'=>e=.returned (.int .u64 (oneIf b))∧∃ m,w'=w.drewN m):=fun b w=>(l3If_dev b w).mono fun _ _ h=>⟨h.1,0,h.2⟩
 have hB:∀ o m,Below w.heap.size w ((w.alloc o).drewN m):=fun o m=>⟨rfl,rfl,rfl,by simp,fun k hk=>Below.heap_alloc w o k hk⟩
 clear hn1
 cases ti:(ir==1) with
 | true =>
  go_enter Tryz.func54,Tryz.ntmps54
  go_wp2_with fail
  go_quiet (first | (go_at_call 95;with_reducible refine Calls.quiet_of (HI.out _ _)))
  go_wp2_with fail
  go_ret
  exact ⟨rfl,hB _ _⟩
 | false =>
  go_enter Tryz.func54,Tryz.ntmps54
  go_wp2_with fail
  go_quiet (first | (go_at_call 95;with_reducible refine Calls.quiet_of (HI.out _ _)))
  go_wp2_with fail
  go_ret
  exact ⟨rfl,hB _ _⟩

set_option maxRecDepth 100000 in
set_option maxHeartbeats 6400000 in
theorem l9Line_x (pc:Int) (ax:Option Addr) (nx cx:Nat) (pr:Int) (g cc:Nat) (ar:Option Addr) (nr cr:Nat) (t cm:Int) (so:Bool) (ai:Option Addr) (ni ci:Nat) (ao:Option Addr) (no co:Nat) (ir hd:Int) (hl wt:Bool) (b:Nat) (y ln:Int) (w:World) (hrow:w.heap[b]?=some (.cells #[.int .u64 pc,.slice ax nx cx,.int .i64 pr,.slice (some ⟨g,0,none⟩) 22 cc,.slice ar nr cr,.int .u64 t,.int .u64 cm,.bool so,.slice ai ni ci,.slice ao no co,.int .i64 ir,.int .u64 hd,.bool hl,.bool wt] 29 (0,0))) (hcell:w.cell? ⟨g,9,none⟩=some (.int .u64 y)) (hfz:w.frozen? ⟨g,9,none⟩=false) (hg:g < w.heap.size)
 (hN:∀ w',Below w.heap.size w w'→Calls Tryz.prog 54 #[.agg #[.int .u64 t,.int .u64 cm,.bool so,.slice ai ni ci,.slice ao no co,.int .i64 ir]] w' fun e w''=>e=.returned (.int .u64 ln)∧Below w'.heap.size w' w'') :
 Calls Tryz.prog 64 #[.pointer (some ⟨b,0,none⟩)] w fun e w'=>e=.returned (.tuple #[])∧∃ w1,Below w.heap.size w w1∧w'=w1.setCell ⟨g,9,none⟩ (.int .u64 (bits .or .u64 (bits .andNot .u64 y 2184) ln)):=by
 have HN:Hid (Calls Tryz.prog 54 #[.agg #[.int .u64 t,.int .u64 cm,.bool so,.slice ai ni ci,.slice ao no co,.int .i64 ir]] w.drew fun e w''=>e=.returned (.int .u64 ln)∧Below w.drew.heap.size w.drew w''):=hN w.drew (Below.refl _ _).drew
 have HROW:=dhid hrow
 have HG:=dhid hg
 have HC:=dhid (And.intro hcell hfz)
 obtain ⟨p0,p1,p2,p3,p4,p5,p6,p7,p8,p9,p10,p11,p12,p13⟩:=cells14 hrow
 clear hN hrow hg
 go_enter Tryz.func64,Tryz.ntmps64
 go_wp2_with fail
 go_region_with (first | (go_at_call 54;with_reducible refine HN.out.mono ?_;rintro e w1 ⟨rfl,hb1⟩;have B1:=dhid (below_trans (Below.refl w.heap.size w).drew hb1);clear hb1;obtain ⟨q0,q1,q2,q3,q4,q5,q6,q7,q8,q9,q10,q11,q12,q13⟩:=cells14 (dstays B1.out HROW.out);have hc1:=(B1.out.cell (p:=⟨g,9,none⟩) HG.out).trans HC.out.1;have hf1:w1.frozen? ⟨g,9,none⟩=false:=(by have h1:=HC.out.2;have h2:=B1.out.block g HG.out;unfold World.frozen? at h1 ⊢;dsimp only at h1 ⊢;rw [h2];exact h1)))
 all_goals go_wp2_with fail
 all_goals refine bodyPost_end (results_none rfl _ _ _) rfl ?_
 all_goals exact ⟨rfl,w1,B1.out,rfl⟩

def lineM (M:MV):MV:=⟨M.pc,M.x,M.pr,M.cs.set 9 (bits .or .u64 (bits .andNot .u64 (M.cs.getD 9 0) 2184) (linesV M.d)),M.ram,M.d,M.hd,M.hl,M.wt⟩

theorem mvc_line (M:MV) (A:MA):mvc (lineM M) A=mvc M A:=by
 simp [mvc,lineM]

theorem grown_one (w:World) (g i:Nat) (v:Value):w.grownBy (w.setCell ⟨g,i,none⟩ v) (some g) :=
 ⟨rfl,rfl,rfl,by rw [size_set];exact Nat.le_refl _,fun k _ hk=>Below.heap_setCell w ⟨g,i,none⟩ v k (fun h=>hk (by rw [h]))⟩

theorem l9Line_any (M:MV) (A:MA) (b B E:Nat) (w:World) (h22:M.cs.length=22) (hl:MLen M) (hrow:w.heap[b]?=some (.cells (mvc M A) 29 (0,0))) (hf:Fam B E w (mvF M A)) (hb:∀ q ∈ mvF M A,q.v.ownBlock≠some b) :
 Calls Tryz.prog 64 #[.pointer (some ⟨b,0,none⟩)] w fun e w'=>e=.returned (.tuple #[])∧w'.heap[b]?=some (.cells (mvc (lineM M) A) 29 (0,0))∧Fam B E w' (mvF (lineM M) A)∧KeepL (mvF M A) w w':=by
 have hmem:wRow A.ac M.cs.length A.cc M.cs ∈ mvF M A:=by simp [mvF]
 have ho:=hf.own _ hmem
 have hsl:=hf.msl
 obtain ⟨g,off,hac,hg,hc⟩:=hsl.cs 9 (by omega)
 have hoff:off=0:=by
  rcases ho.2 with ⟨e,_⟩ | ⟨g',cap,cur,e,_⟩
  ·have e2:Value.slice A.ac M.cs.length A.cc=.slice none 0 0:=e
   injection e2 with e3
   rw [hac] at e3
   cases e3
  ·have e2:Value.slice A.ac M.cs.length A.cc=.slice (some ⟨g',0,none⟩) M.cs.length cap:=e
   injection e2 with e3
   rw [hac] at e3
   injection e3 with e4
   injection e4
 subst hoff
 rw [Nat.zero_add] at hc
 have hblk:(wRow A.ac M.cs.length A.cc M.cs).v.ownBlock=some g:=by show (Value.slice A.ac M.cs.length A.cc).ownBlock=_;rw [hac];rfl
 have hgb:g≠b:=fun e=>hb _ hmem (by rw [hblk,e])
 have hfz:w.frozen? ⟨g,9,none⟩=false:=by
  rcases ho.2 with ⟨e,_⟩ | ⟨g',cap,cur,e,h1,h2,_⟩
  ·have e2:Value.slice A.ac M.cs.length A.cc=.slice none 0 0:=e
   rw [hac] at e2
   cases e2
  ·have e2:Value.slice A.ac M.cs.length A.cc=.slice (some ⟨g',0,none⟩) M.cs.length cap:=e
   rw [hac] at e2
   injection e2 with e3
   injection e3 with e4
   injection e4 with e5
   subst e5
   exact froz h2 9
 have hr2:=hrow
 unfold mvc at hr2
 rw [hac,h22] at hr2
 refine (l9Line_x _ _ _ _ _ g _ _ _ _ _ _ _ _ _ _ _ _ _ _ _ _ _ b (M.cs.getD 9 0) (linesV M.d) w hr2 hc hfz hg (fun w' hw=>l8Lines_any _ _ _ _ _ _ _ _ _ _ w' hl.xs)).mono ?_
 rintro e w' ⟨rfl,w1,hb1,rfl⟩
 have hf1:=hf.below hb1
 have ho1:=hf1.own _ hmem
 refine ⟨rfl,?_,?_⟩
 ·rw [mvc_line]
  exact row_far (dstays hb1 hrow) ⟨g,9,none⟩ _ (fun e=>hgb e.symm)
 ·have hgr:w1.grownBy (w1.setCell ⟨g,9,none⟩ (.int .u64 (bits .or .u64 (bits .andNot .u64 (M.cs.getD 9 0) 2184) (linesV M.d)))) (wRow A.ac M.cs.length A.cc M.cs).v.ownBlock:=by rw [hblk];exact grown_one _ _ _ _
  have hst:(w1.setCell ⟨g,9,none⟩ (.int .u64 (bits .or .u64 (bits .andNot .u64 (M.cs.getD 9 0) 2184) (linesV M.d)))).ownsRow B 24 1 (.slice A.ac M.cs.length A.cc) M.cs.length ((lineM M).cs.map (Value.int .u64)):=by
   have h2:w1.ownsRow B 24 1 (.slice A.ac M.cs.length A.cc) M.cs.length (M.cs.map (Value.int .u64)):=ho1
   rw [hac] at h2 ⊢
   have h3:=(h2.stored 9 (.int .u64 (bits .or .u64 (bits .andNot .u64 (M.cs.getD 9 0) 2184) (linesV M.d)))).1
   rw [map_set_u64] at h3
   exact h3
  have hm:=Fam.markL (L1:=[wRow A.ax M.x.length A.cx M.x]) (L2:=[bRow A.ar M.ram.length A.cr M.ram,bRow A.ai M.d.xs.length A.ci M.d.xs,bRow A.ao M.d.ys.length A.co M.d.ys]) (r:=wRow A.ac M.cs.length A.cc M.cs) hf1 hgr _ hst
  refine ⟨?_,(KeepL.of_below hb1).trans hm.2⟩
  have hlen:(lineM M).cs.length=M.cs.length:=by simp [lineM]
  unfold mvF
  rw [hlen]
  exact hm.1

theorem wpH_row9 {K:Act→World→Prop} {Q:Exit→Act→World→Prop} {o:Oper} {a:Act} {W:World} {ys:Nat→Option Bool} (hw:Region.wanted o ys=true) (ty:TypeId) (p x:Operand) (hop:o.op=.store ty p x) (g:Nat) (hp:a.eval p=.pointer (some ⟨g,0,none⟩)) (old cells:Array Value) (hx:a.eval x=.agg cells) (t:TypeId) (hg:W.heap[g]?=some (.cells old t (0,0)))
 (hi:(Tryz.prog.info? ty).map (·.size)=some cells.size) (ho:old.size=cells.size) (h1:cells.all (·.oneCell')=true) (h:K (a.put o.dst undef) (W.setRow g cells)) :
 if Region.wanted o ys=true then Oper.wp Tryz.prog o a W K Q else K (a.put o.dst undef) W:=by
 rw [if_pos hw]
 exact wp_store_row ty p x hop g cells hp hx t old hg hi ho h1 h

theorem row_below {B:Nat} {v w:World} (h:Below B v w) {g:Nat} (hg:B≤g) (cs:Array Value):Below B v (w.setRow g cs) :=
 ⟨h.os,h.tape,h.output,by rw [setRow_size];exact h.size,fun k hk=>(setRow_other w g k cs (by omega)).trans (h.block k hk)⟩

structure Mp (B r:Nat) (M:MV) (A:MA) (W:World):Prop where
 row:W.heap[r]?=some (.cells (mvc M A) 29 (0,0))
 fam:Fam B W.heap.size W (mvF M A)
 ne:∀ q ∈ mvF M A,q.v.ownBlock≠some r
 lo:B≤r

structure Kx (r:Nat) (L L':List FRow) (w w':World):Prop where
 os:w'.os=w.os
 tape:w'.tape=w.tape
 output:w'.output=w.output
 size:w.heap.size≤w'.heap.size
 block:∀ k,k < w.heap.size→k≠r→(∀ q ∈ L,q.v.ownBlock≠some k)→w'.heap[k]?=w.heap[k]?
 own:∀ q ∈ L',∀ k,q.v.ownBlock=some k→k < w.heap.size→∃ q0 ∈ L,q0.v.ownBlock=some k

theorem Kx.refl (r:Nat) (L:List FRow) (w:World):Kx r L L w w:=⟨rfl,rfl,rfl,Nat.le_refl _,fun _ _ _ _=>rfl,fun q hq k e _=>⟨q,hq,e⟩⟩

theorem Kx.trans {r:Nat} {L1 L2 L3:List FRow} {a b c:World} (h:Kx r L1 L2 a b) (k:Kx r L2 L3 b c):Kx r L1 L3 a c :=
 ⟨k.os.trans h.os,k.tape.trans h.tape,k.output.trans h.output,Nat.le_trans h.size k.size,
  fun i hi hr ho=>(k.block i (Nat.lt_of_lt_of_le hi h.size) hr (fun q hq e=>by obtain ⟨q0,h0,e0⟩:=h.own q hq i e hi;exact ho q0 h0 e0)).trans (h.block i hi hr ho),
  fun q hq i e hi=>by obtain ⟨q1,h1,e1⟩:=k.own q hq i e (Nat.lt_of_lt_of_le hi h.size);exact h.own q1 h1 i e1 hi⟩

theorem Kx.of_below {r:Nat} {L:List FRow} {w w':World} (h:Below w.heap.size w w'):Kx r L L w w' :=
 ⟨h.os,h.tape,h.output,h.size,fun k hk _ _=>h.block k hk,fun q hq k e _=>⟨q,hq,e⟩⟩

theorem Kx.set {r:Nat} {L:List FRow} (w:World) (i:Nat) (v:Value):Kx r L L w (w.setCell ⟨r,i,none⟩ v) :=
 ⟨rfl,rfl,rfl,by rw [size_set];exact Nat.le_refl _,fun k _ hr _=>Below.heap_setCell w ⟨r,i,none⟩ v k (fun e=>hr (by rw [e])),fun q hq k e _=>⟨q,hq,e⟩⟩

theorem Kx.of_keepL {r:Nat} {L L':List FRow} {w w':World} (h:KeepL L w w') (hs:∀ q ∈ L',∃ q0 ∈ L,q0.v=q.v):Kx r L L' w w' :=
 ⟨h.os,h.tape,h.output,h.size,fun k hk _ ho=>h.block k hk ho,fun q hq k e _=>by obtain ⟨q0,h0,e0⟩:=hs q hq;exact ⟨q0,h0,by rw [e0];exact e⟩⟩

theorem Kx.below {r B:Nat} {L L':List FRow} {w w':World} (h:Kx r L L' w w') (hr:B≤r) (hB:B≤w.heap.size) (hL:∀ q ∈ L,∀ k,q.v.ownBlock=some k→B≤k):Below B w w' :=
 ⟨h.os,h.tape,h.output,h.size,fun k hk=>h.block k (by omega) (by omega) (fun q hq e=>by have:=hL q hq k e;omega)⟩

theorem Mp.below {B r:Nat} {M:MV} {A:MA} {w w':World} (h:Mp B r M A w) (hb:Below w.heap.size w w'):Mp B r M A w' :=
 ⟨dstays hb h.row,(h.fam.below hb).low (Nat.le_refl _) hb.size,h.ne,h.lo⟩

theorem Mp.lt {B r:Nat} {M:MV} {A:MA} {w:World} (h:Mp B r M A w):r < w.heap.size:=(Array.getElem?_eq_some_iff.1 h.row).1

theorem Mp.under {B r:Nat} {M M':MV} {A A':MA} {w w':World} (h:Mp B r M A w) (k:Kx r (mvF M A) (mvF M' A') w w'):Below B w w' :=
 k.below h.lo (by have:=h.lt;have:=h.lo;omega) (fun q hq i e=>((h.fam.own q hq).lt i e).1)

theorem mvF_same {M M':MV} {A:MA} (h1:M'.x.length=M.x.length) (h2:M'.cs.length=M.cs.length) (h3:M'.ram.length=M.ram.length) (h4:M'.d.xs.length=M.d.xs.length) (h5:M'.d.ys.length=M.d.ys.length):∀ q ∈ mvF M' A,∃ q0 ∈ mvF M A,q0.v=q.v:=by
 intro q hq
 simp only [mvF,List.mem_cons,List.not_mem_nil,or_false] at hq
 rcases hq with rfl | rfl | rfl | rfl | rfl
 ·exact ⟨wRow A.ax M.x.length A.cx M.x,by simp [mvF],by rw [h1];rfl⟩
 ·exact ⟨wRow A.ac M.cs.length A.cc M.cs,by simp [mvF],by rw [h2];rfl⟩
 ·exact ⟨bRow A.ar M.ram.length A.cr M.ram,by simp [mvF],by rw [h3];rfl⟩
 ·exact ⟨bRow A.ai M.d.xs.length A.ci M.d.xs,by simp [mvF],by rw [h4];rfl⟩
 ·exact ⟨bRow A.ao M.d.ys.length A.co M.d.ys,by simp [mvF],by rw [h5];rfl⟩

theorem l9Line_mp (M:MV) (A:MA) (B r:Nat) (w:World) (h22:M.cs.length=22) (hl:MLen M) (h:Mp B r M A w) :
 Calls Tryz.prog 64 #[.pointer (some ⟨r,0,none⟩)] w fun e w'=>e=.returned (.tuple #[])∧Mp B r (lineM M) A w'∧Kx r (mvF M A) (mvF (lineM M) A) w w':=by
 refine (l9Line_any M A r B w.heap.size w h22 hl h.row h.fam h.ne).mono fun e w' ⟨h1,h2,h3,h4⟩=>⟨h1,⟨h2,h3.low (Nat.le_refl _) h4.size,?_,h.lo⟩,Kx.of_keepL h4 (mvF_same rfl (by simp [lineM]) rfl rfl rfl)⟩
 intro q hq e
 obtain ⟨q0,h0,e0⟩:=mvF_same (M:=M) (M':=lineM M) (A:=A) rfl (by simp [lineM]) rfl rfl rfl q hq
 exact h.ne q0 h0 (by rw [e0];exact e)

def mst (x:Int):Int:=if (bits .and .u64 (bits .and .u64 x 924074 / 2048) 3==2)=true then bits .andNot .u64 (bits .and .u64 x 924074) 6144 else bits .and .u64 x 924074

def cfgByte (x:Int) (k:Nat):Int :=
 if (bits .and .u64 (bits .and .u64 (x / 2 ^ (8*k)) 159) 1==0)=true then bits .andNot .u64 (bits .and .u64 (x / 2 ^ (8*k)) 159) 2 else bits .and .u64 (x / 2 ^ (8*k)) 159

def cfgSum (x:Int):Nat→Int
 | 0=>0
 | k+1=>bits .or .u64 (cfgSum x k) (IntKind.u64.wrap (cfgByte x k*2 ^ (8*k)))

def legal (p x:Int):Int :=
 if p=0 then mst x else if p=1 then bits .and .u64 x 46079 else if p=2 then bits .and .u64 x 546 else if p=3 then bits .and .u64 x 2730
 else if p=4∨p=10 then bits .andNot .u64 x 2 else if p=6∨p=12 then bits .andNot .u64 x 3 else if p=7∨p=13 then bits .and .u64 x 9223372036854775823
 else if p=16 then cfgSum x 4 else if p=17∨p=18∨p=19∨p=20 then bits .and .u64 x 18014398509481983 else x

def okAt (k:Nat) (x:Int):Bool :=
 if k=9 then (bits .and .u64 x 2730==x) else if k=15 then (x / 1152921504606846976==0)||(x / 1152921504606846976==8) else (legal k x==x)

def okRest (l:List Int):Nat→Nat→Bool
 | 0,_=>true
 | n+1,k=>okAt k (l.getD k 0)&&okRest l n (k+1)

def csrsOk (n:Nat) (l:List Int):Bool:=decide (n=22)&&okRest l 22 0

theorem okRest_yes (l:List Int) (k:Nat) (hk:k < 22) (h:okAt k (l.getD k 0)=true):okRest l (22 - k) k=okRest l (22 - (k+1)) (k+1):=by
 rw [show 22 - k=(22 - (k+1))+1 from by omega,okRest,h,Bool.true_and]

theorem okRest_no (l:List Int) (k:Nat) (hk:k < 22) (h:okAt k (l.getD k 0)=false):okRest l (22 - k) k=false:=by
 rw [show 22 - k=(22 - (k+1))+1 from by omega,okRest,h,Bool.false_and]

def csrNumbers:List Int:=[768,770,771,772,773,832,833,834,835,836,261,320,321,322,323,384,928,944,945,946,947,2818]

def privB (p:Int):Bool:=(p==0)||(p==1)||(p==3)

def cfgAt (l:List Int) (i:Nat):Int:=bits .and .u64 (l.getD 16 0 / 2 ^ (8*i)) 255

def legalB (n:Nat) (l:List Int) (p:Int):Bool:=csrsOk n l&&privB p

theorem legalB_parts {n:Nat} {l:List Int} {p:Int} (h:legalB n l p=true):n=22∧privB p=true:=by
 simp only [legalB,csrsOk,Bool.and_eq_true,decide_eq_true_eq] at h
 exact ⟨h.1.1,h.2⟩

end Go.Proofs.YtkhofppmeoooaaaGreatDoor
