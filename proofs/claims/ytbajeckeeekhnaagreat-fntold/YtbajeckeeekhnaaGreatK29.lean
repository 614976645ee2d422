/- Own lemmas. -/
import Derived.Test.YtbajeckeeekhnaaGreatK03
import Derived.Test.YtbajeckeeekhnaaGreatK11
import Derived.Test.YtbajeckeeekhnaaGreatK13
import Derived.Test.YtbajeckeeekhnaaGreatK21
import Derived.Test.YtbajeckeeekhnaaGreatK25
import Derived.Test.YtbajeckeeekhnaaGreatK26
import Derived.Test.YtbajeckeeekhnaaGreatK27
import Derived.Test.YtbajeckeeekhnaaGreatK28
namespace Go.Proofs.YtbajeckeeekhnaaGreat
open Go.RowKit
set_option linter.unusedVariables false

def trapM (M:MV) (k:Nat) (i:Bool) (v:Int):MV :=
 ⟨enterAt (vecV M.cs (delegB M.cs M.pr k i)) k (jumpB M.cs (delegB M.cs M.pr k i) i),M.x,nextV (delegB M.cs M.pr k i),enterL M.cs (delegB M.cs M.pr k i) M.pr (toldV k i) M.pc v,M.ram,M.d,M.hd,M.hl,M.wt⟩

def doneM (M:MV) (rd x to:Int):MV :=
 ⟨to,if rd=0 then M.x else M.x.set rd.toNat x,M.pr,M.cs.set 21 (IntKind.u64.wrap (M.cs.getD 21 0+1)),M.ram,M.d,M.hd,M.hl,M.wt⟩

def holdM (M:MV) (h:Bool) (a:Int):MV:=⟨M.pc,M.x,M.pr,M.cs,M.ram,M.d,a,h,M.wt⟩

def waitM (M:MV) (b:Bool):MV:=⟨M.pc,M.x,M.pr,M.cs,M.ram,M.d,M.hd,M.hl,b⟩

def csM (M:MV) (l:List Int):MV:=⟨M.pc,M.x,M.pr,l,M.ram,M.d,M.hd,M.hl,M.wt⟩

def privM (M:MV) (p:Int):MV:=⟨M.pc,M.x,p,M.cs,M.ram,M.d,M.hd,M.hl,M.wt⟩

def refuseM (r:Int × MV × Int) (more:Nat) (v:Int):MV × Int:=(trapM r.2.1 ((r.2.2 - 16).toNat+more) false v,2)

def jumpTo (M:MV) (i:Ins) (a b n:Int):Int :=
 if i.op=4 then bits .andNot .u64 (IntKind.u64.wrap (a+n)) 1
 else if (decide (4 < i.op)&&!brV i.op a b)=true then IntKind.u64.wrap (M.pc+4) else IntKind.u64.wrap (M.pc+n)

def jumpM (M:MV) (i:Ins) (a b n:Int):MV × Int :=
 if (bits .and .u64 (jumpTo M i a b n) 2 != 0)=true then (trapM M 0 false (jumpTo M i a b n),2)
 else (doneM M (if 4 < i.op then 0 else i.rd) (IntKind.u64.wrap (M.pc+4)) (jumpTo M i a b n),1)

def loadSize (op:Int):Nat:=if op - 11 < 4 then 2 ^ (op - 11).toNat else 2 ^ (op - 15).toNat

def loadM (M:MV) (i:Ins) (at_:Int):MV × Int :=
 let r:=accV M at_ (loadSize i.op) 2 0
 if (r.2.2 != 0)=true then refuseM r 0 at_
 else (doneM r.2.1 i.rd (if i.op - 11 < 4 then widen (8*loadSize i.op) r.1 else r.1) (IntKind.u64.wrap (r.2.1.pc+4)),1)

def storeM (M:MV) (i:Ins) (at_ b:Int):MV × Int :=
 let r:=accV M at_ (2 ^ (i.op - 18).toNat:Nat) 3 b
 if (r.2.2 != 0)=true then refuseM r 0 at_ else (doneM r.2.1 0 0 (IntKind.u64.wrap (r.2.1.pc+4)),1)

def atomSize (op:Int):Nat:=if op - 63 ≥ 11 then 8 else 4

def atomK (op:Int):Int:=if op - 63 ≥ 11 then op - 74 else op - 63

def leadM (M:MV) (va kind:Int):Fd:=walkV M.ram M.ram.length M.cs (effV M.cs M.pr kind) va kind

def ledM (M:MV) (va kind:Int):MV:=memM M (markB M.ram (leadM M va kind))

def lrM (M:MV) (i:Ins) (a:Int):MV × Int :=
 let r:=accV M a (atomSize i.op) 2 0
 if (r.2.2 != 0)=true then refuseM r 0 a
 else (doneM (holdM (ledM r.2.1 a 2) true (leadM r.2.1 a 2).addr) i.rd (widen (8*atomSize i.op) r.1) (IntKind.u64.wrap (M.pc+4)),1)

def scM (M:MV) (i:Ins) (a b:Int) (pa:Int):MV × Int :=
 if (M.hl&&(M.hd==pa))=true then
  (let r:=accV M a (atomSize i.op) 3 b
   if (r.2.2 != 0)=true then refuseM r 0 a else (doneM (holdM r.2.1 false 0) i.rd 0 (IntKind.u64.wrap (M.pc+4)),1))
 else (doneM (holdM M false 0) i.rd 1 (IntKind.u64.wrap (M.pc+4)),1)

def amoM (M:MV) (i:Ins) (a b:Int):MV × Int :=
 let r:=accV M a (atomSize i.op) 2 0
 if (r.2.2 != 0)=true then refuseM r 2 a
 else
  let q:=accV r.2.1 a (atomSize i.op) 3 (amoV i.op r.1 b)
  if (q.2.2 != 0)=true then refuseM q 0 a else (doneM q.2.1 i.rd (widen (8*atomSize i.op) r.1) (IntKind.u64.wrap (M.pc+4)),1)

def atomM (M:MV) (i:Ins) (a b:Int):MV × Int :=
 if (atomK i.op==0)=true then lrM M i a
 else if (a % (atomSize i.op:Nat) != 0)=true then (trapM M 6 false a,2)
 else if ((leadM M a 3).code != 0)=true then (trapM (ledM M a 3) (leadM M a 3).code.toNat false a,2)
 else if (atomK i.op==1)=true then scM (ledM M a 3) i a b (leadM M a 3).addr
 else amoM (ledM M a 3) i a b

def writesB (i:Ins):Bool:=((i.op - 87).tmod 3==0)||(i.a != 0)

def csrArg (i:Ins) (a:Int):Int:=if 90≤i.op then IntKind.u64.wrap i.a else a

def csrX (i:Ins) (a old:Int):Int:=if ((i.op - 87).tmod 3==1)=true then bits .or .u64 old (csrArg i a) else if ((i.op - 87).tmod 3==2)=true then bits .andNot .u64 old (csrArg i a) else csrArg i a

def csrM (M:MV) (i:Ins) (a w:Int):MV × Int :=
 if (!mayB M.cs.length M.cs i.imm M.pr||(writesB i&&((wrap64 (i.imm.tdiv 1024)).tmod 4==3)))=true then (trapM M 2 false w,2)
 else
  let N:=doneM M i.rd (readV M.cs i.imm) (IntKind.u64.wrap (M.pc+4))
  (if writesB i=true then csM N (writeV N.cs i.imm (csrX i a (readV M.cs i.imm))) else N,1)

def callK (p:Int):Nat:=if p=0 then 8 else if p=1 then 9 else 11

def sysM (M:MV) (i:Ins) (w:Int):MV × Int :=
 if i.op=93 then (trapM M (callK M.pr) false 0,2)
 else if i.op=94 then (trapM M 3 false M.pc,2)
 else if i.op=95∨i.op=96 then
  (if (((i.op==96)&&(M.pr != 3))||(M.pr==0))=true then (trapM M 2 false w,2)
   else (doneM (privM (csM M (M.cs.set 0 (leaveS (M.cs.getD 0 0) (i.op==96)))) (leaveP (M.cs.getD 0 0) (i.op==96))) 0 0 (leaveAt M.cs (i.op==96)),1))
 else if (M.pr==0)=true then (trapM M 2 false w,2)
 else if i.op=97 then (doneM (waitM M true) 0 0 (IntKind.u64.wrap (M.pc+4)),1)
 else (doneM M 0 0 (IntKind.u64.wrap (M.pc+4)),1)

def execM (M:MV) (i:Ins) (w:Int):MV × Int :=
 let a:=M.x.getD i.a.toNat 0
 let b:=M.x.getD i.b.toNat 0
 let n:=IntKind.u64.wrap i.imm
 if i.op=1 then (doneM M i.rd n (IntKind.u64.wrap (M.pc+4)),1)
 else if i.op=2 then (doneM M i.rd (IntKind.u64.wrap (M.pc+n)) (IntKind.u64.wrap (M.pc+4)),1)
 else if i.op≤10 then jumpM M i a b n
 else if i.op≤17 then loadM M i (IntKind.u64.wrap (a+n))
 else if i.op≤21 then storeM M i (IntKind.u64.wrap (a+n)) b
 else if i.op≤62 then (doneM M i.rd (aluV i.op a (if (formOf i.op).toList=[82] then b else n)) (IntKind.u64.wrap (M.pc+4)),1)
 else if i.op≤84 then atomM M i a b
 else if i.op≤86 then (doneM M 0 0 (IntKind.u64.wrap (M.pc+4)),1)
 else if i.op≤92 then csrM M i a w
 else sysM M i w

def stepM (M:MV):MV × Int :=
 if (M.wt&&(waitV M.cs==0))=true then (M,4)
 else if 0≤pendV M.cs M.pr then (trapM (waitM M false) (pendV M.cs M.pr).toNat true 0,3)
 else
  let r:=accV (waitM M false) M.pc 4 1 0
  if (r.2.2 != 0)=true then refuseM r 0 r.2.1.pc
  else match dec r.1 with
   | none=>(trapM r.2.1 2 false r.1,2)
   | some i=>execM r.2.1 i r.1

theorem cs_bells {M:MV} (h:bellsB M=true) {l:List Int} (e:l.getD 9 0=M.cs.getD 9 0):(bits .and .u64 (l.getD 9 0) 2184==linesV M.d)=true:=by
 rw [e];exact h

theorem enter_9 (l:List Int) (d:Bool) (p t pc v:Int):(enterL l d p t pc v).getD 9 0=l.getD 9 0:=by
 cases d
 ·show ((((l.set 7 t).set 6 (bits .andNot .u64 pc 3)).set 8 v).set 0 (statM (l.getD 0 0) p)).getD 9 0=_
  rw [set_get _ _ _ _ (by omega),set_get _ _ _ _ (by omega),set_get _ _ _ _ (by omega),set_get _ _ _ _ (by omega)]
 ·show ((((l.set 13 t).set 12 (bits .andNot .u64 pc 3)).set 14 v).set 0 (statS (l.getD 0 0) (p==1))).getD 9 0=_
  rw [set_get _ _ _ _ (by omega),set_get _ _ _ _ (by omega),set_get _ _ _ _ (by omega),set_get _ _ _ _ (by omega)]

theorem U_enterAt (x k:Int) (j:Bool):U (enterAt x k j):=by
 cases j
 ·exact U_bits .andNot x 1
 ·exact U_wrap (bits .andNot .u64 x 1+IntKind.u64.wrap (4*k))

theorem next_priv (d:Bool):privB (nextV d)=true:=by cases d<;>rfl

theorem Gd.trap {M:MV} (h:Gd M) {k:Nat} (hk:k < 16) (i:Bool) {v:Int} (hv:U v):Gd (trapM M k i v):=by
 obtain ⟨h1,h2,h3,h4,h5,h6,h7⟩:=mach_all h.ok
 obtain ⟨h22,hcs,hpr,_,_,_⟩:=mach_parts h.ok
 have hv4:okAt 4 (vecV M.cs (delegB M.cs M.pr k i))=true∨okAt 10 (vecV M.cs (delegB M.cs M.pr k i))=true:=by
  cases delegB M.cs M.pr k i
  ·exact Or.inl (right_at hcs 4 (by omega))
  ·exact Or.inr (right_at hcs 10 (by omega))
 have he:=enter_ok M.cs h22 h.mw.cs hcs (delegB M.cs M.pr k i) M.pr M.pc v hpr h.pc k hk i
 refine ⟨mach_mk (M:=trapM M k i v) (by show (bits .and .u64 (enterAt _ _ _) 3==0)=true;rw [at4 _ _ _ hv4];rfl) h2 ?_ h4 h5 h6 (cs_bells h7 (enter_9 _ _ _ _ _ _)),⟨U_enter _ h.mw.cs _ _ _ _ hv _ hk _,h.mw.ram,h.mw.xs,h.mw.ys⟩,h.ux,U_enterAt _ _ _,h.hd⟩
 show legalB (enterL M.cs _ _ _ _ _).length (enterL M.cs _ _ _ _ _) (nextV _)=true
 unfold legalB
 rw [enterL_len,h22,next_priv,Bool.and_true]
 exact he

theorem Gd.done {M:MV} (h:Gd M) {rd x to:Int} (hr0:0≤rd) (hr1:rd≤31) (hx:U x) (ht:U to) (h4:bits .and .u64 to 3=0):Gd (doneM M rd x to):=by
 obtain ⟨_,h2,h3,h4',h5,h6,h7⟩:=mach_all h.ok
 obtain ⟨h22,hcs,hpr,_,_,_⟩:=mach_parts h.ok
 unfold regsB at h2
 rw [Bool.and_eq_true,decide_eq_true_eq] at h2
 have hU21:U (IntKind.u64.wrap (M.cs.getD 21 0+1)):=U_wrap _
 have hc2:csrsOk 22 (M.cs.set 21 (IntKind.u64.wrap (M.cs.getD 21 0+1)))=true:=right_set M.cs h22 hcs 21 (by omega) _ (beq_self_eq_true _)
 have hxs:(if rd=0 then M.x else M.x.set rd.toNat x).length=32∧((if rd=0 then M.x else M.x.set rd.toNat x).getD 0 0==0)=true∧∀ j,U ((if rd=0 then M.x else M.x.set rd.toNat x).getD j 0):=by
  by_cases e:rd=0
  ·rw [if_pos e];exact ⟨h2.1,h2.2,h.ux⟩
  ·rw [if_neg e]
   refine ⟨by rw [List.length_set];exact h2.1,by rw [set_get _ _ _ _ (by omega)];exact h2.2,fun j=>?_⟩
   rw [List.getD_eq_getElem?_getD,List.getElem?_set]
   split
   ·split
    ·exact hx
    ·exact ⟨by decide,by decide⟩
   ·have:=h.ux j;rw [List.getD_eq_getElem?_getD] at this;exact this
 refine ⟨mach_mk (M:=doneM M rd x to) (by show (bits .and .u64 to 3==0)=true;rw [h4];rfl) ?_ ?_ h4' h5 h6 (cs_bells h7 (set_get _ _ _ _ (by omega))),⟨?_,h.mw.ram,h.mw.xs,h.mw.ys⟩,hxs.2.2,ht,h.hd⟩
 ·show regsB (if rd=0 then M.x else M.x.set rd.toNat x).length (if rd=0 then M.x else M.x.set rd.toNat x)=true
  unfold regsB
  rw [hxs.2.1,decide_eq_true hxs.1];rfl
 ·show legalB (M.cs.set 21 _).length (M.cs.set 21 _) M.pr=true
  unfold legalB
  rw [List.length_set,h22,hpr,Bool.and_true]
  exact hc2
 ·intro j
  show U ((M.cs.set 21 (IntKind.u64.wrap (M.cs.getD 21 0+1))).getD j 0)
  rw [List.getD_eq_getElem?_getD,List.getElem?_set]
  split
  ·split
   ·exact hU21
   ·exact ⟨by decide,by decide⟩
  ·have:=h.mw.cs j;rw [List.getD_eq_getElem?_getD] at this;exact this

theorem Gd.hold {M:MV} (h:Gd M) {b:Bool} {a:Int} (ha:U a) (hb:b=true∨a=0):Gd (holdM M b a):=by
 obtain ⟨h1,h2,h3,h4,h5,h6,h7⟩:=mach_all h.ok
 exact ⟨mach_mk (M:=holdM M b a) h1 h2 h3 h4 h5 (by show (b||(a==0))=true;rcases hb with e | e<;>rw [e]<;>simp) h7,⟨h.mw.cs,h.mw.ram,h.mw.xs,h.mw.ys⟩,h.ux,h.pc,ha⟩

theorem Gd.wait {M:MV} (h:Gd M) (b:Bool):Gd (waitM M b):=by
 obtain ⟨h1,h2,h3,h4,h5,h6,h7⟩:=mach_all h.ok
 exact ⟨mach_mk (M:=waitM M b) h1 h2 h3 h4 h5 h6 h7,⟨h.mw.cs,h.mw.ram,h.mw.xs,h.mw.ys⟩,h.ux,h.pc,h.hd⟩

theorem Mp.xrow {B r:Nat} {M:MV} {A:MA} {w:World} (h:Mp B r M A w):w.ownsRow B 24 1 (.slice A.ax M.x.length A.cx) M.x.length (M.x.map (Value.int .u64)):=h.fam.own (wRow A.ax M.x.length A.cx M.x) (by simp [mvF])

theorem Mp.crow {B r:Nat} {M:MV} {A:MA} {w:World} (h:Mp B r M A w):w.ownsRow B 24 1 (.slice A.ac M.cs.length A.cc) M.cs.length (M.cs.map (Value.int .u64)):=h.fam.own (wRow A.ac M.cs.length A.cc M.cs) (by simp [mvF])

theorem map_set64 (zs:List Int) (i:Nat) (y:Int):(zs.map (Value.int .u64)).set i (.int .u64 y)=(zs.set i y).map (Value.int .u64):=by rw [List.map_set]

def xM (M:MV) (xs:List Int):MV:={ M with x:=xs }

def cM (M:MV) (cs:List Int):MV:={ M with cs:=cs }

theorem Mp.setX {B r:Nat} {M:MV} {A:MA} {w:World} (h:Mp B r M A w) (b:Nat) (hb:A.ax=some ⟨b,0,none⟩) (i:Nat) (v:Int):Mp B r (xM M (M.x.set i v)) A (w.setCell ⟨b,i,none⟩ (.int .u64 v))∧Below B w (w.setCell ⟨b,i,none⟩ (.int .u64 v)):=by
 have hx:=h.xrow
 rw [hb] at hx
 have hs:=hx.stored i (.int .u64 v)
 rw [map_set64] at hs
 have hbB:=((hx.lt b rfl)).1
 have hg:w.grownBy (w.setCell ⟨b,i,none⟩ (.int .u64 v)) (wRow A.ax M.x.length A.cx M.x).v.ownBlock:=by simp only [wRow];rw [hb];exact hs.2
 have hm:=Fam.mark (L1:=[]) (r:=wRow A.ax M.x.length A.cx M.x) (L2:=[wRow A.ac M.cs.length A.cc M.cs,bRow A.ar M.ram.length A.cr M.ram,bRow A.ai M.d.xs.length A.ci M.d.xs,bRow A.ao M.d.ys.length A.co M.d.ys]) h.fam hg ((M.x.set i v).map (Value.int .u64)) (by simp only [wRow];rw [hb];exact hs.1)
 have hne:=h.ne (wRow A.ax M.x.length A.cx M.x) (by simp [mvF])
 have hbr:r≠b:=fun e=>hne (by simp only [wRow];rw [hb,e];rfl)
 have hsz:(w.setCell ⟨b,i,none⟩ (.int .u64 v)).heap.size=w.heap.size:=size_set _ _ _
 have ef:mvF (xM M (M.x.set i v)) A=[] ++ ⟨(wRow A.ax M.x.length A.cx M.x).t,(wRow A.ax M.x.length A.cx M.x).v,(wRow A.ax M.x.length A.cx M.x).n,(M.x.set i v).map (Value.int .u64)⟩ :: [wRow A.ac M.cs.length A.cc M.cs,bRow A.ar M.ram.length A.cr M.ram,bRow A.ai M.d.xs.length A.ci M.d.xs,bRow A.ao M.d.ys.length A.co M.d.ys]:=by
  simp [mvF,xM,wRow]
 refine ⟨⟨?_,?_,?_,h.lo⟩,⟨rfl,rfl,rfl,by rw [hsz];exact Nat.le_refl _,fun k hk=>Below.heap_setCell _ _ _ k (by dsimp only;omega)⟩⟩
 ·have:=row_far h.row ⟨b,i,none⟩ (.int .u64 v) hbr
  simpa [mvc,xM] using this
 ·rw [ef,hsz];exact hm.1
 ·rw [ef]
  intro q hq
  simp only [List.nil_append,List.mem_cons,List.not_mem_nil,or_false] at hq
  rcases hq with rfl | rfl | rfl | rfl | rfl
  ·exact hne
  ·exact h.ne _ (by simp [mvF])
  ·exact h.ne _ (by simp [mvF])
  ·exact h.ne _ (by simp [mvF])
  ·exact h.ne _ (by simp [mvF])

theorem Mp.setC {B r:Nat} {M:MV} {A:MA} {w:World} (h:Mp B r M A w) (b:Nat) (hb:A.ac=some ⟨b,0,none⟩) (i:Nat) (v:Int):Mp B r (cM M (M.cs.set i v)) A (w.setCell ⟨b,i,none⟩ (.int .u64 v))∧Below B w (w.setCell ⟨b,i,none⟩ (.int .u64 v)):=by
 have hx:=h.crow
 rw [hb] at hx
 have hs:=hx.stored i (.int .u64 v)
 rw [map_set64] at hs
 have hbB:=((hx.lt b rfl)).1
 have hg:w.grownBy (w.setCell ⟨b,i,none⟩ (.int .u64 v)) (wRow A.ac M.cs.length A.cc M.cs).v.ownBlock:=by simp only [wRow];rw [hb];exact hs.2
 have hm:=Fam.mark (L1:=[wRow A.ax M.x.length A.cx M.x]) (r:=wRow A.ac M.cs.length A.cc M.cs) (L2:=[bRow A.ar M.ram.length A.cr M.ram,bRow A.ai M.d.xs.length A.ci M.d.xs,bRow A.ao M.d.ys.length A.co M.d.ys]) h.fam hg ((M.cs.set i v).map (Value.int .u64)) (by simp only [wRow];rw [hb];exact hs.1)
 have hne:=h.ne (wRow A.ac M.cs.length A.cc M.cs) (by simp [mvF])
 have hbr:r≠b:=fun e=>hne (by simp only [wRow];rw [hb,e];rfl)
 have hsz:(w.setCell ⟨b,i,none⟩ (.int .u64 v)).heap.size=w.heap.size:=size_set _ _ _
 have ef:mvF (cM M (M.cs.set i v)) A=[wRow A.ax M.x.length A.cx M.x] ++ ⟨(wRow A.ac M.cs.length A.cc M.cs).t,(wRow A.ac M.cs.length A.cc M.cs).v,(wRow A.ac M.cs.length A.cc M.cs).n,(M.cs.set i v).map (Value.int .u64)⟩ :: [bRow A.ar M.ram.length A.cr M.ram,bRow A.ai M.d.xs.length A.ci M.d.xs,bRow A.ao M.d.ys.length A.co M.d.ys]:=by
  simp [mvF,cM,wRow]
 refine ⟨⟨?_,?_,?_,h.lo⟩,⟨rfl,rfl,rfl,by rw [hsz];exact Nat.le_refl _,fun k hk=>Below.heap_setCell _ _ _ k (by dsimp only;omega)⟩⟩
 ·have:=row_far h.row ⟨b,i,none⟩ (.int .u64 v) hbr
  simpa [mvc,cM] using this
 ·rw [ef,hsz];exact hm.1
 ·rw [ef]
  intro q hq
  simp only [List.cons_append,List.nil_append,List.mem_cons,List.not_mem_nil,or_false] at hq
  rcases hq with rfl | rfl | rfl | rfl | rfl
  ·exact h.ne _ (by simp [mvF])
  ·exact hne
  ·exact h.ne _ (by simp [mvF])
  ·exact h.ne _ (by simp [mvF])
  ·exact h.ne _ (by simp [mvF])

theorem set_U {l:List Int} (h:∀ j,U (l.getD j 0)) (i:Nat) {v:Int} (hv:U v):∀ j,U ((l.set i v).getD j 0):=by
 intro j
 have:=h j
 simp only [List.getD,List.getElem?_set]
 split
 ·split
  ·exact hv
  ·exact ⟨by simp,by simp⟩
 ·exact this

theorem Mp.setF {B r:Nat} {M M':MV} {A:MA} {w:World} (h:Mp B r M A w) (i:Nat) (v:Value) (hc:mvc M' A=(mvc M A).setIfInBounds i v) (hf:mvF M' A=mvF M A):Mp B r M' A (w.setCell ⟨r,i,none⟩ v)∧Below B w (w.setCell ⟨r,i,none⟩ v):=by
 have hlo:=h.lo
 refine ⟨⟨?_,?_,by rw [hf];exact h.ne,h.lo⟩,⟨rfl,rfl,rfl,by rw [size_set];exact Nat.le_refl _,fun k hk=>Below.heap_setCell _ _ _ k (by dsimp only;omega)⟩⟩
 ·rw [hc];exact row_set h.row i v
 ·rw [hf];exact Mp.fam_set h.fam h.ne i v

theorem run_storeVar_at {P:Program} (w:World) (g o:Nat) (t ty:TypeId) (old cells:Array Value) (hg:w.heap[g]?=some (.cells old t (0,0))) (hi:(P.info? ty).map (·.size)=some cells.size)
 (ho:o+cells.size≤old.size) (h1:cells.all (·.oneCell')=true) :
 (storeVar ty ⟨g,o,none⟩ (.agg cells)).run P w=.ok () (w.setRow g (old.toList.take o ++ cells.toList ++ old.toList.drop (o+cells.size)).toArray):=by
 have:=run_storeCells_at (P:=P) g o t cells.toList 0 old w hg (by simp;omega) (fun v hv=>(Array.all_eq_true_iff_forall_mem.1 h1) v (by simpa using hv))
 cases hq:P.info? ty with
 | none=>simp [hq] at hi
 | some i =>
   have hs:cells.size=i.size:=by simp [hq] at hi;omega
   simp only [Nat.add_zero,Array.length_toList] at this
   simp only [List.append_assoc] at this ⊢
   simp [storeVar,sizeOf,typeInfo,hq,Value.cells,hs,this]

theorem wpList_store_at {ops:Array Oper} {rest:List Oper} {o:Oper} {a:Act} {w:World} {Q:Exit→Act→World→Prop} (hgd:o.guard=none) (ty:TypeId) (x y:Operand) (ho:o.op=.store ty x y)
 (g k:Nat) (cells:Array Value) (hx:a.eval x=.pointer (some ⟨g,k,none⟩)) (hy:a.eval y=.agg cells)
 (t:TypeId) (old:Array Value) (hg:w.heap[g]?=some (.cells old t (0,0))) (hi:(Tryz.prog.info? ty).map (·.size)=some cells.size)
 (hold:k+cells.size≤old.size) (h1:cells.all (·.oneCell')=true)
 (h:wpList Tryz.prog ops Q rest (a.put o.dst undef) (w.setRow g (old.toList.take k ++ cells.toList ++ old.toList.drop (k+cells.size)).toArray)):wpList Tryz.prog ops Q (o :: rest) a w:=by
 refine wpList_plain hgd fun K hK=>?_
 unfold Oper.wp execOp
 simp only [ho,hx,hy,Instr.storeAt,Instr.sureAddr,Sem.run_bind,Sem.run_pure,Result.andThen_ok,run_storeVar_at w g k t ty old cells hg hi hold h1]
 exact hK _ _ h

structure Ht (B hh r:Nat) (M:MV) (A:MA) (W:World):Prop where
 row:W.heap[hh]?=some (.cells #[.pointer (some ⟨r,0,none⟩),.slice none 0 0] 57 (0,0))
 mp:Mp B r M A W
 ne:hh≠r
 nq:∀ q ∈ mvF M A,q.v.ownBlock≠some hh

theorem Ht.lt {B hh r:Nat} {M:MV} {A:MA} {w:World} (h:Ht B hh r M A w):hh < w.heap.size:=(Array.getElem?_eq_some_iff.1 h.row).1

theorem Ht.step {B hh r:Nat} {M M':MV} {A A':MA} {w w':World} (h:Ht B hh r M A w) (p:Mp B r M' A' w') (k:Kx r (mvF M A) (mvF M' A') w w'):Ht B hh r M' A' w' :=
 ⟨(k.block hh h.lt h.ne h.nq).trans h.row,p,h.ne,fun q hq e=>by obtain ⟨q0,h0,e0⟩:=k.own q hq hh e h.lt;exact h.nq q0 h0 e0⟩

theorem Ht.below {B hh r:Nat} {M:MV} {A:MA} {w w':World} (h:Ht B hh r M A w) (hb:Below w.heap.size w w'):Ht B hh r M A w':=h.step (h.mp.below hb) (Kx.of_below hb)

theorem Ht.cells {B hh r:Nat} {M:MV} {A:MA} {w:World} (h:Ht B hh r M A w):w.cell? ⟨hh,0,none⟩=some (.pointer (some ⟨r,0,none⟩))∧w.cell? ⟨hh,1,none⟩=some (.slice none 0 0):=by
 simp [World.cell?,h.row]

theorem Mp.cs {B r:Nat} {M:MV} {A:MA} {w:World} (h:Mp B r M A w) (h22:M.cs.length=22):∃ g,A.ac=some ⟨g,0,none⟩∧Own w B g A.cc M.cs ∧
 ∀ (w':World) (l:List Int),l.length=22→w.grownBy w' (some g)→Own w' B g A.cc l→Mp B r (csM M l) A w'∧Kx r (mvF M A) (mvF (csM M l) A) w w':=by
 have hmem:wRow A.ac M.cs.length A.cc M.cs ∈ mvF M A:=by simp [mvF]
 have ho:=h.fam.own _ hmem
 have hg:∃ g,A.ac=some ⟨g,0,none⟩:=by
  rcases ho.2 with ⟨e,e0⟩ | ⟨g',cap,cur,e,_⟩
  ·have:M.cs.length=0:=e0;omega
  ·have e2:Value.slice A.ac M.cs.length A.cc=.slice (some ⟨g',0,none⟩) M.cs.length cap:=e
   injection e2 with e3
   exact ⟨g',e3⟩
 obtain ⟨g,hg⟩:=hg
 have ho2:Own w B g A.cc M.cs:=by
  have:w.ownsRow B 24 1 (.slice A.ac M.cs.length A.cc) M.cs.length (M.cs.map (Value.int .u64)):=ho
  rw [hg,h22] at this
  exact this
 refine ⟨g,hg,ho2,fun w' l hl hgr hown=>?_⟩
 have hgr2:w.grownBy w' (wRow A.ac M.cs.length A.cc M.cs).v.ownBlock:=by
  have e:(wRow A.ac M.cs.length A.cc M.cs).v.ownBlock=some g:=by show (Value.slice A.ac M.cs.length A.cc).ownBlock=_;rw [hg];rfl
  rw [e];exact hgr
 have hst:w'.ownsRow B 24 1 (wRow A.ac M.cs.length A.cc M.cs).v M.cs.length (l.map (Value.int .u64)):=by
  show w'.ownsRow B 24 1 (.slice A.ac M.cs.length A.cc) _ _
  rw [hg,h22];exact hown
 have hmk:=Fam.markL (L1:=[wRow A.ax M.x.length A.cx M.x]) (L2:=[bRow A.ar M.ram.length A.cr M.ram,bRow A.ai M.d.xs.length A.ci M.d.xs,bRow A.ao M.d.ys.length A.co M.d.ys]) (r:=wRow A.ac M.cs.length A.cc M.cs) h.fam hgr2 _ hst
 have hlen:l.length=M.cs.length:=by omega
 have hsame:=mvF_same (M:=M) (M':=csM M l) (A:=A) rfl hlen rfl rfl rfl
 have hF:Fam B w.heap.size w' (mvF (csM M l) A):=by
  unfold mvF csM
  dsimp only
  rw [hlen]
  exact hmk.1
 refine ⟨⟨?_,hF.low (Nat.le_refl _) hgr.size,fun q hq e=>?_,h.lo⟩,Kx.of_keepL hmk.2 hsame⟩
 ·have hr:w'.heap[r]?=w.heap[r]?:=hmk.2.block r h.lt (fun q hq e=>h.ne q hq e)
  rw [hr,h.row]
  unfold mvc csM
  dsimp only
  rw [hlen]
 ·obtain ⟨q0,h0,e0⟩:=hsame q hq
  exact h.ne q0 h0 (by rw [e0];exact e)

theorem Mp.fld {B r:Nat} {M M':MV} {A:MA} {w:World} (h:Mp B r M A w) (i:Nat) (v:Value) (hc:mvc M' A=(mvc M A).setIfInBounds i v) (hf:mvF M' A=mvF M A):Mp B r M' A (w.setCell ⟨r,i,none⟩ v)∧Kx r (mvF M A) (mvF M' A) w (w.setCell ⟨r,i,none⟩ v):=by
 refine ⟨⟨?_,by rw [hf];exact Mp.fam_set h.fam h.ne i v,by rw [hf];exact h.ne,h.lo⟩,by rw [hf];exact Kx.set w i v⟩
 rw [hc]
 exact row_set h.row i v

theorem kx_cell {r:Nat} {L L':List FRow} {q:FRow} (hq:q ∈ L) {b:Nat} (e:q.v.ownBlock=some b) (hs:∀ q ∈ L',∃ q0 ∈ L,q0.v=q.v) (w:World) (i:Nat) (v:Value):Kx r L L' w (w.setCell ⟨b,i,none⟩ v) :=
 ⟨rfl,rfl,rfl,by rw [size_set];exact Nat.le_refl _,fun k _ _ ho=>Below.heap_setCell w ⟨b,i,none⟩ v k (fun e2=>ho q hq (by rw [e];exact congrArg some e2.symm)),fun q' hq' k e' _=>by obtain ⟨q0,h0,e0⟩:=hs q' hq';exact ⟨q0,h0,by rw [e0];exact e'⟩⟩

theorem Ht.atX {B hh r:Nat} {M:MV} {A:MA} {w:World} (h:Ht B hh r M A w) (h32:M.x.length=32):∃ b,A.ax=some ⟨b,0,none⟩∧∀ j,j < 32→w.cell? ⟨b,j,none⟩=some (.int .u64 (M.x.getD j 0))∧w.frozen? ⟨b,j,none⟩=false:=by
 have hx:=h.mp.xrow
 rw [h32] at hx
 obtain ⟨b,c,e,hb⟩:=own_shape hx (by omega)
 simp only [Value.slice.injEq,true_and] at e
 obtain ⟨e1,e2⟩:=e
 refine ⟨b,e1,fun j hj=>?_⟩
 rw [e1] at hx
 refine ⟨?_,hx.frozenAt j⟩
 rw [hx.cellAt j (by omega)]
 rw [List.getElem?_map,List.getElem?_eq_getElem (show j < M.x.length by omega),List.getD_eq_getElem?_getD,List.getElem?_eq_getElem (show j < M.x.length by omega)]
 rfl

theorem Ht.atC {B hh r:Nat} {M:MV} {A:MA} {w:World} (h:Ht B hh r M A w) (h22:M.cs.length=22):∃ b,A.ac=some ⟨b,0,none⟩∧∀ j,j < 22→w.cell? ⟨b,j,none⟩=some (.int .u64 (M.cs.getD j 0))∧w.frozen? ⟨b,j,none⟩=false:=by
 have hx:w.ownsRow B 24 1 (.slice A.ac M.cs.length A.cc) M.cs.length (M.cs.map (Value.int .u64)):=h.mp.fam.own (wRow A.ac M.cs.length A.cc M.cs) (by simp [mvF])
 rw [h22] at hx
 obtain ⟨b,c,e,hb⟩:=own_shape hx (by omega)
 simp only [Value.slice.injEq,true_and] at e
 obtain ⟨e1,e2⟩:=e
 refine ⟨b,e1,fun j hj=>?_⟩
 rw [e1] at hx
 refine ⟨?_,hx.frozenAt j⟩
 rw [hx.cellAt j (by omega)]
 rw [List.getElem?_map,List.getElem?_eq_getElem (show j < M.cs.length by omega),List.getD_eq_getElem?_getD,List.getElem?_eq_getElem (show j < M.cs.length by omega)]
 rfl

theorem l5Enter_ht {B hh r:Nat} {M:MV} {A:MA} {w:World} (h:Ht B hh r M A w) (hg:Gd M) (k:Nat) (hk:k < 16) (i:Bool) (v:Int) :
 Calls Tryz.prog 58 #[.slice A.ac M.cs.length A.cc,.int .i64 M.pr,.int .u64 M.pc,.int .i64 k,.bool i,.int .u64 v] w fun e w'=>e=.returned (.tuple #[.int .i64 (trapM M k i v).pr,.int .u64 (trapM M k i v).pc])∧Ht B hh r (csM M (trapM M k i v).cs) A w'∧Kx r (mvF M A) (mvF (csM M (trapM M k i v).cs) A) w w':=by
 obtain ⟨h22,hcs,hpr,_,_,_⟩:=mach_parts hg.ok
 obtain ⟨g,hac,hown,hup⟩:=h.mp.cs h22
 rw [hac,h22]
 refine (l5Enter_any B g A.cc M.cs M.pr M.pc v hpr k hk i w hown).mono fun e w' ⟨h1,h2,h3⟩=>?_
 obtain ⟨hm,hx⟩:=hup w' _ (by rw [enterL_len];exact h22) h3 h2
 exact ⟨h1,h.step hm hx,hx⟩

theorem drop_any (M:MV) (A:MA) (B hh r:Nat) (w:World) (h:Ht B hh r M A w) :
 Calls Tryz.prog 59 #[.pointer (some ⟨hh,0,none⟩)] w fun e w'=>e=.returned (.tuple #[])∧w'=w:=by
 obtain ⟨c0,c1⟩:=h.cells
 clear h
 go_enter Tryz.func59,Tryz.ntmps59
 go_wp2_with fail
 exact bodyPost_end (results_none rfl _ _ _) rfl ⟨rfl,rfl⟩

structure Kr where
 b:Nat
 cs:Array Value
 t:TypeId
 tg:List (Nat × Nat)

structure Hx (B r:Nat) (L:List Kr) (M0:MV) (A0:MA) (w0:World) (M:MV) (A:MA) (W:World):Prop where
 mp:Mp B r M A W
 kx:Kx r (mvF M0 A0) (mvF M A) w0 W
 rows:∀ x ∈ L,W.heap[x.b]?=some (.cells x.cs x.t (0,0))∧x.b≠r∧∀ q ∈ mvF M A,q.v.ownBlock≠some x.b

section
variable {B r : Nat} {L : List Kr} {M0 M M' : MV} {A0 A A' : MA} {w0 W W' : World}

theorem Hx.step (h:Hx B r L M0 A0 w0 M A W) (p:Mp B r M' A' W') (k:Kx r (mvF M A) (mvF M' A') W W'):Hx B r L M0 A0 w0 M' A' W' :=
 ⟨p,h.kx.trans k,fun x hx=>by
  obtain ⟨h1,h2,h3⟩:=h.rows x hx
  have hlt:=(Array.getElem?_eq_some_iff.1 h1).1
  exact ⟨(k.block x.b hlt h2 h3).trans h1,h2,fun q hq e=>by obtain ⟨q0,h0,e0⟩:=k.own q hq x.b e hlt;exact h3 q0 h0 e0⟩⟩

theorem Hx.below (h:Hx B r L M0 A0 w0 M A W) (k:Below W.heap.size W W'):Hx B r L M0 A0 w0 M A W':=h.step (h.mp.below k) (Kx.of_below k)

def hxR (r:Nat) (M:MV) (A:MA) (L:List Kr):List Rw:=⟨r,mvc M A,[]⟩ :: L.map (fun x=>⟨x.b,x.cs,x.tg⟩)

theorem Hx.eng {P:Program} {fn:Func} {dr:Bool} {Rs:Ending→World→Prop}:Eng P (Hx B r L M0 A0 w0 M A) (Hx B r L M0 A0 w0 M A) (hxR r M A L) dr (bodyPost P fn Rs) :=
 ⟨fun _ h=>h,fun W h x hx=>by
  rcases List.mem_cons.1 hx with rfl | hx
  ·exact ⟨_,_,h.mp.row⟩
  ·obtain ⟨y,hy,rfl⟩:=List.mem_map.1 hx
   exact ⟨_,_,(h.rows y hy).1⟩,fun _ W h=>h.below (Below.refl _ _).drew,pan_body⟩

def Hs (r:Nat) (L:List Kr) (cs:Array Value) (W:World):Prop:=W.heap[r]?=some (.cells cs 29 (0,0))∧∀ x ∈ L,W.heap[x.b]?=some (.cells x.cs x.t (0,0))

theorem Hx.hs (h:Hx B r L M0 A0 w0 M A W):Hs r L (mvc M A) W:=⟨h.mp.row,fun x hx=>(h.rows x hx).1⟩

def hsR (r:Nat) (cs:Array Value) (L:List Kr):List Rw:=⟨r,cs,[]⟩ :: L.map (fun x=>⟨x.b,x.cs,x.tg⟩)

theorem Hs.eng {P:Program} {fn:Func} {dr:Bool} {Rs:Ending→World→Prop} {cs:Array Value} (hs:∀ W,Hx B r L M0 A0 w0 M A W→Hs r L cs W):Eng P (Hs r L cs) (Hx B r L M0 A0 w0 M A) (hsR r cs L) dr (bodyPost P fn Rs) :=
 ⟨hs,fun W h x hx=>by
  rcases List.mem_cons.1 hx with rfl | hx
  ·exact ⟨_,_,h.1⟩
  ·obtain ⟨y,hy,rfl⟩:=List.mem_map.1 hx
   exact ⟨_,_,h.2 y hy⟩,fun _ W h=>h.below (Below.refl _ _).drew,pan_body⟩

theorem Hx.fld (h:Hx B r L M0 A0 w0 M A W) (i:Nat) (v:Value) (hc:mvc M' A=(mvc M A).setIfInBounds i v) (hf:mvF M' A=mvF M A):Hx B r L M0 A0 w0 M' A (W.setCell ⟨r,i,none⟩ v):=h.step (h.mp.fld i v hc hf).1 (h.mp.fld i v hc hf).2

theorem Hx.setX (h:Hx B r L M0 A0 w0 M A W) (b:Nat) (hb:A.ax=some ⟨b,0,none⟩) (i:Nat) (v:Int):Hx B r L M0 A0 w0 (xM M (M.x.set i v)) A (W.setCell ⟨b,i,none⟩ (.int .u64 v)) :=
 h.step (h.mp.setX b hb i v).1 (kx_cell (L:=mvF M A) (q:=wRow A.ax M.x.length A.cx M.x) (by simp [mvF]) (by show (Value.slice A.ax M.x.length A.cx).ownBlock=_;rw [hb];rfl) (mvF_same (M:=M) (M':=xM M (M.x.set i v)) (show (M.x.set i v).length=M.x.length by simp) rfl rfl rfl rfl) W i _)

theorem Hx.setC (h:Hx B r L M0 A0 w0 M A W) (b:Nat) (hb:A.ac=some ⟨b,0,none⟩) (i:Nat) (v:Int):Hx B r L M0 A0 w0 (cM M (M.cs.set i v)) A (W.setCell ⟨b,i,none⟩ (.int .u64 v)) :=
 h.step (h.mp.setC b hb i v).1 (kx_cell (L:=mvF M A) (q:=wRow A.ac M.cs.length A.cc M.cs) (by simp [mvF]) (by show (Value.slice A.ac M.cs.length A.cc).ownBlock=_;rw [hb];rfl) (mvF_same (M:=M) (M':=cM M (M.cs.set i v)) rfl (show (M.cs.set i v).length=M.cs.length by simp) rfl rfl rfl) W i _)

end

def hartR (hh r:Nat):Kr:=⟨hh,#[.pointer (some ⟨r,0,none⟩),.slice none 0 0],57,[(0,1)]⟩

def boxR (N:Nat):List (Array Value × TypeId)→List Kr
 | []=>[]
 | x :: l=>⟨N,x.1,x.2,[]⟩ :: boxR (N+1) l

theorem boxR_mem {x:Kr}:∀ {l:List (Array Value × TypeId)} {N:Nat},x ∈ boxR N l→∃ i y,l[i]?=some y∧x.b=N+i∧x.cs=y.1∧x.t=y.2
 | [],_,h=>by cases h
 | y :: l,N,h=>by
   rcases List.mem_cons.1 h with rfl | h
   ·exact ⟨0,y,rfl,rfl,rfl,rfl⟩
   ·obtain ⟨i,z,h1,h2,h3⟩:=boxR_mem h
    exact ⟨i+1,z,by simpa using h1,by omega,h3⟩

section
variable {B hh r : Nat} {M : MV} {A : MA} {w : World}

theorem Hx.start (h:Ht B hh r M A w) (bs:List (Array Value × TypeId)):Hx B r (hartR hh r :: boxR w.heap.size bs) M A w M A (allocs w bs):=by
 obtain ⟨h1,h2⟩:=Bs.start w bs
 refine ⟨h.mp.below h2,Kx.of_below h2,fun x hx=>?_⟩
 rcases List.mem_cons.1 hx with rfl | hx
 ·exact ⟨dstays h2 h.row,h.ne,h.nq⟩
 ·obtain ⟨i,y,e1,e2,e3,e4⟩:=boxR_mem hx
  have hlt:=h.mp.lt
  refine ⟨by rw [e2,e3,e4];exact h1 i y e1,by omega,fun q hq e=>?_⟩
  have:=h.mp.fam.hi q hq _ e
  omega

theorem Hx.ht {M':MV} {A':MA} {L:List Kr} {W:World} (h:Hx B r (hartR hh r :: L) M A w M' A' W):Ht B hh r M' A' W:=by
 obtain ⟨h1,h2,h3⟩:=h.rows (hartR hh r) (by simp)
 exact ⟨h1,h.mp,h2,h3⟩

theorem Hx.to {M' M2:MV} {A' A2:MA} {L:List Kr} {W W2:World} (h:Hx B r (hartR hh r :: L) M A w M' A' W) (k:Ht B hh r M2 A2 W2) (kx:Kx r (mvF M' A') (mvF M2 A2) W W2):Hx B r (hartR hh r :: L) M A w M2 A2 W2:=h.step k.mp kx

end

def HR (B hh r:Nat) (M:MV) (A:MA) (w:World) (R:MV × Int) (e:Ending) (w':World):Prop:=e=.returned (.int .i64 R.2)∧∃ A',Ht B hh r R.1 A' w'∧Kx r (mvF M A) (mvF R.1 A') w w'

theorem Hx.hr {B hh r:Nat} {M M':MV} {A A':MA} {w W:World} {L:List Kr} (h:Hx B r (hartR hh r :: L) M A w M' A' W) (k:Int):HR B hh r M A w (M',k) (.returned (.int .i64 k)) W:=⟨rfl,A',h.ht,h.kx⟩

theorem run_stc {P:Program} {w:World} {b i:Nat} {T:TypeId} {v:Value} {t:TypeId} {cs:Array Value} (hr:w.heap[b]?=some (.cells cs t (0,0))) (hi:i < cs.size) (hT:(P.info? T).map (·.size)=some 1) (hv:v.cells=#[v]) (ho:v.oneCell'=true:=by rfl) :
 (do Instr.storeAt T (.pointer (some ⟨b,i,none⟩)) v;pure Next.skip:Sem Next).run P w=.ok .skip (w.setCell ⟨b,i,none⟩ v):=by
 obtain ⟨t,ht,hs⟩:=Option.map_eq_some_iff.1 hT
 have hc:w.cell? ⟨b,i,none⟩=some cs[i]:=by simp [World.cell?,hr,hi]
 have h1:(store ⟨b,i,none⟩ v).run P w=.ok () (w.setCell ⟨b,i,none⟩ v):=by
  rw [run_store P w _ v _ ho]
  simp [hc,froz hr i]
 simp [Instr.storeAt,Instr.sureAddr,storeVar,sizeOf,typeInfo,ht,hs,hv,storeCells,Addr.add,Result.andThen,h1]

theorem run_ste {P:Program} {w:World} {b i:Nat} {T:TypeId} {v old:Value} (hc:w.cell? ⟨b,i,none⟩=some old∧w.frozen? ⟨b,i,none⟩=false) (hT:(P.info? T).map (·.size)=some 1) (hv:v.cells=#[v]) (ho:v.oneCell'=true:=by rfl) :
 (do Instr.storeAt T (.pointer (some ⟨b,i,none⟩)) v;pure Next.skip:Sem Next).run P w=.ok .skip (w.setCell ⟨b,i,none⟩ v):=by
 obtain ⟨t,ht,hs⟩:=Option.map_eq_some_iff.1 hT
 have h1:(store ⟨b,i,none⟩ v).run P w=.ok () (w.setCell ⟨b,i,none⟩ v):=by
  rw [run_store P w _ v _ ho]
  simp [hc.1,hc.2]
 simp [Instr.storeAt,Instr.sureAddr,storeVar,sizeOf,typeInfo,ht,hs,hv,storeCells,Addr.add,Result.andThen,h1]

section
variable {B hh r : Nat} {M : MV} {A : MA} {w : World}

set_option maxRecDepth 100000 in
theorem trap_r (k:Nat) (hk:k < 16) (v:Int) (h:Ht B hh r M A w) (hg:Gd M) :
 Calls Tryz.prog 61 #[.pointer (some ⟨hh,0,none⟩),.int .i64 k,.int .u64 v] w (HR B hh r M A w (trapM M k false v,2)):=by
 refine wk_go (S:=Hx B r [hartR hh r] M A w M A) (args:=[.pointer (some ⟨hh,0,none⟩),.int .i64 k,.int .u64 v]) [] Tryz.func61 rfl (by kernel_rfl) (by kernel_rfl) ?_
 refine wk_tag 0 2 ?_
 refine wk_adv (Hx.eng (dr:=false)) {} 10 (Hx.start h []) (by kernel_rfl) (by kernel_rfl) fun W hW=>?_
 have hl:(trapM M k false v).cs.length=M.cs.length:=enterL_len _ _ _ _ _ _
 have em:mvc (csM M (trapM M k false v).cs) A=mvc M A:=by unfold mvc csM;dsimp only;rw [hl]
 refine wk_S (Hs r [hartR hh r] (mvc M A)) (by kernel_rfl) ?_
 refine wk_K 37 (by kernel_rfl) (by kernel_rfl) ?_
 refine wk_ac (Hs.eng (dr:=true) (fun _ h=>h.hs)) {} 100 (hW.below (Below.refl _ _).drew) (fun W1 h1=>l5Enter_ht h1.ht hg k hk false v) (by kernel_rfl) (by kernel_rfl) ?_
 rintro W1 e W2 h1 ⟨rfl,h2,k2⟩
 have h3:=h1.to h2 k2
 refine ⟨_,0,rfl,fun _=>em ▸ h3.hs,?_⟩
 refine wk_adv (Hs.eng (dr:=true) (fun _ h=>em ▸ h.hs)) {} 40 h3 (by kernel_rfl) (by kernel_rfl) fun W3 h3=>?_
 refine wk_sk (by kernel_rfl) (run_stc (i:=2) (T:=2) (v:=.int .i64 (trapM M k false v).pr) h3.mp.row (show 2 < 14 by decide) (by kernel_rfl) rfl) (nob (by kernel_rfl)) ?_
 have h4:=h3.fld (M':=privM (csM M (trapM M k false v).cs) (trapM M k false v).pr) 2 (.int .i64 (trapM M k false v).pr) rfl rfl
 refine wk_S (Hx B r [hartR hh r] M A w (privM (csM M (trapM M k false v).cs) (trapM M k false v).pr) A) (by kernel_rfl) ?_
 refine wk_adv (Hx.eng (dr:=true)) {} 40 h4 (by kernel_rfl) (by kernel_rfl) fun W5 h5=>?_
 refine wk_sk (by kernel_rfl) (run_stc (i:=0) (T:=24) (v:=.int .u64 (trapM M k false v).pc) h5.mp.row (show 0 < 14 by decide) (by kernel_rfl) rfl) (nob (by kernel_rfl)) ?_
 have h6:=h5.fld (M':=trapM M k false v) 0 (.int .u64 (trapM M k false v).pc) rfl rfl
 refine wk_S (Hx B r [hartR hh r] M A w (trapM M k false v) A) (by kernel_rfl) ?_
 exact wk_end (t:=6) (v:=.int .i64 2) (Hx.eng (dr:=true)) { cv:=[(47,cvS fun W hW=>drop_any (trapM M k false v) A B hh r W hW.ht)] } 40 h6 (by kernel_rfl) (by kernel_rfl) rfl fun W hW=>hW.hr 2

set_option maxRecDepth 100000 in
theorem done_r (rd x to:Int) (hr0:0≤rd) (hr1:rd≤31) (h:Ht B hh r M A w) (h32:M.x.length=32) (h22:M.cs.length=22) :
 Calls Tryz.prog 62 #[.pointer (some ⟨hh,0,none⟩),.int .i64 rd,.int .u64 x,.int .u64 to] w (HR B hh r M A w (doneM M rd x to,1)):=by
 have h0:=Hx.start h []
 have fin:∀ (S:World→Prop) (N:MV) (W:World),Hx B r [hartR hh r] M A w N A W→N.x.length=32→N.cs=M.cs→⟨to,N.x,M.pr,M.cs.set 21 (IntKind.u64.wrap (M.cs.getD 21 0+1)),M.ram,M.d,M.hd,M.hl,M.wt⟩=doneM M rd x to→(N.pr=M.pr∧N.ram=M.ram∧N.d=M.d∧N.hd=M.hd∧N.hl=M.hl∧N.wt=M.wt)→Wg Tryz.prog S (bodyPost Tryz.prog Tryz.f62 (HR B hh r M A w (doneM M rd x to,1))) Tryz.f62.ntmps [.code (dropC 2 (bodyOf Tryz.f62))] [(0,.pointer (some ⟨hh,0,none⟩),2),(3,.int .u64 to,0)] W:=by
  intro S N W hN hx hc he hm
  obtain ⟨npc,nx,npr,ncs,nram,nd,nhd,nhl,nwt⟩:=N
  obtain ⟨rfl,rfl,rfl,rfl,rfl,rfl⟩:=hm
  dsimp only at hx hc he
  subst hc
  obtain ⟨b,hb,hcell⟩:=hN.ht.atC h22
  refine wk_S (Hx B r [hartR hh r] M A w ⟨npc,nx,M.pr,M.cs,M.ram,M.d,M.hd,M.hl,M.wt⟩ A) (by kernel_rfl) ?_
  refine wk_adv (Hx.eng (dr:=false)) {} 40 hN (by kernel_rfl) (by kernel_rfl) fun W1 h1=>?_
  refine wk_sk (by kernel_rfl) (run_stc (i:=0) (T:=24) (v:=.int .u64 to) h1.mp.row (show 0 < 14 by decide) (by kernel_rfl) rfl) (nob (by kernel_rfl)) ?_
  have h2:=h1.fld (M':=⟨to,nx,M.pr,M.cs,M.ram,M.d,M.hd,M.hl,M.wt⟩) 0 (.int .u64 to) rfl rfl
  refine wk_S (Hx B r [hartR hh r] M A w ⟨to,nx,M.pr,M.cs,M.ram,M.d,M.hd,M.hl,M.wt⟩ A) (by kernel_rfl) ?_
  refine wk_adv (Hx.eng (dr:=false)) {} 40 h2 (by kernel_rfl) (by kernel_rfl) fun W3 h3=>?_
  refine wk_tail (by kernel_rfl) (by kernel_rfl) ?_
  have cc:∀ W,Hx B r [hartR hh r] M A w ⟨to,nx,M.pr,M.cs,M.ram,M.d,M.hd,M.hl,M.wt⟩ A W→W.cell? ⟨b,0+(21:Int).toNat,none⟩=some (.int .u64 (M.cs.getD 21 0))∧W.frozen? ⟨b,0+(21:Int).toNat,none⟩=false:=fun W hW=>by
   obtain ⟨b',hb',hcell'⟩:=hW.ht.atC h22
   rw [hb] at hb'
   cases hb'
   exact hcell' 21 (by omega)
  refine wk_adv (Hx.eng (dr:=true)) { ov:=[(42,ovX M.cs.length A.cc .i64 21 hb ⟨by omega,by omega⟩ Tryz.underlying25 (by kernel_rfl)),(43,ovL ⟨b,0+(21:Int).toNat,none⟩ (.int .u64 (M.cs.getD 21 0)) Tryz.underlying24 rfl (fun W hW=>(cc W hW).1)),(45,ovX M.cs.length A.cc .i64 21 hb ⟨by omega,by omega⟩ Tryz.underlying25 (by kernel_rfl))] } 60 (h3.below (Below.refl _ _).drew) (by kernel_rfl) (by kernel_rfl) fun W4 h4=>?_
  refine wk_sk (by kernel_rfl) (run_ste (T:=24) (v:=.int .u64 (IntKind.u64.wrap (M.cs.getD 21 0+1))) (cc W4 h4) (by kernel_rfl) rfl) (nob (by kernel_rfl)) ?_
  have h5:=h4.setC b hb 21 (IntKind.u64.wrap (M.cs.getD 21 0+1))
  rw [show cM (⟨to,nx,M.pr,M.cs,M.ram,M.d,M.hd,M.hl,M.wt⟩:MV) (M.cs.set 21 (IntKind.u64.wrap (M.cs.getD 21 0+1)))=doneM M rd x to from he] at h5
  refine wk_S (Hx B r [hartR hh r] M A w (doneM M rd x to) A) (by kernel_rfl) ?_
  exact wk_end (t:=8) (v:=.int .i64 1) (Hx.eng (dr:=true)) {} 40 h5 (by kernel_rfl) (by kernel_rfl) rfl fun W hW=>hW.hr 1
 refine wk_go (S:=Hx B r [hartR hh r] M A w M A) (args:=[.pointer (some ⟨hh,0,none⟩),.int .i64 rd,.int .u64 x,.int .u64 to]) [] Tryz.func62 rfl (by kernel_rfl) (by kernel_rfl) ?_
 refine wk_tag 0 2 ?_
 by_cases e:rd=0
 ·subst e
  refine wk_adv (Hx.eng (dr:=false)) {} 8 h0 (by kernel_rfl) (by kernel_rfl) fun W hW=>?_
  exact wk_join _ _ (by kernel_rfl) (by kernel_rfl) (fin _ M W hW h32 rfl rfl ⟨rfl,rfl,rfl,rfl,rfl,rfl⟩)
 ·have q:(rd != 0)=true:=by simpa using e
  obtain ⟨b,hb,hcell⟩:=h.atX h32
  have cc:∀ W,Hx B r [hartR hh r] M A w M A W→W.cell? ⟨b,0+rd.toNat,none⟩=some (.int .u64 (M.x.getD (0+rd.toNat) 0))∧W.frozen? ⟨b,0+rd.toNat,none⟩=false:=fun W hW=>by
   obtain ⟨b',hb',hcell'⟩:=hW.ht.atX h32
   rw [hb] at hb'
   cases hb'
   exact hcell' (0+rd.toNat) (by omega)
  refine wk_adv (Hx.eng (dr:=false)) { eq:=[(10,eqB q)],ov:=[(20,ovX M.x.length A.cx .i64 rd hb ⟨by omega,by omega⟩ Tryz.underlying25 (by kernel_rfl))] } 40 h0 (by kernel_rfl) (by kernel_rfl) fun W hW=>?_
  refine wk_sk (by kernel_rfl) (run_ste (T:=24) (v:=.int .u64 x) (cc W hW) (by kernel_rfl) rfl) (nob (by kernel_rfl)) ?_
  have h1:=hW.setX b hb (0+rd.toNat) x
  refine wx_adv (R:=[]) trivial {} 1 (by kernel_rfl) (by kernel_rfl) ?_
  refine wk_join _ _ (by kernel_rfl) (by kernel_rfl) (fin _ _ _ h1 (by show (M.x.set _ _).length=32;rw [List.length_set];exact h32) rfl ?_ ⟨rfl,rfl,rfl,rfl,rfl,rfl⟩)
  unfold doneM xM
  rw [if_neg e,Nat.zero_add]

end

end Go.Proofs.YtbajeckeeekhnaaGreat
