/- Own lemmas. -/
import Derived.Test.YtlidafnochnddaaGreatDoorAut
import Derived.Test.YtlidafnochnddaaGreatDoorK16
import Derived.Test.YtlidafnochnddaaGreatDoorK17
namespace Go.Proofs.YtlidafnochnddaaGreatDoor
open Go.RowKit
open IntKind renaming u64->Uz
open List renaming getD_eq_getElem?_getD->A0,getElem?_set->A5,length_set->A6
set_option linter.unusedVariables false
variable {M:MV}
def cu (M:MV) (k:Nat) (i:Bool) (v:Int):MV :=
 ⟨ew (pC M.cs (dj M.cs M.pr k i)) k (wZ M.cs (dj M.cs M.pr k i) i),M.x,tD (dj M.cs M.pr k i),iQ M.cs (dj M.cs M.pr k i) M.pr (gE k i) M.pc v,M.ram,M.d,M.hd,M.hl,M.wt⟩
def bW (M:MV) (rd x tO:Int):MV :=
 ⟨tO,if rd=0 then M.x else M.x.set rd.toNat x,M.pr,M.cs.set 21 (Uz.wrap (M.cs.getD 21 0+1)),M.ram,M.d,M.hd,M.hl,M.wt⟩
def jC (M:MV) (h:Bool) (a:Int):MV:=⟨M.pc,M.x,M.pr,M.cs,M.ram,M.d,a,h,M.wt⟩
def j5 (M:MV) (b:Bool):MV:=⟨M.pc,M.x,M.pr,M.cs,M.ram,M.d,M.hd,M.hl,b⟩
def xu (M:MV) (l:List Int):MV:=⟨M.pc,M.x,M.pr,l,M.ram,M.d,M.hd,M.hl,M.wt⟩
def xv (M:MV) (p:Int):MV:=⟨M.pc,M.x,p,M.cs,M.ram,M.d,M.hd,M.hl,M.wt⟩
def dZ (r:Int × MV × Int) (more:Nat) (v:Int):MV × Int:=(cu r.2.1 ((r.2.2-16).toNat+more) false v,2)
def iH (M:MV) (i:Ins) (a b n:Int):Int :=
 if i.op=4 then bits .andNot .u64 (Uz.wrap (a+n)) 1
 else if (decide (4<i.op)&&!Qj i.op a b)=true then Uz.wrap (M.pc+4) else Uz.wrap (M.pc+n)
def xw (M:MV) (i:Ins) (a b n:Int):MV × Int :=
 if (bits .and .u64 (iH M i a b n) 2 != 0)=true then (cu M 0 false (iH M i a b n),2)
 else (bW M (if 4<i.op then 0 else i.rd) (Uz.wrap (M.pc+4)) (iH M i a b n),1)
def kO (op:Int):Nat:=if op-11<4 then 2^(op-11).toNat else 2^(op-15).toNat
def ve (M:MV) (i:Ins) (at_:Int):MV × Int :=
 let r:=aT M at_ (kO i.op) 2 0
 if (r.2.2 != 0)=true then dZ r 0 at_
 else (bW r.2.1 i.rd (if i.op-11<4 then aX (8*kO i.op) r.1 else r.1) (Uz.wrap (r.2.1.pc+4)),1)
def rx (M:MV) (i:Ins) (at_ b:Int):MV × Int :=
 let r:=aT M at_ (2^(i.op-18).toNat:Nat) 3 b
 if (r.2.2 != 0)=true then dZ r 0 at_ else (bW r.2.1 0 0 (Uz.wrap (r.2.1.pc+4)),1)
def be (op:Int):Nat:=if op-63>=11 then 8 else 4
def n8 (op:Int):Int:=if op-63>=11 then op-74 else op-63
def dM (M:MV) (va kind:Int):Fd:=walkV M.ram M.ram.length M.cs (il M.cs M.pr kind) va kind
def iK (M:MV) (va kind:Int):MV:=dc M (bG M.ram (dM M va kind))
def Rz (M:MV) (i:Ins) (a:Int):MV × Int :=
 let r:=aT M a (be i.op) 2 0
 if (r.2.2 != 0)=true then dZ r 0 a
 else (bW (jC (iK r.2.1 a 2) true (dM r.2.1 a 2).addr) i.rd (aX (8*be i.op) r.1) (Uz.wrap (M.pc+4)),1)
def Th (M:MV) (i:Ins) (a b:Int) (pa:Int):MV × Int :=
 if (M.hl&&(M.hd==pa))=true then
  (let r:=aT M a (be i.op) 3 b
   if (r.2.2 != 0)=true then dZ r 0 a else (bW (jC r.2.1 false 0) i.rd 0 (Uz.wrap (M.pc+4)),1))
 else (bW (jC M false 0) i.rd 1 (Uz.wrap (M.pc+4)),1)
def RA (M:MV) (i:Ins) (a b:Int):MV × Int :=
 let r:=aT M a (be i.op) 2 0
 if (r.2.2 != 0)=true then dZ r 2 a
 else
  let q:=aT r.2.1 a (be i.op) 3 (mL i.op r.1 b)
  if (q.2.2 != 0)=true then dZ q 0 a else (bW q.2.1 i.rd (aX (8*be i.op) r.1) (Uz.wrap (M.pc+4)),1)
def m9 (M:MV) (i:Ins) (a b:Int):MV × Int :=
 if (n8 i.op==0)=true then Rz M i a
 else if (a%(be i.op:Nat) != 0)=true then (cu M 6 false a,2)
 else if ((dM M a 3).code != 0)=true then (cu (iK M a 3) (dM M a 3).code.toNat false a,2)
 else if (n8 i.op==1)=true then Th (iK M a 3) i a b (dM M a 3).addr
 else RA (iK M a 3) i a b
def eM (i:Ins):Bool:=((i.op-87).tmod 3==0)||(i.a != 0)
def n9 (i:Ins) (a:Int):Int:=if 90<=i.op then Uz.wrap i.a else a
def zf (i:Ins) (a old:Int):Int:=if ((i.op-87).tmod 3==1)=true then bits .or .u64 old (n9 i a) else if ((i.op-87).tmod 3==2)=true then bits .andNot .u64 old (n9 i a) else n9 i a
def Bj (M:MV) (i:Ins) (a w:Int):MV × Int :=
 if (!lG M.cs.length M.cs i.imm M.pr||(eM i&&((wrap64 (i.imm.tdiv 1024)).tmod 4==3)))=true then (cu M 2 false w,2)
 else
  let N:=bW M i.rd (jU M.cs i.imm) (Uz.wrap (M.pc+4))
  (if eM i=true then xu N (eB N.cs i.imm (zf i a (jU M.cs i.imm))) else N,1)
def E6 (p:Int):Nat:=if p=0 then 8 else if p=1 then 9 else 11
def vf (M:MV) (i:Ins) (w:Int):MV × Int :=
 if i.op=93 then (cu M (E6 M.pr) false 0,2)
 else if i.op=94 then (cu M 3 false M.pc,2)
 else if i.op=95\/i.op=96 then
  (if (((i.op==96)&&(M.pr != 3))||(M.pr==0))=true then (cu M 2 false w,2)
   else (bW (xv (xu M (M.cs.set 0 (dY (M.cs.getD 0 0) (i.op==96)))) (dX (M.cs.getD 0 0) (i.op==96))) 0 0 (jn M.cs (i.op==96)),1))
 else if (M.pr==0)=true then (cu M 2 false w,2)
 else if i.op=97 then (bW (j5 M true) 0 0 (Uz.wrap (M.pc+4)),1)
 else (bW M 0 0 (Uz.wrap (M.pc+4)),1)
def fR (M:MV) (i:Ins) (w:Int):MV × Int :=
 let a:=M.x.getD i.a.toNat 0
 let b:=M.x.getD i.b.toNat 0
 let n:=Uz.wrap i.imm
 if i.op=1 then (bW M i.rd n (Uz.wrap (M.pc+4)),1)
 else if i.op=2 then (bW M i.rd (Uz.wrap (M.pc+n)) (Uz.wrap (M.pc+4)),1)
 else if i.op<=10 then xw M i a b n
 else if i.op<=17 then ve M i (Uz.wrap (a+n))
 else if i.op<=21 then rx M i (Uz.wrap (a+n)) b
 else if i.op<=62 then (bW M i.rd (rh i.op a (if (fJ i.op).toList=[82] then b else n)) (Uz.wrap (M.pc+4)),1)
 else if i.op<=84 then m9 M i a b
 else if i.op<=86 then (bW M 0 0 (Uz.wrap (M.pc+4)),1)
 else if i.op<=92 then Bj M i a w
 else vf M i w
def cj (M:MV):MV × Int :=
 if (M.wt&&(kV M.cs==0))=true then (M,4)
 else if 0<=iN M.cs M.pr then (cu (j5 M false) (iN M.cs M.pr).toNat true 0,3)
 else
  let r:=aT (j5 M false) M.pc 4 1 0
  if (r.2.2 != 0)=true then dZ r 0 r.2.1.pc
  else match py r.1 with
   | none=>(cu r.2.1 2 false r.1,2)
   | some i=>fR r.2.1 i r.1
theorem Bk (h:ly M) {l:List Int} (e:l.getD 9 0=M.cs.getD 9 0):(bits .and .u64 (l.getD 9 0) 2184==dK M.d):=by rw [e];exact h
theorem Nu (l:List Int) (d:Bool) (p t pc v:Int):(iQ l d p t pc v).getD 9 0=l.getD 9 0:=by
 cases d;·show ((((l.set 7 t).set 6 (bits .andNot .u64 pc 3)).set 8 v).set 0 (mW (l.getD 0 0) p)).getD 9 0=_;rw [jl _ _ _ _ aa,jl _ _ _ _ aa,jl _ _ _ _ aa,jl _ _ _ _ aa]
 ·show ((((l.set 13 t).set 12 (bits .andNot .u64 pc 3)).set 14 v).set 0 (lI (l.getD 0 0) (p==1))).getD 9 0=_;rw [jl _ _ _ _ aa,jl _ _ _ _ aa,jl _ _ _ _ aa,jl _ _ _ _ aa]
theorem Hc (x k:Int) (j:Bool):U (ew x k j):=by
 cases j;·exact af .andNot x 1
 ·exact bq (bits .andNot .u64 x 1+Uz.wrap (4*k))
theorem Hd (d:Bool):di (tD d):=by cases d<;>rfl
theorem Gd.trap (h:Gd M) {k:Nat} (hk:k<16) (i:Bool) {v:Int} (hv:U v):Gd (cu M k i v):=by
 obtain ⟨n,e,o,f,g,j,l⟩:=cI h.ok;obtain ⟨b,a,c,_,_,_⟩:=dE h.ok;have d:fS 4 (pC M.cs (dj M.cs M.pr k i))\/fS 10 (pC M.cs (dj M.cs M.pr k i)):=by
  cases dj M.cs M.pr k i;·exact Or.inl (dx a 4 aa)
  ·exact Or.inr (dx a 10 aa)
 have m:=Kb M.cs b h.mw.cs a (dj M.cs M.pr k i) M.pr M.pc v c h.pc k hk i;refine ⟨kj (M:=cu M k i v) (by show (bits .and .u64 (ew _ _ _) 3==0);rw [Tu _ _ _ d];rfl) e ?_ f g j (Bk l (Nu _ _ _ _ _ _)),⟨Nd _ h.mw.cs _ _ _ _ hv _ hk _,h.mw.ram,h.mw.xs,h.mw.ys⟩,h.ux,Hc _ _ _,h.hd⟩;show aQ (iQ M.cs _ _ _ _ _).length (iQ M.cs _ _ _ _ _) (tD _);unfold aQ;rw [uP,b,Hd,Bool.and_true];exact m
theorem Gd.done (h:Gd M) {rd x tO:Int} (p:0<=rd) (q:rd<=31) (hx:U x) (r:U tO) (l:bits .and .u64 tO 3=0):Gd (bW M rd x tO):=by
 obtain ⟨_,b,s,f,m,n,o⟩:=cI h.ok;obtain ⟨c,i,k,_,_,_⟩:=dE h.ok;unfold jz at b;rw [Bool.and_eq_true,JZ6] at b;have d:U (Uz.wrap (M.cs.getD 21 0+1)):=bq _;have g:bp 22 (M.cs.set 21 (Uz.wrap (M.cs.getD 21 0+1))):=bM M.cs c i 21 aa _ (beq_self_eq_true _);have a:(if rd=0 then M.x else M.x.set rd.toNat x).length=32/\((if rd=0 then M.x else M.x.set rd.toNat x).getD 0 0==0)/\∀ j,U ((if rd=0 then M.x else M.x.set rd.toNat x).getD j 0):=by
  by_cases e:rd=0;·rw [JZ8 e];exact ⟨b.1,b.2,h.ux⟩
  ·rw [JZ9 e];refine ⟨by rw [A6];exact b.1,by rw [jl _ _ _ _ aa];exact b.2,λj=>?_⟩;rw [A0,A5];split
   ·split;·exact hx
    ·exact ⟨ba,ba⟩
   ·have:=h.ux j;rw [A0] at this;exact this
 refine ⟨kj (M:=bW M rd x tO) (by show (bits .and .u64 tO 3==0);rw [l];rfl) ?_ ?_ f m n (Bk o (jl _ _ _ _ aa)),⟨?_,h.mw.ram,h.mw.xs,h.mw.ys⟩,a.2.2,r,h.hd⟩;·show jz (if rd=0 then M.x else M.x.set rd.toNat x).length (if rd=0 then M.x else M.x.set rd.toNat x)=true;unfold jz;rw [a.2.1,decide_eq_true a.1];rfl
 ·show aQ (M.cs.set 21 _).length (M.cs.set 21 _) M.pr;unfold aQ;rw [A6,c,k,Bool.and_true];exact g
 ·intro j;show U ((M.cs.set 21 (Uz.wrap (M.cs.getD 21 0+1))).getD j 0);rw [A0,A5];split
  ·split;·exact d
   ·exact ⟨ba,ba⟩
  ·have:=h.mw.cs j;rw [A0] at this;exact this
theorem Gd.hold (h:Gd M) {b:Bool} {a:Int} (k:U a) (hb:b\/a=0):Gd (jC M b a):=by obtain ⟨c,d,f,g,i,l,j⟩:=cI h.ok;exact ⟨kj (M:=jC M b a) c d f g i (by show (b||(a==0));rcases hb with e|e<;>rw [e]<;>simp) j,⟨h.mw.cs,h.mw.ram,h.mw.xs,h.mw.ys⟩,h.ux,h.pc,k⟩
theorem Gd.wait (h:Gd M) (b:Bool):Gd (j5 M b):=by obtain ⟨a,c,d,e,f,g,i⟩:=cI h.ok;exact ⟨kj (M:=j5 M b) a c d e f g i,⟨h.mw.cs,h.mw.ram,h.mw.xs,h.mw.ys⟩,h.ux,h.pc,h.hd⟩
theorem Gd.x32 (h:Gd M):M.x.length=32:=by have:=(cI h.ok).2.1;unfold jz at this;rw [Bool.and_eq_true,JZ6] at this;exact this.1
theorem zg {M:MV} {addr size kind x c:Int} (a:(aT M addr size kind x).2.2=c) (hn:(c != 0)):IntKind.i64.wrap (c-16)=(((c-16).toNat:Nat):Int)/\(c-16).toNat<16:=by
 have h:=Kp M addr size kind x;rw [a] at h;rcases h with h|⟨d,b,e⟩;·rw [h] at hn;cases hn
 ·rw [IntKind.wrap_i64];omega
