/- Own lemmas. -/
import Derived.Test.YtjifdmoehfbihaaGreatDoorAut
import Derived.Test.YtjifdmoehfbihaaGreatDoorK25
import Derived.Test.YtjifdmoehfbihaaGreatDoorK26
set_option maxRecDepth 100000
namespace Go.Proofs.YtjifdmoehfbihaaGreatDoor
open Go.RowKit Tryz
open IntKind renaming u64->Uz
set_option linter.unusedVariables false
def aJ (M:MV) (k:Nat) (i:Bool) (v:Int):MV :=
 ⟨dG (mZ M.cs (cK M.cs M.pr k i)) k (lQ M.cs (cK M.cs M.pr k i) i),M.x,qV (cK M.cs M.pr k i),gZ M.cs (cK M.cs M.pr k i) M.pr (fS k i) M.pc v,M.ram,M.d,M.hd,M.hl,M.wt⟩
def aP (M:MV) (rd x to:Int):MV :=
 ⟨to,if rd=0 then M.x else M.x.set rd.toNat x,M.pr,M.cs.set 21 (Uz.wrap (M.cs.getD 21 0+1)),M.ram,M.d,M.hd,M.hl,M.wt⟩
def bT (M:MV) (h:Bool) (a:Int):MV:=⟨M.pc,M.x,M.pr,M.cs,M.ram,M.d,a,h,M.wt⟩
def fO (M:MV) (b:Bool):MV:=⟨M.pc,M.x,M.pr,M.cs,M.ram,M.d,M.hd,M.hl,b⟩
def hZ (M:MV) (l:List Int):MV:=⟨M.pc,M.x,M.pr,l,M.ram,M.d,M.hd,M.hl,M.wt⟩
def fP (M:MV) (p:Int):MV:=⟨M.pc,M.x,p,M.cs,M.ram,M.d,M.hd,M.hl,M.wt⟩
def cw (r:Int × MV × Int) (more:Nat) (v:Int):MV × Int:=(aJ r.2.1 ((r.2.2-16).toNat+more) false v,2)
def fj (M:MV) (i:Ins) (a b n:Int):Int :=
 if i.op=4 then bits .andNot .u64 (Uz.wrap (a+n)) 1
 else if (decide (4<i.op)&&!Hb i.op a b)=true then Uz.wrap (M.pc+4) else Uz.wrap (M.pc+n)
def oF (M:MV) (i:Ins) (a b n:Int):MV × Int :=
 if (bits .and .u64 (fj M i a b n) 2 != 0)=true then (aJ M 0 false (fj M i a b n),2)
 else (aP M (if 4<i.op then 0 else i.rd) (Uz.wrap (M.pc+4)) (fj M i a b n),1)
def i8 (op:Int):Nat:=if op-11<4 then 2^(op-11).toNat else 2^(op-15).toNat
def mc (M:MV) (i:Ins) (at_:Int):MV × Int :=
 let r:=aC M at_ (i8 i.op) 2 0
 if (r.2.2 != 0)=true then cw r 0 at_
 else (aP r.2.1 i.rd (if i.op-11<4 then aq (8*i8 i.op) r.1 else r.1) (Uz.wrap (r.2.1.pc+4)),1)
def mN (M:MV) (i:Ins) (at_ b:Int):MV × Int :=
 let r:=aC M at_ (2^(i.op-18).toNat:Nat) 3 b
 if (r.2.2 != 0)=true then cw r 0 at_ else (aP r.2.1 0 0 (Uz.wrap (r.2.1.pc+4)),1)
def aZ (op:Int):Nat:=if op-63>=11 then 8 else 4
def me (op:Int):Int:=if op-63>=11 then op-74 else op-63
def bU (M:MV) (va kind:Int):Fd:=bO M.ram M.ram.length M.cs (eC M.cs M.pr kind) va kind
def cR (M:MV) (va kind:Int):MV:=bz M (aN M.ram (bU M va kind))
def PS (M:MV) (i:Ins) (a:Int):MV × Int :=
 let r:=aC M a (aZ i.op) 2 0
 if (r.2.2 != 0)=true then cw r 0 a
 else (aP (bT (cR r.2.1 a 2) true (bU r.2.1 a 2).addr) i.rd (aq (8*aZ i.op) r.1) (Uz.wrap (M.pc+4)),1)
def Qt (M:MV) (i:Ins) (a b:Int) (pa:Int):MV × Int :=
 if (M.hl&&(M.hd==pa))=true then
  (let r:=aC M a (aZ i.op) 3 b
   if (r.2.2 != 0)=true then cw r 0 a else (aP (bT r.2.1 false 0) i.rd 0 (Uz.wrap (M.pc+4)),1))
 else (aP (bT M false 0) i.rd 1 (Uz.wrap (M.pc+4)),1)
def OK (M:MV) (i:Ins) (a b:Int):MV × Int :=
 let r:=aC M a (aZ i.op) 2 0
 if (r.2.2 != 0)=true then cw r 2 a
 else
  let q:=aC r.2.1 a (aZ i.op) 3 (iu i.op r.1 b)
  if (q.2.2 != 0)=true then cw q 0 a else (aP q.2.1 i.rd (aq (8*aZ i.op) r.1) (Uz.wrap (M.pc+4)),1)
def ix (M:MV) (i:Ins) (a b:Int):MV × Int :=
 if (me i.op==0)=true then PS M i a
 else if (a%(aZ i.op:Nat) != 0)=true then (aJ M 6 false a,2)
 else if ((bU M a 3).code != 0)=true then (aJ (cR M a 3) (bU M a 3).code.toNat false a,2)
 else if (me i.op==1)=true then Qt (cR M a 3) i a b (bU M a 3).addr
 else OK (cR M a 3) i a b
def dK (i:Ins):Bool:=((i.op-87).tmod 3==0)||(i.a != 0)
def kN (i:Ins) (a:Int):Int:=if 90<=i.op then Uz.wrap i.a else a
def sf (i:Ins) (a old:Int):Int:=if ((i.op-87).tmod 3==1)=true then bits .or .u64 old (kN i a) else if ((i.op-87).tmod 3==2)=true then bits .andNot .u64 old (kN i a) else kN i a
def mO (M:MV) (i:Ins) (a w:Int):MV × Int :=
 if (!iP M.cs.length M.cs i.imm M.pr||(dK i&&((wrap64 (i.imm.tdiv 1024)).tmod 4==3)))=true then (aJ M 2 false w,2)
 else
  let N:=aP M i.rd (cZ M.cs i.imm) (Uz.wrap (M.pc+4))
  (if dK i=true then hZ N (bJ N.cs i.imm (sf i a (cZ M.cs i.imm))) else N,1)
def nX (p:Int):Nat:=if p=0 then 8 else if p=1 then 9 else 11
def jU (M:MV) (i:Ins) (w:Int):MV × Int :=
 if i.op=93 then (aJ M (nX M.pr) false 0,2)
 else if i.op=94 then (aJ M 3 false M.pc,2)
 else if i.op=95\/i.op=96 then
  (if (((i.op==96)&&(M.pr != 3))||(M.pr==0))=true then (aJ M 2 false w,2)
   else (aP (fP (hZ M (M.cs.set 0 (cF (M.cs.getD 0 0) (i.op==96)))) (cP (M.cs.getD 0 0) (i.op==96))) 0 0 (dR M.cs (i.op==96)),1))
 else if (M.pr==0)=true then (aJ M 2 false w,2)
 else if i.op=97 then (aP (fO M true) 0 0 (Uz.wrap (M.pc+4)),1)
 else (aP M 0 0 (Uz.wrap (M.pc+4)),1)
def cN (M:MV) (i:Ins) (w:Int):MV × Int :=
 let a:=M.x.getD i.a.toNat 0
 let b:=M.x.getD i.b.toNat 0
 let n:=Uz.wrap i.imm
 if i.op=1 then (aP M i.rd n (Uz.wrap (M.pc+4)),1)
 else if i.op=2 then (aP M i.rd (Uz.wrap (M.pc+n)) (Uz.wrap (M.pc+4)),1)
 else if i.op<=10 then oF M i a b n
 else if i.op<=17 then mc M i (Uz.wrap (a+n))
 else if i.op<=21 then mN M i (Uz.wrap (a+n)) b
 else if i.op<=62 then (aP M i.rd (mA i.op a (if (fg i.op).toList=[82] then b else n)) (Uz.wrap (M.pc+4)),1)
 else if i.op<=84 then ix M i a b
 else if i.op<=86 then (aP M 0 0 (Uz.wrap (M.pc+4)),1)
 else if i.op<=92 then mO M i a w
 else jU M i w
def jK (M:MV):MV × Int :=
 if (M.wt&&(jC M.cs==0))=true then (M,4)
 else if 0<=fp M.cs M.pr then (aJ (fO M false) (fp M.cs M.pr).toNat true 0,3)
 else
  let r:=aC (fO M false) M.pc 4 1 0
  if (r.2.2 != 0)=true then cw r 0 r.2.1.pc
  else match D6 r.1 with
   | none=>(aJ r.2.1 2 false r.1,2)
   | some i=>cN r.2.1 i r.1
theorem AL {M:MV} (h:kB M=true) {l:List Int} (e:l.getD 9 0=M.cs.getD 9 0):(bits .and .u64 (l.getD 9 0) 2184==cU M.d)=true:=by rw [e];exact h
theorem MK (l:List Int) (d:Bool) (p t pc v:Int):(gZ l d p t pc v).getD 9 0=l.getD 9 0:=by
 cases d;·show ((((l.set 7 t).set 6 (bits .andNot .u64 pc 3)).set 8 v).set 0 (lH (l.getD 0 0) p)).getD 9 0=_;rw [fJ _ _ _ _ al,fJ _ _ _ _ al,fJ _ _ _ _ al,fJ _ _ _ _ al]
 ·show ((((l.set 13 t).set 12 (bits .andNot .u64 pc 3)).set 14 v).set 0 (kQ (l.getD 0 0) (p==1))).getD 9 0=_;rw [fJ _ _ _ _ al,fJ _ _ _ _ al,fJ _ _ _ _ al,fJ _ _ _ _ al]
theorem GM (x k:Int) (j:Bool):U (dG x k j):=by
 cases j;·exact aj .andNot x 1
 ·exact bG (bits .andNot .u64 x 1+Uz.wrap (4*k))
theorem GN (d:Bool):bI (qV d)=true:=by cases d<;>rfl
theorem Gd.trap {M:MV} (h:Gd M) {k:Nat} (hk:k<16) (i:Bool) {v:Int} (hv:U v):Gd (aJ M k i v):=by
 obtain ⟨n,e,o,f,g,j,l⟩:=ee h.ok;obtain ⟨b,a,c,_,_,_⟩:=aF h.ok;have d:eZ 4 (mZ M.cs (cK M.cs M.pr k i))=true\/eZ 10 (mZ M.cs (cK M.cs M.pr k i))=true:=by
  cases cK M.cs M.pr k i;·exact Or.inl (dU a 4 al)
  ·exact Or.inr (dU a 10 al)
 have m:=J6 M.cs b h.mw.cs a (cK M.cs M.pr k i) M.pr M.pc v c h.pc k hk i;refine ⟨kg (M:=aJ M k i v) (by show (bits .and .u64 (dG _ _ _) 3==0)=true;rw [Q6 _ _ _ d];rfl) e ?_ f g j (AL l (MK _ _ _ _ _ _)),⟨Mr _ h.mw.cs _ _ _ _ hv _ hk _,h.mw.ram,h.mw.xs,h.mw.ys⟩,h.ux,GM _ _ _,h.hd⟩;show aQ (gZ M.cs _ _ _ _ _).length (gZ M.cs _ _ _ _ _) (qV _)=true;unfold aQ;rw [kH,b,GN,Bool.and_true];exact m
theorem Gd.done {M:MV} (h:Gd M) {rd x to:Int} (p:0<=rd) (q:rd<=31) (hx:U x) (r:U to) (l:bits .and .u64 to 3=0):Gd (aP M rd x to):=by
 obtain ⟨_,b,s,f,m,n,o⟩:=ee h.ok;obtain ⟨c,i,k,_,_,_⟩:=aF h.ok;unfold gh at b;rw [Bool.and_eq_true,decide_eq_true_eq] at b;have d:U (Uz.wrap (M.cs.getD 21 0+1)):=bG _;have g:bf 22 (M.cs.set 21 (Uz.wrap (M.cs.getD 21 0+1)))=true:=cC M.cs c i 21 al _ (beq_self_eq_true _);have a:(if rd=0 then M.x else M.x.set rd.toNat x).length=32/\((if rd=0 then M.x else M.x.set rd.toNat x).getD 0 0==0)=true/\∀ j,U ((if rd=0 then M.x else M.x.set rd.toNat x).getD j 0):=by
  by_cases e:rd=0;·rw [if_pos e];exact ⟨b.1,b.2,h.ux⟩
  ·rw [if_neg e];refine ⟨by rw [List.length_set];exact b.1,by rw [fJ _ _ _ _ al];exact b.2,λj=>?_⟩;rw [List.getD_eq_getElem?_getD,List.getElem?_set];split
   ·split;·exact hx
    ·exact ⟨a5,a5⟩
   ·have:=h.ux j;rw [List.getD_eq_getElem?_getD] at this;exact this
 refine ⟨kg (M:=aP M rd x to) (by show (bits .and .u64 to 3==0)=true;rw [l];rfl) ?_ ?_ f m n (AL o (fJ _ _ _ _ al)),⟨?_,h.mw.ram,h.mw.xs,h.mw.ys⟩,a.2.2,r,h.hd⟩;·show gh (if rd=0 then M.x else M.x.set rd.toNat x).length (if rd=0 then M.x else M.x.set rd.toNat x)=true;unfold gh;rw [a.2.1,decide_eq_true a.1];rfl
 ·show aQ (M.cs.set 21 _).length (M.cs.set 21 _) M.pr=true;unfold aQ;rw [List.length_set,c,k,Bool.and_true];exact g
 ·intro j;show U ((M.cs.set 21 (Uz.wrap (M.cs.getD 21 0+1))).getD j 0);rw [List.getD_eq_getElem?_getD,List.getElem?_set];split
  ·split;·exact d
   ·exact ⟨a5,a5⟩
  ·have:=h.mw.cs j;rw [List.getD_eq_getElem?_getD] at this;exact this
theorem Gd.hold {M:MV} (h:Gd M) {b:Bool} {a:Int} (k:U a) (hb:b=true\/a=0):Gd (bT M b a):=by obtain ⟨c,d,f,g,i,l,j⟩:=ee h.ok;exact ⟨kg (M:=bT M b a) c d f g i (by show (b||(a==0))=true;rcases hb with e|e<;>rw [e]<;>simp) j,⟨h.mw.cs,h.mw.ram,h.mw.xs,h.mw.ys⟩,h.ux,h.pc,k⟩
theorem Gd.wait {M:MV} (h:Gd M) (b:Bool):Gd (fO M b):=by obtain ⟨a,c,d,e,f,g,i⟩:=ee h.ok;exact ⟨kg (M:=fO M b) a c d e f g i,⟨h.mw.cs,h.mw.ram,h.mw.xs,h.mw.ys⟩,h.ux,h.pc,h.hd⟩
structure Ht (B hh r:Nat) (M:MV) (A:MA) (W:World):Prop where
 row:W.heap[hh]?=some (.cells #[.p r 0,.slice none 0 0] 61 (0,0))
 mp:Mp B r M A W
 ne:hh≠r
 nq:∀ q ∈ aH M A,q.v.ownBlock≠some hh
theorem Ht.lt {B hh r:Nat} {M:MV} {A:MA} {w:World} (h:Ht B hh r M A w):hh<w.heap.size:=(Array.getElem?_eq_some_iff.1 h.row).1
theorem Ht.step {B hh r:Nat} {M M':MV} {A a:MA} {w w':World} (h:Ht B hh r M A w) (p:Mp B r M' a w') (k:Kx r (aH M A) (aH M' a) w w'):Ht B hh r M' a w' :=
 ⟨(k.block hh h.lt h.ne h.nq).trans h.row,p,h.ne,λq d e=>by obtain ⟨f,c,b⟩:=k.own q d hh e h.lt;exact h.nq f c b⟩
theorem Ht.cells {B hh r:Nat} {M:MV} {A:MA} {w:World} (h:Ht B hh r M A w):w.cell? ⟨hh,0,none⟩=some (.p r 0)/\w.cell? ⟨hh,1,none⟩=some (.slice none 0 0):=by simp [World.cell?,h.row]
theorem Mp.cs {B r:Nat} {M:MV} {A:MA} {w:World} (h:Mp B r M A w) (i:M.cs.length=22):∃ g,A.ac=some ⟨g,0,none⟩/\dq w B g A.cc M.cs /\ ∀ (c:World) (l:List Int),l.length=22->w.grownBy c (some g)->dq c B g A.cc l->Mp B r (hZ M l) A c/\Kx r (aH M A) (aH (hZ M l) A) w c:=by
 have m:aI A.ac M.cs.length A.cc M.cs ∈ aH M A:=ck
 have v:=h.fam.own _ m;have f:∃ g,A.ac=some ⟨g,0,none⟩:=by
  rcases v.2 with ⟨e,o⟩|⟨u,cap,x,e,_⟩;·have:M.cs.length=0:=o;omega
  ·have y:Value.slice A.ac M.cs.length A.cc=.slice (some ⟨u,0,none⟩) M.cs.length cap:=e;injection y with e3
   exact ⟨u,e3⟩
 obtain ⟨g,f⟩:=f;have p:dq w B g A.cc M.cs:=by have:w.ownsRow B 22 1 (.slice A.ac M.cs.length A.cc) M.cs.length (M.cs.map (Value.int .u64)):=v;rw [f,i] at this;exact this
 refine ⟨g,f,p,λc l E j n=>?_⟩;have k:w.grownBy c (aI A.ac M.cs.length A.cc M.cs).v.ownBlock:=by have e:(aI A.ac M.cs.length A.cc M.cs).v.ownBlock=some g:=(by show (Value.slice A.ac M.cs.length A.cc).ownBlock=_;rw [f];rfl);rw [e];exact j
 have t:c.ownsRow B 22 1 (aI A.ac M.cs.length A.cc M.cs).v M.cs.length (l.map (Value.int .u64)):=by show c.ownsRow B 22 1 (.slice A.ac M.cs.length A.cc) _ _;rw [f,i];exact n
 have d:=bp.markL (L1:=[aI A.ax M.x.length A.cx M.x]) (L2:=[aB A.ar M.ram.length A.cr M.ram,aB A.ai M.d.xs.length A.ci M.d.xs,aB A.ao M.d.ys.length A.co M.d.ys]) (r:=aI A.ac M.cs.length A.cc M.cs) h.fam k _ t;have a:l.length=M.cs.length:=al
 have b:=iS (M:=M) (M':=hZ M l) (A:=A) rfl a rfl rfl rfl;have hF:bp B w.heap.size c (aH (hZ M l) A):=by unfold aH hZ;dsimp only;rw [a];exact d.1
 refine ⟨⟨?_,hF.low (Nat.le_refl _) j.size,λq s e=>?_,h.lo⟩,Kx.of_keepL d.2 b⟩;·have C:c.heap[r]?=w.heap[r]?:=d.2.block r h.lt (λq s e=>h.ne q s e);rw [C,h.row];unfold aO hZ;dsimp only;rw [a]
 ·obtain ⟨D,z,o⟩:=b q s;exact h.ne D z (by rw [o];exact e)
theorem Ht.atX {B hh r:Nat} {M:MV} {A:MA} {w:World} (h:Ht B hh r M A w) (d:M.x.length=32):∃ b,A.ax=some ⟨b,0,none⟩/\∀ j,j<32->w.cell? ⟨b,j,none⟩=some (.u (M.x.getD j 0))/\w.frozen? ⟨b,j,none⟩=false:=by have a:=h.mp.xrow;rw [d] at a;obtain ⟨b,c,e,i⟩:=nY a al;simp only [Value.slice.injEq,true_and] at e;obtain ⟨f,g⟩:=e;refine ⟨b,f,λj k=>?_⟩;rw [f] at a;refine ⟨?_,a.frozenAt j⟩;rw [a.cellAt j al];rw [List.getElem?_map,List.getElem?_eq_getElem (show j<M.x.length by omega),List.getD_eq_getElem?_getD,List.getElem?_eq_getElem (show j<M.x.length by omega)];rfl
theorem Ht.atC {B hh r:Nat} {M:MV} {A:MA} {w:World} (h:Ht B hh r M A w) (d:M.cs.length=22):∃ b,A.ac=some ⟨b,0,none⟩/\∀ j,j<22->w.cell? ⟨b,j,none⟩=some (.u (M.cs.getD j 0))/\w.frozen? ⟨b,j,none⟩=false:=by have a:w.ownsRow B 22 1 (.slice A.ac M.cs.length A.cc) M.cs.length (M.cs.map (Value.int .u64)):=h.mp.fam.own (aI A.ac M.cs.length A.cc M.cs) ck;rw [d] at a;obtain ⟨b,c,e,i⟩:=nY a al;simp only [Value.slice.injEq,true_and] at e;obtain ⟨f,g⟩:=e;refine ⟨b,f,λj k=>?_⟩;rw [f] at a;refine ⟨?_,a.frozenAt j⟩;rw [a.cellAt j al];rw [List.getElem?_map,List.getElem?_eq_getElem (show j<M.cs.length by omega),List.getD_eq_getElem?_getD,List.getElem?_eq_getElem (show j<M.cs.length by omega)];rfl
theorem uD {B hh r:Nat} {M:MV} {A:MA} {w:World} (h:Ht B hh r M A w) (q:Gd M) (k:Nat) (hk:k<16) (i:Bool) (v:Int):Calls prog 74 #[.slice A.ac M.cs.length A.cc,.i M.pr,.u M.pc,.i k,.bool i,.u v] w λe c=>e=.returned (.tuple #[.i (aJ M k i v).pr,.u (aJ M k i v).pc])/\Ht B hh r (hZ M (aJ M k i v).cs) A c/\Kx r (aH M A) (aH (hZ M (aJ M k i v).cs) A) w c:=by obtain ⟨a,p,f,_,_,_⟩:=aF q.ok;obtain ⟨g,d,b,j⟩:=h.mp.cs a;rw [d,a];refine (zG B g A.cc M.cs M.pr M.pc v f k hk i w b).mono λe c ⟨m,n,o⟩=>?_;obtain ⟨s,l⟩:=j c _ (by rw [kH];exact a) o n;exact ⟨m,h.step s l,l⟩
theorem mg (M:MV) (A:MA) (B hh r:Nat) (w:World) (h:Ht B hh r M A w):CE 75 #[.p hh 0] w (.tuple #[]):=by obtain ⟨c,d⟩:=h.cells;clear h;go_enter func75,ntmps75;go_wp2_with fail;exact bodyPost_end (results_none rfl _ _ _) rfl ⟨rfl,rfl⟩
def aK (hh r:Nat):Kr:=⟨hh,#[.p r 0,.slice none 0 0],61,[(0,1)]⟩
def dW (N:Nat):List (Array Value × TypeId)->List Kr
 | []=>[]
 | x::l=>⟨N,x.1,x.2,[]⟩::dW (N+1) l
theorem AM {x:Kr}:∀ {l:List (Array Value × TypeId)} {N:Nat},x ∈ dW N l->∃ i y,l[i]?=some y/\x.b=N+i/\x.cs=y.1/\x.t=y.2
 | [],_,h=>ow
 | y::l,N,h=>by
   rcases List.mem_cons.1 h with rfl|h
   ·exact ⟨0,y,rfl,rfl,rfl,rfl⟩
   ·obtain ⟨i,z,a,c,b⟩:=AM h
    exact ⟨i+1,z,ti,al,b⟩
section
variable {B hh r : Nat} {M : MV} {A : MA} {w : World}
theorem Hx.start (h:Ht B hh r M A w) (bs:List (Array Value × TypeId)):Hx B r (aK hh r::dW w.heap.size bs) M A w M A (ew w bs):=by
 obtain ⟨j,a⟩:=Bs.start w bs;refine ⟨h.mp.below a,Kx.of_below a,λx b=>?_⟩;rcases List.mem_cons.1 b with rfl | b;·exact ⟨an a h.row,h.ne,h.nq⟩
 ·obtain ⟨i,y,c,d,f,g⟩:=AM b;have k:=h.mp.lt;refine ⟨by rw [d,f,g];exact j i y c,al,λq l e=>?_⟩;have:=h.mp.fam.hi q l _ e;omega
theorem Hx.ht {M':MV} {a:MA} {L:List Kr} {W:World} (h:Hx B r (aK hh r::L) M A w M' a W):Ht B hh r M' a W:=by obtain ⟨b,c,d⟩:=h.rows (aK hh r) bc;exact ⟨b,h.mp,c,d⟩
theorem Hx.to {M' M2:MV} {b a:MA} {L:List Kr} {W W2:World} (h:Hx B r (aK hh r::L) M A w M' b W) (k:Ht B hh r M2 a W2) (c:Kx r (aH M' b) (aH M2 a) W W2):Hx B r (aK hh r::L) M A w M2 a W2:=h.step k.mp c
end
def HR (B hh r:Nat) (M:MV) (A:MA) (w:World) (R:MV × Int) (e:Ending) (w':World):Prop:=e=.returned (.i R.2)/\∃ a,Ht B hh r R.1 a w'/\Kx r (aH M A) (aH R.1 a) w w'
theorem Hx.hr {B hh r:Nat} {M M':MV} {A a:MA} {w W:World} {L:List Kr} (h:Hx B r (aK hh r::L) M A w M' a W) (k:Int):HR B hh r M A w (M',k) (.returned (.i k)) W:=⟨rfl,a,h.ht,h.kx⟩
section
variable {B hh r : Nat} {M : MV} {A : MA} {w : World}
theorem dD (k:Nat) (hk:k<16) (v:Int) (h:Ht B hh r M A w) (n:Gd M):Calls prog 77 #[.p hh 0,.i k,.u v] w (HR B hh r M A w (aJ M k false v,2)):=by
 refine cn (S:=Hx B r [aK hh r] M A w M A) (args:=[.p hh 0,.i k,.u v]) [] func77 ?_;refine aL 0 2 ?_;refine af (Hx.eng (dr:=false)) {} 10 (Hx.start h []) λW b=>?_;have o:(aJ M k false v).cs.length=M.cs.length:=kH _ _ _ _ _ _;have d:aO (hZ M (aJ M k false v).cs) A=aO M A:=by unfold aO hZ;dsimp only;rw [o]
 refine aR (Hs r [aK hh r] (aO M A)) ?_;refine lS 37 ?_;refine aW (Hs.eng (dr:=true) (λ_ h=>h.hs)) {} 100 (b.below (Below.refl _ _).drew) (λg c=>uD c.ht n k hk false v) ?_;rintro g e q c ⟨rfl,j,p⟩;have a:=c.to j p;refine ⟨_,0,rfl,λ_=>d ▸ a.hs,?_⟩;refine af (Hs.eng (dr:=true) (λ_ h=>d ▸ h.hs)) {} 40 a λs a=>?_;refine bM (dQ (i:=2) (T:=2) (v:=.i (aJ M k false v).pr) a.mp.row (show 2<14 by decide) a3 rfl) ?_;have l:=a.fld (M':=fP (hZ M (aJ M k false v).cs) (aJ M k false v).pr) 2 (.i (aJ M k false v).pr) rfl rfl;refine aR (Hx B r [aK hh r] M A w (fP (hZ M (aJ M k false v).cs) (aJ M k false v).pr) A) ?_;refine af (Hx.eng (dr:=true)) {} 40 l λu f=>?_;refine bM (dQ (i:=0) (T:=22) (v:=.u (aJ M k false v).pc) f.mp.row (show 0<14 by decide) a3 rfl) ?_;have m:=f.fld (M':=aJ M k false v) 0 (.u (aJ M k false v).pc) rfl rfl;refine aR (Hx B r [aK hh r] M A w (aJ M k false v) A) ?_;exact bm (t:=6) (v:=.i 2) (Hx.eng (dr:=true)) {cv:=[(47,mt λW b=>mg (aJ M k false v) A B hh r W b.ht)]} 40 m λW b=>b.hr 2
theorem eE (rd x to:Int) (J:0<=rd) (K:rd<=31) (h:Ht B hh r M A w) (f:M.x.length=32) (k:M.cs.length=22):Calls prog 79 #[.p hh 0,.i rd,.u x,.u to] w (HR B hh r M A w (aP M rd x to,1)):=by
 have p:=Hx.start h [];have fin:∀ (S:World->Prop) (N:MV) (W:World),Hx B r [aK hh r] M A w N A W->N.x.length=32->N.cs=M.cs->⟨to,N.x,M.pr,M.cs.set 21 (Uz.wrap (M.cs.getD 21 0+1)),M.ram,M.d,M.hd,M.hl,M.wt⟩=aP M rd x to->(N.pr=M.pr/\N.ram=M.ram/\N.d=M.d/\N.hd=M.hd/\N.hl=M.hl/\N.wt=M.wt)->Wg prog S (bodyPost prog Tryz.f79 (HR B hh r M A w (aP M rd x to,1))) Tryz.f79.ntmps [.code (aG 2 (bD Tryz.f79))] [(0,.p hh 0,2),(3,.u to,0)] W:=by
  intro S N W y L z C I;obtain ⟨o,l,U,O,D,Z,P,Q,V⟩:=N;obtain ⟨rfl,rfl,rfl,rfl,rfl,rfl⟩:=I;dsimp only at L z C;subst z;obtain ⟨b,g,j⟩:=y.ht.atC k;refine aR (Hx B r [aK hh r] M A w ⟨o,l,M.pr,M.cs,M.ram,M.d,M.hd,M.hl,M.wt⟩ A) ?_;refine af (Hx.eng (dr:=false)) {} 40 y λX n=>?_;refine bM (dQ (i:=0) (T:=22) (v:=.u to) n.mp.row (show 0<14 by decide) a3 rfl) ?_;have G:=n.fld (M':=⟨to,l,M.pr,M.cs,M.ram,M.d,M.hd,M.hl,M.wt⟩) 0 (.u to) rfl rfl;refine aR (Hx B r [aK hh r] M A w ⟨to,l,M.pr,M.cs,M.ram,M.d,M.hd,M.hl,M.wt⟩ A) ?_;refine af (Hx.eng (dr:=false)) {} 40 G λY H=>?_;refine xK ?_;have m:∀ W,Hx B r [aK hh r] M A w ⟨to,l,M.pr,M.cs,M.ram,M.d,M.hd,M.hl,M.wt⟩ A W->W.cell? ⟨b,0+(21:Int).toNat,none⟩=some (.u (M.cs.getD 21 0))/\W.frozen? ⟨b,0+(21:Int).toNat,none⟩=false:=λW c=>by obtain ⟨F,d,a⟩:=c.ht.atC k;rw [g] at d;cases d;exact a 21 al
  refine af (Hx.eng (dr:=true)) {ov:=[(42,qY M.cs.length A.cc .i64 21 g ⟨al,al⟩ underlying23 a3),(43,kR ⟨b,0+(21:Int).toNat,none⟩ (.u (M.cs.getD 21 0)) underlying22 rfl (λW c=>(m W c).1)),(45,qY M.cs.length A.cc .i64 21 g ⟨al,al⟩ underlying23 a3)]} 60 (H.below (Below.refl _ _).drew) λE s=>?_;refine bM (mv (T:=22) (v:=.u (Uz.wrap (M.cs.getD 21 0+1))) (m E s) a3 rfl) ?_;have u:=s.setC b g 21 (Uz.wrap (M.cs.getD 21 0+1));rw [show cM (⟨to,l,M.pr,M.cs,M.ram,M.d,M.hd,M.hl,M.wt⟩:MV) (M.cs.set 21 (Uz.wrap (M.cs.getD 21 0+1)))=aP M rd x to from C] at u;refine aR (Hx B r [aK hh r] M A w (aP M rd x to) A) ?_;exact bm (t:=8) (v:=.i 1) (Hx.eng (dr:=true)) {} 40 u λW c=>c.hr 1
 refine cn (S:=Hx B r [aK hh r] M A w M A) (args:=[.p hh 0,.i rd,.u x,.u to]) [] func79 ?_;refine aL 0 2 ?_;by_cases e:rd=0;·subst e;refine af (Hx.eng (dr:=false)) {} 8 p λW c=>?_;exact aE _ _ (fin _ M W c f rfl rfl ⟨rfl,rfl,rfl,rfl,rfl,rfl⟩)
 ·have q:(rd != 0)=true:=(by simpa using e);obtain ⟨b,g,j⟩:=h.atX f;have m:∀ W,Hx B r [aK hh r] M A w M A W->W.cell? ⟨b,0+rd.toNat,none⟩=some (.u (M.x.getD (0+rd.toNat) 0))/\W.frozen? ⟨b,0+rd.toNat,none⟩=false:=λW c=>by obtain ⟨F,d,a⟩:=c.ht.atX f;rw [g] at d;cases d;exact a (0+rd.toNat) al
  refine af (Hx.eng (dr:=false)) {eq:=[(10,au q)],ov:=[(20,qY M.x.length A.cx .i64 rd g ⟨al,al⟩ underlying23 a3)]} 40 p λW c=>?_;refine bM (mv (T:=22) (v:=.u x) (m W c) a3 rfl) ?_;have n:=c.setX b g (0+rd.toNat) x;refine cW (R:=[]) trivial {} 1 ?_;refine aE _ _ (fin _ _ _ n (by show (M.x.set _ _).length=32;rw [List.length_set];exact f) rfl ?_ ⟨rfl,rfl,rfl,rfl,rfl,rfl⟩);unfold aP xM;rw [if_neg e,Nat.zero_add]
end
theorem Hx.last {P:Program} {fn:Func} {S:World->Prop} {B hh r n:Nat} {L:List Kr} {M N:MV} {A C:MA} {w W:World} {R:List Rw} {dr:Bool} {V:MV × Int} {k:List KI} {F:Fr} (E:pd P S (Hx B r (aK hh r::L) M A w N C) R dr (bodyPost P fn (HR B hh r M A w V))) (H:Hn P S (Hx B r (aK hh r::L) M A w N C)) (m:Nat) (hS:Hx B r (aK hh r::L) M A w N C W) {f:Nat} {args:Array Value} (j:∀ W,Hx B r (aK hh r::L) M A w N C W->Calls P f args W (HR B hh r N C W V)) {t:Nat} (hr:fn.results=#[.tmp t]:=by rfl) (hx:((aU P R H n dr m k F).1.1,Lb P n (aU P R H n dr m k F).1.2.2 (aU P R H n dr m k F).1.2.1,xn (aU P R H n dr m k F).1.2.2 (aU P R H n dr m k F).1.2.1,gP (ox (aU P R H n dr m k F).1.2.2 (aU P R H n dr m k F).1.2.1))=(false,some (f,args),false,true):=by kernel_rfl) (he:(aU P R H n dr m k F).2.map Prod.fst=(aU P R H n dr m k F).2.map Prod.snd:=by kernel_rfl) (hy:∀ J:World->Prop,(λ(y:(Bool × List KI × Fr) × List (Oe × Oe))=>(y.1.1,(lk y.1.2.2 t).map Prod.fst,y.2.map Prod.fst)) (aU P [] ({}:Hn P (λ_=>True) J) n true 20 (ox (aU P R H n dr m k F).1.2.2 (aU P R H n dr m k F).1.2.1) (qn (aU P R H n dr m k F).1.2.2 (aU P R H n dr m k F).1.2.1 (.i V.2) 0))=(true,some (.i V.2),[]):=by intro _;kernel_rfl):Wg P S (bodyPost P fn (HR B hh r M A w V)) n k F W:=by simp only [Prod.mk.injEq] at hx;refine aW E H m hS j (hx:=by rw [hx.1,hx.2.1]) (he:=he) ?_;rintro o e p d ⟨rfl,b,g,l⟩;refine ⟨_,0,rfl,gp hx.2.2.1,?_⟩;have i:=d.to g l;refine aR (λ_=>True) (hn:=hx.2.2.2) ?_;have a:=hy (Hx B r (aK hh r::L) M A w V.1 b);simp only [Prod.mk.injEq] at a;refine bm (R:=[]) (t:=t) (v:=.i V.2) (J:=Hx B r (aK hh r::L) M A w V.1 b) ⟨λ_ _=>trivial,λ_ _ x hx=>(by cases hx),λ_ W h=>h.below (Below.refl _ _).drew,dA⟩ {} 20 i (hv:=by rw [a.1,a.2.1]) (he:=by rw [List.map_eq_nil_iff.1 a.2.2];rfl) (hr:=hr) λW c=>⟨rfl,b,c.ht,c.kx⟩
theorem Gd.x32 {M:MV} (h:Gd M):M.x.length=32:=by have:=(ee h.ok).2.1;unfold gh at this;rw [Bool.and_eq_true,decide_eq_true_eq] at this;exact this.1
theorem jA {M:MV} {addr size kind x c:Int} (a:(aC M addr size kind x).2.2=c) (hn:(c != 0)=true):IntKind.i64.wrap (c-16)=(((c-16).toNat:Nat):Int)/\(c-16).toNat<16:=by
 have h:=Kd M addr size kind x;rw [a] at h;rcases h with h|⟨d,b,e⟩;·rw [h] at hn;cases hn
 ·rw [IntKind.wrap_i64];omega
section
variable {B hh r : Nat} {M : MV} {A : MA} {w : World}
theorem OL (op rd d f imm at_:Int) (j:11<=op) (o:op<=14) (u:0<=rd) (v:rd<=31) (t:U at_) (h:Ht B hh r M A w) (m:Gd M):Calls prog 81 #[.p hh 0,.agg #[.i op,.i rd,.i d,.i f,.i imm],.u at_] w (HR B hh r M A w (mc M ⟨op,rd,d,f,imm⟩ at_)):=by
 obtain ⟨V,s⟩:∃ V,mc M ⟨op,rd,d,f,imm⟩ at_=V:=⟨_,rfl⟩;rw [s];obtain ⟨a,q⟩:∃ a,a=i8 op:=⟨_,rfl⟩;obtain p|p|p|p:op=11\/op=12\/op=13\/op=14:=al
 all_goals
  have l:=m.acc at_ a 2 0
  have k:=λW (b:Mp B r M A W)=>fu M A B r at_ a 2 0 W b m.len m.mw m.ok ho al al t ⟨a5,a5⟩
  have n:=λc=>jA (M:=M) (addr:=at_) (size:=a) (kind:=2) (x:=0) (c:=c)
  have i:(if ((aC M at_ a 2 0).2.2 != 0)=true then cw (aC M at_ a 2 0) 0 at_ else (aP (aC M at_ a 2 0).2.1 rd (aq (8*a) (aC M at_ a 2 0).1) (Uz.wrap ((aC M at_ a 2 0).2.1.pc+4)),1))=V:=by subst p q;exact s
  clear s
  generalize aC M at_ a 2 0=X at *
  obtain ⟨y,N,c⟩:=X
  dsimp only at l k n i
  refine cn (S:=Hs r (aK hh r::dW w.heap.size [(#[.i op,.i rd,.i d,.i f,.i imm],69)]) (aO M A)) (args:=[.p hh 0,.agg #[.i op,.i rd,.i d,.i f,.i imm],.u at_]) [(#[.i op,.i rd,.i d,.i f,.i imm],69)] func81 (hn:=a4) (hs:=a4) ?_
  refine aL 0 2 (aL 4 3 ?_)
  refine af (Hs.eng (dr:=false) (λ_ h=>h.hs)) {} 80 (Hx.start h _) (hret:=a4) (he:=a4) λW b=>?_
  refine lS 10 (hm:=a4) (hk:=a4) ?_
  refine aW (Hs.eng (dr:=true) (λ_ h=>h.hs)) {} 60 (b.below (Below.refl _ _).drew) (λz j=>k z j.mp) (hx:=a4) (he:=a4) ?_
  rintro z e E j ⟨rfl,C,o,D⟩
  refine ⟨_,0,rfl,gp a4,aR (Hs r (aK hh r::dW w.heap.size [(#[.i op,.i rd,.i d,.i f,.i imm],69)]) (aO N C)) (hn:=a4) ?_⟩
  cases g:(c != 0) with
  | true =>
    rw [g,if_pos rfl] at i
    subst i
    exact Hx.last (Hs.eng (dr:=true) (λ_ h=>h.hs)) {eq:=[(39,au g),(42,ei .i64 (n c rfl g).1)]} 60 (j.step o D) (λW b=>dD _ (n c rfl g).2 at_ b.ht l) (hx:=a4) (he:=a4) (hy:=λ_=>a4)
  | false =>
    rw [g,if_neg a5] at i
    subst i
    refine af (Hs.eng (dr:=false) (λ_ h=>h.hs)) {eq:=[(39,au g)],cv:=[(51,mt λW _=>dL y (8*a) ho ho W)]} 60 (j.step o D) (hret:=a4) (he:=a4) λW b=>?_
    refine lS 12 (hm:=a4) (hk:=a4) ?_
    exact Hx.last (Hs.eng (dr:=true) (λ_ h=>h.hs)) {} 60 (b.below (Below.refl _ _).drew) (λW b=>eE rd (aq (8*a) y) _ u v b.ht l.x32 (aF l.ok).1) (hx:=a4) (he:=a4) (hy:=λ_=>a4)
theorem OM (op rd d f imm at_:Int) (j:15<=op) (o:op<=17) (u:0<=rd) (v:rd<=31) (t:U at_) (h:Ht B hh r M A w) (m:Gd M):Calls prog 81 #[.p hh 0,.agg #[.i op,.i rd,.i d,.i f,.i imm],.u at_] w (HR B hh r M A w (mc M ⟨op,rd,d,f,imm⟩ at_)):=by
 obtain ⟨V,s⟩:∃ V,mc M ⟨op,rd,d,f,imm⟩ at_=V:=⟨_,rfl⟩;rw [s];obtain ⟨a,q⟩:∃ a,a=i8 op:=⟨_,rfl⟩;obtain p|p|p:op=15\/op=16\/op=17:=al
 all_goals
  have l:=m.acc at_ a 2 0
  have k:=λW (b:Mp B r M A W)=>fu M A B r at_ a 2 0 W b m.len m.mw m.ok ho al al t ⟨a5,a5⟩
  have n:=λc=>jA (M:=M) (addr:=at_) (size:=a) (kind:=2) (x:=0) (c:=c)
  have i:(if ((aC M at_ a 2 0).2.2 != 0)=true then cw (aC M at_ a 2 0) 0 at_ else (aP (aC M at_ a 2 0).2.1 rd ((aC M at_ a 2 0).1) (Uz.wrap ((aC M at_ a 2 0).2.1.pc+4)),1))=V:=by subst p q;exact s
  clear s
  generalize aC M at_ a 2 0=X at *
  obtain ⟨y,N,c⟩:=X
  dsimp only at l k n i
  refine cn (S:=Hs r (aK hh r::dW w.heap.size [(#[.i op,.i rd,.i d,.i f,.i imm],69)]) (aO M A)) (args:=[.p hh 0,.agg #[.i op,.i rd,.i d,.i f,.i imm],.u at_]) [(#[.i op,.i rd,.i d,.i f,.i imm],69)] func81 (hn:=a4) (hs:=a4) ?_
  refine aL 0 2 (aL 4 3 ?_)
  refine af (Hs.eng (dr:=false) (λ_ h=>h.hs)) {} 80 (Hx.start h _) (hret:=a4) (he:=a4) λW b=>?_
  refine lS 10 (hm:=a4) (hk:=a4) ?_
  refine aW (Hs.eng (dr:=true) (λ_ h=>h.hs)) {} 60 (b.below (Below.refl _ _).drew) (λz j=>k z j.mp) (hx:=a4) (he:=a4) ?_
  rintro z e E j ⟨rfl,C,o,D⟩
  refine ⟨_,0,rfl,gp a4,aR (Hs r (aK hh r::dW w.heap.size [(#[.i op,.i rd,.i d,.i f,.i imm],69)]) (aO N C)) (hn:=a4) ?_⟩
  cases g:(c != 0) with
  | true =>
    rw [g,if_pos rfl] at i
    subst i
    exact Hx.last (Hs.eng (dr:=true) (λ_ h=>h.hs)) {eq:=[(39,au g),(42,ei .i64 (n c rfl g).1)]} 60 (j.step o D) (λW b=>dD _ (n c rfl g).2 at_ b.ht l) (hx:=a4) (he:=a4) (hy:=λ_=>a4)
  | false =>
    rw [g,if_neg a5] at i
    subst i
    refine af (Hs.eng (dr:=false) (λ_ h=>h.hs)) {eq:=[(39,au g)]} 60 (j.step o D) (hret:=a4) (he:=a4) λW b=>?_
    refine lS 12 (hm:=a4) (hk:=a4) ?_
    exact Hx.last (Hs.eng (dr:=true) (λ_ h=>h.hs)) {} 60 (b.below (Below.refl _ _).drew) (λW b=>eE rd (y) _ u v b.ht l.x32 (aF l.ok).1) (hx:=a4) (he:=a4) (hy:=λ_=>a4)
theorem ML (i:Ins) (at_ b:Int) (z:18<=i.op) (D:i.op<=21) (F:U at_) (hb:U b) (h:Ht B hh r M A w) (u:Gd M):Calls prog 82 #[.p hh 0,.agg #[.i i.op,.i i.rd,.i i.a,.i i.b,.i i.imm],.u at_,.u b] w (HR B hh r M A w (mN M i at_ b)):=by
 obtain ⟨d,o,m,n,a⟩:=i;dsimp only at z D ⊢;obtain ⟨V,E⟩:∃ V,mN M ⟨d,o,m,n,a⟩ at_ b=V:=⟨_,rfl⟩;rw [E];obtain ⟨f,q⟩:∃ f:Nat,f=2^(d-18).toNat:=⟨_,rfl⟩;obtain p|p|p|p:d=18\/d=19\/d=20\/d=21:=al
 all_goals
  have s:=u.acc at_ f 3 b
  have l:=λW (g:Mp B r M A W)=>fu M A B r at_ f 3 b W g u.len u.mw u.ok ho al al F hb
  have v:=λc=>jA (M:=M) (addr:=at_) (size:=f) (kind:=3) (x:=b) (c:=c)
  have k:(if ((aC M at_ f 3 b).2.2 != 0)=true then cw (aC M at_ f 3 b) 0 at_ else (aP (aC M at_ f 3 b).2.1 0 0 (Uz.wrap ((aC M at_ f 3 b).2.1.pc+4)),1))=V:=by subst p q;exact E
  clear E
  generalize aC M at_ f 3 b=X at *
  obtain ⟨y,N,c⟩:=X
  dsimp only at s l v k
  refine cn (S:=Hs r (aK hh r::dW w.heap.size [(#[.i d,.i o,.i m,.i n,.i a],69)]) (aO M A)) (args:=[.p hh 0,.agg #[.i d,.i o,.i m,.i n,.i a],.u at_,.u b]) [(#[.i d,.i o,.i m,.i n,.i a],69)] func82 (hn:=a4) (hs:=a4) ?_
  refine aL 0 2 (aL 5 3 ?_)
  refine af (Hs.eng (dr:=false) (λ_ h=>h.hs)) {} 10 (Hx.start h _) (hret:=a4) (he:=a4) λW g=>?_
  refine lS 15 (hm:=a4) (hk:=a4) ?_
  refine aW (Hs.eng (dr:=true) (λ_ h=>h.hs)) {} 60 (g.below (Below.refl _ _).drew) (λG t=>l G t.mp) (hx:=a4) (he:=a4) ?_
  rintro G e J t ⟨rfl,C,H,I⟩
  refine ⟨_,0,rfl,gp a4,aR (Hs r (aK hh r::dW w.heap.size [(#[.i d,.i o,.i m,.i n,.i a],69)]) (aO N C)) (hn:=a4) ?_⟩
  cases j:(c != 0) with
  | true =>
    rw [j,if_pos rfl] at k
    subst k
    exact Hx.last (Hs.eng (dr:=true) (λ_ h=>h.hs)) {eq:=[(31,au j),(34,ei .i64 (v c rfl j).1)]} 60 (t.step H I) (λW g=>dD _ (v c rfl j).2 at_ g.ht s) (hx:=a4) (he:=a4) (hy:=λ_=>a4)
  | false =>
    rw [j,if_neg a5] at k
    subst k
    exact Hx.last (Hs.eng (dr:=true) (λ_ h=>h.hs)) {eq:=[(31,au j)]} 80 (t.step H I) (λW g=>eE 0 0 _ a5 a5 g.ht s.x32 (aF s.ok).1) (hx:=a4) (he:=a4) (hy:=λ_=>a4)
theorem ON (i:Ins) (at_:Int) (d:11<=i.op) (e:i.op<=17) (b:0<=i.rd) (c:i.rd<=31) (a:U at_) (h:Ht B hh r M A w) (f:Gd M):Calls prog 81 #[.p hh 0,.agg #[.i i.op,.i i.rd,.i i.a,.i i.b,.i i.imm],.u at_] w (HR B hh r M A w (mc M i at_)):=by
 by_cases k:i.op<=14;·exact OL i.op i.rd i.a i.b i.imm at_ d k b c a h f
 ·exact OM i.op i.rd i.a i.b i.imm at_ al e b c a h f
end
end Go.Proofs.YtjifdmoehfbihaaGreatDoor
