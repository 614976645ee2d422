/- Own lemmas. -/
import Derived.Test.YtjifdmoehfbihaaGreatDoorAut
import Derived.Test.YtjifdmoehfbihaaGreatDoorK26
import Derived.Test.YtjifdmoehfbihaaGreatDoorK27
set_option maxRecDepth 100000
namespace Go.Proofs.YtjifdmoehfbihaaGreatDoor
open Go.RowKit Tryz
open IntKind renaming u64->Uz
set_option linter.unusedVariables false
def aK (M:MV) (k:Nat) (i:Bool) (v:Int):MV :=
 ⟨dO (nG M.cs (cE M.cs M.pr k i)) k (mz M.cs (cE M.cs M.pr k i) i),M.x,pH (cE M.cs M.pr k i),gW M.cs (cE M.cs M.pr k i) M.pr (gq k i) M.pc v,M.ram,M.d,M.hd,M.hl,M.wt⟩
def aT (M:MV) (rd x to:Int):MV :=
 ⟨to,if rd=0 then M.x else M.x.set rd.toNat x,M.pr,M.cs.set 21 (Uz.wrap (M.cs.getD 21 0+1)),M.ram,M.d,M.hd,M.hl,M.wt⟩
def bZ (M:MV) (h:Bool) (a:Int):MV:=⟨M.pc,M.x,M.pr,M.cs,M.ram,M.d,a,h,M.wt⟩
def fj (M:MV) (b:Bool):MV:=⟨M.pc,M.x,M.pr,M.cs,M.ram,M.d,M.hd,M.hl,b⟩
def iz (M:MV) (l:List Int):MV:=⟨M.pc,M.x,M.pr,l,M.ram,M.d,M.hd,M.hl,M.wt⟩
def gi (M:MV) (p:Int):MV:=⟨M.pc,M.x,p,M.cs,M.ram,M.d,M.hd,M.hl,M.wt⟩
def cF (r:Int × MV × Int) (more:Nat) (v:Int):MV × Int:=(aK r.2.1 ((r.2.2-16).toNat+more) false v,2)
def fE (M:MV) (i:Ins) (a b n:Int):Int :=
 if i.op=4 then bits .andNot .u64 (Uz.wrap (a+n)) 1
 else if (decide (4<i.op)&&!JH i.op a b)=true then Uz.wrap (M.pc+4) else Uz.wrap (M.pc+n)
def nz (M:MV) (i:Ins) (a b n:Int):MV × Int :=
 if (bits .and .u64 (fE M i a b n) 2 != 0)=true then (aK M 0 false (fE M i a b n),2)
 else (aT M (if 4<i.op then 0 else i.rd) (Uz.wrap (M.pc+4)) (fE M i a b n),1)
def jt (op:Int):Nat:=if op-11<4 then 2^(op-11).toNat else 2^(op-15).toNat
def lI (M:MV) (i:Ins) (at_:Int):MV × Int :=
 let r:=aC M at_ (jt i.op) 2 0
 if (r.2.2 != 0)=true then cF r 0 at_
 else (aT r.2.1 i.rd (if i.op-11<4 then ap (8*jt i.op) r.1 else r.1) (Uz.wrap (r.2.1.pc+4)),1)
def lJ (M:MV) (i:Ins) (at_ b:Int):MV × Int :=
 let r:=aC M at_ (2^(i.op-18).toNat:Nat) 3 b
 if (r.2.2 != 0)=true then cF r 0 at_ else (aT r.2.1 0 0 (Uz.wrap (r.2.1.pc+4)),1)
def bp (op:Int):Nat:=if op-63>=11 then 8 else 4
def mF (op:Int):Int:=if op-63>=11 then op-74 else op-63
def cg (M:MV) (va kind:Int):Fd:=bW M.ram M.ram.length M.cs (fR M.cs M.pr kind) va kind
def cZ (M:MV) (va kind:Int):MV:=bL M (bn M.ram (cg M va kind))
def SJ (M:MV) (i:Ins) (a:Int):MV × Int :=
 let r:=aC M a (bp i.op) 2 0
 if (r.2.2 != 0)=true then cF r 0 a
 else (aT (bZ (cZ r.2.1 a 2) true (cg r.2.1 a 2).addr) i.rd (ap (8*bp i.op) r.1) (Uz.wrap (M.pc+4)),1)
def TU (M:MV) (i:Ins) (a b:Int) (pa:Int):MV × Int :=
 if (M.hl&&(M.hd==pa))=true then
  (let r:=aC M a (bp i.op) 3 b
   if (r.2.2 != 0)=true then cF r 0 a else (aT (bZ r.2.1 false 0) i.rd 0 (Uz.wrap (M.pc+4)),1))
 else (aT (bZ M false 0) i.rd 1 (Uz.wrap (M.pc+4)),1)
def Pi (M:MV) (i:Ins) (a b:Int):MV × Int :=
 let r:=aC M a (bp i.op) 2 0
 if (r.2.2 != 0)=true then cF r 2 a
 else
  let q:=aC r.2.1 a (bp i.op) 3 (iI i.op r.1 b)
  if (q.2.2 != 0)=true then cF q 0 a else (aT q.2.1 i.rd (ap (8*bp i.op) r.1) (Uz.wrap (M.pc+4)),1)
def hZ (M:MV) (i:Ins) (a b:Int):MV × Int :=
 if (mF i.op==0)=true then SJ M i a
 else if (a%(bp i.op:Nat) != 0)=true then (aK M 6 false a,2)
 else if ((cg M a 3).code != 0)=true then (aK (cZ M a 3) (cg M a 3).code.toNat false a,2)
 else if (mF i.op==1)=true then TU (cZ M a 3) i a b (cg M a 3).addr
 else Pi (cZ M a 3) i a b
def dS (i:Ins):Bool:=((i.op-87).tmod 3==0)||(i.a != 0)
def lK (i:Ins) (a:Int):Int:=if 90<=i.op then Uz.wrap i.a else a
def tB (i:Ins) (a old:Int):Int:=if ((i.op-87).tmod 3==1)=true then bits .or .u64 old (lK i a) else if ((i.op-87).tmod 3==2)=true then bits .andNot .u64 old (lK i a) else lK i a
def ml (M:MV) (i:Ins) (a w:Int):MV × Int :=
 if (!jf M.cs.length M.cs i.imm M.pr||(dS i&&((wrap64 (i.imm.tdiv 1024)).tmod 4==3)))=true then (aK M 2 false w,2)
 else
  let N:=aT M i.rd (dq M.cs i.imm) (Uz.wrap (M.pc+4))
  (if dS i=true then iz N (bU N.cs i.imm (tB i a (dq M.cs i.imm))) else N,1)
def oB (p:Int):Nat:=if p=0 then 8 else if p=1 then 9 else 11
def jN (M:MV) (i:Ins) (w:Int):MV × Int :=
 if i.op=93 then (aK M (oB M.pr) false 0,2)
 else if i.op=94 then (aK M 3 false M.pc,2)
 else if i.op=95\/i.op=96 then
  (if (((i.op==96)&&(M.pr != 3))||(M.pr==0))=true then (aK M 2 false w,2)
   else (aT (gi (iz M (M.cs.set 0 (cL (M.cs.getD 0 0) (i.op==96)))) (cW (M.cs.getD 0 0) (i.op==96))) 0 0 (eg M.cs (i.op==96)),1))
 else if (M.pr==0)=true then (aK M 2 false w,2)
 else if i.op=97 then (aT (fj M true) 0 0 (Uz.wrap (M.pc+4)),1)
 else (aT M 0 0 (Uz.wrap (M.pc+4)),1)
def cR (M:MV) (i:Ins) (w:Int):MV × Int :=
 let a:=M.x.getD i.a.toNat 0
 let b:=M.x.getD i.b.toNat 0
 let n:=Uz.wrap i.imm
 if i.op=1 then (aT M i.rd n (Uz.wrap (M.pc+4)),1)
 else if i.op=2 then (aT M i.rd (Uz.wrap (M.pc+n)) (Uz.wrap (M.pc+4)),1)
 else if i.op<=10 then nz M i a b n
 else if i.op<=17 then lI M i (Uz.wrap (a+n))
 else if i.op<=21 then lJ M i (Uz.wrap (a+n)) b
 else if i.op<=62 then (aT M i.rd (mV i.op a (if (eU i.op).toList=[82] then b else n)) (Uz.wrap (M.pc+4)),1)
 else if i.op<=84 then hZ M i a b
 else if i.op<=86 then (aT M 0 0 (Uz.wrap (M.pc+4)),1)
 else if i.op<=92 then ml M i a w
 else jN M i w
def fL (M:MV):MV × Int :=
 if (M.wt&&(j4 M.cs==0))=true then (M,4)
 else if 0<=fG M.cs M.pr then (aK (fj M false) (fG M.cs M.pr).toNat true 0,3)
 else
  let r:=aC (fj M false) M.pc 4 1 0
  if (r.2.2 != 0)=true then cF r 0 r.2.1.pc
  else match Be r.1 with
   | none=>(aK r.2.1 2 false r.1,2)
   | some i=>cR r.2.1 i r.1
theorem Ca {M:MV} (h:ls M=true) {l:List Int} (e:l.getD 9 0=M.cs.getD 9 0):(bits .and .u64 (l.getD 9 0) 2184==dD M.d)=true:=by rw [e];exact h
theorem Pj (l:List Int) (d:Bool) (p t pc v:Int):(gW l d p t pc v).getD 9 0=l.getD 9 0:=by
 cases d;·show ((((l.set 7 t).set 6 (bits .andNot .u64 pc 3)).set 8 v).set 0 (lP (l.getD 0 0) p)).getD 9 0=_;rw [dC _ _ _ _ ab,dC _ _ _ _ ab,dC _ _ _ _ ab,dC _ _ _ _ ab]
 ·show ((((l.set 13 t).set 12 (bits .andNot .u64 pc 3)).set 14 v).set 0 (kR (l.getD 0 0) (p==1))).getD 9 0=_;rw [dC _ _ _ _ ab,dC _ _ _ _ ab,dC _ _ _ _ ab,dC _ _ _ _ ab]
theorem Jk (x k:Int) (j:Bool):U (dO x k j):=by
 cases j;·exact af .andNot x 1
 ·exact aP (bits .andNot .u64 x 1+Uz.wrap (4*k))
theorem Jl (d:Bool):bC (pH d)=true:=by cases d<;>rfl
theorem Gd.trap {M:MV} (h:Gd M) {k:Nat} (hk:k<16) (i:Bool) {v:Int} (hv:U v):Gd (aK M k i v):=by
 obtain ⟨n,e,o,f,g,j,l⟩:=eI h.ok;obtain ⟨b,a,c,_,_,_⟩:=ay h.ok;have d:fy 4 (nG M.cs (cE M.cs M.pr k i))=true\/fy 10 (nG M.cs (cE M.cs M.pr k i))=true:=by
  cases cE M.cs M.pr k i;·exact Or.inl (dR a 4 ab)
  ·exact Or.inr (dR a 10 ab)
 have m:=L8 M.cs b h.mw.cs a (cE M.cs M.pr k i) M.pr M.pc v c h.pc k hk i;refine ⟨kJ (M:=aK M k i v) (by show (bits .and .u64 (dO _ _ _) 3==0)=true;rw [Ve _ _ _ d];rfl) e ?_ f g j (Ca l (Pj _ _ _ _ _ _)),⟨O0 _ h.mw.cs _ _ _ _ hv _ hk _,h.mw.ram,h.mw.xs,h.mw.ys⟩,h.ux,Jk _ _ _,h.hd⟩;show aX (gW M.cs _ _ _ _ _).length (gW M.cs _ _ _ _ _) (pH _)=true;unfold aX;rw [lC,b,Jl,Bool.and_true];exact m
theorem Gd.done {M:MV} (h:Gd M) {rd x to:Int} (o:0<=rd) (p:rd<=31) (hx:U x) (q:U to) (h4:bits .and .u64 to 3=0):Gd (aT M rd x to):=by
 obtain ⟨_,b,r,f,l,m,n⟩:=eI h.ok;obtain ⟨c,i,k,_,_,_⟩:=ay h.ok;unfold gg at b;rw [Bool.and_eq_true,decide_eq_true_eq] at b;have d:U (Uz.wrap (M.cs.getD 21 0+1)):=aP _;have g:bq 22 (M.cs.set 21 (Uz.wrap (M.cs.getD 21 0+1)))=true:=cH M.cs c i 21 ab _ (beq_self_eq_true _);have a:(if rd=0 then M.x else M.x.set rd.toNat x).length=32/\((if rd=0 then M.x else M.x.set rd.toNat x).getD 0 0==0)=true/\∀ j,U ((if rd=0 then M.x else M.x.set rd.toNat x).getD j 0):=by
  by_cases e:rd=0;·rw [if_pos e];exact ⟨b.1,b.2,h.ux⟩
  ·rw [if_neg e];refine ⟨by rw [List.length_set];exact b.1,by rw [dC _ _ _ _ ab];exact b.2,λj=>?_⟩;rw [List.getD_eq_getElem?_getD,List.getElem?_set];split
   ·split;·exact hx
    ·exact ⟨bb,bb⟩
   ·have:=h.ux j;rw [List.getD_eq_getElem?_getD] at this;exact this
 refine ⟨kJ (M:=aT M rd x to) (by show (bits .and .u64 to 3==0)=true;rw [h4];rfl) ?_ ?_ f l m (Ca n (dC _ _ _ _ ab)),⟨?_,h.mw.ram,h.mw.xs,h.mw.ys⟩,a.2.2,q,h.hd⟩;·show gg (if rd=0 then M.x else M.x.set rd.toNat x).length (if rd=0 then M.x else M.x.set rd.toNat x)=true;unfold gg;rw [a.2.1,decide_eq_true a.1];rfl
 ·show aX (M.cs.set 21 _).length (M.cs.set 21 _) M.pr=true;unfold aX;rw [List.length_set,c,k,Bool.and_true];exact g
 ·intro j;show U ((M.cs.set 21 (Uz.wrap (M.cs.getD 21 0+1))).getD j 0);rw [List.getD_eq_getElem?_getD,List.getElem?_set];split
  ·split;·exact d
   ·exact ⟨bb,bb⟩
  ·have:=h.mw.cs j;rw [List.getD_eq_getElem?_getD] at this;exact this
theorem Gd.hold {M:MV} (h:Gd M) {b:Bool} {a:Int} (k:U a) (hb:b=true\/a=0):Gd (bZ M b a):=by obtain ⟨c,d,f,g,i,l,j⟩:=eI h.ok;exact ⟨kJ (M:=bZ M b a) c d f g i (by show (b||(a==0))=true;rcases hb with e|e<;>rw [e]<;>simp) j,⟨h.mw.cs,h.mw.ram,h.mw.xs,h.mw.ys⟩,h.ux,h.pc,k⟩
theorem Gd.wait {M:MV} (h:Gd M) (b:Bool):Gd (fj M b):=by obtain ⟨a,c,d,e,f,g,i⟩:=eI h.ok;exact ⟨kJ (M:=fj M b) a c d e f g i,⟨h.mw.cs,h.mw.ram,h.mw.xs,h.mw.ys⟩,h.ux,h.pc,h.hd⟩
structure Ht (B hh r:Nat) (M:MV) (A:MA) (W:World):Prop where
 row:W.heap[hh]?=some (.cells #[.p r 0,.slice none 0 0] 61 (0,0))
 mp:Mp B r M A W
 ne:hh≠r
 nq:∀ q ∈ aI M A,q.v.ownBlock≠some hh
theorem Ht.lt {B hh r:Nat} {M:MV} {A:MA} {w:World} (h:Ht B hh r M A w):hh<w.heap.size:=(Array.getElem?_eq_some_iff.1 h.row).1
theorem Ht.step {B hh r:Nat} {M M':MV} {A a:MA} {w w':World} (h:Ht B hh r M A w) (p:Mp B r M' a w') (k:Kx r (aI M A) (aI M' a) w w'):Ht B hh r M' a w' :=
 ⟨(k.block hh h.lt h.ne h.nq).trans h.row,p,h.ne,λq d e=>by obtain ⟨f,c,b⟩:=k.own q d hh e h.lt;exact h.nq f c b⟩
theorem Ht.cells {B hh r:Nat} {M:MV} {A:MA} {w:World} (h:Ht B hh r M A w):w.cell? ⟨hh,0,none⟩=some (.p r 0)/\w.cell? ⟨hh,1,none⟩=some (.slice none 0 0):=by simp [World.cell?,h.row]
theorem Mp.cs {B r:Nat} {M:MV} {A:MA} {w:World} (h:Mp B r M A w) (i:M.cs.length=22):∃ g,A.ac=some ⟨g,0,none⟩/\dh w B g A.cc M.cs /\ ∀ (c:World) (l:List Int),l.length=22->w.grownBy c (some g)->dh c B g A.cc l->Mp B r (iz M l) A c/\Kx r (aI M A) (aI (iz M l) A) w c:=by
 have m:aJ A.ac M.cs.length A.cc M.cs ∈ aI M A:=dm
 have v:=h.fam.own _ m;have f:∃ g,A.ac=some ⟨g,0,none⟩:=by
  rcases v.2 with ⟨e,o⟩|⟨u,cap,x,e,_⟩;·have:M.cs.length=0:=o;omega
  ·have e2:Value.slice A.ac M.cs.length A.cc=.slice (some ⟨u,0,none⟩) M.cs.length cap:=e;injection e2 with e3
   exact ⟨u,e3⟩
 obtain ⟨g,f⟩:=f;have p:dh w B g A.cc M.cs:=by have:w.ownsRow B 22 1 (.slice A.ac M.cs.length A.cc) M.cs.length (M.cs.map (Value.int .u64)):=v;rw [f,i] at this;exact this
 refine ⟨g,f,p,λc l D j n=>?_⟩;have k:w.grownBy c (aJ A.ac M.cs.length A.cc M.cs).v.ownBlock:=by have e:(aJ A.ac M.cs.length A.cc M.cs).v.ownBlock=some g:=(by show (Value.slice A.ac M.cs.length A.cc).ownBlock=_;rw [f];rfl);rw [e];exact j
 have t:c.ownsRow B 22 1 (aJ A.ac M.cs.length A.cc M.cs).v M.cs.length (l.map (Value.int .u64)):=by show c.ownsRow B 22 1 (.slice A.ac M.cs.length A.cc) _ _;rw [f,i];exact n
 have d:=bx.markL (L1:=[aJ A.ax M.x.length A.cx M.x]) (L2:=[aF A.ar M.ram.length A.cr M.ram,aF A.ai M.d.xs.length A.ci M.d.xs,aF A.ao M.d.ys.length A.co M.d.ys]) (r:=aJ A.ac M.cs.length A.cc M.cs) h.fam k _ t;have a:l.length=M.cs.length:=ab
 have b:=jj (M:=M) (M':=iz M l) (A:=A) rfl a rfl rfl rfl;have hF:bx B w.heap.size c (aI (iz M l) A):=by unfold aI iz;dsimp only;rw [a];exact d.1
 refine ⟨⟨?_,hF.low (Nat.le_refl _) j.size,λq s e=>?_,h.lo⟩,Kx.of_keepL d.2 b⟩;·have z:c.heap[r]?=w.heap[r]?:=d.2.block r h.lt (λq s e=>h.ne q s e);rw [z,h.row];unfold aq iz;dsimp only;rw [a]
 ·obtain ⟨C,y,o⟩:=b q s;exact h.ne C y (by rw [o];exact e)
theorem Ht.atX {B hh r:Nat} {M:MV} {A:MA} {w:World} (h:Ht B hh r M A w) (d:M.x.length=32):∃ b,A.ax=some ⟨b,0,none⟩/\∀ j,j<32->w.cell? ⟨b,j,none⟩=some (.u (M.x.getD j 0))/\w.frozen? ⟨b,j,none⟩=false:=by have a:=h.mp.xrow;rw [d] at a;obtain ⟨b,c,e,g⟩:=jC a ab;simp only [Value.slice.injEq,true_and] at e;obtain ⟨f,e2⟩:=e;refine ⟨b,f,λj i=>?_⟩;rw [f] at a;refine ⟨?_,a.frozenAt j⟩;rw [a.cellAt j ab];rw [List.getElem?_map,List.getElem?_eq_getElem (show j<M.x.length by omega),List.getD_eq_getElem?_getD,List.getElem?_eq_getElem (show j<M.x.length by omega)];rfl
theorem Ht.atC {B hh r:Nat} {M:MV} {A:MA} {w:World} (h:Ht B hh r M A w) (d:M.cs.length=22):∃ b,A.ac=some ⟨b,0,none⟩/\∀ j,j<22->w.cell? ⟨b,j,none⟩=some (.u (M.cs.getD j 0))/\w.frozen? ⟨b,j,none⟩=false:=by have a:w.ownsRow B 22 1 (.slice A.ac M.cs.length A.cc) M.cs.length (M.cs.map (Value.int .u64)):=h.mp.fam.own (aJ A.ac M.cs.length A.cc M.cs) dm;rw [d] at a;obtain ⟨b,c,e,g⟩:=jC a ab;simp only [Value.slice.injEq,true_and] at e;obtain ⟨f,e2⟩:=e;refine ⟨b,f,λj i=>?_⟩;rw [f] at a;refine ⟨?_,a.frozenAt j⟩;rw [a.cellAt j ab];rw [List.getElem?_map,List.getElem?_eq_getElem (show j<M.cs.length by omega),List.getD_eq_getElem?_getD,List.getElem?_eq_getElem (show j<M.cs.length by omega)];rfl
theorem vO {B hh r:Nat} {M:MV} {A:MA} {w:World} (h:Ht B hh r M A w) (q:Gd M) (k:Nat) (hk:k<16) (i:Bool) (v:Int):Calls prog 74 #[.slice A.ac M.cs.length A.cc,.i M.pr,.u M.pc,.i k,.bool i,.u v] w λe c=>e=.returned (.tuple #[.i (aK M k i v).pr,.u (aK M k i v).pc])/\Ht B hh r (iz M (aK M k i v).cs) A c/\Kx r (aI M A) (aI (iz M (aK M k i v).cs) A) w c:=by obtain ⟨a,p,f,_,_,_⟩:=ay q.ok;obtain ⟨g,d,b,j⟩:=h.mp.cs a;rw [d,a];refine (AS B g A.cc M.cs M.pr M.pc v f k hk i w b).mono λe c ⟨m,n,o⟩=>?_;obtain ⟨s,l⟩:=j c _ (by rw [lC];exact a) o n;exact ⟨m,h.step s l,l⟩
theorem mG (M:MV) (A:MA) (B hh r:Nat) (w:World) (h:Ht B hh r M A w):CE 75 #[.p hh 0] w (.tuple #[]):=by obtain ⟨c,d⟩:=h.cells;clear h;go_enter func75,ntmps75;go_wp2_with fail;exact bodyPost_end (results_none rfl _ _ _) rfl ⟨rfl,rfl⟩
def aM (hh r:Nat):Kr:=⟨hh,#[.p r 0,.slice none 0 0],61,[(0,1)]⟩
def eD (N:Nat):List (Array Value × TypeId)->List Kr
 | []=>[]
 | x::l=>⟨N,x.1,x.2,[]⟩::eD (N+1) l
theorem Cb {x:Kr}:∀ {l:List (Array Value × TypeId)} {N:Nat},x ∈ eD N l->∃ i y,l[i]?=some y/\x.b=N+i/\x.cs=y.1/\x.t=y.2
 | [],_,h=>l0
 | y::l,N,h=>by
   rcases List.mem_cons.1 h with rfl|h
   ·exact ⟨0,y,rfl,rfl,rfl,rfl⟩
   ·obtain ⟨i,z,a,c,b⟩:=Cb h
    exact ⟨i+1,z,pp,ab,b⟩
section
variable {B hh r : Nat} {M : MV} {A : MA} {w : World}
theorem Hx.start (h:Ht B hh r M A w) (bs:List (Array Value × TypeId)):Hx B r (aM hh r::eD w.heap.size bs) M A w M A (bM w bs):=by
 obtain ⟨d,a⟩:=Bs.start w bs;refine ⟨h.mp.below a,Kx.of_below a,λx b=>?_⟩;rcases List.mem_cons.1 b with rfl | b;·exact ⟨bA a h.row,h.ne,h.nq⟩
 ·obtain ⟨i,y,c,e2,e3,e4⟩:=Cb b;have f:=h.mp.lt;refine ⟨by rw [e2,e3,e4];exact d i y c,ab,λq g e=>?_⟩;have:=h.mp.fam.hi q g _ e;omega
theorem Hx.ht {M':MV} {a:MA} {L:List Kr} {W:World} (h:Hx B r (aM hh r::L) M A w M' a W):Ht B hh r M' a W:=by obtain ⟨b,c,d⟩:=h.rows (aM hh r) cp;exact ⟨b,h.mp,c,d⟩
theorem Hx.to {M' M2:MV} {b a:MA} {L:List Kr} {W W2:World} (h:Hx B r (aM hh r::L) M A w M' b W) (k:Ht B hh r M2 a W2) (c:Kx r (aI M' b) (aI M2 a) W W2):Hx B r (aM hh r::L) M A w M2 a W2:=h.step k.mp c
end
def HR (B hh r:Nat) (M:MV) (A:MA) (w:World) (R:MV × Int) (e:Ending) (w':World):Prop:=e=.returned (.i R.2)/\∃ a,Ht B hh r R.1 a w'/\Kx r (aI M A) (aI R.1 a) w w'
theorem Hx.hr {B hh r:Nat} {M M':MV} {A a:MA} {w W:World} {L:List Kr} (h:Hx B r (aM hh r::L) M A w M' a W) (k:Int):HR B hh r M A w (M',k) (.returned (.i k)) W:=⟨rfl,a,h.ht,h.kx⟩
section
variable {B hh r : Nat} {M : MV} {A : MA} {w : World}
theorem dL (k:Nat) (hk:k<16) (v:Int) (h:Ht B hh r M A w) (n:Gd M):Calls prog 77 #[.p hh 0,.i k,.u v] w (HR B hh r M A w (aK M k false v,2)):=by
 refine bz (S:=Hx B r [aM hh r] M A w M A) (args:=[.p hh 0,.i k,.u v]) [] func77 ?_;refine aL 0 2 ?_;refine ae (Hx.eng (dr:=false)) {} 10 (Hx.start h []) λW b=>?_;have o:(aK M k false v).cs.length=M.cs.length:=lC _ _ _ _ _ _;have d:aq (iz M (aK M k false v).cs) A=aq M A:=by unfold aq iz;dsimp only;rw [o]
 refine aH (Hs r [aM hh r] (aq M A)) ?_;refine lg 37 ?_;refine aN (Hs.eng (dr:=true) (λ_ h=>h.hs)) {} 100 (b.below (Below.refl _ _).drew) (λg c=>vO c.ht n k hk false v) ?_;rintro g e q c ⟨rfl,j,p⟩;have a:=c.to j p;refine ⟨_,0,rfl,λ_=>d ▸ a.hs,?_⟩;refine ae (Hs.eng (dr:=true) (λ_ h=>d ▸ h.hs)) {} 40 a λs a=>?_;refine bJ (bE (i:=2) (T:=2) (v:=.i (aK M k false v).pr) a.mp.row (show 2<14 by decide) al rfl) ?_;have l:=a.fld (M':=gi (iz M (aK M k false v).cs) (aK M k false v).pr) 2 (.i (aK M k false v).pr) rfl rfl;refine aH (Hx B r [aM hh r] M A w (gi (iz M (aK M k false v).cs) (aK M k false v).pr) A) ?_;refine ae (Hx.eng (dr:=true)) {} 40 l λu f=>?_;refine bJ (bE (i:=0) (T:=22) (v:=.u (aK M k false v).pc) f.mp.row (show 0<14 by decide) al rfl) ?_;have m:=f.fld (M':=aK M k false v) 0 (.u (aK M k false v).pc) rfl rfl;refine aH (Hx B r [aM hh r] M A w (aK M k false v) A) ?_;exact aY (t:=6) (v:=.i 2) (Hx.eng (dr:=true)) {cv:=[(47,jS λW b=>mG (aK M k false v) A B hh r W b.ht)]} 40 m λW b=>b.hr 2
theorem eY (rd x to:Int) (J:0<=rd) (K:rd<=31) (h:Ht B hh r M A w) (f:M.x.length=32) (k:M.cs.length=22):Calls prog 79 #[.p hh 0,.i rd,.u x,.u to] w (HR B hh r M A w (aT M rd x to,1)):=by
 have p:=Hx.start h [];have fin:∀ (S:World->Prop) (N:MV) (W:World),Hx B r [aM hh r] M A w N A W->N.x.length=32->N.cs=M.cs->⟨to,N.x,M.pr,M.cs.set 21 (Uz.wrap (M.cs.getD 21 0+1)),M.ram,M.d,M.hd,M.hl,M.wt⟩=aT M rd x to->(N.pr=M.pr/\N.ram=M.ram/\N.d=M.d/\N.hd=M.hd/\N.hl=M.hl/\N.wt=M.wt)->Wg prog S (bodyPost prog Tryz.f79 (HR B hh r M A w (aT M rd x to,1))) Tryz.f79.ntmps [.code (az 2 (aW Tryz.f79))] [(0,.p hh 0,2),(3,.u to,0)] W:=by
  intro S N W y L z C I;obtain ⟨o,l,U,O,D,Z,P,Q,V⟩:=N;obtain ⟨rfl,rfl,rfl,rfl,rfl,rfl⟩:=I;dsimp only at L z C;subst z;obtain ⟨b,g,j⟩:=y.ht.atC k;refine aH (Hx B r [aM hh r] M A w ⟨o,l,M.pr,M.cs,M.ram,M.d,M.hd,M.hl,M.wt⟩ A) ?_;refine ae (Hx.eng (dr:=false)) {} 40 y λX n=>?_;refine bJ (bE (i:=0) (T:=22) (v:=.u to) n.mp.row (show 0<14 by decide) al rfl) ?_;have G:=n.fld (M':=⟨to,l,M.pr,M.cs,M.ram,M.d,M.hd,M.hl,M.wt⟩) 0 (.u to) rfl rfl;refine aH (Hx B r [aM hh r] M A w ⟨to,l,M.pr,M.cs,M.ram,M.d,M.hd,M.hl,M.wt⟩ A) ?_;refine ae (Hx.eng (dr:=false)) {} 40 G λY H=>?_;refine ze ?_;have m:∀ W,Hx B r [aM hh r] M A w ⟨to,l,M.pr,M.cs,M.ram,M.d,M.hd,M.hl,M.wt⟩ A W->W.cell? ⟨b,0+(21:Int).toNat,none⟩=some (.u (M.cs.getD 21 0))/\W.frozen? ⟨b,0+(21:Int).toNat,none⟩=false:=λW c=>by obtain ⟨F,d,a⟩:=c.ht.atC k;rw [g] at d;cases d;exact a 21 ab
  refine ae (Hx.eng (dr:=true)) {ov:=[(42,kN M.cs.length A.cc .i64 21 g ⟨ab,ab⟩ underlying23 al),(43,iR ⟨b,0+(21:Int).toNat,none⟩ (.u (M.cs.getD 21 0)) underlying22 rfl (λW c=>(m W c).1)),(45,kN M.cs.length A.cc .i64 21 g ⟨ab,ab⟩ underlying23 al)]} 60 (H.below (Below.refl _ _).drew) λE s=>?_;refine bJ (jh (T:=22) (v:=.u (Uz.wrap (M.cs.getD 21 0+1))) (m E s) al rfl) ?_;have u:=s.setC b g 21 (Uz.wrap (M.cs.getD 21 0+1));rw [show cM (⟨to,l,M.pr,M.cs,M.ram,M.d,M.hd,M.hl,M.wt⟩:MV) (M.cs.set 21 (Uz.wrap (M.cs.getD 21 0+1)))=aT M rd x to from C] at u;refine aH (Hx B r [aM hh r] M A w (aT M rd x to) A) ?_;exact aY (t:=8) (v:=.i 1) (Hx.eng (dr:=true)) {} 40 u λW c=>c.hr 1
 refine bz (S:=Hx B r [aM hh r] M A w M A) (args:=[.p hh 0,.i rd,.u x,.u to]) [] func79 ?_;refine aL 0 2 ?_;by_cases e:rd=0;·subst e;refine ae (Hx.eng (dr:=false)) {} 8 p λW c=>?_;exact ah _ _ (fin _ M W c f rfl rfl ⟨rfl,rfl,rfl,rfl,rfl,rfl⟩)
 ·have q:(rd != 0)=true:=(by simpa using e);obtain ⟨b,g,j⟩:=h.atX f;have m:∀ W,Hx B r [aM hh r] M A w M A W->W.cell? ⟨b,0+rd.toNat,none⟩=some (.u (M.x.getD (0+rd.toNat) 0))/\W.frozen? ⟨b,0+rd.toNat,none⟩=false:=λW c=>by obtain ⟨F,d,a⟩:=c.ht.atX f;rw [g] at d;cases d;exact a (0+rd.toNat) ab
  refine ae (Hx.eng (dr:=false)) {eq:=[(10,aj q)],ov:=[(20,kN M.x.length A.cx .i64 rd g ⟨ab,ab⟩ underlying23 al)]} 40 p λW c=>?_;refine bJ (jh (T:=22) (v:=.u x) (m W c) al rfl) ?_;have n:=c.setX b g (0+rd.toNat) x;refine an (R:=[]) trivial {} 1 ?_;refine ah _ _ (fin _ _ _ n (by show (M.x.set _ _).length=32;rw [List.length_set];exact f) rfl ?_ ⟨rfl,rfl,rfl,rfl,rfl,rfl⟩);unfold aT xM;rw [if_neg e,Nat.zero_add]
end
theorem Hx.last {P:Program} {fn:Func} {S:World->Prop} {B hh r n:Nat} {L:List Kr} {M N:MV} {A C:MA} {w W:World} {R:List Rw} {dr:Bool} {V:MV × Int} {k:List KI} {F:Fr} (E:nE P S (Hx B r (aM hh r::L) M A w N C) R dr (bodyPost P fn (HR B hh r M A w V))) (H:Hn P S (Hx B r (aM hh r::L) M A w N C)) (m:Nat) (hS:Hx B r (aM hh r::L) M A w N C W) {f:Nat} {args:Array Value} (j:∀ W,Hx B r (aM hh r::L) M A w N C W->Calls P f args W (HR B hh r N C W V)) {t:Nat} (hr:fn.results=#[.tmp t]:=by rfl) (hx:((be P R H n dr m k F).1.1,NB P n (be P R H n dr m k F).1.2.2 (be P R H n dr m k F).1.2.1,yJ (be P R H n dr m k F).1.2.2 (be P R H n dr m k F).1.2.1,gZ (oI (be P R H n dr m k F).1.2.2 (be P R H n dr m k F).1.2.1))=(false,some (f,args),false,true):=by kernel_rfl) (he:(be P R H n dr m k F).2.map Prod.fst=(be P R H n dr m k F).2.map Prod.snd:=by kernel_rfl) (hy:∀ J:World->Prop,(λ(y:(Bool × List KI × Fr) × List (Oe × Oe))=>(y.1.1,(lk y.1.2.2 t).map Prod.fst,y.2.map Prod.fst)) (be P [] ({}:Hn P (λ_=>True) J) n true 20 (oI (be P R H n dr m k F).1.2.2 (be P R H n dr m k F).1.2.1) (pP (be P R H n dr m k F).1.2.2 (be P R H n dr m k F).1.2.1 (.i V.2) 0))=(true,some (.i V.2),[]):=by intro _;kernel_rfl):Wg P S (bodyPost P fn (HR B hh r M A w V)) n k F W:=by simp only [Prod.mk.injEq] at hx;refine aN E H m hS j (hx:=t5) (he:=he) ?_;rintro o e p d ⟨rfl,b,g,l⟩;refine ⟨_,0,rfl,gm hx.2.2.1,?_⟩;have i:=d.to g l;refine aH (λ_=>True) (hn:=hx.2.2.2) ?_;have a:=hy (Hx B r (aM hh r::L) M A w V.1 b);simp only [Prod.mk.injEq] at a;refine aY (R:=[]) (t:=t) (v:=.i V.2) (J:=Hx B r (aM hh r::L) M A w V.1 b) ⟨λ_ _=>trivial,λ_ _ x hx=>(by cases hx),λ_ W h=>h.below (Below.refl _ _).drew,ct⟩ {} 20 i (hv:=by rw [a.1,a.2.1]) (he:=by rw [List.map_eq_nil_iff.1 a.2.2];rfl) (hr:=hr) λW c=>⟨rfl,b,c.ht,c.kx⟩
theorem Gd.x32 {M:MV} (h:Gd M):M.x.length=32:=by have:=(eI h.ok).2.1;unfold gg at this;rw [Bool.and_eq_true,decide_eq_true_eq] at this;exact this.1
theorem jW {M:MV} {addr size kind x c:Int} (a:(aC M addr size kind x).2.2=c) (hn:(c != 0)=true):IntKind.i64.wrap (c-16)=(((c-16).toNat:Nat):Int)/\(c-16).toNat<16:=by
 have h:=Mi M addr size kind x;rw [a] at h;rcases h with h|⟨d,b,e⟩;·rw [h] at hn;cases hn
 ·rw [IntKind.wrap_i64];omega
section
variable {B hh r : Nat} {M : MV} {A : MA} {w : World}
theorem RV (op rd d f imm at_:Int) (j:11<=op) (o:op<=14) (u:0<=rd) (v:rd<=31) (t:U at_) (h:Ht B hh r M A w) (m:Gd M):Calls prog 81 #[.p hh 0,.agg #[.i op,.i rd,.i d,.i f,.i imm],.u at_] w (HR B hh r M A w (lI M ⟨op,rd,d,f,imm⟩ at_)):=by
 obtain ⟨V,s⟩:∃ V,lI M ⟨op,rd,d,f,imm⟩ at_=V:=⟨_,rfl⟩;rw [s];obtain ⟨a,q⟩:∃ a,a=jt op:=⟨_,rfl⟩;obtain p|p|p|p:op=11\/op=12\/op=13\/op=14:=ab
 all_goals
  have l:=m.acc at_ a 2 0
  have k:=λW (b:Mp B r M A W)=>fK M A B r at_ a 2 0 W b m.len m.mw m.ok j1 ab ab t ⟨bb,bb⟩
  have n:=λc=>jW (M:=M) (addr:=at_) (size:=a) (kind:=2) (x:=0) (c:=c)
  have i:(if ((aC M at_ a 2 0).2.2 != 0)=true then cF (aC M at_ a 2 0) 0 at_ else (aT (aC M at_ a 2 0).2.1 rd (ap (8*a) (aC M at_ a 2 0).1) (Uz.wrap ((aC M at_ a 2 0).2.1.pc+4)),1))=V:=by subst p q;exact s
  clear s
  generalize aC M at_ a 2 0=X at *
  obtain ⟨y,N,c⟩:=X
  dsimp only at l k n i
  refine bz (S:=Hs r (aM hh r::eD w.heap.size [(#[.i op,.i rd,.i d,.i f,.i imm],69)]) (aq M A)) (args:=[.p hh 0,.agg #[.i op,.i rd,.i d,.i f,.i imm],.u at_]) [(#[.i op,.i rd,.i d,.i f,.i imm],69)] func81 (hn:=ba) (hs:=ba) ?_
  refine aL 0 2 (aL 4 3 ?_)
  refine ae (Hs.eng (dr:=false) (λ_ h=>h.hs)) {} 80 (Hx.start h _) (hret:=ba) (he:=ba) λW b=>?_
  refine lg 10 (hm:=ba) (hk:=ba) ?_
  refine aN (Hs.eng (dr:=true) (λ_ h=>h.hs)) {} 60 (b.below (Below.refl _ _).drew) (λz j=>k z j.mp) (hx:=ba) (he:=ba) ?_
  rintro z e E j ⟨rfl,C,o,D⟩
  refine ⟨_,0,rfl,gm ba,aH (Hs r (aM hh r::eD w.heap.size [(#[.i op,.i rd,.i d,.i f,.i imm],69)]) (aq N C)) (hn:=ba) ?_⟩
  cases g:(c != 0) with
  | true =>
    rw [g,if_pos rfl] at i
    subst i
    exact Hx.last (Hs.eng (dr:=true) (λ_ h=>h.hs)) {eq:=[(39,aj g),(42,dI .i64 (n c rfl g).1)]} 60 (j.step o D) (λW b=>dL _ (n c rfl g).2 at_ b.ht l) (hx:=ba) (he:=ba) (hy:=λ_=>ba)
  | false =>
    rw [g,if_neg bb] at i
    subst i
    refine ae (Hs.eng (dr:=false) (λ_ h=>h.hs)) {eq:=[(39,aj g)],cv:=[(51,jS λW _=>dV y (8*a) j1 j1 W)]} 60 (j.step o D) (hret:=ba) (he:=ba) λW b=>?_
    refine lg 12 (hm:=ba) (hk:=ba) ?_
    exact Hx.last (Hs.eng (dr:=true) (λ_ h=>h.hs)) {} 60 (b.below (Below.refl _ _).drew) (λW b=>eY rd (ap (8*a) y) _ u v b.ht l.x32 (ay l.ok).1) (hx:=ba) (he:=ba) (hy:=λ_=>ba)
theorem RW (op rd d f imm at_:Int) (j:15<=op) (o:op<=17) (u:0<=rd) (v:rd<=31) (t:U at_) (h:Ht B hh r M A w) (m:Gd M):Calls prog 81 #[.p hh 0,.agg #[.i op,.i rd,.i d,.i f,.i imm],.u at_] w (HR B hh r M A w (lI M ⟨op,rd,d,f,imm⟩ at_)):=by
 obtain ⟨V,s⟩:∃ V,lI M ⟨op,rd,d,f,imm⟩ at_=V:=⟨_,rfl⟩;rw [s];obtain ⟨a,q⟩:∃ a,a=jt op:=⟨_,rfl⟩;obtain p|p|p:op=15\/op=16\/op=17:=ab
 all_goals
  have l:=m.acc at_ a 2 0
  have k:=λW (b:Mp B r M A W)=>fK M A B r at_ a 2 0 W b m.len m.mw m.ok j1 ab ab t ⟨bb,bb⟩
  have n:=λc=>jW (M:=M) (addr:=at_) (size:=a) (kind:=2) (x:=0) (c:=c)
  have i:(if ((aC M at_ a 2 0).2.2 != 0)=true then cF (aC M at_ a 2 0) 0 at_ else (aT (aC M at_ a 2 0).2.1 rd ((aC M at_ a 2 0).1) (Uz.wrap ((aC M at_ a 2 0).2.1.pc+4)),1))=V:=by subst p q;exact s
  clear s
  generalize aC M at_ a 2 0=X at *
  obtain ⟨y,N,c⟩:=X
  dsimp only at l k n i
  refine bz (S:=Hs r (aM hh r::eD w.heap.size [(#[.i op,.i rd,.i d,.i f,.i imm],69)]) (aq M A)) (args:=[.p hh 0,.agg #[.i op,.i rd,.i d,.i f,.i imm],.u at_]) [(#[.i op,.i rd,.i d,.i f,.i imm],69)] func81 (hn:=ba) (hs:=ba) ?_
  refine aL 0 2 (aL 4 3 ?_)
  refine ae (Hs.eng (dr:=false) (λ_ h=>h.hs)) {} 80 (Hx.start h _) (hret:=ba) (he:=ba) λW b=>?_
  refine lg 10 (hm:=ba) (hk:=ba) ?_
  refine aN (Hs.eng (dr:=true) (λ_ h=>h.hs)) {} 60 (b.below (Below.refl _ _).drew) (λz j=>k z j.mp) (hx:=ba) (he:=ba) ?_
  rintro z e E j ⟨rfl,C,o,D⟩
  refine ⟨_,0,rfl,gm ba,aH (Hs r (aM hh r::eD w.heap.size [(#[.i op,.i rd,.i d,.i f,.i imm],69)]) (aq N C)) (hn:=ba) ?_⟩
  cases g:(c != 0) with
  | true =>
    rw [g,if_pos rfl] at i
    subst i
    exact Hx.last (Hs.eng (dr:=true) (λ_ h=>h.hs)) {eq:=[(39,aj g),(42,dI .i64 (n c rfl g).1)]} 60 (j.step o D) (λW b=>dL _ (n c rfl g).2 at_ b.ht l) (hx:=ba) (he:=ba) (hy:=λ_=>ba)
  | false =>
    rw [g,if_neg bb] at i
    subst i
    refine ae (Hs.eng (dr:=false) (λ_ h=>h.hs)) {eq:=[(39,aj g)]} 60 (j.step o D) (hret:=ba) (he:=ba) λW b=>?_
    refine lg 12 (hm:=ba) (hk:=ba) ?_
    exact Hx.last (Hs.eng (dr:=true) (λ_ h=>h.hs)) {} 60 (b.below (Below.refl _ _).drew) (λW b=>eY rd (y) _ u v b.ht l.x32 (ay l.ok).1) (hx:=ba) (he:=ba) (hy:=λ_=>ba)
theorem Pk (i:Ins) (at_ b:Int) (z:18<=i.op) (D:i.op<=21) (F:U at_) (hb:U b) (h:Ht B hh r M A w) (u:Gd M):Calls prog 82 #[.p hh 0,.agg #[.i i.op,.i i.rd,.i i.a,.i i.b,.i i.imm],.u at_,.u b] w (HR B hh r M A w (lJ M i at_ b)):=by
 obtain ⟨d,o,m,n,a⟩:=i;dsimp only at z D ⊢;obtain ⟨V,E⟩:∃ V,lJ M ⟨d,o,m,n,a⟩ at_ b=V:=⟨_,rfl⟩;rw [E];obtain ⟨f,q⟩:∃ f:Nat,f=2^(d-18).toNat:=⟨_,rfl⟩;obtain p|p|p|p:d=18\/d=19\/d=20\/d=21:=ab
 all_goals
  have s:=u.acc at_ f 3 b
  have l:=λW (g:Mp B r M A W)=>fK M A B r at_ f 3 b W g u.len u.mw u.ok j1 ab ab F hb
  have v:=λc=>jW (M:=M) (addr:=at_) (size:=f) (kind:=3) (x:=b) (c:=c)
  have k:(if ((aC M at_ f 3 b).2.2 != 0)=true then cF (aC M at_ f 3 b) 0 at_ else (aT (aC M at_ f 3 b).2.1 0 0 (Uz.wrap ((aC M at_ f 3 b).2.1.pc+4)),1))=V:=by subst p q;exact E
  clear E
  generalize aC M at_ f 3 b=X at *
  obtain ⟨y,N,c⟩:=X
  dsimp only at s l v k
  refine bz (S:=Hs r (aM hh r::eD w.heap.size [(#[.i d,.i o,.i m,.i n,.i a],69)]) (aq M A)) (args:=[.p hh 0,.agg #[.i d,.i o,.i m,.i n,.i a],.u at_,.u b]) [(#[.i d,.i o,.i m,.i n,.i a],69)] func82 (hn:=ba) (hs:=ba) ?_
  refine aL 0 2 (aL 5 3 ?_)
  refine ae (Hs.eng (dr:=false) (λ_ h=>h.hs)) {} 10 (Hx.start h _) (hret:=ba) (he:=ba) λW g=>?_
  refine lg 15 (hm:=ba) (hk:=ba) ?_
  refine aN (Hs.eng (dr:=true) (λ_ h=>h.hs)) {} 60 (g.below (Below.refl _ _).drew) (λG t=>l G t.mp) (hx:=ba) (he:=ba) ?_
  rintro G e J t ⟨rfl,C,H,I⟩
  refine ⟨_,0,rfl,gm ba,aH (Hs r (aM hh r::eD w.heap.size [(#[.i d,.i o,.i m,.i n,.i a],69)]) (aq N C)) (hn:=ba) ?_⟩
  cases j:(c != 0) with
  | true =>
    rw [j,if_pos rfl] at k
    subst k
    exact Hx.last (Hs.eng (dr:=true) (λ_ h=>h.hs)) {eq:=[(31,aj j),(34,dI .i64 (v c rfl j).1)]} 60 (t.step H I) (λW g=>dL _ (v c rfl j).2 at_ g.ht s) (hx:=ba) (he:=ba) (hy:=λ_=>ba)
  | false =>
    rw [j,if_neg bb] at k
    subst k
    exact Hx.last (Hs.eng (dr:=true) (λ_ h=>h.hs)) {eq:=[(31,aj j)]} 80 (t.step H I) (λW g=>eY 0 0 _ bb bb g.ht s.x32 (ay s.ok).1) (hx:=ba) (he:=ba) (hy:=λ_=>ba)
theorem RY (i:Ins) (at_:Int) (d:11<=i.op) (e:i.op<=17) (b:0<=i.rd) (c:i.rd<=31) (a:U at_) (h:Ht B hh r M A w) (f:Gd M):Calls prog 81 #[.p hh 0,.agg #[.i i.op,.i i.rd,.i i.a,.i i.b,.i i.imm],.u at_] w (HR B hh r M A w (lI M i at_)):=by
 by_cases k:i.op<=14;·exact RV i.op i.rd i.a i.b i.imm at_ d k b c a h f
 ·exact RW i.op i.rd i.a i.b i.imm at_ ab e b c a h f
end
end Go.Proofs.YtjifdmoehfbihaaGreatDoor
