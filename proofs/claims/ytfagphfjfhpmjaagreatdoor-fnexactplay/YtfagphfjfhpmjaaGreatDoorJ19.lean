/- Own lemmas. -/
import Derived.Test.YtfagphfjfhpmjaaGreatDoorAuj
import Derived.Test.YtfagphfjfhpmjaaGreatDoorJ17
import Derived.Test.YtfagphfjfhpmjaaGreatDoorJ18
set_option maxRecDepth 100000
namespace Go.Proofs.YtfagphfjfhpmjaaGreatDoor
open Go.RowKit Tryz
open IntKind renaming u64->Uz
set_option linter.unusedVariables false
variable {A B M:MV} {r a b:Nat} {f d:MA} {k L w:World} {W:List Kr} {j addr x c:Int} {l:DV} {g:List Int} (D:List Int) (n:Bool) (p:MV) (s:MA) (t:List Int) (y:Ins) (C F N P R:Int) (e:Nat)
def aM (M:MV) (k:Nat) (i:Bool) (v:Int):MV :=
 ⟨dL (nP M.cs (cJ M.cs M.pr k i)) k (mI M.cs (cJ M.cs M.pr k i) i),M.x,rT (cJ M.cs M.pr k i),iM M.cs (cJ M.cs M.pr k i) M.pr (gD k i) M.pc v,M.ram,M.d,M.hd,M.hl,M.wt⟩
def aX (M:MV) (rd x to:Int):MV :=
 ⟨to,if rd=0 then M.x else M.x.set rd.toNat x,M.pr,M.cs.set 21 (Uz.wrap (M.cs.getD 21 0+1)),M.ram,M.d,M.hd,M.hl,M.wt⟩
def bU (M:MV) (h:Bool) (a:Int):MV:=⟨M.pc,M.x,M.pr,M.cs,M.ram,M.d,a,h,M.wt⟩
def gA (M:MV) (b:Bool):MV:=⟨M.pc,M.x,M.pr,M.cs,M.ram,M.d,M.hd,M.hl,b⟩
def iP (M:MV) (l:List Int):MV:=⟨M.pc,M.x,M.pr,l,M.ram,M.d,M.hd,M.hl,M.wt⟩
def gB (M:MV) (p:Int):MV:=⟨M.pc,M.x,p,M.cs,M.ram,M.d,M.hd,M.hl,M.wt⟩
def cC (r:Int × MV × Int) (more:Nat) (v:Int):MV × Int:=(aM r.2.1 ((r.2.2-16).toNat+more) false v,2)
def fG (M:MV) (i:Ins) (a b n:Int):Int :=
 if i.op=4 then bits .andNot .u64 (Uz.wrap (a+n)) 1
 else if (decide (4<i.op)&&!I9 i.op a b)=true then Uz.wrap (M.pc+4) else Uz.wrap (M.pc+n)
def pw (M:MV) (i:Ins) (a b n:Int):MV × Int :=
 if (bits .and .u64 (fG M i a b n) 2 != 0)=true then (aM M 0 false (fG M i a b n),2)
 else (aX M (if 4<i.op then 0 else i.rd) (Uz.wrap (M.pc+4)) (fG M i a b n),1)
def jF (op:Int):Nat:=if op-11<4 then 2^(op-11).toNat else 2^(op-15).toNat
def mP (M:MV) (i:Ins) (at_:Int):MV × Int :=
 let r:=aC M at_ (jF i.op) 2 0
 if (r.2.2 != 0)=true then cC r 0 at_
 else (aX r.2.1 i.rd (if i.op-11<4 then av (8*jF i.op) r.1 else r.1) (Uz.wrap (r.2.1.pc+4)),1)
def nB (M:MV) (i:Ins) (at_ b:Int):MV × Int :=
 let r:=aC M at_ (2^(i.op-18).toNat:Nat) 3 b
 if (r.2.2 != 0)=true then cC r 0 at_ else (aX r.2.1 0 0 (Uz.wrap (r.2.1.pc+4)),1)
def bp (op:Int):Nat:=if op-63>=11 then 8 else 4
def mR (op:Int):Int:=if op-63>=11 then op-74 else op-63
def bW (M:MV) (va kind:Int):Fd:=bT M.ram M.ram.length M.cs (fV M.cs M.pr kind) va kind
def de (M:MV) (va kind:Int):MV:=bG M (bo M.ram (bW M va kind))
def RQ (M:MV) (i:Ins) (a:Int):MV × Int :=
 let r:=aC M a (bp i.op) 2 0
 if (r.2.2 != 0)=true then cC r 0 a
 else (aX (bU (de r.2.1 a 2) true (bW r.2.1 a 2).addr) i.rd (av (8*bp i.op) r.1) (Uz.wrap (M.pc+4)),1)
def SQ (M:MV) (i:Ins) (a b:Int) (pa:Int):MV × Int :=
 if (M.hl&&(M.hd==pa))=true then
  (let r:=aC M a (bp i.op) 3 b
   if (r.2.2 != 0)=true then cC r 0 a else (aX (bU r.2.1 false 0) i.rd 0 (Uz.wrap (M.pc+4)),1))
 else (aX (bU M false 0) i.rd 1 (Uz.wrap (M.pc+4)),1)
def Qx (M:MV) (i:Ins) (a b:Int):MV × Int :=
 let r:=aC M a (bp i.op) 2 0
 if (r.2.2 != 0)=true then cC r 2 a
 else
  let q:=aC r.2.1 a (bp i.op) 3 (i7 i.op r.1 b)
  if (q.2.2 != 0)=true then cC q 0 a else (aX q.2.1 i.rd (av (8*bp i.op) r.1) (Uz.wrap (M.pc+4)),1)
def i9 (M:MV) (i:Ins) (a b:Int):MV × Int :=
 if (mR i.op==0)=true then RQ M i a
 else if (a%(bp i.op:Nat) != 0)=true then (aM M 6 false a,2)
 else if ((bW M a 3).code != 0)=true then (aM (de M a 3) (bW M a 3).code.toNat false a,2)
 else if (mR i.op==1)=true then SQ (de M a 3) i a b (bW M a 3).addr
 else Qx (de M a 3) i a b
def dN (i:Ins):Bool:=((i.op-87).tmod 3==0)||(i.a != 0)
def lM (i:Ins) (a:Int):Int:=if 90<=i.op then Uz.wrap i.a else a
def tw (i:Ins) (a old:Int):Int:=if ((i.op-87).tmod 3==1)=true then bits .or .u64 old (lM i a) else if ((i.op-87).tmod 3==2)=true then bits .andNot .u64 old (lM i a) else lM i a
def nC (M:MV) (i:Ins) (a w:Int):MV × Int :=
 if (!jt M.cs.length M.cs i.imm M.pr||(dN i&&((wrap64 (i.imm.tdiv 1024)).tmod 4==3)))=true then (aM M 2 false w,2)
 else
  let N:=aX M i.rd (dj M.cs i.imm) (Uz.wrap (M.pc+4))
  (if dN i=true then iP N (bM N.cs i.imm (tw i a (dj M.cs i.imm))) else N,1)
def oJ (p:Int):Nat:=if p=0 then 8 else if p=1 then 9 else 11
def kC (M:MV) (i:Ins) (w:Int):MV × Int :=
 if i.op=93 then (aM M (oJ M.pr) false 0,2)
 else if i.op=94 then (aM M 3 false M.pc,2)
 else if i.op=95\/i.op=96 then
  (if (((i.op==96)&&(M.pr != 3))||(M.pr==0))=true then (aM M 2 false w,2)
   else (aX (gB (iP M (M.cs.set 0 (cH (M.cs.getD 0 0) (i.op==96)))) (cW (M.cs.getD 0 0) (i.op==96))) 0 0 (dV M.cs (i.op==96)),1))
 else if (M.pr==0)=true then (aM M 2 false w,2)
 else if i.op=97 then (aX (gA M true) 0 0 (Uz.wrap (M.pc+4)),1)
 else (aX M 0 0 (Uz.wrap (M.pc+4)),1)
def cR (M:MV) (i:Ins) (w:Int):MV × Int :=
 let a:=M.x.getD i.a.toNat 0
 let b:=M.x.getD i.b.toNat 0
 let n:=Uz.wrap i.imm
 if i.op=1 then (aX M i.rd n (Uz.wrap (M.pc+4)),1)
 else if i.op=2 then (aX M i.rd (Uz.wrap (M.pc+n)) (Uz.wrap (M.pc+4)),1)
 else if i.op<=10 then pw M i a b n
 else if i.op<=17 then mP M i (Uz.wrap (a+n))
 else if i.op<=21 then nB M i (Uz.wrap (a+n)) b
 else if i.op<=62 then (aX M i.rd (m7 i.op a (if (fD i.op).toList=[82] then b else n)) (Uz.wrap (M.pc+4)),1)
 else if i.op<=84 then i9 M i a b
 else if i.op<=86 then (aX M 0 0 (Uz.wrap (M.pc+4)),1)
 else if i.op<=92 then nC M i a w
 else kC M i w
def dP (M:MV):MV × Int :=
 if (M.wt&&(j9 M.cs==0))=true then (M,4)
 else if 0<=fJ M.cs M.pr then (aM (gA M false) (fJ M.cs M.pr).toNat true 0,3)
 else
  let r:=aC (gA M false) M.pc 4 1 0
  if (r.2.2 != 0)=true then cC r 0 r.2.1.pc
  else match F4 r.1 with
   | none=>(aM r.2.1 2 false r.1,2)
   | some i=>cR r.2.1 i r.1
theorem Ct (h:lD A=true) {l:List Int} (e:l.getD 9 0=A.cs.getD 9 0):(bits .and .u64 (l.getD 9 0) 2184==dD A.d)=true:=by rw [e];exact h
theorem Oy:(iM D n C F N P).getD 9 0=D.getD 9 0:=by
 cases n;·show ((((D.set 7 F).set 6 (bits .andNot .u64 N 3)).set 8 P).set 0 (mB (D.getD 0 0) C)).getD 9 0=_;rw [gt _ _ _ _ ab,gt _ _ _ _ ab,gt _ _ _ _ ab,gt _ _ _ _ ab]
 ·show ((((D.set 13 F).set 12 (bits .andNot .u64 N 3)).set 14 P).set 0 (lS (D.getD 0 0) (C==1))).getD 9 0=_;rw [gt _ _ _ _ ab,gt _ _ _ _ ab,gt _ _ _ _ ab,gt _ _ _ _ ab]
theorem IR (j:Bool):U (dL C F j):=by
 cases j;·exact aj .andNot C 1
 ·exact bI (bits .andNot .u64 C 1+Uz.wrap (4*F))
theorem IS:bN (rT n)=true:=by cases n<;>rfl
theorem Gd.trap (h:Gd A) {k:Nat} (hk:k<16) (i:Bool) {v:Int} (hv:U v):Gd (aM A k i v):=by
 obtain ⟨n,e,o,f,g,j,l⟩:=cP h.ok;obtain ⟨b,a,c,_,_,_⟩:=aI h.ok;have d:fy 4 (nP A.cs (cJ A.cs A.pr k i))=true\/fy 10 (nP A.cs (cJ A.cs A.pr k i))=true:=by
  cases cJ A.cs A.pr k i;·exact Or.inl (dX a 4 ab)
  ·exact Or.inr (dX a 10 ab)
 have m:=LY A.cs b h.mw.cs a (cJ A.cs A.pr k i) A.pr A.pc v c h.pc k hk i;refine ⟨kN (M:=aM A k i v) (by show (bits .and .u64 (dL _ _ _) 3==0)=true;rw [Tu _ _ _ d];rfl) e ?_ f g j (Ct l (Oy _ _ _ _ _ _)),⟨Ot _ h.mw.cs _ _ _ _ hv _ hk _,h.mw.ram,h.mw.xs,h.mw.ys⟩,h.ux,IR _ _ _,h.hd⟩;show be (iM A.cs _ _ _ _ _).length (iM A.cs _ _ _ _ _) (rT _)=true;unfold be;rw [lK,b,IS,Bool.and_true];exact m
theorem Gd.done (h:Gd A) {rd x to:Int} (p:0<=rd) (q:rd<=31) (hx:U x) (r:U to) (l:bits .and .u64 to 3=0):Gd (aX A rd x to):=by
 obtain ⟨_,b,s,f,m,n,o⟩:=cP h.ok;obtain ⟨c,i,k,_,_,_⟩:=aI h.ok;unfold gR at b;rw [Bool.and_eq_true,decide_eq_true_eq] at b;have d:U (Uz.wrap (A.cs.getD 21 0+1)):=bI _;have g:br 22 (A.cs.set 21 (Uz.wrap (A.cs.getD 21 0+1)))=true:=cE A.cs c i 21 ab _ (beq_self_eq_true _);have a:(if rd=0 then A.x else A.x.set rd.toNat x).length=32/\((if rd=0 then A.x else A.x.set rd.toNat x).getD 0 0==0)=true/\∀ j,U ((if rd=0 then A.x else A.x.set rd.toNat x).getD j 0):=by
  by_cases e:rd=0;·rw [if_pos e];exact ⟨b.1,b.2,h.ux⟩
  ·rw [if_neg e];refine ⟨by rw [List.length_set];exact b.1,by rw [gt _ _ _ _ ab];exact b.2,λj=>?_⟩;rw [List.getD_eq_getElem?_getD,List.getElem?_set];split
   ·split;·exact hx
    ·exact ⟨a6,a6⟩
   ·have:=h.ux j;rw [List.getD_eq_getElem?_getD] at this;exact this
 refine ⟨kN (M:=aX A rd x to) (by show (bits .and .u64 to 3==0)=true;rw [l];rfl) ?_ ?_ f m n (Ct o (gt _ _ _ _ ab)),⟨?_,h.mw.ram,h.mw.xs,h.mw.ys⟩,a.2.2,r,h.hd⟩;·show gR (if rd=0 then A.x else A.x.set rd.toNat x).length (if rd=0 then A.x else A.x.set rd.toNat x)=true;unfold gR;rw [a.2.1,decide_eq_true a.1];rfl
 ·show be (A.cs.set 21 _).length (A.cs.set 21 _) A.pr=true;unfold be;rw [List.length_set,c,k,Bool.and_true];exact g
 ·intro j;show U ((A.cs.set 21 (Uz.wrap (A.cs.getD 21 0+1))).getD j 0);rw [List.getD_eq_getElem?_getD,List.getElem?_set];split
  ·split;·exact d
   ·exact ⟨a6,a6⟩
  ·have:=h.mw.cs j;rw [List.getD_eq_getElem?_getD] at this;exact this
theorem Gd.hold (h:Gd A) {b:Bool} {a:Int} (k:U a) (hb:b=true\/a=0):Gd (bU A b a):=by obtain ⟨c,d,f,g,i,l,j⟩:=cP h.ok;exact ⟨kN (M:=bU A b a) c d f g i (by show (b||(a==0))=true;rcases hb with e|e<;>rw [e]<;>simp) j,⟨h.mw.cs,h.mw.ram,h.mw.xs,h.mw.ys⟩,h.ux,h.pc,k⟩
theorem Gd.wait (h:Gd A) (b:Bool):Gd (gA A b):=by obtain ⟨a,c,d,e,f,g,i⟩:=cP h.ok;exact ⟨kN (M:=gA A b) a c d e f g i,⟨h.mw.cs,h.mw.ram,h.mw.xs,h.mw.ys⟩,h.ux,h.pc,h.hd⟩
structure Ht (B hh r:Nat) (M:MV) (A:MA) (W:World):Prop where
 row:W.heap[hh]?=some (.cells #[.p r 0,.slice none 0 0] 72 (0,0))
 mp:Mp B r M A W
 ne:hh≠r
 nq:∀ q ∈ aJ M A,q.v.ownBlock≠some hh
theorem Ht.lt (h:Ht a b r A f k):b<k.heap.size:=(Array.getElem?_eq_some_iff.1 h.row).1
theorem Ht.step (h:Ht a b r A f k) (p:Mp a r B d L) (w:Kx r (aJ A f) (aJ B d) k L):Ht a b r B d L :=
 ⟨(w.block b h.lt h.ne h.nq).trans h.row,p,h.ne,λq M' e=>by obtain ⟨M,c,hh⟩:=w.own q M' b e h.lt;exact h.nq M c hh⟩
theorem Ht.below (h:Ht a b r A f k) (hb:Bw k L):Ht a b r A f L:=h.step (h.mp.below hb) (Kx.of_below hb)
theorem Ht.cells (h:Ht a b r A f k):k.cell? ⟨b,0,none⟩=some (.p r 0)/\k.cell? ⟨b,1,none⟩=some (.slice none 0 0):=by simp [World.cell?,h.row]
theorem Mp.cs {r:Nat} (h:Mp a r A f w) (i:A.cs.length=22):∃ g,f.ac=some ⟨g,0,none⟩/\ei w a g f.cc A.cs /\ ∀ (c:World) (l:List Int),l.length=22->w.grownBy c (some g)->ei c a g f.cc l->Mp a r (iP A l) f c/\Kx r (aJ A f) (aJ (iP A l) f) w c:=by
 have m:aG f.ac A.cs.length f.cc A.cs ∈ aJ A f:=ck
 have v:=h.fam.own _ m;have M:∃ g,f.ac=some ⟨g,0,none⟩:=by
  rcases v.2 with ⟨e,o⟩|⟨u,cap,x,e,_⟩;·have:A.cs.length=0:=o;omega
  ·have y:Value.slice f.ac A.cs.length f.cc=.slice (some ⟨u,0,none⟩) A.cs.length cap:=e;injection y with e3
   exact ⟨u,e3⟩
 obtain ⟨g,M⟩:=M;have p:ei w a g f.cc A.cs:=by have:w.ownsRow a 22 1 (.slice f.ac A.cs.length f.cc) A.cs.length (A.cs.map (Value.int .u64)):=v;rw [M,i] at this;exact this
 refine ⟨g,M,p,λc l E j n=>?_⟩;have k:w.grownBy c (aG f.ac A.cs.length f.cc A.cs).v.ownBlock:=by have e:(aG f.ac A.cs.length f.cc A.cs).v.ownBlock=some g:=(by show (Value.slice f.ac A.cs.length f.cc).ownBlock=_;rw [M];rfl);rw [e];exact j
 have t:c.ownsRow a 22 1 (aG f.ac A.cs.length f.cc A.cs).v A.cs.length (l.map (Value.int .u64)):=by show c.ownsRow a 22 1 (.slice f.ac A.cs.length f.cc) _ _;rw [M,i];exact n
 have d:=aZ.markL (L1:=[aG f.ax A.x.length f.cx A.x]) (L2:=[aw f.ar A.ram.length f.cr A.ram,aw f.ai A.d.xs.length f.ci A.d.xs,aw f.ao A.d.ys.length f.co A.d.ys]) (r:=aG f.ac A.cs.length f.cc A.cs) h.fam k _ t;have B:l.length=A.cs.length:=ab
 have b:=iY (M:=A) (M':=iP A l) (A:=f) rfl B rfl rfl rfl;have hF:aZ a w.heap.size c (aJ (iP A l) f):=by unfold aJ iP;dsimp only;rw [B];exact d.1
 refine ⟨⟨?_,hF.low (Nat.le_refl _) j.size,λq s e=>?_,h.lo⟩,Kx.of_keepL d.2 b⟩;·have C:c.heap[r]?=w.heap[r]?:=d.2.block r h.lt (λq s e=>h.ne q s e);rw [C,h.row];unfold ap iP;dsimp only;rw [B]
 ·obtain ⟨D,z,o⟩:=b q s;exact h.ne D z (by rw [o];exact e)
theorem Ht.atX (h:Ht a b r A f k) (d:A.x.length=32):∃ hh,f.ax=some ⟨hh,0,none⟩/\∀ j,j<32->k.cell? ⟨hh,j,none⟩=some (.u (A.x.getD j 0))/\k.frozen? ⟨hh,j,none⟩=false:=by have B:=h.mp.xrow;rw [d] at B;obtain ⟨hh,c,e,i⟩:=oK B ab;simp only [Value.slice.injEq,true_and] at e;obtain ⟨M,g⟩:=e;refine ⟨hh,M,λj w=>?_⟩;rw [M] at B;refine ⟨?_,B.frozenAt j⟩;rw [B.cellAt j ab];rw [List.getElem?_map,List.getElem?_eq_getElem (show j<A.x.length by omega),List.getD_eq_getElem?_getD,List.getElem?_eq_getElem (show j<A.x.length by omega)];rfl
theorem Ht.atC (h:Ht a b r A f k) (d:A.cs.length=22):∃ hh,f.ac=some ⟨hh,0,none⟩/\∀ j,j<22->k.cell? ⟨hh,j,none⟩=some (.u (A.cs.getD j 0))/\k.frozen? ⟨hh,j,none⟩=false:=by have B:k.ownsRow a 22 1 (.slice f.ac A.cs.length f.cc) A.cs.length (A.cs.map (Value.int .u64)):=h.mp.fam.own (aG f.ac A.cs.length f.cc A.cs) ck;rw [d] at B;obtain ⟨hh,c,e,i⟩:=oK B ab;simp only [Value.slice.injEq,true_and] at e;obtain ⟨M,g⟩:=e;refine ⟨hh,M,λj w=>?_⟩;rw [M] at B;refine ⟨?_,B.frozenAt j⟩;rw [B.cellAt j ab];rw [List.getElem?_map,List.getElem?_eq_getElem (show j<A.cs.length by omega),List.getD_eq_getElem?_getD,List.getElem?_eq_getElem (show j<A.cs.length by omega)];rfl
theorem vH (h:Ht a b r A f k) (q:Gd A) (w:Nat) (hk:w<16) (i:Bool) (v:Int): Calls prog 90 #[.slice f.ac A.cs.length f.cc,.i A.pr,.u A.pc,.i w,.bool i,.u v] k λe c=>e=.returned (.tuple #[.i (aM A w i v).pr,.u (aM A w i v).pc])/\Ht a b r (iP A (aM A w i v).cs) f c/\Kx r (aJ A f) (aJ (iP A (aM A w i v).cs) f) k c:=by obtain ⟨B,p,M,_,_,_⟩:=aI q.ok;obtain ⟨g,d,hh,j⟩:=h.mp.cs B;rw [d,B];refine (AY a g f.cc A.cs A.pr A.pc v M w hk i k hh).mono λe c ⟨m,n,o⟩=>?_;obtain ⟨s,l⟩:=j c _ (by rw [lK];exact B) o n;exact ⟨m,h.step s l,l⟩
theorem mS (hh r:Nat) (w:World) (h:Ht e hh r p s w): CE 91 #[.p hh 0] w (.tuple #[]):=by obtain ⟨c,d⟩:=h.cells;clear h;go_enter func91,ntmps91;go_wp2_with fail;exact bodyPost_end (results_none rfl _ _ _) rfl ⟨rfl,rfl⟩
def aQ (hh r:Nat):Kr:=⟨hh,#[.p r 0,.slice none 0 0],72,[(0,1)]⟩
def eE (N:Nat):List (Array Value × TypeId)->List Kr
 | []=>[]
 | x::l=>⟨N,x.1,x.2,[]⟩::eE (N+1) l
theorem Cu {x:Kr}:∀ {l:List (Array Value × TypeId)} {N:Nat},x ∈ eE N l->∃ i y,l[i]?=some y/\x.b=N+i/\x.cs=y.1/\x.t=y.2
 | [],_,h=>kd
 | y::l,N,h=>by
   rcases List.mem_cons.1 h with rfl|h
   ·exact ⟨0,y,rfl,rfl,rfl,rfl⟩
   ·obtain ⟨i,z,a,c,b⟩:=Cu h
    exact ⟨i+1,z,qh,ab,b⟩
theorem Hx.start (h:Ht a b r A f k) (bs:List (Array Value × TypeId)):Hx a r (aQ b r::eE k.heap.size bs) A f k A f (dZ k bs):=by
 obtain ⟨j,B⟩:=Bs.start k bs;refine ⟨h.mp.below B,Kx.of_below B,λx hh=>?_⟩;rcases List.mem_cons.1 hh with rfl | hh;·exact ⟨aB B h.row,h.ne,h.nq⟩
 ·obtain ⟨i,y,c,d,M,g⟩:=Cu hh;have w:=h.mp.lt;refine ⟨by rw [d,M,g];exact j i y c,ab,λq l e=>?_⟩;have:=h.mp.fam.hi q l _ e;omega
theorem Hx.ht (h:Hx a r (aQ b r::W) A f k B d L):Ht a b r B d L:=by obtain ⟨hh,c,M'⟩:=h.rows (aQ b r) bc;exact ⟨hh,h.mp,c,M'⟩
theorem Hx.to {M2:MV} {hh:MA} {W2:World} (h:Hx a r (aQ b r::W) A f k B d L) (w:Ht a b r M2 hh W2) (c:Kx r (aJ B d) (aJ M2 hh) L W2):Hx a r (aQ b r::W) A f k M2 hh W2:=h.step w.mp c
def HR (B hh r:Nat) (M:MV) (A:MA) (w:World) (R:MV × Int) (e:Ending) (w':World):Prop:=e=.returned (.i R.2)/\∃ a,Ht B hh r R.1 a w'/\Kx r (aJ M A) (aJ R.1 a) w w'
theorem Hx.hr (h:Hx a r (aQ b r::W) A f w B d L) (k:Int):HR a b r A f w (B,k) (.returned (.i k)) L:=⟨rfl,d,h.ht,h.kx⟩
theorem dI (hk:e<16) (v:Int) (h:Ht a b r A f k) (n:Gd A): Calls prog 93 #[.p b 0,.i e,.u v] k (HR a b r A f k (aM A e false v,2)):=by
 refine bf (S:=Hx a r [aQ b r] A f k A f) (args:=[.p b 0,.i e,.u v]) [] func93 ?_;refine aL 0 2 ?_;refine ae (Hx.eng (dr:=false)) {} 10 (Hx.start h []) λW hh=>?_;have o:(aM A e false v).cs.length=A.cs.length:=lK _ _ _ _ _ _;have d:ap (iP A (aM A e false v).cs) f=ap A f:=by unfold ap iP;dsimp only;rw [o]
 refine aK (Hs r [aQ b r] (ap A f)) ?_;refine mq 37 ?_;refine aN (Hs.eng (dr:=true) (λ_ h=>h.hs)) {} 100 (hh.below (Below.refl _ _).drew) (λg c=>vH c.ht n e hk false v) ?_;rintro g w q c ⟨rfl,j,p⟩;have B:=c.to j p;refine ⟨_,0,rfl,λ_=>d ▸ B.hs,?_⟩;refine ae (Hs.eng (dr:=true) (λ_ h=>d ▸ h.hs)) {} 40 B λs B=>?_;refine bx (cy (i:=2) (T:=2) (v:=.i (aM A e false v).pr) B.mp.row (show 2<14 by decide) a4 rfl) ?_;have l:=B.fld (M':=gB (iP A (aM A e false v).cs) (aM A e false v).pr) 2 (.i (aM A e false v).pr) rfl rfl;refine aK (Hx a r [aQ b r] A f k (gB (iP A (aM A e false v).cs) (aM A e false v).pr) f) ?_;refine ae (Hx.eng (dr:=true)) {} 40 l λu M=>?_;refine bx (cy (i:=0) (T:=22) (v:=.u (aM A e false v).pc) M.mp.row (show 0<14 by decide) a4 rfl) ?_;have m:=M.fld (M':=aM A e false v) 0 (.u (aM A e false v).pc) rfl rfl;refine aK (Hx a r [aQ b r] A f k (aM A e false v) f) ?_;exact aU (t:=6) (v:=.i 2) (Hx.eng (dr:=true)) {cv:=[(47,jY λW hh=>mS (aM A e false v) f a b r W hh.ht)]} 40 m λW hh=>hh.hr 2
theorem fg (J:0<=C) (K:C<=31) (h:Ht a b r A f k) (M:A.x.length=32) (w:A.cs.length=22): Calls prog 95 #[.p b 0,.i C,.u F,.u N] k (HR a b r A f k (aX A C F N,1)):=by
 have p:=Hx.start h [];have fin:∀ (S:World->Prop) (to:MV) (W:World),Hx a r [aQ b r] A f k to f W->to.x.length=32->to.cs=A.cs->⟨N,to.x,A.pr,A.cs.set 21 (Uz.wrap (A.cs.getD 21 0+1)),A.ram,A.d,A.hd,A.hl,A.wt⟩=aX A C F N->(to.pr=A.pr/\to.ram=A.ram/\to.d=A.d/\to.hd=A.hd/\to.hl=A.hl/\to.wt=A.wt)->Wg prog S (bodyPost prog Tryz.f95 (HR a b r A f k (aX A C F N,1))) Tryz.f95.ntmps [.code (ay 2 (aW Tryz.f95))] [(0,.p b 0,2),(3,.u N,0)] W:=by
  intro S to W y L z rd I;obtain ⟨o,l,U,O,D,Z,P,Q,V⟩:=to;obtain ⟨rfl,rfl,rfl,rfl,rfl,rfl⟩:=I;dsimp only at L z rd;subst z;obtain ⟨hh,g,j⟩:=y.ht.atC w;refine aK (Hx a r [aQ b r] A f k ⟨o,l,A.pr,A.cs,A.ram,A.d,A.hd,A.hl,A.wt⟩ f) ?_;refine ae (Hx.eng (dr:=false)) {} 40 y λX n=>?_;refine bx (cy (i:=0) (T:=22) (v:=.u N) n.mp.row (show 0<14 by decide) a4 rfl) ?_;have G:=n.fld (M':=⟨N,l,A.pr,A.cs,A.ram,A.d,A.hd,A.hl,A.wt⟩) 0 (.u N) rfl rfl;refine aK (Hx a r [aQ b r] A f k ⟨N,l,A.pr,A.cs,A.ram,A.d,A.hd,A.hl,A.wt⟩ f) ?_;refine ae (Hx.eng (dr:=false)) {} 40 G λY H=>?_;refine yU ?_;have m:∀ W,Hx a r [aQ b r] A f k ⟨N,l,A.pr,A.cs,A.ram,A.d,A.hd,A.hl,A.wt⟩ f W->W.cell? ⟨hh,0+(21:Int).toNat,none⟩=some (.u (A.cs.getD 21 0))/\W.frozen? ⟨hh,0+(21:Int).toNat,none⟩=false:=λW c=>by obtain ⟨x,d,B⟩:=c.ht.atC w;rw [g] at d;cases d;exact B 21 ab
  refine ae (Hx.eng (dr:=true)) {ov:=[(42,pe A.cs.length f.cc .i64 21 g ⟨ab,ab⟩ underlying23 a4),(43,jk ⟨hh,0+(21:Int).toNat,none⟩ (.u (A.cs.getD 21 0)) underlying22 rfl (λW c=>(m W c).1)),(45,pe A.cs.length f.cc .i64 21 g ⟨ab,ab⟩ underlying23 a4)]} 60 (H.below (Below.refl _ _).drew) λE s=>?_;refine bx (lV (T:=22) (v:=.u (Uz.wrap (A.cs.getD 21 0+1))) (m E s) a4 rfl) ?_;have u:=s.setC hh g 21 (Uz.wrap (A.cs.getD 21 0+1));rw [show cM (⟨N,l,A.pr,A.cs,A.ram,A.d,A.hd,A.hl,A.wt⟩:MV) (A.cs.set 21 (Uz.wrap (A.cs.getD 21 0+1)))=aX A C F N from rd] at u;refine aK (Hx a r [aQ b r] A f k (aX A C F N) f) ?_;exact aU (t:=8) (v:=.i 1) (Hx.eng (dr:=true)) {} 40 u λW c=>c.hr 1
 refine bf (S:=Hx a r [aQ b r] A f k A f) (args:=[.p b 0,.i C,.u F,.u N]) [] func95 ?_;refine aL 0 2 ?_;by_cases e:C=0;·subst e;refine ae (Hx.eng (dr:=false)) {} 8 p λW c=>?_;exact an _ _ (fin _ A W c M rfl rfl ⟨rfl,rfl,rfl,rfl,rfl,rfl⟩)
 ·have q:(C != 0)=true:=(by simpa using e);obtain ⟨hh,g,j⟩:=h.atX M;have m:∀ W,Hx a r [aQ b r] A f k A f W->W.cell? ⟨hh,0+C.toNat,none⟩=some (.u (A.x.getD (0+C.toNat) 0))/\W.frozen? ⟨hh,0+C.toNat,none⟩=false:=λW c=>by obtain ⟨x,d,B⟩:=c.ht.atX M;rw [g] at d;cases d;exact B (0+C.toNat) ab
  refine ae (Hx.eng (dr:=false)) {eq:=[(10,af q)],ov:=[(20,pe A.x.length f.cx .i64 C g ⟨ab,ab⟩ underlying23 a4)]} 40 p λW c=>?_;refine bx (lV (T:=22) (v:=.u F) (m W c) a4 rfl) ?_;have n:=c.setX hh g (0+C.toNat) F;refine aP (R:=[]) trivial {} 1 ?_;refine an _ _ (fin _ _ _ n (by show (A.x.set _ _).length=32;rw [List.length_set];exact M) rfl ?_ ⟨rfl,rfl,rfl,rfl,rfl,rfl⟩);unfold aX xM;rw [if_neg e,Nat.zero_add]
theorem Hx.last {P:Program} {fn:Func} {S:World->Prop} {n:Nat} {R:List Rw} {dr:Bool} {V:MV × Int} {w:List KI} {F:Fr} (E:oM P S (Hx a r (aQ b r::W) A f k B d) R dr (bodyPost P fn (HR a b r A f k V))) (H:Hn P S (Hx a r (aQ b r::W) A f k B d)) (m:Nat) (hS:Hx a r (aQ b r::W) A f k B d L) {N:Nat} {args:Array Value} (j:∀ L,Hx a r (aQ b r::W) A f k B d L->Calls P N args L (HR a b r B d L V)) {t:Nat} (hr:fn.results=#[.tmp t]:=by rfl) (hx:((aY P R H n dr m w F).1.1,I8 P n (aY P R H n dr m w F).1.2.2 (aY P R H n dr m w F).1.2.1,vP (aY P R H n dr m w F).1.2.2 (aY P R H n dr m w F).1.2.1,iu (nZ (aY P R H n dr m w F).1.2.2 (aY P R H n dr m w F).1.2.1))=(false,some (N,args),false,true):=by kernel_rfl) (he:(aY P R H n dr m w F).2.map Prod.fst=(aY P R H n dr m w F).2.map Prod.snd:=by kernel_rfl) (hy:∀ J:World->Prop,(λ(y:(Bool × List KI × Fr) × List (Oe × Oe))=>(y.1.1,(lk y.1.2.2 t).map Prod.fst,y.2.map Prod.fst)) (aY P [] ({}:Hn P (λ_=>True) J) n true 20 (nZ (aY P R H n dr m w F).1.2.2 (aY P R H n dr m w F).1.2.1) (pP (aY P R H n dr m w F).1.2.2 (aY P R H n dr m w F).1.2.1 (.i V.2) 0))=(true,some (.i V.2),[]):=by intro _;kernel_rfl): Wg P S (bodyPost P fn (HR a b r A f k V)) n w F L:=by simp only [Prod.mk.injEq] at hx;refine aN E H m hS j (hx:=by rw [hx.1,hx.2.1]) (he:=he) ?_;rintro o e p C ⟨rfl,M,g,l⟩;refine ⟨_,0,rfl,fi hx.2.2.1,?_⟩;have i:=C.to g l;refine aK (λ_=>True) (hn:=hx.2.2.2) ?_;have hh:=hy (Hx a r (aQ b r::W) A f k V.1 M);simp only [Prod.mk.injEq] at hh;refine aU (R:=[]) (t:=t) (v:=.i V.2) (J:=Hx a r (aQ b r::W) A f k V.1 M) ⟨λ_ _=>trivial,λ_ _ x hx=>(by cases hx),λ_ L h=>h.below (Below.refl _ _).drew,cL⟩ {} 20 i (hv:=by rw [hh.1,hh.2.1]) (he:=by rw [List.map_eq_nil_iff.1 hh.2.2];rfl) (hr:=hr) λL c=>⟨rfl,M,c.ht,c.kx⟩
theorem Gd.x32 (h:Gd A):A.x.length=32:=by have:=(cP h.ok).2.1;unfold gR at this;rw [Bool.and_eq_true,decide_eq_true_eq] at this;exact this.1
theorem j7 {size kind:Int} (a:(aC M addr size kind x).2.2=c) (hn:(c != 0)=true):IntKind.i64.wrap (c-16)=(((c-16).toNat:Nat):Int)/\(c-16).toNat<16:=by
 have h:=LL M addr size kind x;rw [a] at h;rcases h with h|⟨d,b,e⟩;·rw [h] at hn;cases hn
 ·rw [IntKind.wrap_i64];omega
theorem Qy (at_:Int) (j:11<=C) (o:C<=14) (u:0<=F) (v:F<=31) (t:U at_) (h:Ht a b r A d k) (m:Gd A): Calls prog 97 #[.p b 0,.agg #[.i C,.i F,.i N,.i P,.i R],.u at_] k (HR a b r A d k (mP A ⟨C,F,N,P,R⟩ at_)):=by
 obtain ⟨V,s⟩:∃ V,mP A ⟨C,F,N,P,R⟩ at_=V:=⟨_,rfl⟩;rw [s];obtain ⟨B,q⟩:∃ B,B=jF C:=⟨_,rfl⟩;obtain p|p|p|p:C=11\/C=12\/C=13\/C=14:=ab
 all_goals
  have l:=m.acc at_ B 2 0
  have M:=λW (hh:Mp a r A d W)=>fR A d a r at_ B 2 0 W hh m.len m.mw m.ok fr ab ab t ⟨a6,a6⟩
  have n:=λc=>j7 (M:=A) (addr:=at_) (size:=B) (kind:=2) (x:=0) (c:=c)
  have i:(if ((aC A at_ B 2 0).2.2 != 0)=true then cC (aC A at_ B 2 0) 0 at_ else (aX (aC A at_ B 2 0).2.1 F (av (8*B) (aC A at_ B 2 0).1) (Uz.wrap ((aC A at_ B 2 0).2.1.pc+4)),1))=V:=by subst p q;exact s
  clear s
  generalize aC A at_ B 2 0=X at *
  obtain ⟨y,rd,c⟩:=X
  dsimp only at l M n i
  refine bf (S:=Hs r (aQ b r::eE k.heap.size [(#[.i C,.i F,.i N,.i P,.i R],80)]) (ap A d)) (args:=[.p b 0,.agg #[.i C,.i F,.i N,.i P,.i R],.u at_]) [(#[.i C,.i F,.i N,.i P,.i R],80)] func97 (hn:=a5) (hs:=a5) ?_
  refine aL 0 2 (aL 4 3 ?_)
  refine ae (Hs.eng (dr:=false) (λ_ h=>h.hs)) {} 80 (Hx.start h _) (hret:=a5) (he:=a5) λW hh=>?_
  refine mq 10 (hm:=a5) (hk:=a5) ?_
  refine aN (Hs.eng (dr:=true) (λ_ h=>h.hs)) {} 60 (hh.below (Below.refl _ _).drew) (λz j=>M z j.mp) (hx:=a5) (he:=a5) ?_
  rintro z e E j ⟨rfl,w,o,D⟩
  refine ⟨_,0,rfl,fi a5,aK (Hs r (aQ b r::eE k.heap.size [(#[.i C,.i F,.i N,.i P,.i R],80)]) (ap rd w)) (hn:=a5) ?_⟩
  cases g:(c != 0) with
  | true =>
    rw [g,if_pos rfl] at i
    subst i
    exact Hx.last (Hs.eng (dr:=true) (λ_ h=>h.hs)) {eq:=[(39,af g),(42,cZ .i64 (n c rfl g).1)]} 60 (j.step o D) (λW hh=>dI _ (n c rfl g).2 at_ hh.ht l) (hx:=a5) (he:=a5) (hy:=λ_=>a5)
  | false =>
    rw [g,if_neg a6] at i
    subst i
    refine ae (Hs.eng (dr:=false) (λ_ h=>h.hs)) {eq:=[(39,af g)],cv:=[(51,jY λW _=>dO y (8*B) fr fr W)]} 60 (j.step o D) (hret:=a5) (he:=a5) λW hh=>?_
    refine mq 12 (hm:=a5) (hk:=a5) ?_
    exact Hx.last (Hs.eng (dr:=true) (λ_ h=>h.hs)) {} 60 (hh.below (Below.refl _ _).drew) (λW hh=>fg F (av (8*B) y) _ u v hh.ht l.x32 (aI l.ok).1) (hx:=a5) (he:=a5) (hy:=λ_=>a5)
theorem Qz (at_:Int) (j:15<=C) (o:C<=17) (u:0<=F) (v:F<=31) (t:U at_) (h:Ht a b r A d k) (m:Gd A): Calls prog 97 #[.p b 0,.agg #[.i C,.i F,.i N,.i P,.i R],.u at_] k (HR a b r A d k (mP A ⟨C,F,N,P,R⟩ at_)):=by
 obtain ⟨V,s⟩:∃ V,mP A ⟨C,F,N,P,R⟩ at_=V:=⟨_,rfl⟩;rw [s];obtain ⟨B,q⟩:∃ B,B=jF C:=⟨_,rfl⟩;obtain p|p|p:C=15\/C=16\/C=17:=ab
 all_goals
  have l:=m.acc at_ B 2 0
  have M:=λW (hh:Mp a r A d W)=>fR A d a r at_ B 2 0 W hh m.len m.mw m.ok fr ab ab t ⟨a6,a6⟩
  have n:=λc=>j7 (M:=A) (addr:=at_) (size:=B) (kind:=2) (x:=0) (c:=c)
  have i:(if ((aC A at_ B 2 0).2.2 != 0)=true then cC (aC A at_ B 2 0) 0 at_ else (aX (aC A at_ B 2 0).2.1 F ((aC A at_ B 2 0).1) (Uz.wrap ((aC A at_ B 2 0).2.1.pc+4)),1))=V:=by subst p q;exact s
  clear s
  generalize aC A at_ B 2 0=X at *
  obtain ⟨y,rd,c⟩:=X
  dsimp only at l M n i
  refine bf (S:=Hs r (aQ b r::eE k.heap.size [(#[.i C,.i F,.i N,.i P,.i R],80)]) (ap A d)) (args:=[.p b 0,.agg #[.i C,.i F,.i N,.i P,.i R],.u at_]) [(#[.i C,.i F,.i N,.i P,.i R],80)] func97 (hn:=a5) (hs:=a5) ?_
  refine aL 0 2 (aL 4 3 ?_)
  refine ae (Hs.eng (dr:=false) (λ_ h=>h.hs)) {} 80 (Hx.start h _) (hret:=a5) (he:=a5) λW hh=>?_
  refine mq 10 (hm:=a5) (hk:=a5) ?_
  refine aN (Hs.eng (dr:=true) (λ_ h=>h.hs)) {} 60 (hh.below (Below.refl _ _).drew) (λz j=>M z j.mp) (hx:=a5) (he:=a5) ?_
  rintro z e E j ⟨rfl,w,o,D⟩
  refine ⟨_,0,rfl,fi a5,aK (Hs r (aQ b r::eE k.heap.size [(#[.i C,.i F,.i N,.i P,.i R],80)]) (ap rd w)) (hn:=a5) ?_⟩
  cases g:(c != 0) with
  | true =>
    rw [g,if_pos rfl] at i
    subst i
    exact Hx.last (Hs.eng (dr:=true) (λ_ h=>h.hs)) {eq:=[(39,af g),(42,cZ .i64 (n c rfl g).1)]} 60 (j.step o D) (λW hh=>dI _ (n c rfl g).2 at_ hh.ht l) (hx:=a5) (he:=a5) (hy:=λ_=>a5)
  | false =>
    rw [g,if_neg a6] at i
    subst i
    refine ae (Hs.eng (dr:=false) (λ_ h=>h.hs)) {eq:=[(39,af g)]} 60 (j.step o D) (hret:=a5) (he:=a5) λW hh=>?_
    refine mq 12 (hm:=a5) (hk:=a5) ?_
    exact Hx.last (Hs.eng (dr:=true) (λ_ h=>h.hs)) {} 60 (hh.below (Below.refl _ _).drew) (λW hh=>fg F (y) _ u v hh.ht l.x32 (aI l.ok).1) (hx:=a5) (he:=a5) (hy:=λ_=>a5)
theorem Oz (z:18<=y.op) (D:y.op<=21) (at_:U C) (hb:U F) (h:Ht a b r A d k) (u:Gd A): Calls prog 98 #[.p b 0,.agg #[.i y.op,.i y.rd,.i y.a,.i y.b,.i y.imm],.u C,.u F] k (HR a b r A d k (nB A y C F)):=by
 obtain ⟨hh,o,m,n,B⟩:=y;dsimp only at z D ⊢;obtain ⟨V,E⟩:∃ V,nB A ⟨hh,o,m,n,B⟩ C F=V:=⟨_,rfl⟩;rw [E];obtain ⟨f,q⟩:∃ f:Nat,f=2^(hh-18).toNat:=⟨_,rfl⟩;obtain p|p|p|p:hh=18\/hh=19\/hh=20\/hh=21:=ab
 all_goals
  have s:=u.acc C f 3 F
  have l:=λW (g:Mp a r A d W)=>fR A d a r C f 3 F W g u.len u.mw u.ok fr ab ab at_ hb
  have v:=λc=>j7 (M:=A) (addr:=C) (size:=f) (kind:=3) (x:=F) (c:=c)
  have M:(if ((aC A C f 3 F).2.2 != 0)=true then cC (aC A C f 3 F) 0 C else (aX (aC A C f 3 F).2.1 0 0 (Uz.wrap ((aC A C f 3 F).2.1.pc+4)),1))=V:=by subst p q;exact E
  clear E
  generalize aC A C f 3 F=X at *
  obtain ⟨w,N,c⟩:=X
  dsimp only at s l v M
  refine bf (S:=Hs r (aQ b r::eE k.heap.size [(#[.i hh,.i o,.i m,.i n,.i B],80)]) (ap A d)) (args:=[.p b 0,.agg #[.i hh,.i o,.i m,.i n,.i B],.u C,.u F]) [(#[.i hh,.i o,.i m,.i n,.i B],80)] func98 (hn:=a5) (hs:=a5) ?_
  refine aL 0 2 (aL 5 3 ?_)
  refine ae (Hs.eng (dr:=false) (λ_ h=>h.hs)) {} 10 (Hx.start h _) (hret:=a5) (he:=a5) λW g=>?_
  refine mq 15 (hm:=a5) (hk:=a5) ?_
  refine aN (Hs.eng (dr:=true) (λ_ h=>h.hs)) {} 60 (g.below (Below.refl _ _).drew) (λG t=>l G t.mp) (hx:=a5) (he:=a5) ?_
  rintro G e J t ⟨rfl,i,H,I⟩
  refine ⟨_,0,rfl,fi a5,aK (Hs r (aQ b r::eE k.heap.size [(#[.i hh,.i o,.i m,.i n,.i B],80)]) (ap N i)) (hn:=a5) ?_⟩
  cases j:(c != 0) with
  | true =>
    rw [j,if_pos rfl] at M
    subst M
    exact Hx.last (Hs.eng (dr:=true) (λ_ h=>h.hs)) {eq:=[(31,af j),(34,cZ .i64 (v c rfl j).1)]} 60 (t.step H I) (λW g=>dI _ (v c rfl j).2 C g.ht s) (hx:=a5) (he:=a5) (hy:=λ_=>a5)
  | false =>
    rw [j,if_neg a6] at M
    subst M
    exact Hx.last (Hs.eng (dr:=true) (λ_ h=>h.hs)) {eq:=[(31,af j)]} 80 (t.step H I) (λW g=>fg 0 0 _ a6 a6 g.ht s.x32 (aI s.ok).1) (hx:=a5) (he:=a5) (hy:=λ_=>a5)
theorem QA (d:11<=y.op) (e:y.op<=17) (hh:0<=y.rd) (c:y.rd<=31) (B:U C) (h:Ht a b r A f L) (M:Gd A): Calls prog 97 #[.p b 0,.agg #[.i y.op,.i y.rd,.i y.a,.i y.b,.i y.imm],.u C] L (HR a b r A f L (mP A y C)):=by
 by_cases k:y.op<=14;·exact Qy y.op y.rd y.a y.b y.imm C d k hh c B h M
 ·exact Qz y.op y.rd y.a y.b y.imm C ab e hh c B h M
theorem Hx.add {y:Kr} (h:Hx a r (y::W) A f k B d L) (cs:Array Value) (t:TypeId):Hx a r (y::(W++[⟨L.heap.size,cs,t,[]⟩])) A f k B d (L.alloc (.cells cs t)):=by
 have g:=(Below.refl L.heap.size L).alloc (Nat.le_refl _) (.cells cs t);have b:=h.below g;refine ⟨b.mp,b.kx,λx M=>?_⟩;rw [<- List.cons_append,List.mem_append] at M;rcases M with M | M;·exact b.rows x M
 ·rw [List.mem_singleton.1 M];exact ⟨heap_alloc_new _ _,by have:=h.mp.lt;exact λe=>by dsimp only at e;omega,λq i e=>by have:=h.mp.fam.hi q i _ e;dsimp only at this;omega⟩
theorem L9:ap (gB (iP p t) C) s=(ap (iP p t) s).setIfInBounds 2 (.i C):=rfl
theorem Ma:aJ (gB (iP p t) C) s=aJ (iP p t) s:=rfl
theorem zN (e:Hx a r W A f k (iP B D) d L):Hx a r W A f k (gB (iP B D) C) d (L.setCell ⟨r,2,none⟩ (.i C)):=e.fld 2 (.i C) (L9 B d D C) (Ma B d D C)
theorem QB (w:3<=y.op) (M:y.op<=10) (q:0<=y.rd) (s:y.rd<=31) (h:Ht a b r A d k) (hh:Gd A): Calls prog 96 #[.p b 0,.agg #[.i y.op,.i y.rd,.i y.a,.i y.b,.i y.imm],.u C,.u F,.u N] k (HR a b r A d k (pw A y C F N)):=by
 obtain ⟨V,c⟩:∃ V,pw A y C F N=V:=⟨_,rfl⟩;rw [c];obtain ⟨f,p,t,u,j⟩:=y;dsimp only at w M q s ⊢;unfold pw at c;dsimp only at c;have B:=λW=>uI f C F W;obtain ⟨z,x⟩:∃ z,I9 f C F=z:=⟨_,rfl⟩;rw [x] at B;refine bf (S:=Hs r (aQ b r::eE k.heap.size [(#[.i f,.i p,.i t,.i u,.i j],80)]) (ap A d)) (args:=[.p b 0,.agg #[.i f,.i p,.i t,.i u,.i j],.u C,.u F,.u N]) [(#[.i f,.i p,.i t,.i u,.i j],80)] func96 ?_;refine aL 0 2 (aL 6 3 ?_);by_cases v:f=4
 ·have o:(f==4)=true:=(by simpa using v);have l:¬ 4<f:=ab;have m:decide (4<f)=false:=decide_eq_false l;rw [show fG A ⟨f,p,t,u,j⟩ C F N=bits .andNot .u64 (Uz.wrap (C+N)) 1 from by unfold fG;dsimp only;rw [if_pos v]] at c;cases e:(bits .and .u64 (bits .andNot .u64 (Uz.wrap (C+N)) 1) 2 != 0) with
  | true =>rw [e,if_pos rfl] at c;exact a0v
  | false =>rw [e,if_neg a6] at c;rw [if_neg l] at c;subst c;exact Hx.last (Hs.eng (dr:=true) (λ_ h=>h.hs)) {eq:=[(31,af o),(39,af m),(57,af e)],cv:=[(45,jY λW _=>B W)]} 150 (Hx.start h _) (λW g=>fg p _ _ q s g.ht hh.x32 (aI hh.ok).1)
 ·have o:(f==4)=false:=(by simpa using v);by_cases l:4<f
  ·have m:decide (4<f)=true:=decide_eq_true l;cases z with
   | true =>
     rw [show fG A ⟨f,p,t,u,j⟩ C F N=Uz.wrap (A.pc+N) from by unfold fG;dsimp only;rw [if_neg v,decide_eq_true l,x];rfl] at c;cases e:(bits .and .u64 (Uz.wrap (A.pc+N)) 2 != 0) with
     | true =>rw [e,if_pos rfl] at c;exact a0v
     | false =>rw [e,if_neg a6] at c;rw [if_pos l] at c;subst c;exact Hx.last (Hs.eng (dr:=true) (λ_ h=>h.hs)) {eq:=[(31,af o),(39,af m),(57,af e)],cv:=[(45,jY λW _=>B W)]} 150 (Hx.start h _) (λW g=>fg 0 _ _ a6 a6 g.ht hh.x32 (aI hh.ok).1)
   | false =>
     rw [show fG A ⟨f,p,t,u,j⟩ C F N=Uz.wrap (A.pc+4) from by unfold fG;dsimp only;rw [if_neg v,decide_eq_true l,x];rfl] at c;cases e:(bits .and .u64 (Uz.wrap (A.pc+4)) 2 != 0) with
     | true =>rw [e,if_pos rfl] at c;exact a0v
     | false =>rw [e,if_neg a6] at c;rw [if_pos l] at c;subst c;exact Hx.last (Hs.eng (dr:=true) (λ_ h=>h.hs)) {eq:=[(31,af o),(39,af m),(57,af e)],cv:=[(45,jY λW _=>B W)]} 150 (Hx.start h _) (λW g=>fg 0 _ _ a6 a6 g.ht hh.x32 (aI hh.ok).1)
  ·have m:decide (4<f)=false:=decide_eq_false l;rw [show fG A ⟨f,p,t,u,j⟩ C F N=Uz.wrap (A.pc+N) from by unfold fG;dsimp only;rw [if_neg v,decide_eq_false l];rfl] at c;cases e:(bits .and .u64 (Uz.wrap (A.pc+N)) 2 != 0) with
   | true =>rw [e,if_pos rfl] at c;exact a0v
   | false =>rw [e,if_neg a6] at c;rw [if_neg l] at c;subst c;exact Hx.last (Hs.eng (dr:=true) (λ_ h=>h.hs)) {eq:=[(31,af o),(39,af m),(57,af e)],cv:=[(45,jY λW _=>B W)]} 150 (Hx.start h _) (λW g=>fg p _ _ q s g.ht hh.x32 (aI hh.ok).1)
theorem vI (h:Ht a b r A f L) (B:A.cs.length=22) (m:Bool): Calls prog 152 #[.slice f.ac A.cs.length f.cc,.bool m] L λe c=>e=.returned (.tuple #[.i (cW (A.cs.getD 0 0) m),.u (dV A.cs m)])/\Ht a b r (iP A (A.cs.set 0 (cH (A.cs.getD 0 0) m))) f c/\Kx r (aJ A f) (aJ (iP A (A.cs.set 0 (cH (A.cs.getD 0 0) m))) f) L c:=by obtain ⟨g,d,hh,M⟩:=h.mp.cs B;rw [d,B];refine (Cf a g f.cc A.cs m L hh).mono λe c ⟨j,k,l⟩=>?_;obtain ⟨n,i⟩:=M c _ (by rw [List.length_set];exact B) l k;exact ⟨j,h.step n i,i⟩
theorem IT {hh:Nat} (x:Int) (hx:U x) (h:Ht a hh r A f k) (i:Gd A): Calls prog 103 #[.p hh 0,.agg #[.i 93,.i C,.i F,.i N,.i P],.u R,.u x] k (HR a hh r A f k (kC A ⟨93,C,F,N,P⟩ x)):=by
 obtain ⟨V,l⟩:∃ V,kC A ⟨93,C,F,N,P⟩ x=V:=⟨_,rfl⟩;rw [l];have n:=(aI i.ok).1;have p:=i.x32;refine bf (S:=Hs r (aQ hh r::eE k.heap.size [(#[.i 93,.i C,.i F,.i N,.i P],80)]) (ap A f)) (args:=[.p hh 0,.agg #[.i 93,.i C,.i F,.i N,.i P],.u R,.u x]) [(#[.i 93,.i C,.i F,.i N,.i P],80)] func103 ?_;refine aL 0 2 (aL 5 3 ?_);have m:(aM A (oJ A.pr) false 0,2)=V:=l;subst m;have d:A.pr=0\/A.pr=1\/A.pr=3:=by have:=(aI i.ok).2.2.1;unfold bN at this;simp at this;omega
 refine ae (Hs.eng (dr:=false) (λ_ h=>h.hs)) {} 60 (Hx.start h _) λW e=>?_;refine fz 0 (s:=do pure (.value (<- Instr.buildSlice 39 4 #[(0,.i 8),(1,.i 9),(2,.i 0),(3,.i 11)]))) (v:=.slice (some ⟨W.heap.size,0,none⟩) 4 4) (w':=W.alloc (.cells #[.i 8,.i 9,.i 0,.i 11] 2)) a4 ?_;have B:=e.add #[.i 8,.i 9,.i 0,.i 11] 2;refine aK (Hs r (aQ hh r::(eE k.heap.size [(#[.i 93,.i C,.i F,.i N,.i P],80)]++[⟨W.heap.size,#[.i 8,.i 9,.i 0,.i 11],2,[]⟩])) (ap A f)) ?_;rcases d with d | d | d;·have j:oJ A.pr=8:=(by unfold oJ;rw [if_pos d]);rw [j];refine ae (Hs.eng (dr:=true) (λ_ h=>h.hs)) {eq:=[(25,cZ .i64 d)],ov:=[(26,pe (a:=some ⟨W.heap.size,0,none⟩) (b:=W.heap.size) (o:=0) 4 4 .i64 0 rfl ⟨ab,ab⟩ underlying39 a4),(27,jk ⟨W.heap.size,0+(0:Int).toNat,none⟩ (.i 8) underlying2 rfl (λX c=>(cell_of_row _ _ _ _ _ _ (c.2 ⟨W.heap.size,#[.i 8,.i 9,.i 0,.i 11],2,[]⟩ bc)).trans rfl))]} 60 B λX c=>?_;exact Hx.last (Hs.eng (dr:=true) (λ_ h=>h.hs)) {} 20 c (λW e=>dI 8 a6 0 e.ht i)
 ·have j:oJ A.pr=9:=(by unfold oJ;rw [if_neg ab,if_pos d]);rw [j];refine ae (Hs.eng (dr:=true) (λ_ h=>h.hs)) {eq:=[(25,cZ .i64 d)],ov:=[(26,pe (a:=some ⟨W.heap.size,0,none⟩) (b:=W.heap.size) (o:=0) 4 4 .i64 1 rfl ⟨ab,ab⟩ underlying39 a4),(27,jk ⟨W.heap.size,0+(1:Int).toNat,none⟩ (.i 9) underlying2 rfl (λX c=>(cell_of_row _ _ _ _ _ _ (c.2 ⟨W.heap.size,#[.i 8,.i 9,.i 0,.i 11],2,[]⟩ bc)).trans rfl))]} 60 B λX c=>?_;exact Hx.last (Hs.eng (dr:=true) (λ_ h=>h.hs)) {} 20 c (λW e=>dI 9 a6 0 e.ht i)
 ·have j:oJ A.pr=11:=(by unfold oJ;rw [if_neg ab,if_neg ab]);rw [j];refine ae (Hs.eng (dr:=true) (λ_ h=>h.hs)) {eq:=[(25,cZ .i64 d)],ov:=[(26,pe (a:=some ⟨W.heap.size,0,none⟩) (b:=W.heap.size) (o:=0) 4 4 .i64 3 rfl ⟨ab,ab⟩ underlying39 a4),(27,jk ⟨W.heap.size,0+(3:Int).toNat,none⟩ (.i 11) underlying2 rfl (λX c=>(cell_of_row _ _ _ _ _ _ (c.2 ⟨W.heap.size,#[.i 8,.i 9,.i 0,.i 11],2,[]⟩ bc)).trans rfl))]} 60 B λX c=>?_;exact Hx.last (Hs.eng (dr:=true) (λ_ h=>h.hs)) {} 20 c (λW e=>dI 11 a6 0 e.ht i)
theorem IU (x:Int) (hx:U x) (h:Ht a b r A f k) (d:Gd A): Calls prog 103 #[.p b 0,.agg #[.i 94,.i C,.i F,.i N,.i P],.u R,.u x] k (HR a b r A f k (kC A ⟨94,C,F,N,P⟩ x)):=by obtain ⟨V,e⟩:∃ V,kC A ⟨94,C,F,N,P⟩ x=V:=⟨_,rfl⟩;rw [e];have g:=(aI d.ok).1;have i:=d.x32;refine bf (S:=Hs r (aQ b r::eE k.heap.size [(#[.i 94,.i C,.i F,.i N,.i P],80)]) (ap A f)) (args:=[.p b 0,.agg #[.i 94,.i C,.i F,.i N,.i P],.u R,.u x]) [(#[.i 94,.i C,.i F,.i N,.i P],80)] func103 ?_;refine aL 0 2 (aL 5 3 ?_);have B:(aM A 3 false A.pc,2)=V:=e;subst B;exact Hx.last (Hs.eng (dr:=true) (λ_ h=>h.hs)) {} 120 (Hx.start h _) (λW j=>dI 3 a6 _ j.ht d)
theorem IW (x:Int) (hx:U x) (h:Ht a b r A f k) (D:Gd A): Calls prog 103 #[.p b 0,.agg #[.i 95,.i C,.i F,.i N,.i P],.u R,.u x] k (HR a b r A f k (kC A ⟨95,C,F,N,P⟩ x)):=by
 obtain ⟨V,G⟩:∃ V,kC A ⟨95,C,F,N,P⟩ x=V:=⟨_,rfl⟩;rw [G];have u:=(aI D.ok).1;have z:=D.x32;refine bf (S:=Hs r (aQ b r::eE k.heap.size [(#[.i 95,.i C,.i F,.i N,.i P],80)]) (ap A f)) (args:=[.p b 0,.agg #[.i 95,.i C,.i F,.i N,.i P],.u R,.u x]) [(#[.i 95,.i C,.i F,.i N,.i P],80)] func103 ?_;refine aL 0 2 (aL 5 3 ?_);have j:=λ(W:World) (c:Ht a b r A f W)=>vI c u false;have p:(A.cs.set 0 (cH (A.cs.getD 0 0) false)).length=22:=by rw [List.length_set];exact u
 have l:(if (((((95:Int)==96))&&(A.pr != 3))||(A.pr==0))=true then (aM A 2 false x,2) else (aX (gB (iP A (A.cs.set 0 (cH (A.cs.getD 0 0) false))) (cW (A.cs.getD 0 0) false)) 0 0 (dV A.cs false),1))=V:=G;clear G;generalize A.cs.set 0 (cH (A.cs.getD 0 0) false)=n at j p l;generalize cW (A.cs.getD 0 0) false=m at j l;generalize dV A.cs false=E at j l;obtain ⟨L,t⟩:∃ B,(A.pr != 3)=B:=⟨_,rfl⟩;obtain ⟨K,s⟩:∃ B,(A.pr==0)=B:=⟨_,rfl⟩;rw [t,s] at l;cases L<;>cases K;·have d:(aX (gB (iP A n) m) 0 0 E,1)=V:=l;subst d;refine ae (Hs.eng (dr:=false) (λ_ h=>h.hs)) {eq:=[(48,af t),(55,af s)]} 120 (Hx.start h _) λW c=>?_;refine mq 7 ?_;refine aN (Hs.eng (dr:=true) (λ_ h=>h.hs)) {} 60 (c.below (Below.refl _ _).drew) (λq o=>j q o.ht) ?_;rintro q e I o ⟨rfl,w,H⟩;refine ⟨_,0,rfl,fi a4,aK (Hs r (aQ b r::eE k.heap.size [(#[.i 95,.i C,.i F,.i N,.i P],80)]) (ap (iP A n) f)) ?_⟩;refine ae (Hs.eng (dr:=false) (λ_ h=>h.hs)) {} 60 (o.to w H) λJ y=>?_;refine bx (cy (i:=2) (T:=2) (v:=.i m) y.mp.row (show 2<14 by decide) a4 rfl) ?_;have M:=zN n m y;obtain ⟨rd,hh⟩:∃ rd,rd=gB (iP A n) m:=⟨_,rfl⟩;have n32:rd.x.length=32:=(by rw [hh];unfold gB iP;exact z);have n22:rd.cs.length=22:=(by rw [hh];unfold gB iP;exact p);rw [<- hh] at M ⊢;clear hh;refine aK (Hs r (aQ b r::eE k.heap.size [(#[.i 95,.i C,.i F,.i N,.i P],80)]) (ap rd f)) ?_;exact Hx.last (Hs.eng (dr:=true) (λ_ h=>h.hs)) {cv:=[(76,jY λW (c:Hx a r (aQ b r::eE k.heap.size [(#[.i 95,.i C,.i F,.i N,.i P],80)]) A f k rd f W)=>mS rd f a b r W c.ht)]} 60 M (λW c=>fg 0 0 E a6 a6 c.ht n32 n22)
 ·have d:(aM A 2 false x,2)=V:=l;subst d;exact Hx.last (Hs.eng (dr:=true) (λ_ h=>h.hs)) {eq:=[(48,af t),(55,af s)]} 120 (Hx.start h _) (λW c=>dI 2 a6 x c.ht D)
 ·have d:(aX (gB (iP A n) m) 0 0 E,1)=V:=l;subst d;refine ae (Hs.eng (dr:=false) (λ_ h=>h.hs)) {eq:=[(48,af t),(55,af s)]} 120 (Hx.start h _) λW c=>?_;refine mq 7 ?_;refine aN (Hs.eng (dr:=true) (λ_ h=>h.hs)) {} 60 (c.below (Below.refl _ _).drew) (λq o=>j q o.ht) ?_;rintro q e I o ⟨rfl,w,H⟩;refine ⟨_,0,rfl,fi a4,aK (Hs r (aQ b r::eE k.heap.size [(#[.i 95,.i C,.i F,.i N,.i P],80)]) (ap (iP A n) f)) ?_⟩;refine ae (Hs.eng (dr:=false) (λ_ h=>h.hs)) {} 60 (o.to w H) λJ y=>?_;refine bx (cy (i:=2) (T:=2) (v:=.i m) y.mp.row (show 2<14 by decide) a4 rfl) ?_;have M:=zN n m y;obtain ⟨rd,hh⟩:∃ rd,rd=gB (iP A n) m:=⟨_,rfl⟩;have n32:rd.x.length=32:=(by rw [hh];unfold gB iP;exact z);have n22:rd.cs.length=22:=(by rw [hh];unfold gB iP;exact p);rw [<- hh] at M ⊢;clear hh;refine aK (Hs r (aQ b r::eE k.heap.size [(#[.i 95,.i C,.i F,.i N,.i P],80)]) (ap rd f)) ?_;exact Hx.last (Hs.eng (dr:=true) (λ_ h=>h.hs)) {cv:=[(76,jY λW (c:Hx a r (aQ b r::eE k.heap.size [(#[.i 95,.i C,.i F,.i N,.i P],80)]) A f k rd f W)=>mS rd f a b r W c.ht)]} 60 M (λW c=>fg 0 0 E a6 a6 c.ht n32 n22)
 ·have d:(aM A 2 false x,2)=V:=l;subst d;exact Hx.last (Hs.eng (dr:=true) (λ_ h=>h.hs)) {eq:=[(48,af t),(55,af s)]} 120 (Hx.start h _) (λW c=>dI 2 a6 x c.ht D)
theorem IY (g j imm B x:Int) (hx:U x) (h:Ht a b r A f k) (o:Gd A): Calls prog 103 #[.p b 0,.agg #[.i 96,.i C,.i g,.i j,.i imm],.u B,.u x] k (HR a b r A f k (kC A ⟨96,C,g,j,imm⟩ x)):=by
 obtain ⟨V,z⟩:∃ V,kC A ⟨96,C,g,j,imm⟩ x=V:=⟨_,rfl⟩;rw [z];have n:=(aI o.ok).1;have y:=o.x32;refine bf (S:=Hs r (aQ b r::eE k.heap.size [(#[.i 96,.i C,.i g,.i j,.i imm],80)]) (ap A f)) (args:=[.p b 0,.agg #[.i 96,.i C,.i g,.i j,.i imm],.u B,.u x]) [(#[.i 96,.i C,.i g,.i j,.i imm],80)] func103 ?_;refine aL 0 2 (aL 5 3 ?_);have M:=λ(W:World) (d:Ht a b r A f W)=>vI d n true;have p:(A.cs.set 0 (cH (A.cs.getD 0 0) true)).length=22:=by rw [List.length_set];exact n
 have w:(if (((((96:Int)==96))&&(A.pr != 3))||(A.pr==0))=true then (aM A 2 false x,2) else (aX (gB (iP A (A.cs.set 0 (cH (A.cs.getD 0 0) true))) (cW (A.cs.getD 0 0) true)) 0 0 (dV A.cs true),1))=V:=z;clear z;generalize A.cs.set 0 (cH (A.cs.getD 0 0) true)=t at M p w;generalize cW (A.cs.getD 0 0) true=s at M w;generalize dV A.cs true=F at M w;obtain ⟨J,m⟩:∃ hh,(A.pr != 3)=hh:=⟨_,rfl⟩;obtain ⟨I,l⟩:∃ hh,(A.pr==0)=hh:=⟨_,rfl⟩;rw [m,l] at w;cases J<;>cases I;·have c:(aX (gB (iP A t) s) 0 0 F,1)=V:=w;subst c;refine ae (Hs.eng (dr:=false) (λ_ h=>h.hs)) {eq:=[(48,af m),(55,af l)]} 120 (Hx.start h _) λW d=>?_;refine mq 7 ?_;refine aN (Hs.eng (dr:=true) (λ_ h=>h.hs)) {} 60 (d.below (Below.refl _ _).drew) (λrd u=>M rd u.ht) ?_;rintro rd e K u ⟨rfl,G,H⟩;refine ⟨_,0,rfl,fi a4,aK (Hs r (aQ b r::eE k.heap.size [(#[.i 96,.i C,.i g,.i j,.i imm],80)]) (ap (iP A t) f)) ?_⟩;refine ae (Hs.eng (dr:=false) (λ_ h=>h.hs)) {} 60 (u.to G H) λL D=>?_;refine bx (cy (i:=2) (T:=2) (v:=.i s) D.mp.row (show 2<14 by decide) a4 rfl) ?_;have E:=zN t s D;obtain ⟨N,q⟩:∃ N,N=gB (iP A t) s:=⟨_,rfl⟩;have n32:N.x.length=32:=(by rw [q];unfold gB iP;exact y);have n22:N.cs.length=22:=(by rw [q];unfold gB iP;exact p);rw [<- q] at E ⊢;clear q;refine aK (Hs r (aQ b r::eE k.heap.size [(#[.i 96,.i C,.i g,.i j,.i imm],80)]) (ap N f)) ?_;exact Hx.last (Hs.eng (dr:=true) (λ_ h=>h.hs)) {cv:=[(76,jY λW (d:Hx a r (aQ b r::eE k.heap.size [(#[.i 96,.i C,.i g,.i j,.i imm],80)]) A f k N f W)=>mS N f a b r W d.ht)]} 60 E (λW d=>fg 0 0 F a6 a6 d.ht n32 n22)
 ·have c:(aM A 2 false x,2)=V:=w;exact a0w
 ·have c:(aM A 2 false x,2)=V:=w;exact a0w
 ·have c:(aM A 2 false x,2)=V:=w;exact a0w
theorem IZ (x:Int) (hx:U x) (h:Ht a b r A d k) (f:Gd A): Calls prog 103 #[.p b 0,.agg #[.i 97,.i C,.i F,.i N,.i P],.u R,.u x] k (HR a b r A d k (kC A ⟨97,C,F,N,P⟩ x)):=by
 obtain ⟨V,j⟩:∃ V,kC A ⟨97,C,F,N,P⟩ x=V:=⟨_,rfl⟩;rw [j];have g:=(aI f.ok).1;have m:=f.x32;refine bf (S:=Hs r (aQ b r::eE k.heap.size [(#[.i 97,.i C,.i F,.i N,.i P],80)]) (ap A d)) (args:=[.p b 0,.agg #[.i 97,.i C,.i F,.i N,.i P],.u R,.u x]) [(#[.i 97,.i C,.i F,.i N,.i P],80)] func103 ?_;refine aL 0 2 (aL 5 3 ?_);have B:(if (A.pr==0)=true then (aM A 2 false x,2) else (aX (gA A true) 0 0 (Uz.wrap (A.pc+4)),1))=V:=j;clear j;cases e:(A.pr==0) with
 | true =>rw [e,if_pos rfl] at B;subst B;exact Hx.last (Hs.eng (dr:=true) (λ_ h=>h.hs)) {eq:=[(84,af e)]} 120 (Hx.start h _) (λW hh=>dI 2 a6 x hh.ht f)
 | false =>rw [e,if_neg a6] at B;subst B;refine ae (Hs.eng (dr:=false) (λ_ h=>h.hs)) {eq:=[(84,af e)]} 120 (Hx.start h _) λo l=>?_;refine bx (cy (i:=13) (T:=4) (v:=.bool true) l.mp.row (show 13<14 by decide) a4 rfl) ?_;have n:=l.fld (M':=gA A true) 13 (.bool true) rfl rfl;refine aK (Hs r (aQ b r::eE k.heap.size [(#[.i 97,.i C,.i F,.i N,.i P],80)]) (ap (gA A true) d)) ?_;exact Hx.last (Hs.eng (dr:=true) (λ_ h=>h.hs)) {} 60 n (λW hh=>fg 0 0 _ a6 a6 hh.ht f.x32 g)
theorem I0 (x:Int) (hx:U x) (h:Ht a b r A d k) (f:Gd A): Calls prog 103 #[.p b 0,.agg #[.i 98,.i C,.i F,.i N,.i P],.u R,.u x] k (HR a b r A d k (kC A ⟨98,C,F,N,P⟩ x)):=by
 obtain ⟨V,i⟩:∃ V,kC A ⟨98,C,F,N,P⟩ x=V:=⟨_,rfl⟩;rw [i];have g:=(aI f.ok).1;have hh:=f.x32;refine bf (S:=Hs r (aQ b r::eE k.heap.size [(#[.i 98,.i C,.i F,.i N,.i P],80)]) (ap A d)) (args:=[.p b 0,.agg #[.i 98,.i C,.i F,.i N,.i P],.u R,.u x]) [(#[.i 98,.i C,.i F,.i N,.i P],80)] func103 ?_;refine aL 0 2 (aL 5 3 ?_);have B:(if (A.pr==0)=true then (aM A 2 false x,2) else (aX A 0 0 (Uz.wrap (A.pc+4)),1))=V:=i;clear i;cases e:(A.pr==0) with
 | true =>rw [e,if_pos rfl] at B;subst B;exact Hx.last (Hs.eng (dr:=true) (λ_ h=>h.hs)) {eq:=[(84,af e)]} 120 (Hx.start h _) (λW j=>dI 2 a6 x j.ht f)
 | false =>rw [e,if_neg a6] at B;subst B;exact Hx.last (Hs.eng (dr:=true) (λ_ h=>h.hs)) {eq:=[(84,af e)]} 150 (Hx.start h _) (λW j=>fg 0 0 _ a6 a6 j.ht f.x32 g)
theorem Mb {r:Nat} (j:93<=y.op) (M:y.op<=98) (hx:U F) (h:Ht a b r A f k) (c:Gd A): Calls prog 103 #[.p b 0,.agg #[.i y.op,.i y.rd,.i y.a,.i y.b,.i y.imm],.u C,.u F] k (HR a b r A f k (kC A y F)):=by
 obtain ⟨hh,g,d,e,B⟩:=y;dsimp only at j M ⊢;obtain rfl|rfl|rfl|rfl|rfl|rfl:hh=93\/hh=94\/hh=95\/hh=96\/hh=97\/hh=98:=ab
 ·exact IT g d e B C F hx h c
 ·exact IU g d e B C F hx h c
 ·exact IW g d e B C F hx h c
 ·exact IY g d e B C F hx h c
 ·exact IZ g d e B C F hx h c
 ·exact I0 g d e B C F hx h c
theorem Mc:(sA p C F 2 N).2.2=0\/(sA p C F 2 N).2.2=21:=by
 unfold sA;split;·split<;>exact Or.inl rfl
 ·split
  ·split;·exact Or.inl rfl
   ·exact Or.inr rfl
  ·split
   ·split;·exact Or.inl rfl
    ·exact Or.inr rfl
   ·exact Or.inr rfl
theorem I1:(aC p C F 2 N).2.2=0\/∃ c:Nat,c<14/\(aC p C F 2 N).2.2=c+16:=by
 unfold aC;split;·exact Or.inr ⟨4,ab,rfl⟩
 ·unfold yV;split
  ·rcases xP p.ram p.ram.length p.cs (fV p.cs p.pr 2) C 2 with e|e|e;·refine Or.inr ⟨0,ab,?_⟩;show wrap64 ((bT p.ram p.ram.length p.cs (fV p.cs p.pr 2) C 2).code+16)=_;rw [e];unfold wrap64;decide
   ·refine Or.inr ⟨13,ab,?_⟩;show wrap64 ((bT p.ram p.ram.length p.cs (fV p.cs p.pr 2) C 2).code+16)=_;rw [e];unfold wrap64;decide
   ·refine Or.inr ⟨5,ab,?_⟩;show wrap64 ((bT p.ram p.ram.length p.cs (fV p.cs p.pr 2) C 2).code+16)=_;rw [e];unfold wrap64;decide
  ·split;·exact Or.inr ⟨5,ab,rfl⟩
   ·refine (Mc _ _ _ _).imp id λe=>⟨5,ab,e⟩
theorem zO {size:Int} (a:(aC M addr size 2 x).2.2=c) (hn:(c != 0)=true):IntKind.i64.wrap (c-16)=(((c-16).toNat:Nat):Int)/\IntKind.i64.wrap ((((c-16).toNat:Nat):Int)+2)=(((c-16).toNat+2:Nat):Int)/\(c-16).toNat+2<16:=by
 have h:=I1 M addr size x;rw [a] at h;rcases h with h|⟨d,b,e⟩;·rw [h] at hn;cases hn
 ·rw [IntKind.wrap_i64,IntKind.wrap_i64];omega
theorem RS (rd j w imm B hh:Int) (K:C=63\/C=74) (L:0<=rd) (O:rd<=31) (ha:U B) (hb:U hh) (h:Ht a b r A d k) (G:Gd A): Calls prog 101 #[.p b 0,.agg #[.i C,.i rd,.i j,.i w,.i imm],.u B,.u hh] k (HR a b r A d k (i9 A ⟨C,rd,j,w,imm⟩ B hh)):=by
 obtain ⟨V,J⟩:∃ V,i9 A ⟨C,rd,j,w,imm⟩ B hh=V:=⟨_,rfl⟩;rw [J];obtain ⟨f,q⟩:∃ f,f=bp C:=⟨_,rfl⟩;obtain p|p:=K;all_goals
  have o:=G.acc B f 2 0
  have u:=λW (l:Mp a r A d W)=>fR A d a r B f 2 0 W l G.len G.mw G.ok fr ab ab ha ⟨a6,a6⟩
  have H:=λc=>j7 (M:=A) (addr:=B) (size:=f) (kind:=2) (x:=0) (c:=c)
  have m:(if ((aC A B f 2 0).2.2 != 0)=true then cC (aC A B f 2 0) 0 B else (aX (bU (de (aC A B f 2 0).2.1 B 2) true (bW (aC A B f 2 0).2.1 B 2).addr) rd (av (8*f) (aC A B f 2 0).1) (Uz.wrap (A.pc+4)),1))=V:=by subst p q;exact J
  clear J
  generalize aC A B f 2 0=X at *
  obtain ⟨y,N,c⟩:=X
  dsimp only at o u H m
  refine bf (S:=Hs r (aQ b r::eE k.heap.size [(#[.i C,.i rd,.i j,.i w,.i imm],80)]) (ap A d)) (args:=[.p b 0,.agg #[.i C,.i rd,.i j,.i w,.i imm],.u B,.u hh]) [(#[.i C,.i rd,.i j,.i w,.i imm],80)] func101 (hn:=a5) (hs:=a5) ?_
  refine aL 0 2 (aL 5 3 ?_)
  refine aN (Hs.eng (dr:=true) (λ_ h=>h.hs)) {} 160 (Hx.start h _) (λP E=>u P E.mp) (hx:=a5) (he:=a5) ?_
  rintro P e W2 E ⟨rfl,op,Q,k2⟩
  refine ⟨_,0,rfl,fi a5,aK (Hs r (aQ b r::eE k.heap.size [(#[.i C,.i rd,.i j,.i w,.i imm],80)]) (ap N op)) (hn:=a5) ?_⟩
  cases s:(c != 0) with
  | true =>
    rw [s,if_pos rfl] at m
    subst m
    exact Hx.last (Hs.eng (dr:=true) (λ_ h=>h.hs)) {eq:=[(53,af s),(56,cZ .i64 (H c rfl s).1)]} 60 (E.step Q k2) (λW l=>dI _ (H c rfl s).2 B l.ht o) (hx:=a5) (he:=a5) (hy:=λ_=>a5)
  | false =>
    rw [s,if_neg a6] at m
    have I:Gd (de N B 2):=o.marked _
    have z:=λW (l:Mp a r N op W)=>zn N op a r B 2 W l o.len o.mw o.ok ab ab ha (bW N B 2) rfl
    have M:∀ W,Mp a r N op W->Calls prog 132 #[.p r 0,.slice none 0 0,.u B,.i 2] W λe w'=>e=.returned (.tuple #[.u (bW N B 2).addr,.i (bW N B 2).code])/\Mp a r (de N B 2) op w'/\Kx r (aJ N op) (aJ (de N B 2) op) W w':=z
    clear z
    generalize de N B 2=g at I M m
    generalize bW N B 2=F at M m
    obtain ⟨n,fc,fm,ft,fe⟩:=F
    dsimp only at M m
    subst m
    refine aN (Hs.eng (dr:=true) (λ_ h=>h.hs)) {eq:=[(53,af s)]} 60 (E.step Q k2) (λW l=>M W l.mp) (hx:=a5) (he:=a5) ?_
    rintro W3 e W4 h3 ⟨rfl,h4,k4⟩
    refine ⟨_,0,rfl,fi a5,aK (Hs r (aQ b r::eE k.heap.size [(#[.i C,.i rd,.i j,.i w,.i imm],80)]) (ap g op)) (hn:=a5) ?_⟩
    refine ae (Hs.eng (dr:=false) (λ_ h=>h.hs)) {} 60 (h3.step h4 k4) (hret:=a5) (he:=a5) λW5 R=>?_
    refine bx (hx:=a5) (cy (i:=12) (T:=4) (v:=.bool true) R.mp.row (show 12<14 by decide) a5 rfl) (hS:=fi a5) ?_
    have h6:=R.fld (M':=bU g true g.hd) 12 (.bool true) rfl rfl
    refine aK (Hs r (aQ b r::eE k.heap.size [(#[.i C,.i rd,.i j,.i w,.i imm],80)]) (ap (bU g true g.hd) op)) (hn:=a5) ?_
    refine ae (Hs.eng (dr:=false) (λ_ h=>h.hs)) {} 60 h6 (hret:=a5) (he:=a5) λW7 Y=>?_
    refine bx (hx:=a5) (cy (i:=11) (T:=22) (v:=.u n) Y.mp.row (show 11<14 by decide) a5 rfl) (hS:=fi a5) ?_
    have Z:=Y.fld (M':=bU g true n) 11 (.u n) rfl rfl
    refine aK (Hs r (aQ b r::eE k.heap.size [(#[.i C,.i rd,.i j,.i w,.i imm],80)]) (ap (bU g true n) op)) (hn:=a5) ?_
    have n32:(bU g true n).x.length=32:=by unfold bU;exact I.x32
    have n22:(bU g true n).cs.length=22:=by unfold bU;exact (aI I.ok).1
    generalize bU g true n=N3 at Z n32 n22 ⊢
    refine ae (Hs.eng (dr:=false) (λ_ h=>h.hs)) {} 60 Z (hret:=a5) (he:=a5) λW9 h9=>?_
    refine mq 9 (hm:=a5) (hk:=a5) ?_
    refine aN (Hs.eng (dr:=true) (λ_ h=>h.hs)) {} 60 (h9.below (Below.refl _ _).drew) (λW _=>dO y (8*f) fr fr W) (hx:=a5) (he:=a5) ?_
    rintro W10 e W11 t ⟨rfl,D⟩
    subst D
    refine ⟨_,0,rfl,λ_=>t.hs,?_⟩
    exact Hx.last (Hs.eng (dr:=true) (λ_ h=>h.hs)) {} 60 t (λW l=>fg rd (av (8*f) y) _ L O l.ht n32 n22) (hx:=a5) (he:=a5) (hy:=λ_=>a5)
theorem RT (rd j w imm B hh:Int) (hop:C=64\/C=75) (I:0<=rd) (J:rd<=31) (ha:U B) (hb:U hh) (h:Ht a b r A d k) (P:Gd A): Calls prog 101 #[.p b 0,.agg #[.i C,.i rd,.i j,.i w,.i imm],.u B,.u hh] k (HR a b r A d k (i9 A ⟨C,rd,j,w,imm⟩ B hh)):=by
 obtain ⟨V,hV⟩:∃ V,i9 A ⟨C,rd,j,w,imm⟩ B hh=V:=⟨_,rfl⟩;rw [hV];obtain ⟨g,q⟩:∃ g,g=bp C:=⟨_,rfl⟩;obtain p|p:=hop;all_goals
  have R:(g:Int)≠0:=by subst p q;decide
  have a0:B.tmod g=B%((g:Nat):Int):=Int.tmod_eq_emod_of_nonneg ha.1
  have u:Gd (de A B 3):=P.marked _
  have Q:(de A B 3).pc=A.pc:=rfl
  have l:∀ W,Mp a r A d W->Calls prog 132 #[.p r 0,.slice none 0 0,.u B,.i 3] W λe w'=>e=.returned (.tuple #[.u (bW A B 3).addr,.i (bW A B 3).code])/\Mp a r (de A B 3) d w'/\Kx r (aJ A d) (aJ (de A B 3) d) W w':=λW f=>zn A d a r B 3 W f P.len P.mw P.ok ab ab ha (bW A B 3) rfl
  obtain ⟨c,c16,H⟩:∃ c:Nat,c<16/\(bW A B 3).code=c:=lI A.ram A.ram.length A.cs (fV A.cs A.pr 3) B 3
  have o:(if (B%((g:Nat):Int) != 0)=true then (aM A 6 false B,2) else if ((bW A B 3).code != 0)=true then (aM (de A B 3) (bW A B 3).code.toNat false B,2) else SQ (de A B 3) ⟨C,rd,j,w,imm⟩ B hh (bW A B 3).addr)=V:=by subst p q;exact hV
  clear hV
  generalize de A B 3=N at u l o Q
  generalize bW A B 3=F at l H o
  obtain ⟨pa,fc,fm,ft,fe⟩:=F
  dsimp only at l H o
  subst H
  rw [<- a0] at o
  refine bf (S:=Hs r (aQ b r::eE k.heap.size [(#[.i C,.i rd,.i j,.i w,.i imm],80)]) (ap A d)) (args:=[.p b 0,.agg #[.i C,.i rd,.i j,.i w,.i imm],.u B,.u hh]) [(#[.i C,.i rd,.i j,.i w,.i imm],80)] func101 (hn:=a5) (hs:=a5) ?_
  refine aL 0 2 (aL 5 3 ?_)
  cases hz:(B.tmod g != 0) with
  | true =>
    rw [hz,if_pos rfl] at o
    subst o
    exact Hx.last (Hs.eng (dr:=true) (λ_ h=>h.hs)) {eq:=[(90,af hz)],ov:=[(89,Js .u64 B g R)]} 160 (Hx.start h _) (λW f=>dI 6 a6 B f.ht P) (hx:=a5) (he:=a5) (hy:=λ_=>a5)
  | false =>
  rw [hz,if_neg a6] at o
  refine aN (Hs.eng (dr:=true) (λ_ h=>h.hs)) {eq:=[(90,af hz)],ov:=[(89,Js .u64 B g R)]} 160 (Hx.start h _) (λW f=>l W f.mp) (hx:=a5) (he:=a5) ?_
  rintro W3 e W4 h3 ⟨rfl,h4,k4⟩
  refine ⟨_,0,rfl,fi a5,aK (Hs r (aQ b r::eE k.heap.size [(#[.i C,.i rd,.i j,.i w,.i imm],80)]) (ap N d)) (hn:=a5) ?_⟩
  have m:=h3.step h4 k4
  cases K:(((c:Nat):Int) != 0) with
  | true =>
    rw [K,if_pos rfl] at o
    subst o
    exact Hx.last (Hs.eng (dr:=true) (λ_ h=>h.hs)) {eq:=[(105,af K)]} 60 m (λW f=>dI c c16 B f.ht u) (hx:=a5) (he:=a5) (hy:=λ_=>a5)
  | false =>
  rw [K,if_neg a6] at o
  have M:(if (N.hl&&(N.hd==pa))=true then (if ((aC N B g 3 hh).2.2 != 0)=true then cC (aC N B g 3 hh) 0 B else (aX (bU (aC N B g 3 hh).2.1 false 0) rd 0 (Uz.wrap (N.pc+4)),1)) else (aX (bU N false 0) rd 1 (Uz.wrap (N.pc+4)),1))=V:=by subst p q;exact o
  clear o
  rw [Q] at M
  have no:(N.hl&&(N.hd==pa))=false->(aX (bU N false 0) rd 1 (Uz.wrap (A.pc+4)),1)=V:=λhn=>by rw [hn,if_neg a6] at M;exact M
  cases L:N.hl with
  | false =>
    have E:=no (by rw [L];rfl)
    subst E
    refine ae (Hs.eng (dr:=false) (λ_ h=>h.hs)) {eq:=[(105,af K),(115,af L)]} 60 m (hret:=a5) (he:=a5) λW5 m=>?_
    refine bx (hx:=a5) (cy (i:=12) (T:=4) (v:=.bool false) m.mp.row (show 12<14 by decide) a5 rfl) (hS:=fi a5) ?_
    have z:=m.fld (M':=bU N false N.hd) 12 (.bool false) rfl rfl
    refine aK (Hs r (aQ b r::eE k.heap.size [(#[.i C,.i rd,.i j,.i w,.i imm],80)]) (ap (bU N false N.hd) d)) (hn:=a5) ?_
    refine ae (Hs.eng (dr:=false) (λ_ h=>h.hs)) {} 60 z (hret:=a5) (he:=a5) λW7 s=>?_
    refine bx (hx:=a5) (cy (i:=11) (T:=22) (v:=.u 0) s.mp.row (show 11<14 by decide) a5 rfl) (hS:=fi a5) ?_
    have D:=s.fld (M':=bU N false 0) 11 (.u 0) rfl rfl
    refine aK (Hs r (aQ b r::eE k.heap.size [(#[.i C,.i rd,.i j,.i w,.i imm],80)]) (ap (bU N false 0) d)) (hn:=a5) ?_
    have n32:(bU N false 0).x.length=32:=by unfold bU;exact u.x32
    have n22:(bU N false 0).cs.length=22:=by unfold bU;exact (aI u.ok).1
    generalize bU N false 0=N3 at D n32 n22 ⊢
    exact Hx.last (Hs.eng (dr:=true) (λ_ h=>h.hs)) {} 60 D (λW f=>fg rd 1 _ I J f.ht n32 n22) (hx:=a5) (he:=a5) (hy:=λ_=>a5)
  | true =>
  cases Z:(N.hd==pa) with
  | false =>
    have E:=no (by rw [L,Z];rfl)
    subst E
    refine ae (Hs.eng (dr:=false) (λ_ h=>h.hs)) {eq:=[(105,af K),(115,af L),(122,af Z)]} 60 m (hret:=a5) (he:=a5) λW5 m=>?_
    refine bx (hx:=a5) (cy (i:=12) (T:=4) (v:=.bool false) m.mp.row (show 12<14 by decide) a5 rfl) (hS:=fi a5) ?_
    have z:=m.fld (M':=bU N false N.hd) 12 (.bool false) rfl rfl
    refine aK (Hs r (aQ b r::eE k.heap.size [(#[.i C,.i rd,.i j,.i w,.i imm],80)]) (ap (bU N false N.hd) d)) (hn:=a5) ?_
    refine ae (Hs.eng (dr:=false) (λ_ h=>h.hs)) {} 60 z (hret:=a5) (he:=a5) λW7 s=>?_
    refine bx (hx:=a5) (cy (i:=11) (T:=22) (v:=.u 0) s.mp.row (show 11<14 by decide) a5 rfl) (hS:=fi a5) ?_
    have D:=s.fld (M':=bU N false 0) 11 (.u 0) rfl rfl
    refine aK (Hs r (aQ b r::eE k.heap.size [(#[.i C,.i rd,.i j,.i w,.i imm],80)]) (ap (bU N false 0) d)) (hn:=a5) ?_
    have n32:(bU N false 0).x.length=32:=by unfold bU;exact u.x32
    have n22:(bU N false 0).cs.length=22:=by unfold bU;exact (aI u.ok).1
    generalize bU N false 0=N3 at D n32 n22 ⊢
    exact Hx.last (Hs.eng (dr:=true) (λ_ h=>h.hs)) {} 60 D (λW f=>fg rd 1 _ I J f.ht n32 n22) (hx:=a5) (he:=a5) (hy:=λ_=>a5)
  | true =>
    clear no
    rw [L,Z,if_pos a6] at M
    have O:=u.acc B g 3 hh
    have G:=λW (f:Mp a r N d W)=>fR N d a r B g 3 hh W f u.len u.mw u.ok fr ab ab ha hb
    have Y:=λc=>j7 (M:=N) (addr:=B) (size:=g) (kind:=3) (x:=hh) (c:=c)
    generalize aC N B g 3 hh=X at O G Y M
    obtain ⟨y,t,c2⟩:=X
    dsimp only at O G Y M
    refine aN (Hs.eng (dr:=true) (λ_ h=>h.hs)) {eq:=[(105,af K),(115,af L),(122,af Z)]} 90 m (λW1 h1=>G W1 h1.mp) (hx:=a5) (he:=a5) ?_
    rintro W6 e W7 z ⟨rfl,op,s,k7⟩
    refine ⟨_,0,rfl,fi a5,aK (Hs r (aQ b r::eE k.heap.size [(#[.i C,.i rd,.i j,.i w,.i imm],80)]) (ap t op)) (hn:=a5) ?_⟩
    cases n:(c2 != 0) with
    | true =>
      rw [n,if_pos rfl] at M
      subst M
      exact Hx.last (Hs.eng (dr:=true) (λ_ h=>h.hs)) {eq:=[(137,af n),(140,cZ .i64 (Y c2 rfl n).1)]} 60 (z.step s k7) (λW f=>dI _ (Y c2 rfl n).2 B f.ht O) (hx:=a5) (he:=a5) (hy:=λ_=>a5)
    | false =>
    rw [n,if_neg a6] at M
    subst M
    refine ae (Hs.eng (dr:=false) (λ_ h=>h.hs)) {eq:=[(137,af n)]} 60 (z.step s k7) (hret:=a5) (he:=a5) λW5 m=>?_
    refine bx (hx:=a5) (cy (i:=12) (T:=4) (v:=.bool false) m.mp.row (show 12<14 by decide) a5 rfl) (hS:=fi a5) ?_
    have z:=m.fld (M':=bU t false t.hd) 12 (.bool false) rfl rfl
    refine aK (Hs r (aQ b r::eE k.heap.size [(#[.i C,.i rd,.i j,.i w,.i imm],80)]) (ap (bU t false t.hd) op)) (hn:=a5) ?_
    refine ae (Hs.eng (dr:=false) (λ_ h=>h.hs)) {} 60 z (hret:=a5) (he:=a5) λW7 s=>?_
    refine bx (hx:=a5) (cy (i:=11) (T:=22) (v:=.u 0) s.mp.row (show 11<14 by decide) a5 rfl) (hS:=fi a5) ?_
    have D:=s.fld (M':=bU t false 0) 11 (.u 0) rfl rfl
    refine aK (Hs r (aQ b r::eE k.heap.size [(#[.i C,.i rd,.i j,.i w,.i imm],80)]) (ap (bU t false 0) op)) (hn:=a5) ?_
    have n32:(bU t false 0).x.length=32:=by unfold bU;exact O.x32
    have n22:(bU t false 0).cs.length=22:=by unfold bU;exact (aI O.ok).1
    generalize bU t false 0=N3 at D n32 n22 ⊢
    exact Hx.last (Hs.eng (dr:=true) (λ_ h=>h.hs)) {} 60 D (λW f=>fg rd 0 _ I J f.ht n32 n22) (hx:=a5) (he:=a5) (hy:=λ_=>a5)
theorem Md (rd w l imm B hh:Int) (sz:Nat) (hs:65<=C/\C<=73/\sz=4\/76<=C/\C<=84/\sz=8) (hr0:0<=rd) (hr1:rd<=31) (ha:U B) (hb:U hh) (h:Ht a b r A d k) (R:Gd A) (K:U (aC (de A B 3) B sz 2 0).1) (hV2:∀ y,U y->U (i7 C y hh)): Calls prog 101 #[.p b 0,.agg #[.i C,.i rd,.i w,.i l,.i imm],.u B,.u hh] k (HR a b r A d k (i9 A ⟨C,rd,w,l,imm⟩ B hh)):=by
 obtain ⟨V,hV⟩:∃ V,i9 A ⟨C,rd,w,l,imm⟩ B hh=V:=⟨_,rfl⟩;rw [hV];obtain ⟨v,eK⟩:∃ v,mR C=v:=⟨_,rfl⟩;have eS:bp C=sz:=by unfold bp;split<;>omega
 obtain ⟨u,h2,q,p⟩|⟨u,h2,q,p⟩:(65<=C/\C<=73/\sz=4/\v=C-63)\/(76<=C/\C<=84/\sz=8/\v=C-74):=by rw [<- eK];unfold mR;split<;>omega
 all_goals
  have n:(v==0)=false:=by simp;omega
  have m:(v==1)=false:=by simp;omega
  have eW:(if (B%((sz:Nat):Int) != 0)=true then (aM A 6 false B,2) else if ((bW A B 3).code != 0)=true then (aM (de A B 3) (bW A B 3).code.toNat false B,2) else (if ((aC (de A B 3) B sz 2 0).2.2 != 0)=true then cC (aC (de A B 3) B sz 2 0) 2 B else if ((aC (aC (de A B 3) B sz 2 0).2.1 B sz 3 (i7 C (aC (de A B 3) B sz 2 0).1 hh)).2.2 != 0)=true then cC (aC (aC (de A B 3) B sz 2 0).2.1 B sz 3 (i7 C (aC (de A B 3) B sz 2 0).1 hh)) 0 B else (aX (aC (aC (de A B 3) B sz 2 0).2.1 B sz 3 (i7 C (aC (de A B 3) B sz 2 0).1 hh)).2.1 rd (av (8*sz) (aC (de A B 3) B sz 2 0).1) (Uz.wrap ((de A B 3).pc+4)),1)))=V:=by
   rw [<- hV];unfold i9 Qx;dsimp only;rw [eK,n,m,eS,if_neg (show ¬ (false=true) by decide),if_neg (show ¬ (false=true) by decide)]
  have G:IntKind.i64.wrap (C-63)=C-63:=by rw [IntKind.wrap_i64];omega
  have H:IntKind.i64.wrap (C-63-11)=C-74:=by rw [IntKind.wrap_i64];omega
  have I:decide (11<=C-63)=decide (sz=8):=by rw [decide_eq_decide];omega
  have Y:(sz:Int)≠0:=by subst p q;decide
  have a0:B.tmod sz=B%((sz:Nat):Int):=Int.tmod_eq_emod_of_nonneg ha.1
  have t:Gd (de A B 3):=R.marked _
  have T:(de A B 3).pc=A.pc:=rfl
  have i:∀ W,Mp a r A d W->Calls prog 132 #[.p r 0,.slice none 0 0,.u B,.i 3] W λe w'=>e=.returned (.tuple #[.u (bW A B 3).addr,.i (bW A B 3).code])/\Mp a r (de A B 3) d w'/\Kx r (aJ A d) (aJ (de A B 3) d) W w':=λW f=>zn A d a r B 3 W f R.len R.mw R.ok ab ab ha (bW A B 3) rfl
  obtain ⟨c,c16,o⟩:∃ c:Nat,c<16/\(bW A B 3).code=c:=lI A.ram A.ram.length A.cs (fV A.cs A.pr 3) B 3
  have M:(if (B%((sz:Nat):Int) != 0)=true then (aM A 6 false B,2) else if ((bW A B 3).code != 0)=true then (aM (de A B 3) (bW A B 3).code.toNat false B,2) else (if ((aC (de A B 3) B sz 2 0).2.2 != 0)=true then cC (aC (de A B 3) B sz 2 0) 2 B else if ((aC (aC (de A B 3) B sz 2 0).2.1 B sz 3 (i7 C (aC (de A B 3) B sz 2 0).1 hh)).2.2 != 0)=true then cC (aC (aC (de A B 3) B sz 2 0).2.1 B sz 3 (i7 C (aC (de A B 3) B sz 2 0).1 hh)) 0 B else (aX (aC (aC (de A B 3) B sz 2 0).2.1 B sz 3 (i7 C (aC (de A B 3) B sz 2 0).1 hh)).2.1 rd (av (8*sz) (aC (de A B 3) B sz 2 0).1) (Uz.wrap ((de A B 3).pc+4)),1)))=V:=by exact eW
  clear hV
  generalize de A B 3=N at K t i M T
  generalize bW A B 3=F at i o M
  obtain ⟨pa,fc,fm,ft,fe⟩:=F
  dsimp only at i o M
  subst o
  rw [<- a0] at M
  refine bf (S:=Hs r (aQ b r::eE k.heap.size [(#[.i C,.i rd,.i w,.i l,.i imm],80)]) (ap A d)) (args:=[.p b 0,.agg #[.i C,.i rd,.i w,.i l,.i imm],.u B,.u hh]) [(#[.i C,.i rd,.i w,.i l,.i imm],80)] func101 (hn:=a5) (hs:=a5) ?_
  refine aL 0 2 (aL 5 3 ?_)
  cases hz:(B.tmod sz != 0) with
  | true =>
    rw [hz,if_pos rfl] at M
    subst M
    exact Hx.last (Hs.eng (dr:=true) (λ_ h=>h.hs)) {eq:=[(29,cZ .i64 G),(31,af I),(33,cZ .i64 H),(40,af n),(90,af hz)],ov:=[(89,Js .u64 B sz Y)]} 160 (Hx.start h _) (λW f=>dI 6 a6 B f.ht R) (hx:=a5) (he:=a5) (hy:=λ_=>a5)
  | false =>
  rw [hz,if_neg a6] at M
  refine aN (Hs.eng (dr:=true) (λ_ h=>h.hs)) {eq:=[(29,cZ .i64 G),(31,af I),(33,cZ .i64 H),(40,af n),(90,af hz)],ov:=[(89,Js .u64 B sz Y)]} 160 (Hx.start h _) (λW f=>i W f.mp) (hx:=a5) (he:=a5) ?_
  rintro W3 e W4 h3 ⟨rfl,h4,k4⟩
  refine ⟨_,0,rfl,fi a5,aK (Hs r (aQ b r::eE k.heap.size [(#[.i C,.i rd,.i w,.i l,.i imm],80)]) (ap N d)) (hn:=a5) ?_⟩
  have h5:=h3.step h4 k4
  cases hc:(((c:Nat):Int) != 0) with
  | true =>
    rw [hc,if_pos rfl] at M
    subst M
    exact Hx.last (Hs.eng (dr:=true) (λ_ h=>h.hs)) {eq:=[(105,af hc)]} 60 h5 (λW f=>dI c c16 B f.ht t) (hx:=a5) (he:=a5) (hy:=λ_=>a5)
  | false =>
  rw [hc,if_neg a6] at M
  rw [T] at M
  have s:=t.acc B sz 2 0
  have O:=λW (f:Mp a r N d W)=>fR N d a r B sz 2 0 W f t.len t.mw t.ok fr ab ab ha ⟨a6,a6⟩
  have ec:=λc=>zO (M:=N) (addr:=B) (size:=sz) (x:=0) (c:=c)
  generalize aC N B sz 2 0=X at *
  obtain ⟨y,D,c2⟩:=X
  dsimp only at s O ec M K
  have hv:=hV2 y K
  refine aN (Hs.eng (dr:=true) (λ_ h=>h.hs)) {eq:=[(105,af hc),(111,af m)]} 90 h5 (λE u=>O E u.mp) (hx:=a5) (he:=a5) ?_
  rintro W6 e W7 h6 ⟨rfl,op,h7,k7⟩
  refine ⟨_,0,rfl,fi a5,aK (Hs r (aQ b r::eE k.heap.size [(#[.i C,.i rd,.i w,.i l,.i imm],80)]) (ap D op)) (hn:=a5) ?_⟩
  cases g:(c2 != 0) with
  | true =>
    rw [g,if_pos rfl] at M
    subst M
    exact Hx.last (Hs.eng (dr:=true) (λ_ h=>h.hs)) {eq:=[(167,af g),(170,cZ .i64 (ec c2 rfl g).1),(171,cZ .i64 (ec c2 rfl g).2.1)]} 60 (h6.step h7 k7) (λW f=>dI _ (ec c2 rfl g).2.2 B f.ht s) (hx:=a5) (he:=a5) (hy:=λ_=>a5)
  | false =>
  rw [g,if_neg a6] at M
  have gb:=s.acc B sz 3 (i7 C y hh)
  have Q:=λW (f:Mp a r D op W)=>fR D op a r B sz 3 (i7 C y hh) W f s.len s.mw s.ok fr ab ab ha hv
  have ed:=λc=>j7 (M:=D) (addr:=B) (size:=sz) (kind:=3) (x:=i7 C y hh) (c:=c)
  have hAm:=λW=>Cm C y hh K.1 K.2 hb.1 hb.2 W
  generalize aC D B sz 3 (i7 C y hh)=X at *
  generalize i7 C y hh=z at *
  generalize rA C=zb at *
  obtain ⟨y2,N4,c3⟩:=X
  dsimp only at gb Q ed M
  refine aN (Hs.eng (dr:=true) (λ_ h=>h.hs)) {eq:=[(167,af g)]} 60 (h6.step h7 k7) (λE u=>hAm E) (hx:=a5) (he:=a5) ?_
  rintro W8 e W9 h8 ⟨rfl,hw9⟩
  subst hw9
  refine ⟨_,0,rfl,fi a5,?_⟩
  refine aN (Hs.eng (dr:=true) (λ_ h=>h.hs)) {} 60 h8 (λE u=>Q E u.mp) (hx:=a5) (he:=a5) ?_
  rintro Wa e Wb L ⟨rfl,C2,P,kb⟩
  refine ⟨_,0,rfl,fi a5,aK (Hs r (aQ b r::eE k.heap.size [(#[.i C,.i rd,.i w,.i l,.i imm],80)]) (ap N4 C2)) (hn:=a5) ?_⟩
  cases j:(c3 != 0) with
  | true =>
    rw [j,if_pos rfl] at M
    subst M
    exact Hx.last (Hs.eng (dr:=true) (λ_ h=>h.hs)) {eq:=[(195,af j),(198,cZ .i64 (ed c3 rfl j).1)]} 60 (L.step P kb) (λW f=>dI _ (ed c3 rfl j).2 B f.ht gb) (hx:=a5) (he:=a5) (hy:=λ_=>a5)
  | false =>
    rw [j,if_neg a6] at M
    subst M
    refine ae (Hs.eng (dr:=false) (λ_ h=>h.hs)) {eq:=[(195,af j)]} 60 (L.step P kb) (hret:=a5) (he:=a5) λWc hc9=>?_
    refine mq 9 (hm:=a5) (hk:=a5) ?_
    refine aN (Hs.eng (dr:=true) (λ_ h=>h.hs)) {} 60 (hc9.below (Below.refl _ _).drew) (λW _=>dO y (8*sz) fr fr W) (hx:=a5) (he:=a5) ?_
    rintro W10 e W11 J ⟨rfl,Z⟩
    subst Z
    refine ⟨_,0,rfl,λ_=>J.hs,?_⟩
    exact Hx.last (Hs.eng (dr:=true) (λ_ h=>h.hs)) {} 60 J (λW f=>fg rd (av (8*sz) y) _ hr0 hr1 f.ht gb.x32 (aI gb.ok).1) (hx:=a5) (he:=a5) (hy:=λ_=>a5)
def Ud (D:DV):Prop:=U D.t/\U D.cm
theorem sT (a: -9223372036854775808<=j) (b:j<9223372036854775808):(Lit.int .i64 j).wf=true:=by simp [Lit.wf,IntKind.min,IntKind.max,IntKind.signed,IntKind.bits];omega
theorem lN:U 0:=⟨a6,a6⟩
theorem EB (h:∀ y ∈ g,(Lit.int .u8 y).wf=true) (i:Nat):0<=g.getD i 0/\g.getD i 0<=255:=by
 by_cases a:i<g.length;·exact FC (h (g.getD i 0) (by simp [List.getD,List.getElem?_eq_getElem a]))
 ·simp [List.getD,List.getElem?_eq_none (Nat.le_of_not_lt a)]
theorem SS (h:Ud l) (hb:dp l) (k:Nat):U (jq l k).1:=by
 unfold jq;split;·show U (gv l.so);cases l.so<;>exact ⟨a6,a6⟩
 ·exact h.2
 ·exact h.1
 ·have:=EB hb.1 0;exact ⟨this.1,by show l.xs.getD 0 0<_;omega⟩
 ·exact bI _
 ·exact bI _
 ·exact lN
theorem ST (h:Gd A) (hd:Ud A.d) (pa:Int) (n:Nat) (hn:n<=8) (kind x:Int):U (sA A pa n kind x).1:=by
 unfold sA;split
 ·split;·exact lN
  ·exact tN A.ram (EB h.mw.ram) _ _ (by rw [Int.toNat_natCast];exact hn)
 ·split
  ·split;·exact SS hd ⟨h.mw.xs,h.mw.ys⟩ _
   ·exact lN
  ·split;·split<;>exact lN
   ·exact lN
theorem sU (h:Gd A) (hd:Ud A.d) (a:Int) (n:Nat) (hn:n<=8) (kind x:Int):U (aC A a n kind x).1:=by
 unfold aC;split;·exact lN
 ·unfold yV;split;·exact lN
  ·split;·exact lN
   ·exact ST (h.marked _) hd _ n hn kind x
theorem RU (h:Ud l) (k:Nat):Ud (jq l k).2.1:=by
 unfold jq;split;·exact h
 ·exact h
 ·exact h
 ·exact ⟨h.1,h.2⟩
 ·exact h
 ·exact h
 ·exact ⟨lN,lN⟩
theorem RV (h:Ud l) {x:Int} (hx:U x) (addr size:Int):Ud (fL l x (gC addr size)).1:=by
 have a:=EZ l x;have d:=E4 l x;have f:=E5 l x;have b:(fL l x 3).1.t=l.t/\(fL l x 3).1.cm=l.cm:=by
  by_cases c:l.ys.length<4096;·rw [yA _ _ c];exact a0g
  ·rw [yB _ _ c];exact a0g
 obtain ⟨q,g⟩:∃ q,fL l x 4=(⟨l.t,l.cm,l.so,l.xs,l.ys,q⟩,true):=⟨_,E6 l x⟩;have i:=E7 l x;have j:=E8 l x;generalize (bits .and .u64 x 1==1)=r at a;refine jM addr size (λk=>Ud (fL l x k).1) (λ_ _=>?_) (λ_ _=>?_) (λ_ _=>?_) (λ_ _=>?_) (λ_ _=>?_) (λ_ _=>?_) (λ_ _ _ _ _ _=>?_);·show Ud (fL l x 0).1;rw [a];exact ⟨h.1,h.2⟩
 ·show Ud (fL l x 1).1;rw [d];exact ⟨h.1,hx⟩
 ·show Ud (fL l x 2).1;rw [f];exact ⟨hx,h.2⟩
 ·show Ud (fL l x 3).1;unfold Ud;rw [b.1,b.2];exact h
 ·have e:(fL l x 4).1=⟨l.t,l.cm,l.so,l.xs,l.ys,q⟩:=congrArg Prod.fst g;exact e ▸ (⟨h.1,h.2⟩:Ud ⟨l.t,l.cm,l.so,l.xs,l.ys,q⟩)
 ·show Ud (fL l x 5).1;rw [i];exact h
 ·show Ud (fL l x 6).1;rw [j];exact ⟨lN,lN⟩
theorem Me (h:Ud M.d) (pa:Int):Ud (nO M pa).d:=by unfold nO;split<;>exact h
theorem zP (h:Ud A.d) (a n kind:Int) {x:Int} (hx:U x):Ud (aC A a n kind x).2.1.d:=by
 have key:∀ (N:MV) (b:Int),Ud N.d->Ud (sA N b n kind x).2.1.d:=by
  intro N b c;unfold sA;split
  ·split;·have k:∀ R,Ud (nO (bG N R) b).d:=λR=>Me (M:=bG N R) c b;exact k _
   ·exact c
  ·split
   ·split;·have k:∀ D,Ud D->Ud (bL (ch N D)).d:=λD d=>d;exact k _ (RU c _)
    ·exact c
   ·split
    ·split;·have k:∀ D,Ud D->Ud (nO (bL (ch N D)) b).d:=λD d=>Me (M:=bL (ch N D)) d b;exact k _ (RV c hx _ _)
     ·exact c
    ·exact c
 unfold aC;split;·exact h
 ·unfold yV;split;·exact h
  ·split;·exact h
   ·have k:∀ R b,Ud (sA (bG A R) b n kind x).2.1.d:=λR b=>key (bG A R) b h;exact k _ _
theorem SU (f:MF) {a b:Int} (c:U a) (hb:U b):U (f.v a b):=by
 cases f<;>unfold MF.v<;>dsimp only;·exact hb
 ·exact bI _
 ·exact aj _ _ _
 ·exact aj _ _ _
 ·exact aj _ _ _
 all_goals (split<;>assumption)
theorem Gg {a b:Int} (c:U a) (hb:U b):U (i7 C a b):=by
 unfold i7;split;·exact SU _ c hb
 ·split;·generalize (mu (C-65).toNat).v (av 32 a) (av 32 b)=y;unfold U;omega
  ·exact lN
theorem Mf (n:63<=y.op) (o:y.op<=84) (c:0<=y.rd) (d:y.rd<=31) (j:U C) (hb:U F) (h:Ht a b r A f k) (g:Gd A) (hd:Ud A.d): Calls prog 101 #[.p b 0,.agg #[.i y.op,.i y.rd,.i y.a,.i y.b,.i y.imm],.u C,.u F] k (HR a b r A f k (i9 A y C F)):=by
 obtain ⟨B,m,hh,l,e⟩:=y;dsimp only at n o c d ⊢;by_cases q:B=63;·subst q;exact RS _ m hh l e C F (.inl rfl) c d j hb h g
 by_cases s:B=64;·subst s;exact RT _ m hh l e C F (.inl rfl) c d j hb h g
 by_cases v:B<=73;·exact Md B m hh l e C F 4 ab c d j hb h g (sU (g.marked _) hd C 4 ab 2 0) (λM p=>Gg B p hb)
 by_cases t:B=74;·subst t;exact RS _ m hh l e C F (.inr rfl) c d j hb h g
 by_cases u:B=75;·subst u;exact RT _ m hh l e C F (.inr rfl) c d j hb h g
 exact Md B m hh l e C F 8 ab c d j hb h g (sU (g.marked _) hd C 8 ab 2 0) (λM p=>Gg B p hb)
theorem RW (b:U j) (n:Nat):U (j/2^n):=by have c:(0:Int)<2^n:=Int.pow_pos ab;refine ⟨Int.ediv_nonneg b.1 ab,?_⟩;have:j/2^n<=j:=Int.ediv_le_self _ b.1;have:=b.2;omega
theorem Mg {b:Int} (c:U j) (hb:U b):U (kF j b):=by unfold kF;refine ⟨Int.ediv_nonneg (Int.mul_nonneg c.1 hb.1) ab,Int.ediv_lt_of_lt_mul ab ?_⟩;have d:j*b<=j*18446744073709551616:=Int.mul_le_mul_of_nonneg_left (by have:=hb.2;omega) c.1;have e:j*18446744073709551616<18446744073709551616*18446744073709551616:=Int.mul_lt_mul_of_pos_right c.2 ab;omega
theorem SV (f:AF) {a b:Int} (d:U a) (hb:U b):U (f.v a b):=by
 have g:∀ c:Bool,U (Do c):=λc=>by cases c<;>exact ⟨a6,a6⟩
 have e:U (gq a b):=by unfold gq;split;exact bI _;exact Mg d hb
 cases f<;>unfold AF.v<;>dsimp only;·exact bI _
 ·exact g _
 ·exact g _
 ·exact aj _ _ _
 ·exact aj _ _ _
 ·exact aj _ _ _
 ·exact bI _
 ·exact RW d _
 ·exact bI _
 ·exact bI _
 ·exact bI _
 ·unfold mj;split;exact bI _;exact e
 ·exact e
 ·exact Mg d hb
 ·split;exact ⟨a6,a6⟩;exact bI _
 ·split;exact ⟨a6,a6⟩;exact bI _
 ·split;exact d;exact bI _
 ·split;·exact d
  ·rw [Int.tmod_eq_emod_of_nonneg d.1];have h:=Int.emod_nonneg a (show b≠0 by assumption);have i:=Int.emod_lt_of_pos a (show 0<b by have:=hb.1;omega);exact ⟨h,by have:=hb.2;omega⟩
theorem RY {a b:Int} (c:U a) (hb:U b):U (m7 C a b):=by
 unfold m7;split
 ·cases ob (C-22).toNat with
  | d f=>exact SV f c hb
  | w f l r=>exact bg _
 ·exact lN
theorem Gd.al4 (h:Gd A):A.pc%4=0:=by have a:=(cP h.ok).1;rw [Ou _ h.pc] at a;exact eq_of_beq a
theorem QD (h:U j) (a:j%4=0):bits .and .u64 j 3=0:=by rw [Ou _ h,a]
theorem QE (h:Gd A):bits .and .u64 (Uz.wrap (A.pc+4)) 3=0:=QD (bI _) (by have:=h.al4;rw [IntKind.wrap_u64];omega)
theorem QF (h:U j) (he:j%2=0) (g:(bits .and .u64 j 2 != 0)=false):bits .and .u64 j 3=0:=by
 have k:bits .and .u64 j 2=0:=vw
 refine bu _ _ (aj _ _ _) lN λi l=>?_;have d:bt j 0=false:=by have:bits .and .u64 j 1=j%2:=cn j 1 h.1 h.2 ab;rw [he] at this;have q:=az j 1 0;rw [this] at q;have a:bt 0 0=false:=a6;have b:bt 1 0=true:=a6;rw [a,b,Bool.and_true] at q;exact q.symm
 have f:bt j 1=false:=by have q:=az j 2 1;rw [k] at q;have a:bt 0 1=false:=a6;have b:bt 2 1=true:=a6;rw [a,b,Bool.and_true] at q;exact q.symm
 rw [az];have key:∀ x,x<64->∀ c:Bool,(x=0->c=false)->(x=1->c=false)->(c&&bt 3 x)=bt 0 x:=bb
 exact key i l _ (λe=>by rw [e];exact d) (λe=>by rw [e];exact f)
theorem I2:bits .andNot .u64 C 1%2=0:=by
 have a:=aj .andNot C 1;have d:bits .and .u64 (bits .andNot .u64 C 1) 1=bits .andNot .u64 C 1%2:=cn _ 1 a.1 a.2 ab;rw [<- d];refine bu _ _ (aj _ _ _) lN λi b=>?_;rw [az,aA _ _ _ b];have key:∀ j,j<64->∀ c:Bool,((c&&!bt 1 j)&&bt 1 j)=bt 0 j:=bb
 exact key i b _
theorem Mh (h:∀ j,U (g.getD j 0)) (n:Int):U (dj g n):=by
 unfold dj;split;·exact lN
 ·split;·exact ⟨a6,a6⟩
  ·split;·exact aj _ _ _
   ·split;·exact aj _ _ _
    ·split;·exact aj _ _ _
     ·exact h _
theorem Gh (h:D.length=22) (n x:Int):bits .and .u64 ((bM D n x).getD 9 0) 2184=bits .and .u64 (D.getD 9 0) 2184:=by
 have d:∀ m,(∀ i,i<64->(bt m i&&bt 2184 i)=false)->bits .and .u64 (iQ (D.getD 9 0) m x) 2184=bits .and .u64 (D.getD 9 0) 2184:=λm p=>by
  refine bu _ _ (aj _ _ _) (aj _ _ _) λi f=>?_;unfold iQ;rw [az,cg,az,aA _ _ _ f,az];have:=p i f;cases j:bt 2184 i;·simp
  ·rw [j,Bool.and_true] at this;rw [this];simp
 have set:∀ k,k≠9->∀ v,(D.set k v).getD 9 0=D.getD 9 0:=λk o v=>jT D k 9 v o;have a:∀ v,(D.set 9 v).getD 9 0=v:=λv=>ry D 9 v ab;have q:∀ i,i<64->∀ c:Bool,((c&&bt 2 i)&&bt 2184 i)=false:=bb
 have b:∀ i,i<64->(bt 546 i&&bt 2184 i)=false:=bb
 unfold bM;split;·rfl
 ·split;·rw [set 0 ab]
  ·split;·rw [set 3 ab]
   ·split;·rw [a];exact d _ λi f=>by rw [az];exact q i f _
    ·unfold fS;split;·rw [a];exact d _ b
     ·split
      ·split;·rw [set 15 ab]
       ·rfl
      ·split;·rw [set 16 ab]
       ·rename_i r _ _;have s:=qU n;have g:(cG n).toNat≠9\/cG n=-1:=ab;split
        ·split;·rfl
         ·rw [set _ ab]
        ·rcases g with e|e;·rw [set _ e]
         ·rw [e];exact congrArg (λy=>bits .and .u64 y 2184) (set 0 ab _)
theorem Gd.cs_ (h:Gd M) {l:List Int} (hz:l.length=22) (a:br 22 l=true) (m:∀ j,U (l.getD j 0)) (k:bits .and .u64 (l.getD 9 0) 2184=bits .and .u64 (M.cs.getD 9 0) 2184):Gd (iP M l):=by
 obtain ⟨c,d,n,e,f,g,i⟩:=cP h.ok;obtain ⟨_,_,b,_,_,_⟩:=aI h.ok;refine ⟨kN (M:=iP M l) c d ?_ e f g ?_,⟨m,h.mw.ram,h.mw.xs,h.mw.ys⟩,h.ux,h.pc,h.hd⟩;·show be l.length l M.pr=true;unfold be;rw [hz,a,b];rfl
 ·show (bits .and .u64 (l.getD 9 0) 2184==dD M.d)=true;rw [k];exact i
theorem Gd.priv (h:Gd A) {p:Int} (j:bN p=true):Gd (gB A p):=by obtain ⟨c,d,k,e,f,g,i⟩:=cP h.ok;obtain ⟨a,b,_,_,_,_⟩:=aI h.ok;refine ⟨kN (M:=gB A p) c d ?_ e f g i,⟨h.mw.cs,h.mw.ram,h.mw.xs,h.mw.ys⟩,h.ux,h.pc,h.hd⟩;show be A.cs.length A.cs p=true;unfold be;rw [a,b,j];rfl
def Gw (M:MV):Prop:=Gd M/\Ud M.d
theorem jd (h:Gw A) {k:Nat} (hk:k<16) (i:Bool) {v:Int} (hv:U v):Gw (aM A k i v):=⟨h.1.trap hk i hv,h.2⟩
theorem zQ (h:Gw A) {rd x to:Int} (a:0<=rd) (b:rd<=31) (hx:U x) (d:U to) (c:bits .and .u64 to 3=0):Gw (aX A rd x to):=⟨h.1.done a b hx d c,h.2⟩
theorem jU (h:Gw A) (a n kind:Int) {x:Int} (hx:U x):Gw (aC A a n kind x).2.1:=⟨h.1.acc a n kind x,zP h.2 a n kind hx⟩
theorem kV (h:Gw A) {a n kind x v:Int} (hx:U x) (b:((aC A a n kind x).2.2 != 0)=true) (hv:U v):Gw (cC (aC A a n kind x) 0 v).1:=by unfold cC;exact jd (jU h a n kind hx) (j7 rfl b).2 false hv
theorem Mi (h:Gw A) (a kind:Int):Gw (de A a kind):=⟨h.1.marked _,h.2⟩
theorem iK (h:Gw A) {rd x:Int} (a:0<=rd) (b:rd<=31) (hx:U x) {N:MV} (c:Gw N) (e:N.pc=A.pc):Gw (aX N rd x (Uz.wrap (A.pc+4))):=zQ c a b hx (bI _) (by rw [<- e];exact QE c.1)
theorem OA (h:Gw A) {i:Ins} (d:jJ i) (g:3<=i.op) (e:i.op<=10) (a b:Int):Gw (pw A i a b (Uz.wrap i.imm)).1:=by
 have c:U (fG A i a b (Uz.wrap i.imm))/\fG A i a b (Uz.wrap i.imm)%2=0:=by
  have j:=h.1.al4;unfold fG;split;·exact ⟨aj .andNot _ 1,I2 _⟩
  ·rename_i k;split;·refine ⟨bI _,?_⟩;rw [IntKind.wrap_u64];omega
   ·refine ⟨bI _,?_⟩;have:=d.even ab;rw [IntKind.wrap_u64,IntKind.wrap_u64];omega
 unfold pw;split;·exact jd h a6 false c.1
 ·rename_i f;refine zQ h ?_ ?_ (bI _) c.1 (QF c.1 c.2 e9);·split;exact Int.le_refl 0;exact d.rd0
  ·split;decide;exact d.rd31
theorem OB (h:Gw A) {i:Ins} (e:jJ i) (c:11<=i.op) (d:i.op<=17) {a:Int} (f:U a):Gw (mP A i a).1:=by
 have g:jF i.op<=8:=by obtain ⟨b,m,k,l,j⟩:=i;dsimp only at c d ⊢;obtain rfl|rfl|rfl|rfl|rfl|rfl|rfl:b=11\/b=12\/b=13\/b=14\/b=15\/b=16\/b=17:=ab;all_goals decide
 unfold mP;dsimp only;split;·exact kV h lN ‹_› f
 ·refine iK (jU h a _ 2 lN) e.rd0 e.rd31 ?_ (jU h a _ 2 lN) rfl;split;·exact bI _
  ·exact sU h.1 h.2 a _ g 2 0
theorem Mj (h:Gw A) {i:Ins} {a b:Int} (c:U a) (hb:U b):Gw (nB A i a b).1:=by
 unfold nB;dsimp only;split;·exact kV h hb ‹_› c
 ·exact iK (jU h a _ 3 hb) a6 a6 lN (jU h a _ 3 hb) rfl
theorem zR (h:Gw A) {b:Bool} {a:Int} (c:U a) (hb:b=true\/a=0):Gw (bU A b a):=⟨h.1.hold c hb,h.2⟩
theorem OC (h:Gw A) {i:Ins} (f:jJ i) {a b:Int} (g:U a) (hb:U b):Gw (i9 A i a b).1:=by
 have p:bp i.op<=8:=by unfold bp;split<;>decide
 have d:=Mi h a 3;have q:∀ kind,(de A a kind).pc=A.pc:=λ_=>rfl;unfold i9;split
 ·unfold RQ;dsimp only;split;·exact kV h lN ‹_› g
  ·have o:=jU h a (bp i.op) 2 lN;have e:=(i8 A a (bp i.op) 2 0).1;exact iK h f.rd0 f.rd31 (bI _) (zR (Mi o a 2) (tH _ _ _ _ _ _ g) (Or.inl rfl)) e
 ·split;·exact jd h a6 false g
  ·split;·obtain ⟨c,j,k⟩:=lI A.ram A.ram.length A.cs (fV A.cs A.pr 3) a 3;have l:(bW A a 3).code=c:=k;rw [l,Int.toNat_natCast];exact jd d j false g
   ·split
    ·unfold SQ;split
     ·dsimp only;split;·exact kV d hb ‹_› g
      ·exact iK d f.rd0 f.rd31 lN (zR (jU d a _ 3 hb) lN (Or.inr rfl)) (i8 (de A a 3) a (bp i.op) 3 b).1
     ·exact iK d f.rd0 f.rd31 ⟨a6,a6⟩ (zR d lN (Or.inr rfl)) rfl
    ·unfold Qx;dsimp only;split;·rename_i k;unfold cC;exact jd (jU d a _ 2 lN) (zO rfl k).2.2 false g
     ·have m:=jU d a (bp i.op) 2 lN;have n:U (i7 i.op (aC (de A a 3) a (bp i.op) 2 0).1 b):=Gg _ (sU d.1 d.2 a _ p 2 0) hb;split;·exact kV m n ‹_› g
      ·exact iK d f.rd0 f.rd31 (bI _) (jU m a _ 3 n) ((i8 _ _ _ _ _).1.trans (i8 _ _ _ _ _).1)
theorem QG (h:Gw A) {i:Ins} (j:jJ i) {a w:Int} (l:U a) (o:U w):Gw (nC A i a w).1:=by
 unfold nC;split;·exact jd h a6 false o
 ·rename_i g;have n:=Mh h.1.mw.cs i.imm;have d:=iK h j.rd0 j.rd31 n h rfl;have b:jt A.cs.length A.cs i.imm A.pr=true:=by
   cases q:jt A.cs.length A.cs i.imm A.pr;·rw [q] at g;exact absurd rfl g
   ·rfl
  have f:df i.imm=true:=(by unfold jt at b;simp only [Bool.and_eq_true] at b;exact b.1.1.2);have k:U (tw i a (dj A.cs i.imm)):=by
   have m:U (lM i a):=(by unfold lM;split;exact bI _;exact l);unfold tw;split;·exact aj _ _ _
   ·split;·exact aj _ _ _
    ·exact m
  dsimp only;split;·generalize aX A i.rd (dj A.cs i.imm) (Uz.wrap (A.pc+4))=N at d ⊢;obtain ⟨c,e,_,_,_,_⟩:=aI d.1.ok;exact ⟨d.1.cs_ (by rw [pA];exact c) (sC _ c d.1.mw.cs e _ _ k f) (Fy _ d.1.mw.cs _ _ k) (Gh _ c _ _),d.2⟩
  ·exact d
theorem vJ (h:U C) (a:fy 0 C=true) (m:Bool):bN (cW C m)=true:=by
 cases m with
 | true=>exact Bz C h a
 | false =>show bN (wrap64 (aq C 8))=true;rw [xQ C 8 h];split<;>decide +kernel
theorem QH (h:Gw A) {i:Ins} (g:jJ i) {w:Int} (d:U w):Gw (kC A i w).1:=by
 obtain ⟨b,a,f,_,_,_⟩:=aI h.1.ok;have u0:=h.1.mw.cs 0;have c:=dX a 0 ab;unfold kC;split;·refine jd h ?_ false lN;unfold oJ;split;decide;split<;>decide
 ·split;·exact jd h a6 false h.1.pc
  ·split
   ·split;·exact jd h a6 false d
    ·have e:Gd (iP A (A.cs.set 0 (cH (A.cs.getD 0 0) (i.op==96)))):=h.1.cs_ (by rw [List.length_set];exact b) (cE _ b a 0 ab _ (Ci _ u0 _ c)) (jz _ h.1.mw.cs 0 _ (qO _ _)) (by rw [jT _ 0 9 _ ab]);refine zQ ⟨e.priv (vJ _ u0 c _),h.2⟩ a6 a6 lN ?_ ?_;·unfold dV;split;exact h.1.mw.cs 6;exact h.1.mw.cs 12
     ·unfold dV;split;·exact Tb _ (Or.inl (dX a 6 ab))
      ·exact Tb _ (Or.inr (dX a 12 ab))
   ·split;·exact jd h a6 false d
    ·split;·exact iK h a6 a6 lN (N:=gA A true) ⟨h.1.wait true,h.2⟩ rfl
     ·exact iK h a6 a6 lN h rfl
theorem OD (h:Gw A) {i:Ins} (a:jJ i) {w:Int} (d:U w):Gw (cR A i w).1:=by
 have b:=h.1.ux i.a.toNat;have c:=h.1.ux i.b.toNat;have e:=a.op1;unfold cR;dsimp only;split;·exact iK h a.rd0 a.rd31 (bI _) h rfl
 split;·exact iK h a.rd0 a.rd31 (bI _) h rfl
 split;·exact OA h a ab ‹_› _ _
 split;·exact OB h a ab ‹_› (bI _)
 split;·exact Mj h (bI _) c
 split;·exact iK h a.rd0 a.rd31 (RY _ b (by split;exact c;exact bI _)) h rfl
 split;·exact OC h a b c
 split;·exact iK h a6 a6 lN h rfl
 split;·exact QG h a b d
 ·exact QH h a d
theorem OE (h:Gw A) (g:∀ l p,0<=fJ l p->∃ k:Nat,k<16/\fJ l p=k):Gw (dP A).1:=by
 have a:Gw (gA A false):=⟨h.1.wait false,h.2⟩;unfold dP;split;·exact h
 ·split;·rename_i f;obtain ⟨k,b,e⟩:=g _ _ f;rw [e,Int.toNat_natCast];exact jd a b true lN
  ·dsimp only;split;·exact kV a lN ‹_› (jU a A.pc 4 1 lN).1.pc
   ·have c:=sU a.1 a.2 A.pc 4 ab 1 0;split;·exact jd (jU a A.pc 4 1 lN) a6 false c
    ·rename_i i d;exact OD (jU a A.pc 4 1 lN) (zA d) c
end Go.Proofs.YtfagphfjfhpmjaaGreatDoor
