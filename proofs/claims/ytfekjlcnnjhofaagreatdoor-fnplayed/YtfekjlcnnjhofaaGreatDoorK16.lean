/- Own lemmas. -/
import Derived.Test.YtfekjlcnnjhofaaGreatDoorAut
import Derived.Test.YtfekjlcnnjhofaaGreatDoorK13
import Derived.Test.YtfekjlcnnjhofaaGreatDoorK14
import Derived.Test.YtfekjlcnnjhofaaGreatDoorK15
set_option maxRecDepth 100000
namespace Go.Proofs.YtfekjlcnnjhofaaGreatDoor
open Go.RowKit Tryz
open IntKind renaming u64->Uz
open Below renaming refl->D1
open Go renaming Calls->D2,World->D3,bits->D4,cell_of_row->D8,bodyPost->F0,Value->F3,TypeId->G1
open List renaming getD_eq_getElem?_getD->A5,getElem?_eq_getElem->A6,length_set->A8,getElem?_set->A9,getElem?_map->C5,mem_cons->C6
set_option linter.unusedVariables false
variable {M A:MV} {B r a:Nat} {x b:MA} {d L w:D3} {W:List Kr} (c:MV) (f:MA) (g:Nat) (k:List Int) (j:Bool) (n:Ins) (l p t y C F:Int) (N:Bool)
def aR (M:MV) (k:Nat) (i:Bool) (v:Int):MV :=
 ⟨dX (od M.cs (cU M.cs M.pr k i)) k (mV M.cs (cU M.cs M.pr k i) i),M.x,te (cU M.cs M.pr k i),iO M.cs (cU M.cs M.pr k i) M.pr (gG k i) M.pc v,M.ram,M.d,M.hd,M.hl,M.wt⟩
def aZ (M:MV) (rd x to:Int):MV :=
 ⟨to,if rd=0 then M.x else M.x.set rd.toNat x,M.pr,M.cs.set 21 (Uz.wrap (M.cs.getD 21 0+1)),M.ram,M.d,M.hd,M.hl,M.wt⟩
def cn (M:MV) (h:Bool) (a:Int):MV:=⟨M.pc,M.x,M.pr,M.cs,M.ram,M.d,a,h,M.wt⟩
def gD (M:MV) (b:Bool):MV:=⟨M.pc,M.x,M.pr,M.cs,M.ram,M.d,M.hd,M.hl,b⟩
def iV (M:MV) (l:List Int):MV:=⟨M.pc,M.x,M.pr,l,M.ram,M.d,M.hd,M.hl,M.wt⟩
def gE (M:MV) (p:Int):MV:=⟨M.pc,M.x,p,M.cs,M.ram,M.d,M.hd,M.hl,M.wt⟩
def cH (r:Int × MV × Int) (more:Nat) (v:Int):MV × Int:=(aR r.2.1 ((r.2.2-16).toNat+more) false v,2)
def fQ (M:MV) (i:Ins) (a b n:Int):Int :=
 if i.op=4 then D4 .andNot .u64 (Uz.wrap (a+n)) 1
 else if (decide (4<i.op)&&!KO i.op a b)=true then Uz.wrap (M.pc+4) else Uz.wrap (M.pc+n)
def qb (M:MV) (i:Ins) (a b n:Int):MV × Int :=
 if (D4 .and .u64 (fQ M i a b n) 2 != 0)=true then (aR M 0 false (fQ M i a b n),2)
 else (aZ M (if 4<i.op then 0 else i.rd) (Uz.wrap (M.pc+4)) (fQ M i a b n),1)
def jP (op:Int):Nat:=if op-11<4 then 2^(op-11).toNat else 2^(op-15).toNat
def m9 (M:MV) (i:Ins) (at_:Int):MV × Int :=
 let r:=aH M at_ (jP i.op) 2 0
 if (r.2.2 != 0)=true then cH r 0 at_
 else (aZ r.2.1 i.rd (if i.op-11<4 then ay (8*jP i.op) r.1 else r.1) (Uz.wrap (r.2.1.pc+4)),1)
def nQ (M:MV) (i:Ins) (at_ b:Int):MV × Int :=
 let r:=aH M at_ (2^(i.op-18).toNat:Nat) 3 b
 if (r.2.2 != 0)=true then cH r 0 at_ else (aZ r.2.1 0 0 (Uz.wrap (r.2.1.pc+4)),1)
def bC (op:Int):Nat:=if op-63>=11 then 8 else 4
def na (op:Int):Int:=if op-63>=11 then op-74 else op-63
def cq (M:MV) (va kind:Int):Fd:=cj M.ram M.ram.length M.cs (gg M.cs M.pr kind) va kind
def dA (M:MV) (va kind:Int):MV:=bN M (bz M.ram (cq M va kind))
def UR (M:MV) (i:Ins) (a:Int):MV × Int :=
 let r:=aH M a (bC i.op) 2 0
 if (r.2.2 != 0)=true then cH r 0 a
 else (aZ (cn (dA r.2.1 a 2) true (cq r.2.1 a 2).addr) i.rd (ay (8*bC i.op) r.1) (Uz.wrap (M.pc+4)),1)
def VV (M:MV) (i:Ins) (a b:Int) (pa:Int):MV × Int :=
 if (M.hl&&(M.hd==pa))=true then
  (let r:=aH M a (bC i.op) 3 b
   if (r.2.2 != 0)=true then cH r 0 a else (aZ (cn r.2.1 false 0) i.rd 0 (Uz.wrap (M.pc+4)),1))
 else (aZ (cn M false 0) i.rd 1 (Uz.wrap (M.pc+4)),1)
def Tp (M:MV) (i:Ins) (a b:Int):MV × Int :=
 let r:=aH M a (bC i.op) 2 0
 if (r.2.2 != 0)=true then cH r 2 a
 else
  let q:=aH r.2.1 a (bC i.op) 3 (jd i.op r.1 b)
  if (q.2.2 != 0)=true then cH q 0 a else (aZ q.2.1 i.rd (ay (8*bC i.op) r.1) (Uz.wrap (M.pc+4)),1)
def je (M:MV) (i:Ins) (a b:Int):MV × Int :=
 if (na i.op==0)=true then UR M i a
 else if (a%(bC i.op:Nat) != 0)=true then (aR M 6 false a,2)
 else if ((cq M a 3).code != 0)=true then (aR (dA M a 3) (cq M a 3).code.toNat false a,2)
 else if (na i.op==1)=true then VV (dA M a 3) i a b (cq M a 3).addr
 else Tp (dA M a 3) i a b
def ee (i:Ins):Bool:=((i.op-87).tmod 3==0)||(i.a != 0)
def mc (i:Ins) (a:Int):Int:=if 90<=i.op then Uz.wrap i.a else a
def um (i:Ins) (a old:Int):Int:=if ((i.op-87).tmod 3==1)=true then D4 .or .u64 old (mc i a) else if ((i.op-87).tmod 3==2)=true then D4 .andNot .u64 old (mc i a) else mc i a
def nR (M:MV) (i:Ins) (a w:Int):MV × Int :=
 if (!jC M.cs.length M.cs i.imm M.pr||(ee i&&((wrap64 (i.imm.tdiv 1024)).tmod 4==3)))=true then (aR M 2 false w,2)
 else
  let N:=aZ M i.rd (dF M.cs i.imm) (Uz.wrap (M.pc+4))
  (if ee i=true then iV N (cg N.cs i.imm (um i a (dF M.cs i.imm))) else N,1)
def pd (p:Int):Nat:=if p=0 then 8 else if p=1 then 9 else 11
def kS (M:MV) (i:Ins) (w:Int):MV × Int :=
 if i.op=93 then (aR M (pd M.pr) false 0,2)
 else if i.op=94 then (aR M 3 false M.pc,2)
 else if i.op=95\/i.op=96 then
  (if (((i.op==96)&&(M.pr != 3))||(M.pr==0))=true then (aR M 2 false w,2)
   else (aZ (gE (iV M (M.cs.set 0 (cP (M.cs.getD 0 0) (i.op==96)))) (dq (M.cs.getD 0 0) (i.op==96))) 0 0 (eE M.cs (i.op==96)),1))
 else if (M.pr==0)=true then (aR M 2 false w,2)
 else if i.op=97 then (aZ (gD M true) 0 0 (Uz.wrap (M.pc+4)),1)
 else (aZ M 0 0 (Uz.wrap (M.pc+4)),1)
def dg (M:MV) (i:Ins) (w:Int):MV × Int :=
 let a:=M.x.getD i.a.toNat 0
 let b:=M.x.getD i.b.toNat 0
 let n:=Uz.wrap i.imm
 if i.op=1 then (aZ M i.rd n (Uz.wrap (M.pc+4)),1)
 else if i.op=2 then (aZ M i.rd (Uz.wrap (M.pc+n)) (Uz.wrap (M.pc+4)),1)
 else if i.op<=10 then qb M i a b n
 else if i.op<=17 then m9 M i (Uz.wrap (a+n))
 else if i.op<=21 then nQ M i (Uz.wrap (a+n)) b
 else if i.op<=62 then (aZ M i.rd (nD i.op a (if (fq i.op).toList=[82] then b else n)) (Uz.wrap (M.pc+4)),1)
 else if i.op<=84 then je M i a b
 else if i.op<=86 then (aZ M 0 0 (Uz.wrap (M.pc+4)),1)
 else if i.op<=92 then nR M i a w
 else kS M i w
def ew (M:MV):MV × Int :=
 if (M.wt&&(kv M.cs==0))=true then (M,4)
 else if 0<=fS M.cs M.pr then (aR (gD M false) (fS M.cs M.pr).toNat true 0,3)
 else
  let r:=aH (gD M false) M.pc 4 1 0
  if (r.2.2 != 0)=true then cH r 0 r.2.1.pc
  else match Cc r.1 with
   | none=>(aR r.2.1 2 false r.1,2)
   | some i=>dg r.2.1 i r.1
theorem Dh (h:lR M) {l:List Int} (e:l.getD 9 0=M.cs.getD 9 0):(D4 .and .u64 (l.getD 9 0) 2184==dM M.d):=by rw [e];exact h
theorem Qp:(iO k j l p t y).getD 9 0=k.getD 9 0:=by
 cases j;·show ((((k.set 7 p).set 6 (D4 .andNot .u64 t 3)).set 8 y).set 0 (mO (k.getD 0 0) l)).getD 9 0=_;rw [gq _ _ _ _ ab,gq _ _ _ _ ab,gq _ _ _ _ ab,gq _ _ _ _ ab]
 ·show ((((k.set 13 p).set 12 (D4 .andNot .u64 t 3)).set 14 y).set 0 (ml (k.getD 0 0) (l==1))).getD 9 0=_;rw [gq _ _ _ _ ab,gq _ _ _ _ ab,gq _ _ _ _ ab,gq _ _ _ _ ab]
theorem Kk:U (dX l p N):=by
 cases N;·exact ah .andNot l 1
 ·exact aW (D4 .andNot .u64 l 1+Uz.wrap (4*p))
theorem Kl:bZ (te j):=by cases j<;>rfl
theorem Gd.trap (h:Gd M) {k:Nat} (hk:k<16) (i:Bool) {v:Int} (hv:U v):Gd (aR M k i v):=by
 obtain ⟨n,e,o,f,g,j,l⟩:=db h.ok;obtain ⟨b,a,c,_,_,_⟩:=aN h.ok;have d:fL 4 (od M.cs (cU M.cs M.pr k i))\/fL 10 (od M.cs (cU M.cs M.pr k i)):=by
  cases cU M.cs M.pr k i;·exact Or.inl (eI a 4 ab)
  ·exact Or.inr (eI a 10 ab)
 have m:=Nf M.cs b h.mw.cs a (cU M.cs M.pr k i) M.pr M.pc v c h.pc k hk i;refine ⟨ls (M:=aR M k i v) (by show (D4 .and .u64 (dX _ _ _) 3==0);rw [WQ _ _ _ d];rfl) e ?_ f g j (Dh l (Qp _ _ _ _ _ _)),⟨P1 _ h.mw.cs _ _ _ _ hv _ hk _,h.mw.ram,h.mw.xs,h.mw.ys⟩,h.ux,Kk _ _ _,h.hd⟩;show bm (iO M.cs _ _ _ _ _).length (iO M.cs _ _ _ _ _) (te _);unfold bm;rw [lX,b,Kl,Bool.and_true];exact m
theorem Gd.done (h:Gd M) {rd x to:Int} (o:0<=rd) (p:rd<=31) (hx:U x) (q:U to) (h4:D4 .and .u64 to 3=0):Gd (aZ M rd x to):=by
 obtain ⟨_,b,r,f,l,m,n⟩:=db h.ok;obtain ⟨c,i,k,_,_,_⟩:=aN h.ok;unfold gA at b;rw [Bool.and_eq_true,JZ6] at b;have d:U (Uz.wrap (M.cs.getD 21 0+1)):=aW _;have g:bD 22 (M.cs.set 21 (Uz.wrap (M.cs.getD 21 0+1))):=cJ M.cs c i 21 ab _ (beq_self_eq_true _);have a:(if rd=0 then M.x else M.x.set rd.toNat x).length=32/\((if rd=0 then M.x else M.x.set rd.toNat x).getD 0 0==0)/\∀ j,U ((if rd=0 then M.x else M.x.set rd.toNat x).getD j 0):=by
  by_cases e:rd=0;·rw [JZ8 e];exact ⟨b.1,b.2,h.ux⟩
  ·rw [JZ9 e];refine ⟨by rw [A8];exact b.1,by rw [gq _ _ _ _ ab];exact b.2,λj=>?_⟩;rw [A5,A9];split
   ·split;·exact hx
    ·exact ⟨bc,bc⟩
   ·have:=h.ux j;rw [A5] at this;exact this
 refine ⟨ls (M:=aZ M rd x to) (by show (D4 .and .u64 to 3==0);rw [h4];rfl) ?_ ?_ f l m (Dh n (gq _ _ _ _ ab)),⟨?_,h.mw.ram,h.mw.xs,h.mw.ys⟩,a.2.2,q,h.hd⟩;·show gA (if rd=0 then M.x else M.x.set rd.toNat x).length (if rd=0 then M.x else M.x.set rd.toNat x)=true;unfold gA;rw [a.2.1,decide_eq_true a.1];rfl
 ·show bm (M.cs.set 21 _).length (M.cs.set 21 _) M.pr;unfold bm;rw [A8,c,k,Bool.and_true];exact g
 ·intro j;show U ((M.cs.set 21 (Uz.wrap (M.cs.getD 21 0+1))).getD j 0);rw [A5,A9];split
  ·split;·exact d
   ·exact ⟨bc,bc⟩
  ·have:=h.mw.cs j;rw [A5] at this;exact this
theorem Gd.hold (h:Gd M) {b:Bool} {a:Int} (k:U a) (hb:b\/a=0):Gd (cn M b a):=by obtain ⟨c,d,f,g,i,l,j⟩:=db h.ok;exact ⟨ls (M:=cn M b a) c d f g i (by show (b||(a==0));rcases hb with e|e<;>rw [e]<;>simp) j,⟨h.mw.cs,h.mw.ram,h.mw.xs,h.mw.ys⟩,h.ux,h.pc,k⟩
theorem Gd.wait (h:Gd M) (b:Bool):Gd (gD M b):=by obtain ⟨a,c,d,e,f,g,i⟩:=db h.ok;exact ⟨ls (M:=gD M b) a c d e f g i,⟨h.mw.cs,h.mw.ram,h.mw.xs,h.mw.ys⟩,h.ux,h.pc,h.hd⟩
structure Ht (B hh r:Nat) (M:MV) (A:MA) (W:D3):Prop where
 row:W.heap[hh]?=some (.cells #[.p r 0,.slice none 0 0] 55 (0,0))
 mp:Mp B r M A W
 ne:hh≠r
 nq:∀ q ∈ aF M A,q.v.ownBlock≠some hh
theorem Ht.lt (h:Ht B a r M x d):a<d.heap.size:=(Array.getElem?_eq_some_iff.1 h.row).1
theorem Ht.step (h:Ht B a r M x d) (p:Mp B r A b L) (k:Kx r (aF M x) (aF A b) d L):Ht B a r A b L :=
 ⟨(k.block a h.lt h.ne h.nq).trans h.row,p,h.ne,λq w e=>by obtain ⟨f,c,M'⟩:=k.own q w a e h.lt;exact h.nq f c M'⟩
theorem Ht.below (h:Ht B a r M x d) (hb:Bw d L):Ht B a r M x L:=h.step (h.mp.below hb) (Kx.of_below hb)
theorem Ht.cells (h:Ht B a r M x d):d.cell? ⟨a,0,none⟩=some (.p r 0)/\d.cell? ⟨a,1,none⟩=some (.slice none 0 0):=by simp [World.cell?,h.row]
theorem Mp.cs {r:Nat} (h:Mp B r M x w) (i:M.cs.length=22):∃ g,x.ac=some ⟨g,0,none⟩/\ey w B g x.cc M.cs /\ ∀ (c:D3) (l:List Int),l.length=22->w.grownBy c (some g)->ey c B g x.cc l->Mp B r (iV M l) x c/\Kx r (aF M x) (aF (iV M l) x) w c:=by
 have m:aG x.ac M.cs.length x.cc M.cs ∈ aF M x:=ef
 have v:=h.fam.own _ m;have f:∃ g,x.ac=some ⟨g,0,none⟩:=by
  rcases v.2 with ⟨e,o⟩|⟨u,cap,A,e,_⟩;·have:M.cs.length=0:=o;omega
  ·have e2:Value.slice x.ac M.cs.length x.cc=.slice (some ⟨u,0,none⟩) M.cs.length cap:=e;injection e2 with e3
   exact ⟨u,e3⟩
 obtain ⟨g,f⟩:=f;have p:ey w B g x.cc M.cs:=by have:w.ownsRow B 24 1 (.slice x.ac M.cs.length x.cc) M.cs.length (M.cs.map (Value.int .u64)):=v;rw [f,i] at this;exact this
 refine ⟨g,f,p,λc l D j n=>?_⟩;have k:w.grownBy c (aG x.ac M.cs.length x.cc M.cs).v.ownBlock:=by have e:(aG x.ac M.cs.length x.cc M.cs).v.ownBlock=some g:=(by show (Value.slice x.ac M.cs.length x.cc).ownBlock=_;rw [f];rfl);rw [e];exact j
 have t:c.ownsRow B 24 1 (aG x.ac M.cs.length x.cc M.cs).v M.cs.length (l.map (Value.int .u64)):=by show c.ownsRow B 24 1 (.slice x.ac M.cs.length x.cc) _ _;rw [f,i];exact n
 have d:=bj.markL (L1:=[aG x.ax M.x.length x.cx M.x]) (L2:=[aE x.ar M.ram.length x.cr M.ram,aE x.ai M.d.xs.length x.ci M.d.xs,aE x.ao M.d.ys.length x.co M.d.ys]) (r:=aG x.ac M.cs.length x.cc M.cs) h.fam k _ t;have a:l.length=M.cs.length:=ab
 have b:=i7 (M:=M) (M':=iV M l) (A:=x) rfl a rfl rfl rfl;have hF:bj B w.heap.size c (aF (iV M l) x):=by unfold aF iV;dsimp only;rw [a];exact d.1
 refine ⟨⟨?_,hF.low (Nat.le_refl _) j.size,λq s e=>?_,h.lo⟩,Kx.of_keepL d.2 b⟩;·have z:c.heap[r]?=w.heap[r]?:=d.2.block r h.lt (λq s e=>h.ne q s e);rw [z,h.row];unfold ak iV;dsimp only;rw [a]
 ·obtain ⟨C,y,o⟩:=b q s;exact h.ne C y (by rw [o];exact e)
theorem Ht.atX (h:Ht B a r M x d) (w:M.x.length=32):∃ b,x.ax=some ⟨b,0,none⟩/\∀ j,j<32->d.cell? ⟨b,j,none⟩=some (.u (M.x.getD j 0))/\d.frozen? ⟨b,j,none⟩=false:=by have hh:=h.mp.xrow;rw [w] at hh;obtain ⟨b,c,e,g⟩:=jV hh ab;simp only [Value.slice.injEq,true_and] at e;obtain ⟨f,e2⟩:=e;refine ⟨b,f,λj i=>?_⟩;rw [f] at hh;refine ⟨?_,hh.frozenAt j⟩;rw [hh.cellAt j ab];rw [C5,A6 (show j<M.x.length by omega),A5,A6 (show j<M.x.length by omega)];rfl
theorem Ht.atC (h:Ht B a r M x d) (w:M.cs.length=22):∃ b,x.ac=some ⟨b,0,none⟩/\∀ j,j<22->d.cell? ⟨b,j,none⟩=some (.u (M.cs.getD j 0))/\d.frozen? ⟨b,j,none⟩=false:=by have hh:d.ownsRow B 24 1 (.slice x.ac M.cs.length x.cc) M.cs.length (M.cs.map (Value.int .u64)):=h.mp.fam.own (aG x.ac M.cs.length x.cc M.cs) ef;rw [w] at hh;obtain ⟨b,c,e,g⟩:=jV hh ab;simp only [Value.slice.injEq,true_and] at e;obtain ⟨f,e2⟩:=e;refine ⟨b,f,λj i=>?_⟩;rw [f] at hh;refine ⟨?_,hh.frozenAt j⟩;rw [hh.cellAt j ab];rw [C5,A6 (show j<M.cs.length by omega),A5,A6 (show j<M.cs.length by omega)];rfl
theorem wQ (h:Ht B a r M x d) (q:Gd M) (k:Nat) (hk:k<16) (i:Bool) (v:Int): D2 prog 64 #[.slice x.ac M.cs.length x.cc,.i M.pr,.u M.pc,.i k,.bool i,.u v] d λe c=>e=.returned (.tuple #[.i (aR M k i v).pr,.u (aR M k i v).pc])/\Ht B a r (iV M (aR M k i v).cs) x c/\Kx r (aF M x) (aF (iV M (aR M k i v).cs) x) d c:=by obtain ⟨hh,p,f,_,_,_⟩:=aN q.ok;obtain ⟨g,w,b,j⟩:=h.mp.cs hh;rw [w,hh];refine (Cf B g x.cc M.cs M.pr M.pc v f k hk i d b).mono λe c ⟨m,n,o⟩=>?_;obtain ⟨s,l⟩:=j c _ (by rw [lX];exact hh) o n;exact ⟨m,h.step s l,l⟩
theorem nf (hh r:Nat) (w:D3) (h:Ht g hh r c f w): CE 65 #[.p hh 0] w (.tuple #[]):=by obtain ⟨M,d⟩:=h.cells;clear h;go_enter func65,ntmps65;go_wp2_with fail;exact bodyPost_end (results_none rfl _ _ _) rfl ⟨rfl,rfl⟩
def aS (hh r:Nat):Kr:=⟨hh,#[.p r 0,.slice none 0 0],55,[(0,1)]⟩
def eR (N:Nat):List (Array F3 × G1)->List Kr
 | []=>[]
 | x::l=>⟨N,x.1,x.2,[]⟩::eR (N+1) l
theorem Di {x:Kr}:∀ {l:List (Array F3 × G1)} {N:Nat},x ∈ eR N l->∃ i y,l[i]?=some y/\x.b=N+i/\x.cs=y.1/\x.t=y.2
 | [],_,h=>ni
 | y::l,N,h=>by
   rcases C6.1 h with rfl|h
   ·exact ⟨0,y,rfl,rfl,rfl,rfl⟩
   ·obtain ⟨i,z,a,c,b⟩:=Di h
    exact ⟨i+1,z,ta,ab,b⟩
theorem Hx.start (h:Ht B a r M x d) (bs:List (Array F3 × G1)):Hx B r (aS a r::eR d.heap.size bs) M x d M x (bP d bs):=by
 obtain ⟨w,hh⟩:=Bs.start d bs;refine ⟨h.mp.below hh,Kx.of_below hh,λA b=>?_⟩;rcases C6.1 b with rfl | b;·exact ⟨aD hh h.row,h.ne,h.nq⟩
 ·obtain ⟨i,y,c,e2,e3,e4⟩:=Di b;have f:=h.mp.lt;refine ⟨by rw [e2,e3,e4];exact w i y c,ab,λq g e=>?_⟩;have:=h.mp.fam.hi q g _ e;omega
theorem Hx.ht (h:Hx B r (aS a r::W) M x d A b L):Ht B a r A b L:=by obtain ⟨M',c,w⟩:=h.rows (aS a r) di;exact ⟨M',h.mp,c,w⟩
theorem Hx.to {M2:MV} {hh:MA} {W2:D3} (h:Hx B r (aS a r::W) M x d A b L) (k:Ht B a r M2 hh W2) (c:Kx r (aF A b) (aF M2 hh) L W2):Hx B r (aS a r::W) M x d M2 hh W2:=h.step k.mp c
def HR (B hh r:Nat) (M:MV) (A:MA) (w:D3) (R:MV × Int) (e:Ending) (w':D3):Prop:=e=.returned (.i R.2)/\∃ a,Ht B hh r R.1 a w'/\Kx r (aF M A) (aF R.1 a) w w'
theorem Hx.hr (h:Hx B r (aS a r::W) M x w A b d) (k:Int):HR B a r M x w (A,k) (.returned (.i k)) d:=⟨rfl,b,h.ht,h.kx⟩
theorem dU (hk:g<16) (v:Int) (h:Ht B a r M x d) (n:Gd M): D2 prog 67 #[.p a 0,.i g,.u v] d (HR B a r M x d (aR M g false v,2)):=by
 refine br (S:=Hx B r [aS a r] M x d M x) (args:=[.p a 0,.i g,.u v]) [] func67 ?_;refine aP 0 2 ?_;refine ae (Hx.eng (dr:=false)) {} 10 (Hx.start h []) λW b=>?_;have o:(aR M g false v).cs.length=M.cs.length:=lX _ _ _ _ _ _;have w:ak (iV M (aR M g false v).cs) x=ak M x:=by unfold ak iV;dsimp only;rw [o]
 refine aL (Hs r [aS a r] (ak M x)) ?_;refine lN 37 ?_;refine aT (Hs.eng (dr:=true) (λ_ h=>h.hs)) {} 100 (b.below (D1 _ _).drew) (λk c=>wQ c.ht n g hk false v) ?_;rintro k e q c ⟨rfl,j,p⟩;have hh:=c.to j p;refine ⟨_,0,rfl,λ_=>w ▸ hh.hs,?_⟩;refine ae (Hs.eng (dr:=true) (λ_ h=>w ▸ h.hs)) {} 40 hh λs hh=>?_;refine bE (bG (i:=2) (T:=2) (v:=.i (aR M g false v).pr) hh.mp.row (show 2<14 by decide) ba rfl) ?_;have l:=hh.fld (M':=gE (iV M (aR M g false v).cs) (aR M g false v).pr) 2 (.i (aR M g false v).pr) rfl rfl;refine aL (Hx B r [aS a r] M x d (gE (iV M (aR M g false v).cs) (aR M g false v).pr) x) ?_;refine ae (Hx.eng (dr:=true)) {} 40 l λu f=>?_;refine bE (bG (i:=0) (T:=24) (v:=.u (aR M g false v).pc) f.mp.row (show 0<14 by decide) ba rfl) ?_;have m:=f.fld (M':=aR M g false v) 0 (.u (aR M g false v).pc) rfl rfl;refine aL (Hx B r [aS a r] M x d (aR M g false v) x) ?_;exact bn (t:=6) (v:=.i 2) (Hx.eng (dr:=true)) {cv:=[(47,kj λW b=>nf (aR M g false v) x B a r W b.ht)]} 40 m λW b=>b.hr 2
theorem fw (to:Int) (J:0<=l) (K:l<=31) (h:Ht B a r M x d) (f:M.x.length=32) (k:M.cs.length=22): D2 prog 69 #[.p a 0,.i l,.u p,.u to] d (HR B a r M x d (aZ M l p to,1)):=by
 have rd:=Hx.start h [];have fin:∀ (S:D3->Prop) (N:MV) (W:D3),Hx B r [aS a r] M x d N x W->N.x.length=32->N.cs=M.cs->⟨to,N.x,M.pr,M.cs.set 21 (Uz.wrap (M.cs.getD 21 0+1)),M.ram,M.d,M.hd,M.hl,M.wt⟩=aZ M l p to->(N.pr=M.pr/\N.ram=M.ram/\N.d=M.d/\N.hd=M.hd/\N.hl=M.hl/\N.wt=M.wt)->Wg prog S (F0 prog Tryz.f69 (HR B a r M x d (aZ M l p to,1))) Tryz.f69.ntmps [.code (au 2 (aM Tryz.f69))] [(0,.p a 0,2),(3,.u to,0)] W:=by
  intro S N W y L z C I;obtain ⟨o,w,U,O,D,Z,P,Q,V⟩:=N;obtain ⟨rfl,rfl,rfl,rfl,rfl,rfl⟩:=I;dsimp only at L z C;subst z;obtain ⟨b,g,j⟩:=y.ht.atC k;refine aL (Hx B r [aS a r] M x d ⟨o,w,M.pr,M.cs,M.ram,M.d,M.hd,M.hl,M.wt⟩ x) ?_;refine ae (Hx.eng (dr:=false)) {} 40 y λX n=>?_;refine bE (bG (i:=0) (T:=24) (v:=.u to) n.mp.row (show 0<14 by decide) ba rfl) ?_;have G:=n.fld (M':=⟨to,w,M.pr,M.cs,M.ram,M.d,M.hd,M.hl,M.wt⟩) 0 (.u to) rfl rfl;refine aL (Hx B r [aS a r] M x d ⟨to,w,M.pr,M.cs,M.ram,M.d,M.hd,M.hl,M.wt⟩ x) ?_;refine ae (Hx.eng (dr:=false)) {} 40 G λY H=>?_;refine zU ?_;have m:∀ W,Hx B r [aS a r] M x d ⟨to,w,M.pr,M.cs,M.ram,M.d,M.hd,M.hl,M.wt⟩ x W->W.cell? ⟨b,0+(21:Int).toNat,none⟩=some (.u (M.cs.getD 21 0))/\W.frozen? ⟨b,0+(21:Int).toNat,none⟩=false:=λW c=>by obtain ⟨F,A,hh⟩:=c.ht.atC k;rw [g] at A;cases A;exact hh 21 ab
  refine ae (Hx.eng (dr:=true)) {ov:=[(42,kW M.cs.length x.cc .i64 21 g ⟨ab,ab⟩ underlying25 ba),(43,iP ⟨b,0+(21:Int).toNat,none⟩ (.u (M.cs.getD 21 0)) underlying24 rfl (λW c=>(m W c).1)),(45,kW M.cs.length x.cc .i64 21 g ⟨ab,ab⟩ underlying25 ba)]} 60 (H.below (D1 _ _).drew) λE s=>?_;refine bE (jh (T:=24) (v:=.u (Uz.wrap (M.cs.getD 21 0+1))) (m E s) ba rfl) ?_;have u:=s.setC b g 21 (Uz.wrap (M.cs.getD 21 0+1));rw [show cM (⟨to,w,M.pr,M.cs,M.ram,M.d,M.hd,M.hl,M.wt⟩:MV) (M.cs.set 21 (Uz.wrap (M.cs.getD 21 0+1)))=aZ M l p to from C] at u;refine aL (Hx B r [aS a r] M x d (aZ M l p to) x) ?_;exact bn (t:=8) (v:=.i 1) (Hx.eng (dr:=true)) {} 40 u λW c=>c.hr 1
 refine br (S:=Hx B r [aS a r] M x d M x) (args:=[.p a 0,.i l,.u p,.u to]) [] func69 ?_;refine aP 0 2 ?_;by_cases e:l=0;·subst e;refine ae (Hx.eng (dr:=false)) {} 8 rd λW c=>?_;exact af _ _ (fin _ M W c f rfl rfl ⟨rfl,rfl,rfl,rfl,rfl,rfl⟩)
 ·have q:(l != 0):=(by simpa using e);obtain ⟨b,g,j⟩:=h.atX f;have m:∀ W,Hx B r [aS a r] M x d M x W->W.cell? ⟨b,0+l.toNat,none⟩=some (.u (M.x.getD (0+l.toNat) 0))/\W.frozen? ⟨b,0+l.toNat,none⟩=false:=λW c=>by obtain ⟨F,A,hh⟩:=c.ht.atX f;rw [g] at A;cases A;exact hh (0+l.toNat) ab
  refine ae (Hx.eng (dr:=false)) {eq:=[(10,an q)],ov:=[(20,kW M.x.length x.cx .i64 l g ⟨ab,ab⟩ underlying25 ba)]} 40 rd λW c=>?_;refine bE (jh (T:=24) (v:=.u p) (m W c) ba rfl) ?_;have n:=c.setX b g (0+l.toNat) p;refine aj (R:=[]) trivial {} 1 ?_;refine af _ _ (fin _ _ _ n (by show (M.x.set _ _).length=32;rw [A8];exact f) rfl ?_ ⟨rfl,rfl,rfl,rfl,rfl,rfl⟩);unfold aZ xM;rw [JZ9 e,Nat.zero_add]
theorem Hx.last {P:Program} {fn:Func} {S:D3->Prop} {n:Nat} {R:List Rw} {dr:Bool} {V:MV × Int} {k:List KI} {F:Fr} (E:n6 P S (Hx B r (aS a r::W) M x d A b) R dr (F0 P fn (HR B a r M x d V))) (H:Hn P S (Hx B r (aS a r::W) M x d A b)) (m:Nat) (hS:Hx B r (aS a r::W) M x d A b L) {f:Nat} {args:Array F3} (j:∀ L,Hx B r (aS a r::W) M x d A b L->D2 P f args L (HR B a r A b L V)) {t:Nat} (hr:fn.results=#[.tmp t]:=by rfl) (hx:((be P R H n dr m k F).1.1,Jf P n (be P R H n dr m k F).1.2.2 (be P R H n dr m k F).1.2.1,xr (be P R H n dr m k F).1.2.2 (be P R H n dr m k F).1.2.1,iw (n7 (be P R H n dr m k F).1.2.2 (be P R H n dr m k F).1.2.1))=(false,some (f,args),false,true):=by kernel_rfl) (he:(be P R H n dr m k F).2.map Prod.fst=(be P R H n dr m k F).2.map Prod.snd:=by kernel_rfl) (hy:∀ J:D3->Prop,(λ(y:(Bool × List KI × Fr) × List (Oe × Oe))=>(y.1.1,(lk y.1.2.2 t).map Prod.fst,y.2.map Prod.fst)) (be P [] ({}:Hn P (λ_=>True) J) n true 20 (n7 (be P R H n dr m k F).1.2.2 (be P R H n dr m k F).1.2.1) (pV (be P R H n dr m k F).1.2.2 (be P R H n dr m k F).1.2.1 (.i V.2) 0))=(true,some (.i V.2),[]):=by intro _;kernel_rfl): Wg P S (F0 P fn (HR B a r M x d V)) n k F L:=by simp only [Prod.mk.injEq] at hx;refine aT E H m hS j (hx:=x8) (he:=he) ?_;rintro o e p w ⟨rfl,C,g,l⟩;refine ⟨_,0,rfl,gi hx.2.2.1,?_⟩;have i:=w.to g l;refine aL (λ_=>True) (hn:=hx.2.2.2) ?_;have hh:=hy (Hx B r (aS a r::W) M x d V.1 C);simp only [Prod.mk.injEq] at hh;refine bn (R:=[]) (t:=t) (v:=.i V.2) (J:=Hx B r (aS a r::W) M x d V.1 C) ⟨λ_ _=>trivial,λ_ _ N hx=>(by cases hx),λ_ L h=>h.below (D1 _ _).drew,cD⟩ {} 20 i (hv:=by rw [hh.1,hh.2.1]) (he:=by rw [List.map_eq_nil_iff.1 hh.2.2];rfl) (hr:=hr) λL c=>⟨rfl,C,c.ht,c.kx⟩
theorem Gd.x32 (h:Gd M):M.x.length=32:=by have:=(db h.ok).2.1;unfold gA at this;rw [Bool.and_eq_true,JZ6] at this;exact this.1
theorem kq {M:MV} {addr size kind x c:Int} (a:(aH M addr size kind x).2.2=c) (hn:(c != 0)):IntKind.i64.wrap (c-16)=(((c-16).toNat:Nat):Int)/\(c-16).toNat<16:=by
 have h:=Nu M addr size kind x;rw [a] at h;rcases h with h|⟨d,b,e⟩;·rw [h] at hn;cases hn
 ·rw [IntKind.wrap_i64];omega
theorem Tr (rd w f imm at_:Int) (j:11<=l) (o:l<=14) (u:0<=rd) (v:rd<=31) (t:U at_) (h:Ht B a r M b d) (m:Gd M): D2 prog 71 #[.p a 0,.agg #[.i l,.i rd,.i w,.i f,.i imm],.u at_] d (HR B a r M b d (m9 M ⟨l,rd,w,f,imm⟩ at_)):=by
 obtain ⟨V,s⟩:∃ V,m9 M ⟨l,rd,w,f,imm⟩ at_=V:=⟨_,rfl⟩;rw [s];obtain ⟨hh,q⟩:∃ hh,hh=jP l:=⟨_,rfl⟩;obtain p|p|p|p:l=11\/l=12\/l=13\/l=14:=ab
 all_goals
  have op:=m.acc at_ hh 2 0
  have k:=λW (A:Mp B r M b W)=>fY M b B r at_ hh 2 0 W A m.len m.mw m.ok ki ab ab t ⟨bc,bc⟩
  have n:=λc=>kq (M:=M) (addr:=at_) (size:=hh) (kind:=2) (x:=0) (c:=c)
  have i:(if ((aH M at_ hh 2 0).2.2 != 0)=true then cH (aH M at_ hh 2 0) 0 at_ else (aZ (aH M at_ hh 2 0).2.1 rd (ay (8*hh) (aH M at_ hh 2 0).1) (Uz.wrap ((aH M at_ hh 2 0).2.1.pc+4)),1))=V:=by subst p q;exact s
  clear s
  generalize aH M at_ hh 2 0=X at *
  obtain ⟨y,N,c⟩:=X
  dsimp only at op k n i
  refine br (S:=Hs r (aS a r::eR d.heap.size [(#[.i l,.i rd,.i w,.i f,.i imm],88)]) (ak M b)) (args:=[.p a 0,.agg #[.i l,.i rd,.i w,.i f,.i imm],.u at_]) [(#[.i l,.i rd,.i w,.i f,.i imm],88)] func71 (hn:=bb) (hs:=bb) ?_
  refine aP 0 2 (aP 4 3 ?_)
  refine ae (Hs.eng (dr:=false) (λ_ h=>h.hs)) {} 80 (Hx.start h _) (hret:=bb) (he:=bb) λW A=>?_
  refine lN 10 (hm:=bb) (hk:=bb) ?_
  refine aT (Hs.eng (dr:=true) (λ_ h=>h.hs)) {} 60 (A.below (D1 _ _).drew) (λz j=>k z j.mp) (hx:=bb) (he:=bb) ?_
  rintro z e E j ⟨rfl,C,o,D⟩
  refine ⟨_,0,rfl,gi bb,aL (Hs r (aS a r::eR d.heap.size [(#[.i l,.i rd,.i w,.i f,.i imm],88)]) (ak N C)) (hn:=bb) ?_⟩
  cases g:(c != 0) with
  | true =>
    rw [g,JZ8 rfl] at i
    subst i
    exact Hx.last (Hs.eng (dr:=true) (λ_ h=>h.hs)) {eq:=[(39,an g),(42,cR .i64 (n c rfl g).1)]} 60 (j.step o D) (λW A=>dU _ (n c rfl g).2 at_ A.ht op) (hx:=bb) (he:=bb) (hy:=λ_=>bb)
  | false =>
    rw [g,JZ9 bc] at i
    subst i
    refine ae (Hs.eng (dr:=false) (λ_ h=>h.hs)) {eq:=[(39,an g)],cv:=[(51,kj λW _=>ei y (8*hh) ki ki W)]} 60 (j.step o D) (hret:=bb) (he:=bb) λW A=>?_
    refine lN 12 (hm:=bb) (hk:=bb) ?_
    exact Hx.last (Hs.eng (dr:=true) (λ_ h=>h.hs)) {} 60 (A.below (D1 _ _).drew) (λW A=>fw rd (ay (8*hh) y) _ u v A.ht op.x32 (aN op.ok).1) (hx:=bb) (he:=bb) (hy:=λ_=>bb)
theorem Ts (rd w f imm at_:Int) (j:15<=l) (o:l<=17) (u:0<=rd) (v:rd<=31) (t:U at_) (h:Ht B a r M b d) (m:Gd M): D2 prog 71 #[.p a 0,.agg #[.i l,.i rd,.i w,.i f,.i imm],.u at_] d (HR B a r M b d (m9 M ⟨l,rd,w,f,imm⟩ at_)):=by
 obtain ⟨V,s⟩:∃ V,m9 M ⟨l,rd,w,f,imm⟩ at_=V:=⟨_,rfl⟩;rw [s];obtain ⟨hh,q⟩:∃ hh,hh=jP l:=⟨_,rfl⟩;obtain p|p|p:l=15\/l=16\/l=17:=ab
 all_goals
  have op:=m.acc at_ hh 2 0
  have k:=λW (A:Mp B r M b W)=>fY M b B r at_ hh 2 0 W A m.len m.mw m.ok ki ab ab t ⟨bc,bc⟩
  have n:=λc=>kq (M:=M) (addr:=at_) (size:=hh) (kind:=2) (x:=0) (c:=c)
  have i:(if ((aH M at_ hh 2 0).2.2 != 0)=true then cH (aH M at_ hh 2 0) 0 at_ else (aZ (aH M at_ hh 2 0).2.1 rd ((aH M at_ hh 2 0).1) (Uz.wrap ((aH M at_ hh 2 0).2.1.pc+4)),1))=V:=by subst p q;exact s
  clear s
  generalize aH M at_ hh 2 0=X at *
  obtain ⟨y,N,c⟩:=X
  dsimp only at op k n i
  refine br (S:=Hs r (aS a r::eR d.heap.size [(#[.i l,.i rd,.i w,.i f,.i imm],88)]) (ak M b)) (args:=[.p a 0,.agg #[.i l,.i rd,.i w,.i f,.i imm],.u at_]) [(#[.i l,.i rd,.i w,.i f,.i imm],88)] func71 (hn:=bb) (hs:=bb) ?_
  refine aP 0 2 (aP 4 3 ?_)
  refine ae (Hs.eng (dr:=false) (λ_ h=>h.hs)) {} 80 (Hx.start h _) (hret:=bb) (he:=bb) λW A=>?_
  refine lN 10 (hm:=bb) (hk:=bb) ?_
  refine aT (Hs.eng (dr:=true) (λ_ h=>h.hs)) {} 60 (A.below (D1 _ _).drew) (λz j=>k z j.mp) (hx:=bb) (he:=bb) ?_
  rintro z e E j ⟨rfl,C,o,D⟩
  refine ⟨_,0,rfl,gi bb,aL (Hs r (aS a r::eR d.heap.size [(#[.i l,.i rd,.i w,.i f,.i imm],88)]) (ak N C)) (hn:=bb) ?_⟩
  cases g:(c != 0) with
  | true =>
    rw [g,JZ8 rfl] at i
    subst i
    exact Hx.last (Hs.eng (dr:=true) (λ_ h=>h.hs)) {eq:=[(39,an g),(42,cR .i64 (n c rfl g).1)]} 60 (j.step o D) (λW A=>dU _ (n c rfl g).2 at_ A.ht op) (hx:=bb) (he:=bb) (hy:=λ_=>bb)
  | false =>
    rw [g,JZ9 bc] at i
    subst i
    refine ae (Hs.eng (dr:=false) (λ_ h=>h.hs)) {eq:=[(39,an g)]} 60 (j.step o D) (hret:=bb) (he:=bb) λW A=>?_
    refine lN 12 (hm:=bb) (hk:=bb) ?_
    exact Hx.last (Hs.eng (dr:=true) (λ_ h=>h.hs)) {} 60 (A.below (D1 _ _).drew) (λW A=>fw rd (y) _ u v A.ht op.x32 (aN op.ok).1) (hx:=bb) (he:=bb) (hy:=λ_=>bb)
theorem Qq (A:Int) (z:18<=n.op) (D:n.op<=21) (F:U l) (hb:U A) (h:Ht B a r M b d) (u:Gd M): D2 prog 72 #[.p a 0,.agg #[.i n.op,.i n.rd,.i n.a,.i n.b,.i n.imm],.u l,.u A] d (HR B a r M b d (nQ M n l A)):=by
 obtain ⟨w,o,m,i,hh⟩:=n;dsimp only at z D ⊢;obtain ⟨V,E⟩:∃ V,nQ M ⟨w,o,m,i,hh⟩ l A=V:=⟨_,rfl⟩;rw [E];obtain ⟨f,q⟩:∃ f:Nat,f=2^(w-18).toNat:=⟨_,rfl⟩;obtain p|p|p|p:w=18\/w=19\/w=20\/w=21:=ab
 all_goals
  have s:=u.acc l f 3 A
  have at_:=λW (g:Mp B r M b W)=>fY M b B r l f 3 A W g u.len u.mw u.ok ki ab ab F hb
  have v:=λc=>kq (M:=M) (addr:=l) (size:=f) (kind:=3) (x:=A) (c:=c)
  have k:(if ((aH M l f 3 A).2.2 != 0)=true then cH (aH M l f 3 A) 0 l else (aZ (aH M l f 3 A).2.1 0 0 (Uz.wrap ((aH M l f 3 A).2.1.pc+4)),1))=V:=by subst p q;exact E
  clear E
  generalize aH M l f 3 A=X at *
  obtain ⟨y,N,c⟩:=X
  dsimp only at s at_ v k
  refine br (S:=Hs r (aS a r::eR d.heap.size [(#[.i w,.i o,.i m,.i i,.i hh],88)]) (ak M b)) (args:=[.p a 0,.agg #[.i w,.i o,.i m,.i i,.i hh],.u l,.u A]) [(#[.i w,.i o,.i m,.i i,.i hh],88)] func72 (hn:=bb) (hs:=bb) ?_
  refine aP 0 2 (aP 5 3 ?_)
  refine ae (Hs.eng (dr:=false) (λ_ h=>h.hs)) {} 10 (Hx.start h _) (hret:=bb) (he:=bb) λW g=>?_
  refine lN 15 (hm:=bb) (hk:=bb) ?_
  refine aT (Hs.eng (dr:=true) (λ_ h=>h.hs)) {} 60 (g.below (D1 _ _).drew) (λG t=>at_ G t.mp) (hx:=bb) (he:=bb) ?_
  rintro G e J t ⟨rfl,C,H,I⟩
  refine ⟨_,0,rfl,gi bb,aL (Hs r (aS a r::eR d.heap.size [(#[.i w,.i o,.i m,.i i,.i hh],88)]) (ak N C)) (hn:=bb) ?_⟩
  cases j:(c != 0) with
  | true =>
    rw [j,JZ8 rfl] at k
    subst k
    exact Hx.last (Hs.eng (dr:=true) (λ_ h=>h.hs)) {eq:=[(31,an j),(34,cR .i64 (v c rfl j).1)]} 60 (t.step H I) (λW g=>dU _ (v c rfl j).2 l g.ht s) (hx:=bb) (he:=bb) (hy:=λ_=>bb)
  | false =>
    rw [j,JZ9 bc] at k
    subst k
    exact Hx.last (Hs.eng (dr:=true) (λ_ h=>h.hs)) {eq:=[(31,an j)]} 80 (t.step H I) (λW g=>fw 0 0 _ bc bc g.ht s.x32 (aN s.ok).1) (hx:=bb) (he:=bb) (hy:=λ_=>bb)
theorem Tt (w:11<=n.op) (e:n.op<=17) (b:0<=n.rd) (c:n.rd<=31) (hh:U l) (h:Ht B a r M x d) (f:Gd M): D2 prog 71 #[.p a 0,.agg #[.i n.op,.i n.rd,.i n.a,.i n.b,.i n.imm],.u l] d (HR B a r M x d (m9 M n l)):=by
 by_cases k:n.op<=14;·exact Tr n.op n.rd n.a n.b n.imm l w k b c hh h f
 ·exact Ts n.op n.rd n.a n.b n.imm l ab e b c hh h f
theorem Hx.add {y:Kr} (h:Hx B r (y::W) A x d M b L) (cs:Array F3) (t:G1):Hx B r (y::(W++[⟨L.heap.size,cs,t,[]⟩])) A x d M b (L.alloc (.cells cs t)):=by
 have g:=(D1 L.heap.size L).alloc (Nat.le_refl _) (.cells cs t);have f:=h.below g;refine ⟨f.mp,f.kx,λc a=>?_⟩;rw [<- List.cons_append,List.mem_append] at a;rcases a with a | a;·exact f.rows c a
 ·rw [List.mem_singleton.1 a];exact ⟨heap_alloc_new _ _,by have:=h.mp.lt;exact λe=>by dsimp only at e;omega,λq i e=>by have:=h.mp.fam.hi q i _ e;dsimp only at this;omega⟩
theorem NP:ak (gE (iV c k) l) f=(ak (iV c k) f).setIfInBounds 2 (.i l):=rfl
theorem NQ:aF (gE (iV c k) l) f=aF (iV c k) f:=rfl
theorem AG (e:Hx B r W A b d (iV M k) x L):Hx B r W A b d (gE (iV M k) l) x (L.setCell ⟨r,2,none⟩ (.i l)):=e.fld 2 (.i l) (NP M x k l) (NQ M x k l)
theorem Tu (w:Int) (y:3<=n.op) (v:n.op<=10) (b:0<=n.rd) (q:n.rd<=31) (h:Ht B a r M x d) (k:Gd M): D2 prog 70 #[.p a 0,.agg #[.i n.op,.i n.rd,.i n.a,.i n.b,.i n.imm],.u l,.u p,.u w] d (HR B a r M x d (qb M n l p w)):=by
 obtain ⟨V,c⟩:∃ V,qb M n l p w=V:=⟨_,rfl⟩;rw [c];obtain ⟨f,o,s,t,j⟩:=n;dsimp only at y v b q ⊢;unfold qb at c;dsimp only at c;have A:=λW=>wI f l p W;obtain ⟨hh,u⟩:∃ hh,KO f l p=hh:=⟨_,rfl⟩;rw [u] at A;refine br (S:=Hs r (aS a r::eR d.heap.size [(#[.i f,.i o,.i s,.i t,.i j],88)]) (ak M x)) (args:=[.p a 0,.agg #[.i f,.i o,.i s,.i t,.i j],.u l,.u p,.u w]) [(#[.i f,.i o,.i s,.i t,.i j],88)] func70 ?_;refine aP 0 2 (aP 6 3 ?_);by_cases e4:f=4
 ·have m:(f==4):=(by simpa using e4);have e5:¬ 4<f:=ab;have i:decide (4<f)=false:=decide_eq_false e5;rw [show fQ M ⟨f,o,s,t,j⟩ l p w=D4 .andNot .u64 (Uz.wrap (l+w)) 1 from by unfold fQ;dsimp only;rw [JZ8 e4]] at c;cases e:(D4 .and .u64 (D4 .andNot .u64 (Uz.wrap (l+w)) 1) 2 != 0) with
  | true =>rw [e,JZ8 rfl] at c;exact a0s
  | false =>rw [e,JZ9 bc] at c;rw [JZ9 e5] at c;subst c;exact Hx.last (Hs.eng (dr:=true) (λ_ h=>h.hs)) {eq:=[(31,an m),(39,an i),(57,an e)],cv:=[(45,kj λW _=>A W)]} 150 (Hx.start h _) (λW g=>fw o _ _ b q g.ht k.x32 (aN k.ok).1)
 ·have m:(f==4)=false:=(by simpa using e4);by_cases e5:4<f
  ·have i:decide (4<f):=decide_eq_true e5;cases hh with
   | true =>
     rw [show fQ M ⟨f,o,s,t,j⟩ l p w=Uz.wrap (M.pc+w) from by unfold fQ;dsimp only;rw [JZ9 e4,decide_eq_true e5,u];rfl] at c;cases e:(D4 .and .u64 (Uz.wrap (M.pc+w)) 2 != 0) with
     | true =>rw [e,JZ8 rfl] at c;exact a0s
     | false =>rw [e,JZ9 bc] at c;rw [JZ8 e5] at c;subst c;exact Hx.last (Hs.eng (dr:=true) (λ_ h=>h.hs)) {eq:=[(31,an m),(39,an i),(57,an e)],cv:=[(45,kj λW _=>A W)]} 150 (Hx.start h _) (λW g=>fw 0 _ _ bc bc g.ht k.x32 (aN k.ok).1)
   | false =>
     rw [show fQ M ⟨f,o,s,t,j⟩ l p w=Uz.wrap (M.pc+4) from by unfold fQ;dsimp only;rw [JZ9 e4,decide_eq_true e5,u];rfl] at c;cases e:(D4 .and .u64 (Uz.wrap (M.pc+4)) 2 != 0) with
     | true =>rw [e,JZ8 rfl] at c;exact a0s
     | false =>rw [e,JZ9 bc] at c;rw [JZ8 e5] at c;subst c;exact Hx.last (Hs.eng (dr:=true) (λ_ h=>h.hs)) {eq:=[(31,an m),(39,an i),(57,an e)],cv:=[(45,kj λW _=>A W)]} 150 (Hx.start h _) (λW g=>fw 0 _ _ bc bc g.ht k.x32 (aN k.ok).1)
  ·have i:decide (4<f)=false:=decide_eq_false e5;rw [show fQ M ⟨f,o,s,t,j⟩ l p w=Uz.wrap (M.pc+w) from by unfold fQ;dsimp only;rw [JZ9 e4,decide_eq_false e5];rfl] at c;cases e:(D4 .and .u64 (Uz.wrap (M.pc+w)) 2 != 0) with
   | true =>rw [e,JZ8 rfl] at c;exact a0s
   | false =>rw [e,JZ9 bc] at c;rw [JZ9 e5] at c;subst c;exact Hx.last (Hs.eng (dr:=true) (λ_ h=>h.hs)) {eq:=[(31,an m),(39,an i),(57,an e)],cv:=[(45,kj λW _=>A W)]} 150 (Hx.start h _) (λW g=>fw o _ _ b q g.ht k.x32 (aN k.ok).1)
theorem wU (h:Ht B a r M x d) (hh:M.cs.length=22) (m:Bool): D2 prog 109 #[.slice x.ac M.cs.length x.cc,.bool m] d λe c=>e=.returned (.tuple #[.i (dq (M.cs.getD 0 0) m),.u (eE M.cs m)])/\Ht B a r (iV M (M.cs.set 0 (cP (M.cs.getD 0 0) m))) x c/\Kx r (aF M x) (aF (iV M (M.cs.set 0 (cP (M.cs.getD 0 0) m))) x) d c:=by obtain ⟨g,w,b,f⟩:=h.mp.cs hh;rw [w,hh];refine (CJ B g x.cc M.cs m d b).mono λe c ⟨j,k,l⟩=>?_;obtain ⟨n,i⟩:=f c _ (by rw [A8];exact hh) l k;exact ⟨j,h.step n i,i⟩
theorem Km (hx:U F) (h:Ht B a r M x d) (i:Gd M): D2 prog 77 #[.p a 0,.agg #[.i 93,.i l,.i p,.i t,.i y],.u C,.u F] d (HR B a r M x d (kS M ⟨93,l,p,t,y⟩ F)):=by
 obtain ⟨V,A⟩:∃ V,kS M ⟨93,l,p,t,y⟩ F=V:=⟨_,rfl⟩;rw [A];have n:=(aN i.ok).1;have w:=i.x32;refine br (S:=Hs r (aS a r::eR d.heap.size [(#[.i 93,.i l,.i p,.i t,.i y],88)]) (ak M x)) (args:=[.p a 0,.agg #[.i 93,.i l,.i p,.i t,.i y],.u C,.u F]) [(#[.i 93,.i l,.i p,.i t,.i y],88)] func77 ?_;refine aP 0 2 (aP 5 3 ?_);have m:(aR M (pd M.pr) false 0,2)=V:=A;subst m;have hh:M.pr=0\/M.pr=1\/M.pr=3:=by have:=(aN i.ok).2.2.1;unfold bZ at this;simp at this;omega
 refine ae (Hs.eng (dr:=false) (λ_ h=>h.hs)) {} 60 (Hx.start h _) λW e=>?_;refine dt 0 (s:=do pure (.value (<- Instr.buildSlice 56 4 #[(0,.i 8),(1,.i 9),(2,.i 0),(3,.i 11)]))) (v:=.slice (some ⟨W.heap.size,0,none⟩) 4 4) (w':=W.alloc (.cells #[.i 8,.i 9,.i 0,.i 11] 2)) ba ?_;have k:=e.add #[.i 8,.i 9,.i 0,.i 11] 2;refine aL (Hs r (aS a r::(eR d.heap.size [(#[.i 93,.i l,.i p,.i t,.i y],88)]++[⟨W.heap.size,#[.i 8,.i 9,.i 0,.i 11],2,[]⟩])) (ak M x)) ?_;rcases hh with hh | hh | hh;·have j:pd M.pr=8:=(by unfold pd;rw [JZ8 hh]);rw [j];refine ae (Hs.eng (dr:=true) (λ_ h=>h.hs)) {eq:=[(25,cR .i64 hh)],ov:=[(26,kW (a:=some ⟨W.heap.size,0,none⟩) (b:=W.heap.size) (o:=0) 4 4 .i64 0 rfl ⟨ab,ab⟩ underlying56 ba),(27,iP ⟨W.heap.size,0+(0:Int).toNat,none⟩ (.i 8) underlying2 rfl (λX c=>(D8 _ _ _ _ _ _ (c.2 ⟨W.heap.size,#[.i 8,.i 9,.i 0,.i 11],2,[]⟩ di)).trans rfl))]} 60 k λX c=>?_;exact Hx.last (Hs.eng (dr:=true) (λ_ h=>h.hs)) {} 20 c (λW e=>dU 8 bc 0 e.ht i)
 ·have j:pd M.pr=9:=(by unfold pd;rw [JZ9 ab,JZ8 hh]);rw [j];refine ae (Hs.eng (dr:=true) (λ_ h=>h.hs)) {eq:=[(25,cR .i64 hh)],ov:=[(26,kW (a:=some ⟨W.heap.size,0,none⟩) (b:=W.heap.size) (o:=0) 4 4 .i64 1 rfl ⟨ab,ab⟩ underlying56 ba),(27,iP ⟨W.heap.size,0+(1:Int).toNat,none⟩ (.i 9) underlying2 rfl (λX c=>(D8 _ _ _ _ _ _ (c.2 ⟨W.heap.size,#[.i 8,.i 9,.i 0,.i 11],2,[]⟩ di)).trans rfl))]} 60 k λX c=>?_;exact Hx.last (Hs.eng (dr:=true) (λ_ h=>h.hs)) {} 20 c (λW e=>dU 9 bc 0 e.ht i)
 ·have j:pd M.pr=11:=(by unfold pd;rw [JZ9 ab,JZ9 ab]);rw [j];refine ae (Hs.eng (dr:=true) (λ_ h=>h.hs)) {eq:=[(25,cR .i64 hh)],ov:=[(26,kW (a:=some ⟨W.heap.size,0,none⟩) (b:=W.heap.size) (o:=0) 4 4 .i64 3 rfl ⟨ab,ab⟩ underlying56 ba),(27,iP ⟨W.heap.size,0+(3:Int).toNat,none⟩ (.i 11) underlying2 rfl (λX c=>(D8 _ _ _ _ _ _ (c.2 ⟨W.heap.size,#[.i 8,.i 9,.i 0,.i 11],2,[]⟩ di)).trans rfl))]} 60 k λX c=>?_;exact Hx.last (Hs.eng (dr:=true) (λ_ h=>h.hs)) {} 20 c (λW e=>dU 11 bc 0 e.ht i)
theorem Kn (hx:U F) (h:Ht B a r M x d) (hh:Gd M): D2 prog 77 #[.p a 0,.agg #[.i 94,.i l,.i p,.i t,.i y],.u C,.u F] d (HR B a r M x d (kS M ⟨94,l,p,t,y⟩ F)):=by obtain ⟨V,e⟩:∃ V,kS M ⟨94,l,p,t,y⟩ F=V:=⟨_,rfl⟩;rw [e];have g:=(aN hh.ok).1;have i:=hh.x32;refine br (S:=Hs r (aS a r::eR d.heap.size [(#[.i 94,.i l,.i p,.i t,.i y],88)]) (ak M x)) (args:=[.p a 0,.agg #[.i 94,.i l,.i p,.i t,.i y],.u C,.u F]) [(#[.i 94,.i l,.i p,.i t,.i y],88)] func77 ?_;refine aP 0 2 (aP 5 3 ?_);have f:(aR M 3 false M.pc,2)=V:=e;subst f;exact Hx.last (Hs.eng (dr:=true) (λ_ h=>h.hs)) {} 120 (Hx.start h _) (λW j=>dU 3 bc _ j.ht hh)
theorem Ko (hx:U F) (h:Ht B a r M x d) (D:Gd M): D2 prog 77 #[.p a 0,.agg #[.i 95,.i l,.i p,.i t,.i y],.u C,.u F] d (HR B a r M x d (kS M ⟨95,l,p,t,y⟩ F)):=by
 obtain ⟨V,G⟩:∃ V,kS M ⟨95,l,p,t,y⟩ F=V:=⟨_,rfl⟩;rw [G];have u:=(aN D.ok).1;have z:=D.x32;refine br (S:=Hs r (aS a r::eR d.heap.size [(#[.i 95,.i l,.i p,.i t,.i y],88)]) (ak M x)) (args:=[.p a 0,.agg #[.i 95,.i l,.i p,.i t,.i y],.u C,.u F]) [(#[.i 95,.i l,.i p,.i t,.i y],88)] func77 ?_;refine aP 0 2 (aP 5 3 ?_);have j:=λ(W:D3) (c:Ht B a r M x W)=>wU c u false;have w:(M.cs.set 0 (cP (M.cs.getD 0 0) false)).length=22:=by rw [A8];exact u
 have A:(if (((((95:Int)==96))&&(M.pr != 3))||(M.pr==0))=true then (aR M 2 false F,2) else (aZ (gE (iV M (M.cs.set 0 (cP (M.cs.getD 0 0) false))) (dq (M.cs.getD 0 0) false)) 0 0 (eE M.cs false),1))=V:=G;clear G;generalize M.cs.set 0 (cP (M.cs.getD 0 0) false)=n at j w A;generalize dq (M.cs.getD 0 0) false=m at j A;generalize eE M.cs false=E at j A;obtain ⟨L,rd⟩:∃ b,(M.pr != 3)=b:=⟨_,rfl⟩;obtain ⟨K,s⟩:∃ b,(M.pr==0)=b:=⟨_,rfl⟩;rw [rd,s] at A;cases L<;>cases K;·have hh:(aZ (gE (iV M n) m) 0 0 E,1)=V:=A;subst hh;refine ae (Hs.eng (dr:=false) (λ_ h=>h.hs)) {eq:=[(48,an rd),(55,an s)]} 120 (Hx.start h _) λW c=>?_;refine lN 7 ?_;refine aT (Hs.eng (dr:=true) (λ_ h=>h.hs)) {} 60 (c.below (D1 _ _).drew) (λq o=>j q o.ht) ?_;rintro q e I o ⟨rfl,imm,H⟩;refine ⟨_,0,rfl,gi ba,aL (Hs r (aS a r::eR d.heap.size [(#[.i 95,.i l,.i p,.i t,.i y],88)]) (ak (iV M n) x)) ?_⟩;refine ae (Hs.eng (dr:=false) (λ_ h=>h.hs)) {} 60 (o.to imm H) λJ f=>?_;refine bE (bG (i:=2) (T:=2) (v:=.i m) f.mp.row (show 2<14 by decide) ba rfl) ?_;have g:=AG n m f;obtain ⟨N,k⟩:∃ N,N=gE (iV M n) m:=⟨_,rfl⟩;have n32:N.x.length=32:=(by rw [k];unfold gE iV;exact z);have n22:N.cs.length=22:=(by rw [k];unfold gE iV;exact w);rw [<- k] at g ⊢;clear k;refine aL (Hs r (aS a r::eR d.heap.size [(#[.i 95,.i l,.i p,.i t,.i y],88)]) (ak N x)) ?_;exact Hx.last (Hs.eng (dr:=true) (λ_ h=>h.hs)) {cv:=[(76,kj λW (c:Hx B r (aS a r::eR d.heap.size [(#[.i 95,.i l,.i p,.i t,.i y],88)]) M x d N x W)=>nf N x B a r W c.ht)]} 60 g (λW c=>fw 0 0 E bc bc c.ht n32 n22)
 ·have hh:(aR M 2 false F,2)=V:=A;subst hh;exact Hx.last (Hs.eng (dr:=true) (λ_ h=>h.hs)) {eq:=[(48,an rd),(55,an s)]} 120 (Hx.start h _) (λW c=>dU 2 bc F c.ht D)
 ·have hh:(aZ (gE (iV M n) m) 0 0 E,1)=V:=A;subst hh;refine ae (Hs.eng (dr:=false) (λ_ h=>h.hs)) {eq:=[(48,an rd),(55,an s)]} 120 (Hx.start h _) λW c=>?_;refine lN 7 ?_;refine aT (Hs.eng (dr:=true) (λ_ h=>h.hs)) {} 60 (c.below (D1 _ _).drew) (λq o=>j q o.ht) ?_;rintro q e I o ⟨rfl,imm,H⟩;refine ⟨_,0,rfl,gi ba,aL (Hs r (aS a r::eR d.heap.size [(#[.i 95,.i l,.i p,.i t,.i y],88)]) (ak (iV M n) x)) ?_⟩;refine ae (Hs.eng (dr:=false) (λ_ h=>h.hs)) {} 60 (o.to imm H) λJ f=>?_;refine bE (bG (i:=2) (T:=2) (v:=.i m) f.mp.row (show 2<14 by decide) ba rfl) ?_;have g:=AG n m f;obtain ⟨N,k⟩:∃ N,N=gE (iV M n) m:=⟨_,rfl⟩;have n32:N.x.length=32:=(by rw [k];unfold gE iV;exact z);have n22:N.cs.length=22:=(by rw [k];unfold gE iV;exact w);rw [<- k] at g ⊢;clear k;refine aL (Hs r (aS a r::eR d.heap.size [(#[.i 95,.i l,.i p,.i t,.i y],88)]) (ak N x)) ?_;exact Hx.last (Hs.eng (dr:=true) (λ_ h=>h.hs)) {cv:=[(76,kj λW (c:Hx B r (aS a r::eR d.heap.size [(#[.i 95,.i l,.i p,.i t,.i y],88)]) M x d N x W)=>nf N x B a r W c.ht)]} 60 g (λW c=>fw 0 0 E bc bc c.ht n32 n22)
 ·have hh:(aR M 2 false F,2)=V:=A;subst hh;exact Hx.last (Hs.eng (dr:=true) (λ_ h=>h.hs)) {eq:=[(48,an rd),(55,an s)]} 120 (Hx.start h _) (λW c=>dU 2 bc F c.ht D)
theorem Kp (j imm hh A:Int) (hx:U A) (h:Ht B a r M x d) (o:Gd M): D2 prog 77 #[.p a 0,.agg #[.i 96,.i l,.i p,.i j,.i imm],.u hh,.u A] d (HR B a r M x d (kS M ⟨96,l,p,j,imm⟩ A)):=by
 obtain ⟨V,z⟩:∃ V,kS M ⟨96,l,p,j,imm⟩ A=V:=⟨_,rfl⟩;rw [z];have n:=(aN o.ok).1;have y:=o.x32;refine br (S:=Hs r (aS a r::eR d.heap.size [(#[.i 96,.i l,.i p,.i j,.i imm],88)]) (ak M x)) (args:=[.p a 0,.agg #[.i 96,.i l,.i p,.i j,.i imm],.u hh,.u A]) [(#[.i 96,.i l,.i p,.i j,.i imm],88)] func77 ?_;refine aP 0 2 (aP 5 3 ?_);have f:=λ(W:D3) (w:Ht B a r M x W)=>wU w n true;have g:(M.cs.set 0 (cP (M.cs.getD 0 0) true)).length=22:=by rw [A8];exact n
 have k:(if (((((96:Int)==96))&&(M.pr != 3))||(M.pr==0))=true then (aR M 2 false A,2) else (aZ (gE (iV M (M.cs.set 0 (cP (M.cs.getD 0 0) true))) (dq (M.cs.getD 0 0) true)) 0 0 (eE M.cs true),1))=V:=z;clear z;generalize M.cs.set 0 (cP (M.cs.getD 0 0) true)=t at f g k;generalize dq (M.cs.getD 0 0) true=s at f k;generalize eE M.cs true=F at f k;obtain ⟨J,m⟩:∃ b,(M.pr != 3)=b:=⟨_,rfl⟩;obtain ⟨I,rd⟩:∃ b,(M.pr==0)=b:=⟨_,rfl⟩;rw [m,rd] at k;cases J<;>cases I;·have c:(aZ (gE (iV M t) s) 0 0 F,1)=V:=k;subst c;refine ae (Hs.eng (dr:=false) (λ_ h=>h.hs)) {eq:=[(48,an m),(55,an rd)]} 120 (Hx.start h _) λW w=>?_;refine lN 7 ?_;refine aT (Hs.eng (dr:=true) (λ_ h=>h.hs)) {} 60 (w.below (D1 _ _).drew) (λC u=>f C u.ht) ?_;rintro C e K u ⟨rfl,G,H⟩;refine ⟨_,0,rfl,gi ba,aL (Hs r (aS a r::eR d.heap.size [(#[.i 96,.i l,.i p,.i j,.i imm],88)]) (ak (iV M t) x)) ?_⟩;refine ae (Hs.eng (dr:=false) (λ_ h=>h.hs)) {} 60 (u.to G H) λL D=>?_;refine bE (bG (i:=2) (T:=2) (v:=.i s) D.mp.row (show 2<14 by decide) ba rfl) ?_;have E:=AG t s D;obtain ⟨N,q⟩:∃ N,N=gE (iV M t) s:=⟨_,rfl⟩;have n32:N.x.length=32:=(by rw [q];unfold gE iV;exact y);have n22:N.cs.length=22:=(by rw [q];unfold gE iV;exact g);rw [<- q] at E ⊢;clear q;refine aL (Hs r (aS a r::eR d.heap.size [(#[.i 96,.i l,.i p,.i j,.i imm],88)]) (ak N x)) ?_;exact Hx.last (Hs.eng (dr:=true) (λ_ h=>h.hs)) {cv:=[(76,kj λW (w:Hx B r (aS a r::eR d.heap.size [(#[.i 96,.i l,.i p,.i j,.i imm],88)]) M x d N x W)=>nf N x B a r W w.ht)]} 60 E (λW w=>fw 0 0 F bc bc w.ht n32 n22)
 ·have c:(aR M 2 false A,2)=V:=k;exact a0t
 ·have c:(aR M 2 false A,2)=V:=k;exact a0t
 ·have c:(aR M 2 false A,2)=V:=k;exact a0t
theorem Kq (c imm hh A:Int) (hx:U A) (h:Ht B a r M x d) (f:Gd M): D2 prog 77 #[.p a 0,.agg #[.i 97,.i l,.i p,.i c,.i imm],.u hh,.u A] d (HR B a r M x d (kS M ⟨97,l,p,c,imm⟩ A)):=by
 obtain ⟨V,j⟩:∃ V,kS M ⟨97,l,p,c,imm⟩ A=V:=⟨_,rfl⟩;rw [j];have g:=(aN f.ok).1;have m:=f.x32;refine br (S:=Hs r (aS a r::eR d.heap.size [(#[.i 97,.i l,.i p,.i c,.i imm],88)]) (ak M x)) (args:=[.p a 0,.agg #[.i 97,.i l,.i p,.i c,.i imm],.u hh,.u A]) [(#[.i 97,.i l,.i p,.i c,.i imm],88)] func77 ?_;refine aP 0 2 (aP 5 3 ?_);have w:(if (M.pr==0)=true then (aR M 2 false A,2) else (aZ (gD M true) 0 0 (Uz.wrap (M.pc+4)),1))=V:=j;clear j;cases e:(M.pr==0) with
 | true =>rw [e,JZ8 rfl] at w;subst w;exact Hx.last (Hs.eng (dr:=true) (λ_ h=>h.hs)) {eq:=[(84,an e)]} 120 (Hx.start h _) (λW k=>dU 2 bc A k.ht f)
 | false =>rw [e,JZ9 bc] at w;subst w;refine ae (Hs.eng (dr:=false) (λ_ h=>h.hs)) {eq:=[(84,an e)]} 120 (Hx.start h _) λo rd=>?_;refine bE (bG (i:=13) (T:=4) (v:=.bool true) rd.mp.row (show 13<14 by decide) ba rfl) ?_;have n:=rd.fld (M':=gD M true) 13 (.bool true) rfl rfl;refine aL (Hs r (aS a r::eR d.heap.size [(#[.i 97,.i l,.i p,.i c,.i imm],88)]) (ak (gD M true) x)) ?_;exact Hx.last (Hs.eng (dr:=true) (λ_ h=>h.hs)) {} 60 n (λW k=>fw 0 0 _ bc bc k.ht f.x32 g)
theorem Ks (c imm hh A:Int) (hx:U A) (h:Ht B a r M x d) (f:Gd M): D2 prog 77 #[.p a 0,.agg #[.i 98,.i l,.i p,.i c,.i imm],.u hh,.u A] d (HR B a r M x d (kS M ⟨98,l,p,c,imm⟩ A)):=by
 obtain ⟨V,i⟩:∃ V,kS M ⟨98,l,p,c,imm⟩ A=V:=⟨_,rfl⟩;rw [i];have g:=(aN f.ok).1;have k:=f.x32;refine br (S:=Hs r (aS a r::eR d.heap.size [(#[.i 98,.i l,.i p,.i c,.i imm],88)]) (ak M x)) (args:=[.p a 0,.agg #[.i 98,.i l,.i p,.i c,.i imm],.u hh,.u A]) [(#[.i 98,.i l,.i p,.i c,.i imm],88)] func77 ?_;refine aP 0 2 (aP 5 3 ?_);have w:(if (M.pr==0)=true then (aR M 2 false A,2) else (aZ M 0 0 (Uz.wrap (M.pc+4)),1))=V:=i;clear i;cases e:(M.pr==0) with
 | true =>rw [e,JZ8 rfl] at w;subst w;exact Hx.last (Hs.eng (dr:=true) (λ_ h=>h.hs)) {eq:=[(84,an e)]} 120 (Hx.start h _) (λW j=>dU 2 bc A j.ht f)
 | false =>rw [e,JZ9 bc] at w;subst w;exact Hx.last (Hs.eng (dr:=true) (λ_ h=>h.hs)) {eq:=[(84,an e)]} 150 (Hx.start h _) (λW j=>fw 0 0 _ bc bc j.ht f.x32 g)
theorem NR {r:Nat} (j:93<=n.op) (k:n.op<=98) (hx:U p) (h:Ht B a r M x d) (c:Gd M): D2 prog 77 #[.p a 0,.agg #[.i n.op,.i n.rd,.i n.a,.i n.b,.i n.imm],.u l,.u p] d (HR B a r M x d (kS M n p)):=by
 obtain ⟨f,g,hh,e,b⟩:=n;dsimp only at j k ⊢;obtain rfl|rfl|rfl|rfl|rfl|rfl:f=93\/f=94\/f=95\/f=96\/f=97\/f=98:=ab
 ·exact Km g hh e b l p hx h c
 ·exact Kn g hh e b l p hx h c
 ·exact Ko g hh e b l p hx h c
 ·exact Kp g hh e b l p hx h c
 ·exact Kq g hh e b l p hx h c
 ·exact Ks g hh e b l p hx h c
