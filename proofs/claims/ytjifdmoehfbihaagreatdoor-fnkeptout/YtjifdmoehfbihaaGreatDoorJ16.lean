/- Own lemmas. -/
import Derived.Test.YtjifdmoehfbihaaGreatDoorAuj
import Derived.Test.YtjifdmoehfbihaaGreatDoorJ13
import Derived.Test.YtjifdmoehfbihaaGreatDoorJ14
import Derived.Test.YtjifdmoehfbihaaGreatDoorJ15
set_option maxRecDepth 100000
set_option maxHeartbeats 1600000
namespace Go.Proofs.YtjifdmoehfbihaaGreatDoor
open Go.RowKit Tryz
open IntKind renaming u64->Uz
set_option linter.unusedVariables false
variable {M A:MV} {B r a k b:Nat} {n g w:World} {l p:MA} {x d e:Int} {c:List Kr} {f j:List Int} {W:Bool} (L:MV) (m:List Int) (y:Ins) (t:Option Addr) (z F s:Nat) (C:List Int) (D N P R:Int) (V:Bool)
def aL (M:MV) (k:Nat) (i:Bool) (v:Int):MV :=
 ⟨ei (n8 M.cs (du M.cs M.pr k i)) k (mU M.cs (du M.cs M.pr k i) i),M.x,tl (du M.cs M.pr k i),ij M.cs (du M.cs M.pr k i) M.pr (gG k i) M.pc v,M.ram,M.d,M.hd,M.hl,M.wt⟩
def aY (M:MV) (rd x to:Int):MV :=
 ⟨to,if rd=0 then M.x else M.x.set rd.toNat x,M.pr,M.cs.set 21 (Uz.wrap (M.cs.getD 21 0+1)),M.ram,M.d,M.hd,M.hl,M.wt⟩
def cq (M:MV) (h:Bool) (a:Int):MV:=⟨M.pc,M.x,M.pr,M.cs,M.ram,M.d,a,h,M.wt⟩
def fF (M:MV) (b:Bool):MV:=⟨M.pc,M.x,M.pr,M.cs,M.ram,M.d,M.hd,M.hl,b⟩
def iB (M:MV) (l:List Int):MV:=⟨M.pc,M.x,M.pr,l,M.ram,M.d,M.hd,M.hl,M.wt⟩
def gt (M:MV) (p:Int):MV:=⟨M.pc,M.x,p,M.cs,M.ram,M.d,M.hd,M.hl,M.wt⟩
def cS (r:Int × MV × Int) (more:Nat) (v:Int):MV × Int:=(aL r.2.1 ((r.2.2-16).toNat+more) false v,2)
def fS (M:MV) (i:Ins) (a b n:Int):Int :=
 if i.op=4 then bits .andNot .u64 (Uz.wrap (a+n)) 1
 else if (decide (4<i.op)&&!KO i.op a b)=true then Uz.wrap (M.pc+4) else Uz.wrap (M.pc+n)
def nV (M:MV) (i:Ins) (a b n:Int):MV × Int :=
 if (bits .and .u64 (fS M i a b n) 2 != 0)=true then (aL M 0 false (fS M i a b n),2)
 else (aY M (if 4<i.op then 0 else i.rd) (Uz.wrap (M.pc+4)) (fS M i a b n),1)
def jN (op:Int):Nat:=if op-11<4 then 2^(op-11).toNat else 2^(op-15).toNat
def lX (M:MV) (i:Ins) (at_:Int):MV × Int :=
 let r:=aE M at_ (jN i.op) 2 0
 if (r.2.2 != 0)=true then cS r 0 at_
 else (aY r.2.1 i.rd (if i.op-11<4 then au (8*jN i.op) r.1 else r.1) (Uz.wrap (r.2.1.pc+4)),1)
def lY (M:MV) (i:Ins) (at_ b:Int):MV × Int :=
 let r:=aE M at_ (2^(i.op-18).toNat:Nat) 3 b
 if (r.2.2 != 0)=true then cS r 0 at_ else (aY r.2.1 0 0 (Uz.wrap (r.2.1.pc+4)),1)
def bE (op:Int):Nat:=if op-63>=11 then 8 else 4
def na (op:Int):Int:=if op-63>=11 then op-74 else op-63
def cw (M:MV) (va kind:Int):Fd:=bN M.ram M.ram.length M.cs (fO M.cs M.pr kind) va kind
def dC (M:MV) (va kind:Int):MV:=bP M (bp M.ram (cw M va kind))
def Uv (M:MV) (i:Ins) (a:Int):MV × Int :=
 let r:=aE M a (bE i.op) 2 0
 if (r.2.2 != 0)=true then cS r 0 a
 else (aY (cq (dC r.2.1 a 2) true (cw r.2.1 a 2).addr) i.rd (au (8*bE i.op) r.1) (Uz.wrap (M.pc+4)),1)
def VG (M:MV) (i:Ins) (a b:Int) (pa:Int):MV × Int :=
 if (M.hl&&(M.hd==pa))=true then
  (let r:=aE M a (bE i.op) 3 b
   if (r.2.2 != 0)=true then cS r 0 a else (aY (cq r.2.1 false 0) i.rd 0 (Uz.wrap (M.pc+4)),1))
 else (aY (cq M false 0) i.rd 1 (Uz.wrap (M.pc+4)),1)
def QJ (M:MV) (i:Ins) (a b:Int):MV × Int :=
 let r:=aE M a (bE i.op) 2 0
 if (r.2.2 != 0)=true then cS r 2 a
 else
  let q:=aE r.2.1 a (bE i.op) 3 (i8 i.op r.1 b)
  if (q.2.2 != 0)=true then cS q 0 a else (aY q.2.1 i.rd (au (8*bE i.op) r.1) (Uz.wrap (M.pc+4)),1)
def iC (M:MV) (i:Ins) (a b:Int):MV × Int :=
 if (na i.op==0)=true then Uv M i a
 else if (a%(bE i.op:Nat) != 0)=true then (aL M 6 false a,2)
 else if ((cw M a 3).code != 0)=true then (aL (dC M a 3) (cw M a 3).code.toNat false a,2)
 else if (na i.op==1)=true then VG (dC M a 3) i a b (cw M a 3).addr
 else QJ (dC M a 3) i a b
def eD (i:Ins):Bool:=((i.op-87).tmod 3==0)||(i.a != 0)
def j9 (i:Ins) (a:Int):Int:=if 90<=i.op then Uz.wrap i.a else a
def rA (i:Ins) (a old:Int):Int:=if ((i.op-87).tmod 3==1)=true then bits .or .u64 old (j9 i a) else if ((i.op-87).tmod 3==2)=true then bits .andNot .u64 old (j9 i a) else j9 i a
def mJ (M:MV) (i:Ins) (a w:Int):MV × Int :=
 if (!iS M.cs.length M.cs i.imm M.pr||(eD i&&((wrap64 (i.imm.tdiv 1024)).tmod 4==3)))=true then (aL M 2 false w,2)
 else
  let N:=aY M i.rd (de M.cs i.imm) (Uz.wrap (M.pc+4))
  (if eD i=true then iB N (bW N.cs i.imm (rA i a (de M.cs i.imm))) else N,1)
def o9 (p:Int):Nat:=if p=0 then 8 else if p=1 then 9 else 11
def ke (M:MV) (i:Ins) (w:Int):MV × Int :=
 if i.op=93 then (aL M (o9 M.pr) false 0,2)
 else if i.op=94 then (aL M 3 false M.pc,2)
 else if i.op=95\/i.op=96 then
  (if (((i.op==96)&&(M.pr != 3))||(M.pr==0))=true then (aL M 2 false w,2)
   else (aY (gt (iB M (M.cs.set 0 (cO (M.cs.getD 0 0) (i.op==96)))) (dy (M.cs.getD 0 0) (i.op==96))) 0 0 (eQ M.cs (i.op==96)),1))
 else if (M.pr==0)=true then (aL M 2 false w,2)
 else if i.op=97 then (aY (fF M true) 0 0 (Uz.wrap (M.pc+4)),1)
 else (aY M 0 0 (Uz.wrap (M.pc+4)),1)
def dh (M:MV) (i:Ins) (w:Int):MV × Int :=
 let a:=M.x.getD i.a.toNat 0
 let b:=M.x.getD i.b.toNat 0
 let n:=Uz.wrap i.imm
 if i.op=1 then (aY M i.rd n (Uz.wrap (M.pc+4)),1)
 else if i.op=2 then (aY M i.rd (Uz.wrap (M.pc+n)) (Uz.wrap (M.pc+4)),1)
 else if i.op<=10 then nV M i a b n
 else if i.op<=17 then lX M i (Uz.wrap (a+n))
 else if i.op<=21 then lY M i (Uz.wrap (a+n)) b
 else if i.op<=62 then (aY M i.rd (nC i.op a (if (fs i.op).toList=[82] then b else n)) (Uz.wrap (M.pc+4)),1)
 else if i.op<=84 then iC M i a b
 else if i.op<=86 then (aY M 0 0 (Uz.wrap (M.pc+4)),1)
 else if i.op<=92 then mJ M i a w
 else ke M i w
def ee (M:MV):MV × Int :=
 if (M.wt&&(ku M.cs==0))=true then (M,4)
 else if 0<=fW M.cs M.pr then (aL (fF M false) (fW M.cs M.pr).toNat true 0,3)
 else
  let r:=aE (fF M false) M.pc 4 1 0
  if (r.2.2 != 0)=true then cS r 0 r.2.1.pc
  else match Ca r.1 with
   | none=>(aL r.2.1 2 false r.1,2)
   | some i=>dh r.2.1 i r.1
theorem Dg (h:lN M=true) {f:List Int} (e:f.getD 9 0=M.cs.getD 9 0):(bits .and .u64 (f.getD 9 0) 2184==dO M.d)=true:=by rw [e];exact h
theorem QK (p t pc v:Int):(ij m V p t pc v).getD 9 0=m.getD 9 0:=by
 cases V;·show ((((m.set 7 t).set 6 (bits .andNot .u64 pc 3)).set 8 v).set 0 (mg (m.getD 0 0) p)).getD 9 0=_;rw [cR _ _ _ _ ab,cR _ _ _ _ ab,cR _ _ _ _ ab,cR _ _ _ _ ab]
 ·show ((((m.set 13 t).set 12 (bits .andNot .u64 pc 3)).set 14 v).set 0 (lA (m.getD 0 0) (p==1))).getD 9 0=_;rw [cR _ _ _ _ ab,cR _ _ _ _ ab,cR _ _ _ _ ab,cR _ _ _ _ ab]
theorem Kg:U (ei D N V):=by
 cases V;·exact ah .andNot D 1
 ·exact aT (bits .andNot .u64 D 1+Uz.wrap (4*N))
theorem Kh:cg (tl V)=true:=by cases V<;>rfl
theorem Gd.trap (h:Gd M) (hk:k<16) (i:Bool) (hv:U x):Gd (aL M k i x):=by
 obtain ⟨n,e,o,f,g,j,l⟩:=eU h.ok;obtain ⟨b,a,c,_,_,_⟩:=aC h.ok;have d:fq 4 (n8 M.cs (du M.cs M.pr k i))=true\/fq 10 (n8 M.cs (du M.cs M.pr k i))=true:=by
  cases du M.cs M.pr k i;·exact Or.inl (eC a 4 ab)
  ·exact Or.inr (eC a 10 ab)
 have m:=Nh M.cs b h.mw.cs a (du M.cs M.pr k i) M.pr M.pc x c h.pc k hk i;refine ⟨lf (M:=aL M k i x) (by show (bits .and .u64 (ei _ _ _) 3==0)=true;rw [WW _ _ _ d];rfl) e ?_ f g j (Dg l (QK _ _ _ _ _ _)),⟨Qn _ h.mw.cs _ _ _ _ hv _ hk _,h.mw.ram,h.mw.xs,h.mw.ys⟩,h.ux,Kg _ _ _,h.hd⟩;show bj (ij M.cs _ _ _ _ _).length (ij M.cs _ _ _ _ _) (tl _)=true;unfold bj;rw [lR,b,Kh,Bool.and_true];exact m
theorem Gd.done (h:Gd M) {to:Int} (o:0<=d) (p:d<=31) (hx:U x) (q:U to) (h4:bits .and .u64 to 3=0):Gd (aY M d x to):=by
 obtain ⟨_,b,r,f,l,m,n⟩:=eU h.ok;obtain ⟨c,i,k,_,_,_⟩:=aC h.ok;unfold gA at b;rw [Bool.and_eq_true,decide_eq_true_eq] at b;have rd:U (Uz.wrap (M.cs.getD 21 0+1)):=aT _;have g:bo 22 (M.cs.set 21 (Uz.wrap (M.cs.getD 21 0+1)))=true:=cE M.cs c i 21 ab _ (beq_self_eq_true _);have a:(if d=0 then M.x else M.x.set d.toNat x).length=32/\((if d=0 then M.x else M.x.set d.toNat x).getD 0 0==0)=true/\∀ j,U ((if d=0 then M.x else M.x.set d.toNat x).getD j 0):=by
  by_cases e:d=0;·rw [if_pos e];exact ⟨b.1,b.2,h.ux⟩
  ·rw [if_neg e];refine ⟨by rw [List.length_set];exact b.1,by rw [cR _ _ _ _ ab];exact b.2,λj=>?_⟩;rw [List.getD_eq_getElem?_getD,List.getElem?_set];split
   ·split;·exact hx
    ·exact ⟨bc,bc⟩
   ·have:=h.ux j;rw [List.getD_eq_getElem?_getD] at this;exact this
 refine ⟨lf (M:=aY M d x to) (by show (bits .and .u64 to 3==0)=true;rw [h4];rfl) ?_ ?_ f l m (Dg n (cR _ _ _ _ ab)),⟨?_,h.mw.ram,h.mw.xs,h.mw.ys⟩,a.2.2,q,h.hd⟩;·show gA (if d=0 then M.x else M.x.set d.toNat x).length (if d=0 then M.x else M.x.set d.toNat x)=true;unfold gA;rw [a.2.1,decide_eq_true a.1];rfl
 ·show bj (M.cs.set 21 _).length (M.cs.set 21 _) M.pr=true;unfold bj;rw [List.length_set,c,k,Bool.and_true];exact g
 ·intro j;show U ((M.cs.set 21 (Uz.wrap (M.cs.getD 21 0+1))).getD j 0);rw [List.getD_eq_getElem?_getD,List.getElem?_set];split
  ·split;·exact rd
   ·exact ⟨bc,bc⟩
  ·have:=h.mw.cs j;rw [List.getD_eq_getElem?_getD] at this;exact this
theorem Gd.hold (h:Gd M) (k:U x) (hb:W=true\/x=0):Gd (cq M W x):=by obtain ⟨c,d,f,g,i,l,j⟩:=eU h.ok;exact ⟨lf (M:=cq M W x) c d f g i (by show (W||(x==0))=true;rcases hb with e|e<;>rw [e]<;>simp) j,⟨h.mw.cs,h.mw.ram,h.mw.xs,h.mw.ys⟩,h.ux,h.pc,k⟩
theorem Gd.wait (h:Gd M) (b:Bool):Gd (fF M b):=by obtain ⟨a,c,d,e,f,g,i⟩:=eU h.ok;exact ⟨lf (M:=fF M b) a c d e f g i,⟨h.mw.cs,h.mw.ram,h.mw.xs,h.mw.ys⟩,h.ux,h.pc,h.hd⟩
structure Ht (B hh r:Nat) (M:MV) (A:MA) (W:World):Prop where
 row:W.heap[hh]?=some (.cells #[.p r 0,.slice none 0 0] 61 (0,0))
 mp:Mp B r M A W
 ne:hh≠r
 nq:∀ q ∈ aH M A,q.v.ownBlock≠some hh
theorem Ht.lt (h:Ht B a r M l n):a<n.heap.size:=(Array.getElem?_eq_some_iff.1 h.row).1
theorem Ht.step (h:Ht B a r M l n) (M':Mp B r A p g) (k:Kx r (aH M l) (aH A p) n g):Ht B a r A p g :=
 ⟨(k.block a h.lt h.ne h.nq).trans h.row,M',h.ne,λq d e=>by obtain ⟨f,c,b⟩:=k.own q d a e h.lt;exact h.nq f c b⟩
theorem Ht.below (h:Ht B a r M l n) (hb:Bw n g):Ht B a r M l g:=h.step (h.mp.below hb) (Kx.of_below hb)
theorem Ht.cells (h:Ht B a r M l n):n.cell? ⟨a,0,none⟩=some (.p r 0)/\n.cell? ⟨a,1,none⟩=some (.slice none 0 0):=by simp [World.cell?,h.row]
theorem Mp.cs {r:Nat} (h:Mp B r M l w) (i:M.cs.length=22):∃ g,l.ac=some ⟨g,0,none⟩/\eG w B g l.cc M.cs /\ ∀ (c:World) (A:List Int),A.length=22->w.grownBy c (some g)->eG c B g l.cc A->Mp B r (iB M A) l c/\Kx r (aH M l) (aH (iB M A) l) w c:=by
 have m:aK l.ac M.cs.length l.cc M.cs ∈ aH M l:=dv
 have v:=h.fam.own _ m;have f:∃ g,l.ac=some ⟨g,0,none⟩:=by
  rcases v.2 with ⟨e,o⟩|⟨u,cap,x,e,_⟩;·have:M.cs.length=0:=o;omega
  ·have e2:Value.slice l.ac M.cs.length l.cc=.slice (some ⟨u,0,none⟩) M.cs.length cap:=e;injection e2 with e3
   exact ⟨u,e3⟩
 obtain ⟨g,f⟩:=f;have p:eG w B g l.cc M.cs:=by have:w.ownsRow B 22 1 (.slice l.ac M.cs.length l.cc) M.cs.length (M.cs.map (Value.int .u64)):=v;rw [f,i] at this;exact this
 refine ⟨g,f,p,λc A D j n=>?_⟩;have k:w.grownBy c (aK l.ac M.cs.length l.cc M.cs).v.ownBlock:=by have e:(aK l.ac M.cs.length l.cc M.cs).v.ownBlock=some g:=(by show (Value.slice l.ac M.cs.length l.cc).ownBlock=_;rw [f];rfl);rw [e];exact j
 have t:c.ownsRow B 22 1 (aK l.ac M.cs.length l.cc M.cs).v M.cs.length (A.map (Value.int .u64)):=by show c.ownsRow B 22 1 (.slice l.ac M.cs.length l.cc) _ _;rw [f,i];exact n
 have d:=bz.markL (L1:=[aK l.ax M.x.length l.cx M.x]) (L2:=[aF l.ar M.ram.length l.cr M.ram,aF l.ai M.d.xs.length l.ci M.d.xs,aF l.ao M.d.ys.length l.co M.d.ys]) (r:=aK l.ac M.cs.length l.cc M.cs) h.fam k _ t;have a:A.length=M.cs.length:=ab
 have b:=jB (M:=M) (M':=iB M A) (A:=l) rfl a rfl rfl rfl;have hF:bz B w.heap.size c (aH (iB M A) l):=by unfold aH iB;dsimp only;rw [a];exact d.1
 refine ⟨⟨?_,hF.low (Nat.le_refl _) j.size,λq s e=>?_,h.lo⟩,Kx.of_keepL d.2 b⟩;·have z:c.heap[r]?=w.heap[r]?:=d.2.block r h.lt (λq s e=>h.ne q s e);rw [z,h.row];unfold aj iB;dsimp only;rw [a]
 ·obtain ⟨C,y,o⟩:=b q s;exact h.ne C y (by rw [o];exact e)
theorem Ht.atX (h:Ht B a r M l n) (d:M.x.length=32):∃ b,l.ax=some ⟨b,0,none⟩/\∀ j,j<32->n.cell? ⟨b,j,none⟩=some (.u (M.x.getD j 0))/\n.frozen? ⟨b,j,none⟩=false:=by have hh:=h.mp.xrow;rw [d] at hh;obtain ⟨b,c,e,g⟩:=jV hh ab;simp only [Value.slice.injEq,true_and] at e;obtain ⟨f,e2⟩:=e;refine ⟨b,f,λj i=>?_⟩;rw [f] at hh;refine ⟨?_,hh.frozenAt j⟩;rw [hh.cellAt j ab];rw [List.getElem?_map,List.getElem?_eq_getElem (show j<M.x.length by omega),List.getD_eq_getElem?_getD,List.getElem?_eq_getElem (show j<M.x.length by omega)];rfl
theorem Ht.atC (h:Ht B a r M l n) (d:M.cs.length=22):∃ b,l.ac=some ⟨b,0,none⟩/\∀ j,j<22->n.cell? ⟨b,j,none⟩=some (.u (M.cs.getD j 0))/\n.frozen? ⟨b,j,none⟩=false:=by have hh:n.ownsRow B 22 1 (.slice l.ac M.cs.length l.cc) M.cs.length (M.cs.map (Value.int .u64)):=h.mp.fam.own (aK l.ac M.cs.length l.cc M.cs) dv;rw [d] at hh;obtain ⟨b,c,e,g⟩:=jV hh ab;simp only [Value.slice.injEq,true_and] at e;obtain ⟨f,e2⟩:=e;refine ⟨b,f,λj i=>?_⟩;rw [f] at hh;refine ⟨?_,hh.frozenAt j⟩;rw [hh.cellAt j ab];rw [List.getElem?_map,List.getElem?_eq_getElem (show j<M.cs.length by omega),List.getD_eq_getElem?_getD,List.getElem?_eq_getElem (show j<M.cs.length by omega)];rfl
theorem xj (h:Ht B a r M l g) (q:Gd M) (k:Nat) (hk:k<16) (i:Bool) (v:Int): Calls prog 74 #[.slice l.ac M.cs.length l.cc,.i M.pr,.u M.pc,.i k,.bool i,.u v] g λe c=>e=.returned (.tuple #[.i (aL M k i v).pr,.u (aL M k i v).pc])/\Ht B a r (iB M (aL M k i v).cs) l c/\Kx r (aH M l) (aH (iB M (aL M k i v).cs) l) g c:=by obtain ⟨hh,p,f,_,_,_⟩:=aC q.ok;obtain ⟨w,d,b,j⟩:=h.mp.cs hh;rw [d,hh];refine (Cd B w l.cc M.cs M.pr M.pc v f k hk i g b).mono λe c ⟨m,n,o⟩=>?_;obtain ⟨s,A⟩:=j c _ (by rw [lR];exact hh) o n;exact ⟨m,h.step s A,A⟩
theorem nf (A:MA) (B hh r:Nat) (w:World) (h:Ht B hh r L A w): CE 75 #[.p hh 0] w (.tuple #[]):=by obtain ⟨c,d⟩:=h.cells;clear h;go_enter func75,ntmps75;go_wp2_with fail;exact bodyPost_end (results_none rfl _ _ _) rfl ⟨rfl,rfl⟩
def aR (hh r:Nat):Kr:=⟨hh,#[.p r 0,.slice none 0 0],61,[(0,1)]⟩
def fd (N:Nat):List (Array Value × TypeId)->List Kr
 | []=>[]
 | x::l=>⟨N,x.1,x.2,[]⟩::fd (N+1) l
theorem Dh {x:Kr}:∀ {l:List (Array Value × TypeId)} {N:Nat},x ∈ fd N l->∃ i y,l[i]?=some y/\x.b=N+i/\x.cs=y.1/\x.t=y.2
 | [],_,h=>l7
 | y::l,N,h=>by
   rcases List.mem_cons.1 h with rfl|h
   ·exact ⟨0,y,rfl,rfl,rfl,rfl⟩
   ·obtain ⟨i,z,a,c,b⟩:=Dh h
    exact ⟨i+1,z,oi,ab,b⟩
theorem Hx.start (h:Ht B a r M l n) (bs:List (Array Value × TypeId)):Hx B r (aR a r::fd n.heap.size bs) M l n M l (bT n bs):=by
 obtain ⟨d,hh⟩:=Bs.start n bs;refine ⟨h.mp.below hh,Kx.of_below hh,λx b=>?_⟩;rcases List.mem_cons.1 b with rfl | b;·exact ⟨br hh h.row,h.ne,h.nq⟩
 ·obtain ⟨i,y,c,e2,e3,e4⟩:=Dh b;have f:=h.mp.lt;refine ⟨by rw [e2,e3,e4];exact d i y c,ab,λq g e=>?_⟩;have:=h.mp.fam.hi q g _ e;omega
theorem Hx.ht (h:Hx B r (aR a r::c) M l n A p g):Ht B a r A p g:=by obtain ⟨b,L,d⟩:=h.rows (aR a r) cp;exact ⟨b,h.mp,L,d⟩
theorem Hx.to {M2:MV} {hh:MA} {W2:World} (h:Hx B r (aR a r::c) M l n A p g) (k:Ht B a r M2 hh W2) (L:Kx r (aH A p) (aH M2 hh) g W2):Hx B r (aR a r::c) M l n M2 hh W2:=h.step k.mp L
def HR (B hh r:Nat) (M:MV) (A:MA) (w:World) (R:MV × Int) (e:Ending) (w':World):Prop:=e=.returned (.i R.2)/\∃ a,Ht B hh r R.1 a w'/\Kx r (aH M A) (aH R.1 a) w w'
theorem Hx.hr (h:Hx B r (aR a r::c) M l w A p n) (k:Int):HR B a r M l w (A,k) (.returned (.i k)) n:=⟨rfl,p,h.ht,h.kx⟩
theorem dZ (hk:z<16) (v:Int) (h:Ht B a r M l n) (w:Gd M): Calls prog 77 #[.p a 0,.i z,.u v] n (HR B a r M l n (aL M z false v,2)):=by
 refine bD (S:=Hx B r [aR a r] M l n M l) (args:=[.p a 0,.i z,.u v]) [] func77 ?_;refine aN 0 2 ?_;refine ae (Hx.eng (dr:=false)) {} 10 (Hx.start h []) λW b=>?_;have o:(aL M z false v).cs.length=M.cs.length:=lR _ _ _ _ _ _;have d:aj (iB M (aL M z false v).cs) l=aj M l:=by unfold aj iB;dsimp only;rw [o]
 refine aJ (Hs r [aR a r] (aj M l)) ?_;refine lJ 37 ?_;refine aW (Hs.eng (dr:=true) (λ_ h=>h.hs)) {} 100 (b.below (Below.refl _ _).drew) (λg c=>xj c.ht w z hk false v) ?_;rintro g e q c ⟨rfl,j,p⟩;have hh:=c.to j p;refine ⟨_,0,rfl,λ_=>d ▸ hh.hs,?_⟩;refine ae (Hs.eng (dr:=true) (λ_ h=>d ▸ h.hs)) {} 40 hh λs hh=>?_;refine bM (bJ (i:=2) (T:=2) (v:=.i (aL M z false v).pr) hh.mp.row (show 2<14 by decide) ba rfl) ?_;have A:=hh.fld (M':=gt (iB M (aL M z false v).cs) (aL M z false v).pr) 2 (.i (aL M z false v).pr) rfl rfl;refine aJ (Hx B r [aR a r] M l n (gt (iB M (aL M z false v).cs) (aL M z false v).pr) l) ?_;refine ae (Hx.eng (dr:=true)) {} 40 A λu f=>?_;refine bM (bJ (i:=0) (T:=22) (v:=.u (aL M z false v).pc) f.mp.row (show 0<14 by decide) ba rfl) ?_;have m:=f.fld (M':=aL M z false v) 0 (.u (aL M z false v).pc) rfl rfl;refine aJ (Hx B r [aR a r] M l n (aL M z false v) l) ?_;exact bm (t:=6) (v:=.i 2) (Hx.eng (dr:=true)) {cv:=[(47,kj λW b=>nf (aL M z false v) l B a r W b.ht)]} 40 m λW b=>b.hr 2
theorem fu (J:0<=D) (K:D<=31) (h:Ht B a r M l n) (f:M.x.length=32) (k:M.cs.length=22): Calls prog 79 #[.p a 0,.i D,.u N,.u P] n (HR B a r M l n (aY M D N P,1)):=by
 have p:=Hx.start h [];have fin:∀ (S:World->Prop) (x:MV) (W:World),Hx B r [aR a r] M l n x l W->x.x.length=32->x.cs=M.cs->⟨P,x.x,M.pr,M.cs.set 21 (Uz.wrap (M.cs.getD 21 0+1)),M.ram,M.d,M.hd,M.hl,M.wt⟩=aY M D N P->(x.pr=M.pr/\x.ram=M.ram/\x.d=M.d/\x.hd=M.hd/\x.hl=M.hl/\x.wt=M.wt)->Wg prog S (bodyPost prog Tryz.f79 (HR B a r M l n (aY M D N P,1))) Tryz.f79.ntmps [.code (aw 2 (aM Tryz.f79))] [(0,.p a 0,2),(3,.u P,0)] W:=by
  intro S x W y L z C I;obtain ⟨o,A,U,O,rd,Z,to,Q,V⟩:=x;obtain ⟨rfl,rfl,rfl,rfl,rfl,rfl⟩:=I;dsimp only at L z C;subst z;obtain ⟨b,g,j⟩:=y.ht.atC k;refine aJ (Hx B r [aR a r] M l n ⟨o,A,M.pr,M.cs,M.ram,M.d,M.hd,M.hl,M.wt⟩ l) ?_;refine ae (Hx.eng (dr:=false)) {} 40 y λX w=>?_;refine bM (bJ (i:=0) (T:=22) (v:=.u P) w.mp.row (show 0<14 by decide) ba rfl) ?_;have G:=w.fld (M':=⟨P,A,M.pr,M.cs,M.ram,M.d,M.hd,M.hl,M.wt⟩) 0 (.u P) rfl rfl;refine aJ (Hx B r [aR a r] M l n ⟨P,A,M.pr,M.cs,M.ram,M.d,M.hd,M.hl,M.wt⟩ l) ?_;refine ae (Hx.eng (dr:=false)) {} 40 G λY H=>?_;refine uI ?_;have m:∀ W,Hx B r [aR a r] M l n ⟨P,A,M.pr,M.cs,M.ram,M.d,M.hd,M.hl,M.wt⟩ l W->W.cell? ⟨b,0+(21:Int).toNat,none⟩=some (.u (M.cs.getD 21 0))/\W.frozen? ⟨b,0+(21:Int).toNat,none⟩=false:=λW c=>by obtain ⟨F,d,hh⟩:=c.ht.atC k;rw [g] at d;cases d;exact hh 21 ab
  refine ae (Hx.eng (dr:=true)) {ov:=[(42,kJ M.cs.length l.cc .i64 21 g ⟨ab,ab⟩ underlying23 ba),(43,je ⟨b,0+(21:Int).toNat,none⟩ (.u (M.cs.getD 21 0)) underlying22 rfl (λW c=>(m W c).1)),(45,kJ M.cs.length l.cc .i64 21 g ⟨ab,ab⟩ underlying23 ba)]} 60 (H.below (Below.refl _ _).drew) λE s=>?_;refine bM (iD (T:=22) (v:=.u (Uz.wrap (M.cs.getD 21 0+1))) (m E s) ba rfl) ?_;have u:=s.setC b g 21 (Uz.wrap (M.cs.getD 21 0+1));rw [show cM (⟨P,A,M.pr,M.cs,M.ram,M.d,M.hd,M.hl,M.wt⟩:MV) (M.cs.set 21 (Uz.wrap (M.cs.getD 21 0+1)))=aY M D N P from C] at u;refine aJ (Hx B r [aR a r] M l n (aY M D N P) l) ?_;exact bm (t:=8) (v:=.i 1) (Hx.eng (dr:=true)) {} 40 u λW c=>c.hr 1
 refine bD (S:=Hx B r [aR a r] M l n M l) (args:=[.p a 0,.i D,.u N,.u P]) [] func79 ?_;refine aN 0 2 ?_;by_cases e:D=0;·subst e;refine ae (Hx.eng (dr:=false)) {} 8 p λW c=>?_;exact af _ _ (fin _ M W c f rfl rfl ⟨rfl,rfl,rfl,rfl,rfl,rfl⟩)
 ·have q:(D != 0)=true:=(by simpa using e);obtain ⟨b,g,j⟩:=h.atX f;have m:∀ W,Hx B r [aR a r] M l n M l W->W.cell? ⟨b,0+D.toNat,none⟩=some (.u (M.x.getD (0+D.toNat) 0))/\W.frozen? ⟨b,0+D.toNat,none⟩=false:=λW c=>by obtain ⟨F,d,hh⟩:=c.ht.atX f;rw [g] at d;cases d;exact hh (0+D.toNat) ab
  refine ae (Hx.eng (dr:=false)) {eq:=[(10,ak q)],ov:=[(20,kJ M.x.length l.cx .i64 D g ⟨ab,ab⟩ underlying23 ba)]} 40 p λW c=>?_;refine bM (iD (T:=22) (v:=.u N) (m W c) ba rfl) ?_;have w:=c.setX b g (0+D.toNat) N;refine an (R:=[]) trivial {} 1 ?_;refine af _ _ (fin _ _ _ w (by show (M.x.set _ _).length=32;rw [List.length_set];exact f) rfl ?_ ⟨rfl,rfl,rfl,rfl,rfl,rfl⟩);unfold aY xM;rw [if_neg e,Nat.zero_add]
theorem Hx.last {P:Program} {fn:Func} {S:World->Prop} {R:List Rw} {V:MV × Int} {f:List KI} {F:Fr} (E:n6 P S (Hx B r (aR a r::c) M l n A p) R W (bodyPost P fn (HR B a r M l n V))) (H:Hn P S (Hx B r (aR a r::c) M l n A p)) (m:Nat) (hS:Hx B r (aR a r::c) M l n A p g) {args:Array Value} (j:∀ g,Hx B r (aR a r::c) M l n A p g->Calls P b args g (HR B a r A p g V)) {t:Nat} (hr:fn.results=#[.tmp t]:=by rfl) (hx:((bq P R H k W m f F).1.1,Pa P k (bq P R H k W m f F).1.2.2 (bq P R H k W m f F).1.2.1,zL (bq P R H k W m f F).1.2.2 (bq P R H k W m f F).1.2.1,io (pq (bq P R H k W m f F).1.2.2 (bq P R H k W m f F).1.2.1))=(false,some (b,args),false,true):=by kernel_rfl) (he:(bq P R H k W m f F).2.map Prod.fst=(bq P R H k W m f F).2.map Prod.snd:=by kernel_rfl) (hy:∀ J:World->Prop,(λ(y:(Bool × List KI × Fr) × List (Oe × Oe))=>(y.1.1,(lk y.1.2.2 t).map Prod.fst,y.2.map Prod.fst)) (bq P [] ({}:Hn P (λ_=>True) J) k true 20 (pq (bq P R H k W m f F).1.2.2 (bq P R H k W m f F).1.2.1) (qA (bq P R H k W m f F).1.2.2 (bq P R H k W m f F).1.2.1 (.i V.2) 0))=(true,some (.i V.2),[]):=by intro _;kernel_rfl): Wg P S (bodyPost P fn (HR B a r M l n V)) k f F g:=by simp only [Prod.mk.injEq] at hx;refine aW E H m hS j (hx:=vw) (he:=he) ?_;rintro o e w d ⟨rfl,L,dr,C⟩;refine ⟨_,0,rfl,gE hx.2.2.1,?_⟩;have i:=d.to dr C;refine aJ (λ_=>True) (hn:=hx.2.2.2) ?_;have hh:=hy (Hx B r (aR a r::c) M l n V.1 L);simp only [Prod.mk.injEq] at hh;refine bm (R:=[]) (t:=t) (v:=.i V.2) (J:=Hx B r (aR a r::c) M l n V.1 L) ⟨λ_ _=>trivial,λ_ _ x hx=>(by cases hx),λ_ g h=>h.below (Below.refl _ _).drew,cJ⟩ {} 20 i (hv:=by rw [hh.1,hh.2.1]) (he:=by rw [List.map_eq_nil_iff.1 hh.2.2];rfl) (hr:=hr) λg N=>⟨rfl,L,N.ht,N.kx⟩
theorem Gd.x32 (h:Gd M):M.x.length=32:=by have:=(eU h.ok).2.1;unfold gA at this;rw [Bool.and_eq_true,decide_eq_true_eq] at this;exact this.1
theorem kq {M:MV} {addr size kind x c:Int} (a:(aE M addr size kind x).2.2=c) (hn:(c != 0)=true):IntKind.i64.wrap (c-16)=(((c-16).toNat:Nat):Int)/\(c-16).toNat<16:=by
 have h:=Nv M addr size kind x;rw [a] at h;rcases h with h|⟨d,b,e⟩;·rw [h] at hn;cases hn
 ·rw [IntKind.wrap_i64];omega
theorem TO (imm at_:Int) (j:11<=D) (o:D<=14) (u:0<=N) (v:N<=31) (t:U at_) (h:Ht B a r M l n) (m:Gd M): Calls prog 81 #[.p a 0,.agg #[.i D,.i N,.i P,.i R,.i imm],.u at_] n (HR B a r M l n (lX M ⟨D,N,P,R,imm⟩ at_)):=by
 obtain ⟨V,s⟩:∃ V,lX M ⟨D,N,P,R,imm⟩ at_=V:=⟨_,rfl⟩;rw [s];obtain ⟨hh,q⟩:∃ hh,hh=jN D:=⟨_,rfl⟩;obtain p|p|p|p:D=11\/D=12\/D=13\/D=14:=ab
 all_goals
  have A:=m.acc at_ hh 2 0
  have k:=λW (b:Mp B r M l W)=>gc M l B r at_ hh 2 0 W b m.len m.mw m.ok j1 ab ab t ⟨bc,bc⟩
  have w:=λc=>kq (M:=M) (addr:=at_) (size:=hh) (kind:=2) (x:=0) (c:=c)
  have i:(if ((aE M at_ hh 2 0).2.2 != 0)=true then cS (aE M at_ hh 2 0) 0 at_ else (aY (aE M at_ hh 2 0).2.1 N (au (8*hh) (aE M at_ hh 2 0).1) (Uz.wrap ((aE M at_ hh 2 0).2.1.pc+4)),1))=V:=by subst p q;exact s
  clear s
  generalize aE M at_ hh 2 0=X at *
  obtain ⟨y,rd,c⟩:=X
  dsimp only at A k w i
  refine bD (S:=Hs r (aR a r::fd n.heap.size [(#[.i D,.i N,.i P,.i R,.i imm],69)]) (aj M l)) (args:=[.p a 0,.agg #[.i D,.i N,.i P,.i R,.i imm],.u at_]) [(#[.i D,.i N,.i P,.i R,.i imm],69)] func81 (hn:=bb) (hs:=bb) ?_
  refine aN 0 2 (aN 4 3 ?_)
  refine ae (Hs.eng (dr:=false) (λ_ h=>h.hs)) {} 80 (Hx.start h _) (hret:=bb) (he:=bb) λW b=>?_
  refine lJ 10 (hm:=bb) (hk:=bb) ?_
  refine aW (Hs.eng (dr:=true) (λ_ h=>h.hs)) {} 60 (b.below (Below.refl _ _).drew) (λz j=>k z j.mp) (hx:=bb) (he:=bb) ?_
  rintro z e E j ⟨rfl,C,o,op⟩
  refine ⟨_,0,rfl,gE bb,aJ (Hs r (aR a r::fd n.heap.size [(#[.i D,.i N,.i P,.i R,.i imm],69)]) (aj rd C)) (hn:=bb) ?_⟩
  cases g:(c != 0) with
  | true =>
    rw [g,if_pos rfl] at i
    subst i
    exact Hx.last (Hs.eng (dr:=true) (λ_ h=>h.hs)) {eq:=[(39,ak g),(42,dP .i64 (w c rfl g).1)]} 60 (j.step o op) (λW b=>dZ _ (w c rfl g).2 at_ b.ht A) (hx:=bb) (he:=bb) (hy:=λ_=>bb)
  | false =>
    rw [g,if_neg bc] at i
    subst i
    refine ae (Hs.eng (dr:=false) (λ_ h=>h.hs)) {eq:=[(39,ak g)],cv:=[(51,kj λW _=>eE y (8*hh) j1 j1 W)]} 60 (j.step o op) (hret:=bb) (he:=bb) λW b=>?_
    refine lJ 12 (hm:=bb) (hk:=bb) ?_
    exact Hx.last (Hs.eng (dr:=true) (λ_ h=>h.hs)) {} 60 (b.below (Below.refl _ _).drew) (λW b=>fu N (au (8*hh) y) _ u v b.ht A.x32 (aC A.ok).1) (hx:=bb) (he:=bb) (hy:=λ_=>bb)
theorem TP (imm at_:Int) (j:15<=D) (o:D<=17) (u:0<=N) (v:N<=31) (t:U at_) (h:Ht B a r M l n) (m:Gd M): Calls prog 81 #[.p a 0,.agg #[.i D,.i N,.i P,.i R,.i imm],.u at_] n (HR B a r M l n (lX M ⟨D,N,P,R,imm⟩ at_)):=by
 obtain ⟨V,s⟩:∃ V,lX M ⟨D,N,P,R,imm⟩ at_=V:=⟨_,rfl⟩;rw [s];obtain ⟨hh,q⟩:∃ hh,hh=jN D:=⟨_,rfl⟩;obtain p|p|p:D=15\/D=16\/D=17:=ab
 all_goals
  have A:=m.acc at_ hh 2 0
  have k:=λW (b:Mp B r M l W)=>gc M l B r at_ hh 2 0 W b m.len m.mw m.ok j1 ab ab t ⟨bc,bc⟩
  have w:=λc=>kq (M:=M) (addr:=at_) (size:=hh) (kind:=2) (x:=0) (c:=c)
  have i:(if ((aE M at_ hh 2 0).2.2 != 0)=true then cS (aE M at_ hh 2 0) 0 at_ else (aY (aE M at_ hh 2 0).2.1 N ((aE M at_ hh 2 0).1) (Uz.wrap ((aE M at_ hh 2 0).2.1.pc+4)),1))=V:=by subst p q;exact s
  clear s
  generalize aE M at_ hh 2 0=X at *
  obtain ⟨y,rd,c⟩:=X
  dsimp only at A k w i
  refine bD (S:=Hs r (aR a r::fd n.heap.size [(#[.i D,.i N,.i P,.i R,.i imm],69)]) (aj M l)) (args:=[.p a 0,.agg #[.i D,.i N,.i P,.i R,.i imm],.u at_]) [(#[.i D,.i N,.i P,.i R,.i imm],69)] func81 (hn:=bb) (hs:=bb) ?_
  refine aN 0 2 (aN 4 3 ?_)
  refine ae (Hs.eng (dr:=false) (λ_ h=>h.hs)) {} 80 (Hx.start h _) (hret:=bb) (he:=bb) λW b=>?_
  refine lJ 10 (hm:=bb) (hk:=bb) ?_
  refine aW (Hs.eng (dr:=true) (λ_ h=>h.hs)) {} 60 (b.below (Below.refl _ _).drew) (λz j=>k z j.mp) (hx:=bb) (he:=bb) ?_
  rintro z e E j ⟨rfl,C,o,op⟩
  refine ⟨_,0,rfl,gE bb,aJ (Hs r (aR a r::fd n.heap.size [(#[.i D,.i N,.i P,.i R,.i imm],69)]) (aj rd C)) (hn:=bb) ?_⟩
  cases g:(c != 0) with
  | true =>
    rw [g,if_pos rfl] at i
    subst i
    exact Hx.last (Hs.eng (dr:=true) (λ_ h=>h.hs)) {eq:=[(39,ak g),(42,dP .i64 (w c rfl g).1)]} 60 (j.step o op) (λW b=>dZ _ (w c rfl g).2 at_ b.ht A) (hx:=bb) (he:=bb) (hy:=λ_=>bb)
  | false =>
    rw [g,if_neg bc] at i
    subst i
    refine ae (Hs.eng (dr:=false) (λ_ h=>h.hs)) {eq:=[(39,ak g)]} 60 (j.step o op) (hret:=bb) (he:=bb) λW b=>?_
    refine lJ 12 (hm:=bb) (hk:=bb) ?_
    exact Hx.last (Hs.eng (dr:=true) (λ_ h=>h.hs)) {} 60 (b.below (Below.refl _ _).drew) (λW b=>fu N (y) _ u v b.ht A.x32 (aC A.ok).1) (hx:=bb) (he:=bb) (hy:=λ_=>bb)
theorem QL (z:18<=y.op) (at_:y.op<=21) (F:U D) (hb:U N) (h:Ht B a r M l n) (u:Gd M): Calls prog 82 #[.p a 0,.agg #[.i y.op,.i y.rd,.i y.a,.i y.b,.i y.imm],.u D,.u N] n (HR B a r M l n (lY M y D N)):=by
 obtain ⟨d,o,m,w,hh⟩:=y;dsimp only at z at_ ⊢;obtain ⟨V,E⟩:∃ V,lY M ⟨d,o,m,w,hh⟩ D N=V:=⟨_,rfl⟩;rw [E];obtain ⟨f,q⟩:∃ f:Nat,f=2^(d-18).toNat:=⟨_,rfl⟩;obtain p|p|p|p:d=18\/d=19\/d=20\/d=21:=ab
 all_goals
  have s:=u.acc D f 3 N
  have A:=λW (g:Mp B r M l W)=>gc M l B r D f 3 N W g u.len u.mw u.ok j1 ab ab F hb
  have v:=λc=>kq (M:=M) (addr:=D) (size:=f) (kind:=3) (x:=N) (c:=c)
  have k:(if ((aE M D f 3 N).2.2 != 0)=true then cS (aE M D f 3 N) 0 D else (aY (aE M D f 3 N).2.1 0 0 (Uz.wrap ((aE M D f 3 N).2.1.pc+4)),1))=V:=by subst p q;exact E
  clear E
  generalize aE M D f 3 N=X at *
  obtain ⟨i,b,c⟩:=X
  dsimp only at s A v k
  refine bD (S:=Hs r (aR a r::fd n.heap.size [(#[.i d,.i o,.i m,.i w,.i hh],69)]) (aj M l)) (args:=[.p a 0,.agg #[.i d,.i o,.i m,.i w,.i hh],.u D,.u N]) [(#[.i d,.i o,.i m,.i w,.i hh],69)] func82 (hn:=bb) (hs:=bb) ?_
  refine aN 0 2 (aN 5 3 ?_)
  refine ae (Hs.eng (dr:=false) (λ_ h=>h.hs)) {} 10 (Hx.start h _) (hret:=bb) (he:=bb) λW g=>?_
  refine lJ 15 (hm:=bb) (hk:=bb) ?_
  refine aW (Hs.eng (dr:=true) (λ_ h=>h.hs)) {} 60 (g.below (Below.refl _ _).drew) (λG t=>A G t.mp) (hx:=bb) (he:=bb) ?_
  rintro G e J t ⟨rfl,C,H,I⟩
  refine ⟨_,0,rfl,gE bb,aJ (Hs r (aR a r::fd n.heap.size [(#[.i d,.i o,.i m,.i w,.i hh],69)]) (aj b C)) (hn:=bb) ?_⟩
  cases j:(c != 0) with
  | true =>
    rw [j,if_pos rfl] at k
    subst k
    exact Hx.last (Hs.eng (dr:=true) (λ_ h=>h.hs)) {eq:=[(31,ak j),(34,dP .i64 (v c rfl j).1)]} 60 (t.step H I) (λW g=>dZ _ (v c rfl j).2 D g.ht s) (hx:=bb) (he:=bb) (hy:=λ_=>bb)
  | false =>
    rw [j,if_neg bc] at k
    subst k
    exact Hx.last (Hs.eng (dr:=true) (λ_ h=>h.hs)) {eq:=[(31,ak j)]} 80 (t.step H I) (λW g=>fu 0 0 _ bc bc g.ht s.x32 (aC s.ok).1) (hx:=bb) (he:=bb) (hy:=λ_=>bb)
theorem TQ (d:11<=y.op) (e:y.op<=17) (b:0<=y.rd) (c:y.rd<=31) (hh:U D) (h:Ht B a r M l n) (f:Gd M): Calls prog 81 #[.p a 0,.agg #[.i y.op,.i y.rd,.i y.a,.i y.b,.i y.imm],.u D] n (HR B a r M l n (lX M y D)):=by
 by_cases k:y.op<=14;·exact TO y.op y.rd y.a y.b y.imm D d k b c hh h f
 ·exact TP y.op y.rd y.a y.b y.imm D ab e b c hh h f
theorem Hx.add {y:Kr} (h:Hx B r (y::c) A l n M p g) (cs:Array Value) (t:TypeId):Hx B r (y::(c++[⟨g.heap.size,cs,t,[]⟩])) A l n M p (g.alloc (.cells cs t)):=by
 have W:=(Below.refl g.heap.size g).alloc (Nat.le_refl _) (.cells cs t);have b:=h.below W;refine ⟨b.mp,b.kx,λx a=>?_⟩;rw [<- List.cons_append,List.mem_append] at a;rcases a with a | a;·exact b.rows x a
 ·rw [List.mem_singleton.1 a];exact ⟨heap_alloc_new _ _,by have:=h.mp.lt;exact λe=>by dsimp only at e;omega,λq i e=>by have:=h.mp.fam.hi q i _ e;dsimp only at this;omega⟩
theorem NP (A:MA) (a:List Int) (lp:Int):aj (gt (iB L a) lp) A=(aj (iB L a) A).setIfInBounds 2 (.i lp):=rfl
theorem NQ (A:MA) (a:List Int) (lp:Int):aH (gt (iB L a) lp) A=aH (iB L a) A:=rfl
theorem AG (e:Hx B r c A l n (iB M m) p g):Hx B r c A l n (gt (iB M m) D) p (g.setCell ⟨r,2,none⟩ (.i D)):=e.fld 2 (.i D) (NP M p m D) (NQ M p m D)
theorem TS (A:3<=y.op) (v:y.op<=10) (p:0<=y.rd) (q:y.rd<=31) (h:Ht B a r M l n) (k:Gd M): Calls prog 80 #[.p a 0,.agg #[.i y.op,.i y.rd,.i y.a,.i y.b,.i y.imm],.u D,.u N,.u P] n (HR B a r M l n (nV M y D N P)):=by
 obtain ⟨V,c⟩:∃ V,nV M y D N P=V:=⟨_,rfl⟩;rw [c];obtain ⟨f,o,s,t,j⟩:=y;dsimp only at A v p q ⊢;unfold nV at c;dsimp only at c;have d:=λW=>xd f D N W;obtain ⟨x,u⟩:∃ x,KO f D N=x:=⟨_,rfl⟩;rw [u] at d;refine bD (S:=Hs r (aR a r::fd n.heap.size [(#[.i f,.i o,.i s,.i t,.i j],69)]) (aj M l)) (args:=[.p a 0,.agg #[.i f,.i o,.i s,.i t,.i j],.u D,.u N,.u P]) [(#[.i f,.i o,.i s,.i t,.i j],69)] func80 ?_;refine aN 0 2 (aN 6 3 ?_);by_cases e4:f=4
 ·have m:(f==4)=true:=(by simpa using e4);have e5:¬ 4<f:=ab;have hh:decide (4<f)=false:=decide_eq_false e5;rw [show fS M ⟨f,o,s,t,j⟩ D N P=bits .andNot .u64 (Uz.wrap (D+P)) 1 from by unfold fS;dsimp only;rw [if_pos e4]] at c;cases e:(bits .and .u64 (bits .andNot .u64 (Uz.wrap (D+P)) 1) 2 != 0) with
  | true =>rw [e,if_pos rfl] at c;exact a0l
  | false =>rw [e,if_neg bc] at c;rw [if_neg e5] at c;subst c;exact Hx.last (Hs.eng (dr:=true) (λ_ h=>h.hs)) {eq:=[(31,ak m),(39,ak hh),(57,ak e)],cv:=[(45,kj λW _=>d W)]} 150 (Hx.start h _) (λW g=>fu o _ _ p q g.ht k.x32 (aC k.ok).1)
 ·have m:(f==4)=false:=(by simpa using e4);by_cases e5:4<f
  ·have hh:decide (4<f)=true:=decide_eq_true e5;cases x with
   | true =>
     rw [show fS M ⟨f,o,s,t,j⟩ D N P=Uz.wrap (M.pc+P) from by unfold fS;dsimp only;rw [if_neg e4,decide_eq_true e5,u];rfl] at c;cases e:(bits .and .u64 (Uz.wrap (M.pc+P)) 2 != 0) with
     | true =>rw [e,if_pos rfl] at c;exact a0l
     | false =>rw [e,if_neg bc] at c;rw [if_pos e5] at c;subst c;exact Hx.last (Hs.eng (dr:=true) (λ_ h=>h.hs)) {eq:=[(31,ak m),(39,ak hh),(57,ak e)],cv:=[(45,kj λW _=>d W)]} 150 (Hx.start h _) (λW g=>fu 0 _ _ bc bc g.ht k.x32 (aC k.ok).1)
   | false =>
     rw [show fS M ⟨f,o,s,t,j⟩ D N P=Uz.wrap (M.pc+4) from by unfold fS;dsimp only;rw [if_neg e4,decide_eq_true e5,u];rfl] at c;cases e:(bits .and .u64 (Uz.wrap (M.pc+4)) 2 != 0) with
     | true =>rw [e,if_pos rfl] at c;exact a0l
     | false =>rw [e,if_neg bc] at c;rw [if_pos e5] at c;subst c;exact Hx.last (Hs.eng (dr:=true) (λ_ h=>h.hs)) {eq:=[(31,ak m),(39,ak hh),(57,ak e)],cv:=[(45,kj λW _=>d W)]} 150 (Hx.start h _) (λW g=>fu 0 _ _ bc bc g.ht k.x32 (aC k.ok).1)
  ·have hh:decide (4<f)=false:=decide_eq_false e5;rw [show fS M ⟨f,o,s,t,j⟩ D N P=Uz.wrap (M.pc+P) from by unfold fS;dsimp only;rw [if_neg e4,decide_eq_false e5];rfl] at c;cases e:(bits .and .u64 (Uz.wrap (M.pc+P)) 2 != 0) with
   | true =>rw [e,if_pos rfl] at c;exact a0l
   | false =>rw [e,if_neg bc] at c;rw [if_neg e5] at c;subst c;exact Hx.last (Hs.eng (dr:=true) (λ_ h=>h.hs)) {eq:=[(31,ak m),(39,ak hh),(57,ak e)],cv:=[(45,kj λW _=>d W)]} 150 (Hx.start h _) (λW g=>fu o _ _ p q g.ht k.x32 (aC k.ok).1)
theorem xk (h:Ht B a r M p n) (hh:M.cs.length=22) (m:Bool): Calls prog 135 #[.slice p.ac M.cs.length p.cc,.bool m] n λe c=>e=.returned (.tuple #[.i (dy (M.cs.getD 0 0) m),.u (eQ M.cs m)])/\Ht B a r (iB M (M.cs.set 0 (cO (M.cs.getD 0 0) m))) p c/\Kx r (aH M p) (aH (iB M (M.cs.set 0 (cO (M.cs.getD 0 0) m))) p) n c:=by obtain ⟨g,d,b,f⟩:=h.mp.cs hh;rw [d,hh];refine (CJ B g p.cc M.cs m n b).mono λe c ⟨j,k,l⟩=>?_;obtain ⟨w,i⟩:=f c _ (by rw [List.length_set];exact hh) l k;exact ⟨j,h.step w i,i⟩
theorem Ki (hh x:Int) (hx:U x) (h:Ht B a r M l n) (i:Gd M): Calls prog 87 #[.p a 0,.agg #[.i 93,.i D,.i N,.i P,.i R],.u hh,.u x] n (HR B a r M l n (ke M ⟨93,D,N,P,R⟩ x)):=by
 obtain ⟨V,A⟩:∃ V,ke M ⟨93,D,N,P,R⟩ x=V:=⟨_,rfl⟩;rw [A];have w:=(aC i.ok).1;have p:=i.x32;refine bD (S:=Hs r (aR a r::fd n.heap.size [(#[.i 93,.i D,.i N,.i P,.i R],69)]) (aj M l)) (args:=[.p a 0,.agg #[.i 93,.i D,.i N,.i P,.i R],.u hh,.u x]) [(#[.i 93,.i D,.i N,.i P,.i R],69)] func87 ?_;refine aN 0 2 (aN 5 3 ?_);have m:(aL M (o9 M.pr) false 0,2)=V:=A;subst m;have d:M.pr=0\/M.pr=1\/M.pr=3:=by have:=(aC i.ok).2.2.1;unfold cg at this;simp at this;omega
 refine ae (Hs.eng (dr:=false) (λ_ h=>h.hs)) {} 60 (Hx.start h _) λW e=>?_;refine dM 0 (s:=do pure (.value (<- Instr.buildSlice 39 4 #[(0,.i 8),(1,.i 9),(2,.i 0),(3,.i 11)]))) (v:=.slice (some ⟨W.heap.size,0,none⟩) 4 4) (w':=W.alloc (.cells #[.i 8,.i 9,.i 0,.i 11] 2)) ba ?_;have k:=e.add #[.i 8,.i 9,.i 0,.i 11] 2;refine aJ (Hs r (aR a r::(fd n.heap.size [(#[.i 93,.i D,.i N,.i P,.i R],69)]++[⟨W.heap.size,#[.i 8,.i 9,.i 0,.i 11],2,[]⟩])) (aj M l)) ?_;rcases d with d | d | d;·have j:o9 M.pr=8:=(by unfold o9;rw [if_pos d]);rw [j];refine ae (Hs.eng (dr:=true) (λ_ h=>h.hs)) {eq:=[(25,dP .i64 d)],ov:=[(26,kJ (a:=some ⟨W.heap.size,0,none⟩) (b:=W.heap.size) (o:=0) 4 4 .i64 0 rfl ⟨ab,ab⟩ underlying39 ba),(27,je ⟨W.heap.size,0+(0:Int).toNat,none⟩ (.i 8) underlying2 rfl (λX c=>(cell_of_row _ _ _ _ _ _ (c.2 ⟨W.heap.size,#[.i 8,.i 9,.i 0,.i 11],2,[]⟩ cp)).trans rfl))]} 60 k λX c=>?_;exact Hx.last (Hs.eng (dr:=true) (λ_ h=>h.hs)) {} 20 c (λW e=>dZ 8 bc 0 e.ht i)
 ·have j:o9 M.pr=9:=(by unfold o9;rw [if_neg ab,if_pos d]);rw [j];refine ae (Hs.eng (dr:=true) (λ_ h=>h.hs)) {eq:=[(25,dP .i64 d)],ov:=[(26,kJ (a:=some ⟨W.heap.size,0,none⟩) (b:=W.heap.size) (o:=0) 4 4 .i64 1 rfl ⟨ab,ab⟩ underlying39 ba),(27,je ⟨W.heap.size,0+(1:Int).toNat,none⟩ (.i 9) underlying2 rfl (λX c=>(cell_of_row _ _ _ _ _ _ (c.2 ⟨W.heap.size,#[.i 8,.i 9,.i 0,.i 11],2,[]⟩ cp)).trans rfl))]} 60 k λX c=>?_;exact Hx.last (Hs.eng (dr:=true) (λ_ h=>h.hs)) {} 20 c (λW e=>dZ 9 bc 0 e.ht i)
 ·have j:o9 M.pr=11:=(by unfold o9;rw [if_neg ab,if_neg ab]);rw [j];refine ae (Hs.eng (dr:=true) (λ_ h=>h.hs)) {eq:=[(25,dP .i64 d)],ov:=[(26,kJ (a:=some ⟨W.heap.size,0,none⟩) (b:=W.heap.size) (o:=0) 4 4 .i64 3 rfl ⟨ab,ab⟩ underlying39 ba),(27,je ⟨W.heap.size,0+(3:Int).toNat,none⟩ (.i 11) underlying2 rfl (λX c=>(cell_of_row _ _ _ _ _ _ (c.2 ⟨W.heap.size,#[.i 8,.i 9,.i 0,.i 11],2,[]⟩ cp)).trans rfl))]} 60 k λX c=>?_;exact Hx.last (Hs.eng (dr:=true) (λ_ h=>h.hs)) {} 20 c (λW e=>dZ 11 bc 0 e.ht i)
theorem Kj (hh x:Int) (hx:U x) (h:Ht B a r M l n) (d:Gd M): Calls prog 87 #[.p a 0,.agg #[.i 94,.i D,.i N,.i P,.i R],.u hh,.u x] n (HR B a r M l n (ke M ⟨94,D,N,P,R⟩ x)):=by obtain ⟨V,e⟩:∃ V,ke M ⟨94,D,N,P,R⟩ x=V:=⟨_,rfl⟩;rw [e];have g:=(aC d.ok).1;have i:=d.x32;refine bD (S:=Hs r (aR a r::fd n.heap.size [(#[.i 94,.i D,.i N,.i P,.i R],69)]) (aj M l)) (args:=[.p a 0,.agg #[.i 94,.i D,.i N,.i P,.i R],.u hh,.u x]) [(#[.i 94,.i D,.i N,.i P,.i R],69)] func87 ?_;refine aN 0 2 (aN 5 3 ?_);have f:(aL M 3 false M.pc,2)=V:=e;subst f;exact Hx.last (Hs.eng (dr:=true) (λ_ h=>h.hs)) {} 120 (Hx.start h _) (λW j=>dZ 3 bc _ j.ht d)
theorem Kk (hh x:Int) (hx:U x) (h:Ht B a r M l g) (w:Gd M): Calls prog 87 #[.p a 0,.agg #[.i 95,.i D,.i N,.i P,.i R],.u hh,.u x] g (HR B a r M l g (ke M ⟨95,D,N,P,R⟩ x)):=by
 obtain ⟨V,G⟩:∃ V,ke M ⟨95,D,N,P,R⟩ x=V:=⟨_,rfl⟩;rw [G];have u:=(aC w.ok).1;have z:=w.x32;refine bD (S:=Hs r (aR a r::fd g.heap.size [(#[.i 95,.i D,.i N,.i P,.i R],69)]) (aj M l)) (args:=[.p a 0,.agg #[.i 95,.i D,.i N,.i P,.i R],.u hh,.u x]) [(#[.i 95,.i D,.i N,.i P,.i R],69)] func87 ?_;refine aN 0 2 (aN 5 3 ?_);have j:=λ(W:World) (c:Ht B a r M l W)=>xk c u false;have p:(M.cs.set 0 (cO (M.cs.getD 0 0) false)).length=22:=by rw [List.length_set];exact u
 have A:(if (((((95:Int)==96))&&(M.pr != 3))||(M.pr==0))=true then (aL M 2 false x,2) else (aY (gt (iB M (M.cs.set 0 (cO (M.cs.getD 0 0) false))) (dy (M.cs.getD 0 0) false)) 0 0 (eQ M.cs false),1))=V:=G;clear G;generalize M.cs.set 0 (cO (M.cs.getD 0 0) false)=n at j p A;generalize dy (M.cs.getD 0 0) false=m at j A;generalize eQ M.cs false=E at j A;obtain ⟨L,t⟩:∃ b,(M.pr != 3)=b:=⟨_,rfl⟩;obtain ⟨K,s⟩:∃ b,(M.pr==0)=b:=⟨_,rfl⟩;rw [t,s] at A;cases L<;>cases K;·have d:(aY (gt (iB M n) m) 0 0 E,1)=V:=A;subst d;refine ae (Hs.eng (dr:=false) (λ_ h=>h.hs)) {eq:=[(48,ak t),(55,ak s)]} 120 (Hx.start h _) λW c=>?_;refine lJ 7 ?_;refine aW (Hs.eng (dr:=true) (λ_ h=>h.hs)) {} 60 (c.below (Below.refl _ _).drew) (λq o=>j q o.ht) ?_;rintro q e I o ⟨rfl,F,H⟩;refine ⟨_,0,rfl,gE ba,aJ (Hs r (aR a r::fd g.heap.size [(#[.i 95,.i D,.i N,.i P,.i R],69)]) (aj (iB M n) l)) ?_⟩;refine ae (Hs.eng (dr:=false) (λ_ h=>h.hs)) {} 60 (o.to F H) λJ y=>?_;refine bM (bJ (i:=2) (T:=2) (v:=.i m) y.mp.row (show 2<14 by decide) ba rfl) ?_;have C:=AG n m y;obtain ⟨rd,k⟩:∃ rd,rd=gt (iB M n) m:=⟨_,rfl⟩;have n32:rd.x.length=32:=(by rw [k];unfold gt iB;exact z);have n22:rd.cs.length=22:=(by rw [k];unfold gt iB;exact p);rw [<- k] at C ⊢;clear k;refine aJ (Hs r (aR a r::fd g.heap.size [(#[.i 95,.i D,.i N,.i P,.i R],69)]) (aj rd l)) ?_;exact Hx.last (Hs.eng (dr:=true) (λ_ h=>h.hs)) {cv:=[(76,kj λW (c:Hx B r (aR a r::fd g.heap.size [(#[.i 95,.i D,.i N,.i P,.i R],69)]) M l g rd l W)=>nf rd l B a r W c.ht)]} 60 C (λW c=>fu 0 0 E bc bc c.ht n32 n22)
 ·have d:(aL M 2 false x,2)=V:=A;subst d;exact Hx.last (Hs.eng (dr:=true) (λ_ h=>h.hs)) {eq:=[(48,ak t),(55,ak s)]} 120 (Hx.start h _) (λW c=>dZ 2 bc x c.ht w)
 ·have d:(aY (gt (iB M n) m) 0 0 E,1)=V:=A;subst d;refine ae (Hs.eng (dr:=false) (λ_ h=>h.hs)) {eq:=[(48,ak t),(55,ak s)]} 120 (Hx.start h _) λW c=>?_;refine lJ 7 ?_;refine aW (Hs.eng (dr:=true) (λ_ h=>h.hs)) {} 60 (c.below (Below.refl _ _).drew) (λq o=>j q o.ht) ?_;rintro q e I o ⟨rfl,F,H⟩;refine ⟨_,0,rfl,gE ba,aJ (Hs r (aR a r::fd g.heap.size [(#[.i 95,.i D,.i N,.i P,.i R],69)]) (aj (iB M n) l)) ?_⟩;refine ae (Hs.eng (dr:=false) (λ_ h=>h.hs)) {} 60 (o.to F H) λJ y=>?_;refine bM (bJ (i:=2) (T:=2) (v:=.i m) y.mp.row (show 2<14 by decide) ba rfl) ?_;have C:=AG n m y;obtain ⟨rd,k⟩:∃ rd,rd=gt (iB M n) m:=⟨_,rfl⟩;have n32:rd.x.length=32:=(by rw [k];unfold gt iB;exact z);have n22:rd.cs.length=22:=(by rw [k];unfold gt iB;exact p);rw [<- k] at C ⊢;clear k;refine aJ (Hs r (aR a r::fd g.heap.size [(#[.i 95,.i D,.i N,.i P,.i R],69)]) (aj rd l)) ?_;exact Hx.last (Hs.eng (dr:=true) (λ_ h=>h.hs)) {cv:=[(76,kj λW (c:Hx B r (aR a r::fd g.heap.size [(#[.i 95,.i D,.i N,.i P,.i R],69)]) M l g rd l W)=>nf rd l B a r W c.ht)]} 60 C (λW c=>fu 0 0 E bc bc c.ht n32 n22)
 ·have d:(aL M 2 false x,2)=V:=A;subst d;exact Hx.last (Hs.eng (dr:=true) (λ_ h=>h.hs)) {eq:=[(48,ak t),(55,ak s)]} 120 (Hx.start h _) (λW c=>dZ 2 bc x c.ht w)
theorem Kl (hh x:Int) (hx:U x) (h:Ht B a r M l n) (o:Gd M): Calls prog 87 #[.p a 0,.agg #[.i 96,.i D,.i N,.i P,.i R],.u hh,.u x] n (HR B a r M l n (ke M ⟨96,D,N,P,R⟩ x)):=by
 obtain ⟨V,z⟩:∃ V,ke M ⟨96,D,N,P,R⟩ x=V:=⟨_,rfl⟩;rw [z];have w:=(aC o.ok).1;have y:=o.x32;refine bD (S:=Hs r (aR a r::fd n.heap.size [(#[.i 96,.i D,.i N,.i P,.i R],69)]) (aj M l)) (args:=[.p a 0,.agg #[.i 96,.i D,.i N,.i P,.i R],.u hh,.u x]) [(#[.i 96,.i D,.i N,.i P,.i R],69)] func87 ?_;refine aN 0 2 (aN 5 3 ?_);have f:=λ(W:World) (d:Ht B a r M l W)=>xk d w true;have p:(M.cs.set 0 (cO (M.cs.getD 0 0) true)).length=22:=by rw [List.length_set];exact w
 have k:(if (((((96:Int)==96))&&(M.pr != 3))||(M.pr==0))=true then (aL M 2 false x,2) else (aY (gt (iB M (M.cs.set 0 (cO (M.cs.getD 0 0) true))) (dy (M.cs.getD 0 0) true)) 0 0 (eQ M.cs true),1))=V:=z;clear z;generalize M.cs.set 0 (cO (M.cs.getD 0 0) true)=t at f p k;generalize dy (M.cs.getD 0 0) true=s at f k;generalize eQ M.cs true=F at f k;obtain ⟨J,m⟩:∃ b,(M.pr != 3)=b:=⟨_,rfl⟩;obtain ⟨I,A⟩:∃ b,(M.pr==0)=b:=⟨_,rfl⟩;rw [m,A] at k;cases J<;>cases I;·have c:(aY (gt (iB M t) s) 0 0 F,1)=V:=k;subst c;refine ae (Hs.eng (dr:=false) (λ_ h=>h.hs)) {eq:=[(48,ak m),(55,ak A)]} 120 (Hx.start h _) λW d=>?_;refine lJ 7 ?_;refine aW (Hs.eng (dr:=true) (λ_ h=>h.hs)) {} 60 (d.below (Below.refl _ _).drew) (λC u=>f C u.ht) ?_;rintro C e K u ⟨rfl,G,H⟩;refine ⟨_,0,rfl,gE ba,aJ (Hs r (aR a r::fd n.heap.size [(#[.i 96,.i D,.i N,.i P,.i R],69)]) (aj (iB M t) l)) ?_⟩;refine ae (Hs.eng (dr:=false) (λ_ h=>h.hs)) {} 60 (u.to G H) λL rd=>?_;refine bM (bJ (i:=2) (T:=2) (v:=.i s) rd.mp.row (show 2<14 by decide) ba rfl) ?_;have E:=AG t s rd;obtain ⟨g,q⟩:∃ g,g=gt (iB M t) s:=⟨_,rfl⟩;have n32:g.x.length=32:=(by rw [q];unfold gt iB;exact y);have n22:g.cs.length=22:=(by rw [q];unfold gt iB;exact p);rw [<- q] at E ⊢;clear q;refine aJ (Hs r (aR a r::fd n.heap.size [(#[.i 96,.i D,.i N,.i P,.i R],69)]) (aj g l)) ?_;exact Hx.last (Hs.eng (dr:=true) (λ_ h=>h.hs)) {cv:=[(76,kj λW (d:Hx B r (aR a r::fd n.heap.size [(#[.i 96,.i D,.i N,.i P,.i R],69)]) M l n g l W)=>nf g l B a r W d.ht)]} 60 E (λW d=>fu 0 0 F bc bc d.ht n32 n22)
 ·have c:(aL M 2 false x,2)=V:=k;exact a0m
 ·have c:(aL M 2 false x,2)=V:=k;exact a0m
 ·have c:(aL M 2 false x,2)=V:=k;exact a0m
theorem Km (hh x:Int) (hx:U x) (h:Ht B a r M l n) (f:Gd M): Calls prog 87 #[.p a 0,.agg #[.i 97,.i D,.i N,.i P,.i R],.u hh,.u x] n (HR B a r M l n (ke M ⟨97,D,N,P,R⟩ x)):=by
 obtain ⟨V,j⟩:∃ V,ke M ⟨97,D,N,P,R⟩ x=V:=⟨_,rfl⟩;rw [j];have g:=(aC f.ok).1;have m:=f.x32;refine bD (S:=Hs r (aR a r::fd n.heap.size [(#[.i 97,.i D,.i N,.i P,.i R],69)]) (aj M l)) (args:=[.p a 0,.agg #[.i 97,.i D,.i N,.i P,.i R],.u hh,.u x]) [(#[.i 97,.i D,.i N,.i P,.i R],69)] func87 ?_;refine aN 0 2 (aN 5 3 ?_);have d:(if (M.pr==0)=true then (aL M 2 false x,2) else (aY (fF M true) 0 0 (Uz.wrap (M.pc+4)),1))=V:=j;clear j;cases e:(M.pr==0) with
 | true =>rw [e,if_pos rfl] at d;subst d;exact Hx.last (Hs.eng (dr:=true) (λ_ h=>h.hs)) {eq:=[(84,ak e)]} 120 (Hx.start h _) (λW k=>dZ 2 bc x k.ht f)
 | false =>rw [e,if_neg bc] at d;subst d;refine ae (Hs.eng (dr:=false) (λ_ h=>h.hs)) {eq:=[(84,ak e)]} 120 (Hx.start h _) λo A=>?_;refine bM (bJ (i:=13) (T:=4) (v:=.bool true) A.mp.row (show 13<14 by decide) ba rfl) ?_;have w:=A.fld (M':=fF M true) 13 (.bool true) rfl rfl;refine aJ (Hs r (aR a r::fd n.heap.size [(#[.i 97,.i D,.i N,.i P,.i R],69)]) (aj (fF M true) l)) ?_;exact Hx.last (Hs.eng (dr:=true) (λ_ h=>h.hs)) {} 60 w (λW k=>fu 0 0 _ bc bc k.ht f.x32 g)
theorem Kn (hh x:Int) (hx:U x) (h:Ht B a r M l n) (f:Gd M): Calls prog 87 #[.p a 0,.agg #[.i 98,.i D,.i N,.i P,.i R],.u hh,.u x] n (HR B a r M l n (ke M ⟨98,D,N,P,R⟩ x)):=by
 obtain ⟨V,i⟩:∃ V,ke M ⟨98,D,N,P,R⟩ x=V:=⟨_,rfl⟩;rw [i];have g:=(aC f.ok).1;have k:=f.x32;refine bD (S:=Hs r (aR a r::fd n.heap.size [(#[.i 98,.i D,.i N,.i P,.i R],69)]) (aj M l)) (args:=[.p a 0,.agg #[.i 98,.i D,.i N,.i P,.i R],.u hh,.u x]) [(#[.i 98,.i D,.i N,.i P,.i R],69)] func87 ?_;refine aN 0 2 (aN 5 3 ?_);have d:(if (M.pr==0)=true then (aL M 2 false x,2) else (aY M 0 0 (Uz.wrap (M.pc+4)),1))=V:=i;clear i;cases e:(M.pr==0) with
 | true =>rw [e,if_pos rfl] at d;subst d;exact Hx.last (Hs.eng (dr:=true) (λ_ h=>h.hs)) {eq:=[(84,ak e)]} 120 (Hx.start h _) (λW j=>dZ 2 bc x j.ht f)
 | false =>rw [e,if_neg bc] at d;subst d;exact Hx.last (Hs.eng (dr:=true) (λ_ h=>h.hs)) {eq:=[(84,ak e)]} 150 (Hx.start h _) (λW j=>fu 0 0 _ bc bc j.ht f.x32 g)
theorem NR (j:93<=y.op) (k:y.op<=98) (hx:U N) (h:Ht B a r M l n) (c:Gd M): Calls prog 87 #[.p a 0,.agg #[.i y.op,.i y.rd,.i y.a,.i y.b,.i y.imm],.u D,.u N] n (HR B a r M l n (ke M y N)):=by
 obtain ⟨f,g,d,e,b⟩:=y;dsimp only at j k ⊢;obtain rfl|rfl|rfl|rfl|rfl|rfl:f=93\/f=94\/f=95\/f=96\/f=97\/f=98:=ab
 ·exact Ki g d e b D N hx h c
 ·exact Kj g d e b D N hx h c
 ·exact Kk g d e b D N hx h c
 ·exact Kl g d e b D N hx h c
 ·exact Km g d e b D N hx h c
 ·exact Kn g d e b D N hx h c
def gF (c:Int):Ending:=.panicked [{v:=.iface 162 (.i c),recovered:=false}]
def Di (k:Int):Int:=if k=2 then 5 else if k=3 then 7 else 1
theorem Ii (b:1<=D) (c:D<=3):Di D=dJ D:=by
 have a:D=1\/D=2\/D=3:=ab
 rcases a with rfl|rfl|rfl<;>rfl
theorem NS (h:¬ (1<=D/\D<=3)):Di D=1:=by unfold Di;rw [if_neg ab,if_neg ab]
theorem pd (w:World):CE 91 #[.i D] w (.i (Di D)):=by
 have F:Hid (Di D=if D=2 then 5 else if D=3 then 7 else 1):=(rfl:Di D=_);generalize Di D=v at *;cases c:(D==2) with
 | true =>have e2:D=2:=i6;have b:Hid (v=5):=F.out.trans (if_pos e2);exact a0n
 | false =>
   have e2:¬ D=2:=i6;cases d:(D==3) with
   | true =>have e3:D=3:=kc;have b:Hid (v=7):=F.out.trans ((if_neg e2).trans (if_pos e3));exact a0n
   | false =>have e3:¬ D=3:=kc;have b:Hid (v=1):=F.out.trans ((if_neg e2).trans (if_neg e3));exact a0n
theorem AH (d:1<=D) (f:D<=3) (w:World):CE 186 #[.i D] w (.i (ey D)):=by
 have b:D=1\/D=2\/D=3:=ab
 rcases b with rfl|rfl|rfl;·go_enter func186,ntmps186;exact x7
 ·go_enter func186,ntmps186;exact x7
 ·go_enter func186,ntmps186;exact x7
theorem nW (j:Option Addr) (l:Nat) (p va k:Int) (f:1<=k) (g:k<=3) (w:World): Calls prog 190 #[.agg #[.slice t z F,.slice j 22 l,.i p,.u va,.i k]] w λe c=>e=gF (dJ k)/\Bw w c:=by
 have d:Hid (∀ w,CE 91 #[.i k] w (.i (dJ k))):=λw=>by have:=pd k w;rw [Ii k f g] at this;exact this
 generalize dJ k=o at *;go_enter func190,ntmps190;go_wp2_with fail;refine (d.out _).mono ?_;rintro e q ⟨rfl,b⟩;subst b;go_wp2_with fail;exact ⟨rfl,rfl,bal _ _⟩
theorem ks (j:Option Addr) (l:Nat) (p va k:Int) (f:1<=k) (g:k<=3) (w:World): Calls prog 137 #[.agg #[.slice t z F,.slice j 22 l,.i p,.u va,.i k]] w λe c=>e=gF (ey k)/\Bw w c:=by have d:Hid (∀ w,CE 186 #[.i k] w (.i (ey k))):=λw=>AH k f g w;generalize ey k=o at *;go_enter func137,ntmps137;go_wp2_with fail;refine (d.out _).mono ?_;rintro e q ⟨rfl,b⟩;subst b;go_wp2_with fail;exact ⟨rfl,rfl,bal _ _⟩
structure Wk (w:World) (g n rc:Nat) (zs:List Int) (b off lc:Nat) (l:List Int) (p va k:Int):Prop where
 hz:zs.length=n
 hr:bf n=true
 hs:Sl .u8 w (some ⟨g,0,none⟩) zs
 hw:∀ y ∈ zs,(Lit.int .u8 y).wf=true
 hc:n<=rc
 hc2:rc<=9223372036854775807
 hlz:l.length=22
 hl:Sl .u64 w (some ⟨b,off,none⟩) l
 hU:∀ j,U (l.getD j 0)
 hg:bj 22 l p=true
 hva:U va
 hk1:1<=k
 hk3:k<=3
 hT:pS w
theorem Wk.below {w:Nat} (h:Wk n w B r f b a k j x d e) (hb:Bw n g):Wk g w B r f b a k j x d e :=
 ⟨h.hz,h.hr,h.hs.below hb,h.hw,h.hc,h.hc2,h.hlz,h.hl.below hb,h.hU,h.hg,h.hva,h.hk1,h.hk3,h.hT.below hb⟩
theorem Wk.at {i:Nat} {m:Int} (h:Wk w B r k f i a b j x d m) (l:Nat) (zs:l<22):w.cell? ⟨i,a+l,none⟩=some (.u (j.getD l 0)):=by obtain ⟨o,c,e,_,va⟩:=h.hl l (by rw [h.hlz];exact zs);simp only [Option.some.injEq,Addr.mk.injEq,and_true] at e;obtain ⟨rfl,rfl⟩:=e;exact va
theorem Wk.one {c:Nat} (h:Wk n B r k f b a c j x d e):bj 22 j 1=true:=by have:=h.hg;unfold bj at this ⊢;rw [Bool.and_eq_true] at this;rw [this.1];rfl
theorem lZ {a b c d e:Value} {t:TypeId} {f:Nat × Nat} (h:n.heap[B]?=some (.cells #[a,b,c,d,e] t f)):n.cell? ⟨B,0,none⟩=some a/\n.cell? ⟨B,1,none⟩=some b/\n.cell? ⟨B,2,none⟩=some c/\n.cell? ⟨B,3,none⟩=some d/\n.cell? ⟨B,4,none⟩=some e:=by refine ⟨?_,?_,?_,?_,?_⟩<;>simp [World.cell?,h]
theorem ge (hb:Bw n g) {o:Obj} (h:n.heap[B]?=some o):g.heap[B]?=some o:=by rw [hb.block B (Array.getElem?_eq_some_iff.1 h).1];exact h
theorem tX (h:z<=2) (w:World):CE 187 #[.i (z:Int)] w (.i ((12+9*z:Nat):Int)):=by
 have:z=0\/z=1\/z=2:=ab
 rcases this with rfl|rfl|rfl;·go_enter func187,ntmps187;exact x7
 ·go_enter func187,ntmps187;exact x7
 ·go_enter func187,ntmps187;exact x7
def qn (zs:List Int) (n:Nat) (l:List Int) (k x:Int):Ending :=
 if gi n x 8=true then (if ay l 1 x (aU x 8) 2 4 0=true then (if pL (fI zs x)=true then gF (ey k) else .returned (.tuple #[.u x,.u (fI zs x)])) else gF (dJ k)) else gF (dJ k)
theorem Sm (a:∀ y ∈ m,(Lit.int .u8 y).wf=true) (x:Int):U (fI m x):=by have:=uT m (jd a) 8 (x-2147483648).toNat ab;exact ⟨this.1,this.2⟩
theorem Dk (zs:List Int) (b f y:Nat) (l:List Int) (p va k T:Int) (lv:Nat) (S:lv<=2) (w:World) (W:Wk w z F s zs b f y l p va k): Calls prog 138 #[.agg #[.slice (some ⟨z,0,none⟩) F s,.slice (some ⟨b,f,none⟩) 22 y,.i p,.u va,.i k],.u T,.i (lv:Int)] w λe c=>e=qn zs F l k (bK T va lv)/\Bw w c:=by
 have HW:Hid (Wk w z F s zs b f y l p va k):=W;have hn:F<=1048576:=by have:=fT W.hr;omega
 obtain ⟨q,V⟩:∃ q:Nat,q=12+9*lv:=⟨_,rfl⟩;have HL:Hid (∀ w,Calls prog 187 #[.i (lv:Int)] w λe c=>e=.returned (.i (q:Int))/\∃ m,c=w.drewN m):=λw=>by rw [V];exact (tX lv S w).mono λ_ _ h=>⟨h.1,0,h.2⟩
 have Z:Hid (∀ w,Calls prog 66 #[.u va,.i (q:Int),.i 9] w λe c=>e=.returned (.u (dg va q 9))/\∃ m,c=w.drewN m):=λw=>(bF va q 9 W.hva.1 W.hva.2 ab ab w).mono λ_ _ h=>⟨h.1,1,h.2⟩;have PX:Hid (Uz.wrap (T+Uz.wrap (8*dg va q 9))=bK T va lv):=by show _=_;rw [V];exact TM T va W.hva lv
 clear V;have R:U (bK T va lv):=aT _;generalize bK T va lv=x at *;have I:Hid (∀ c,Bw w c->CB 188 #[.slice (some ⟨z,0,none⟩) F s,.u x,.i 8] c (.tuple #[.u (mP zs F x 8),.bool (gi F x 8)])):=λc M =>
  qu z F s zs x 8 c W.hz hn (W.hs.below M) W.hw W.hc W.hc2 R.1 (by have:=R.2;omega)
 have B:Hid (∀ c,Bw w c->CB 189 #[.slice (some ⟨b,f,none⟩) 22 y,.i 1,.u x,.i 8,.i 2] c (.bool (vM 22 l 1 x 8 2))):=λc M =>
  kO (some ⟨b,f,none⟩) 22 y l 1 x 8 2 c W.hlz (W.hl.below M) W.hU R (W.hT.below M)
 have A:Hid (∀ w,Calls prog 190 #[.agg #[.slice (some ⟨z,0,none⟩) F s,.slice (some ⟨b,f,none⟩) 22 y,.i p,.u va,.i k]] w λe c=>e=gF (dJ k)/\Bw w c):=λw=>nW _ _ _ _ _ _ _ _ W.hk1 W.hk3 w;have r:Hid (∀ w,Calls prog 137 #[.agg #[.slice (some ⟨z,0,none⟩) F s,.slice (some ⟨b,f,none⟩) 22 y,.i p,.u va,.i k]] w λe c=>e=gF (ey k)/\Bw w c):=λw=>ks _ _ _ _ _ _ _ _ W.hk1 W.hk3 w;have D:∀ o m,Bw w ((w.alloc o).drewN m):=λo m=>gZ (bal _ _) m;have g:Hid (qn zs F l k x=if gi F x 8=true then (if ay l 1 x (aU x 8) 2 4 0=true then (if pL (fI zs x)=true then gF (ey k) else .returned (.tuple #[.u x,.u (fI zs x)])) else gF (dJ k)) else gF (dJ k)):=(rfl:qn zs F l k x=_);have K:=W.one;clear W;go_enter func138,ntmps138;go_wp2_with fail;go_quiet (first | (go_at_call 187;with_reducible refine Calls.quiet_of (HL.out _)) | (go_at_call 66;with_reducible refine Calls.quiet_of (Z.out _)))
 rw [PX.out];go_wp2_with fail;refine (I.out _ (D _ _)).mono ?_;rintro e w1 ⟨rfl,E⟩;have Q:Hid (Bw w w1):=aa (D _ _) E;have R1:Hid (w1.heap[w.heap.size]?=some (.cells #[.slice (some ⟨z,0,none⟩) F s,.slice (some ⟨b,f,none⟩) 22 y,.i p,.u va,.i k] 114 (0,0))):=ge E (heap_alloc_new w _);obtain ⟨k0,k1,k2,k3,k4⟩:=lZ R1.out;clear E D I HL Z;cases u:gi F x 8 with
 | false =>rw [u] at g;have n:Hid (qn zs F l k x=gF (dJ k)):=g.out.trans (if_neg bc);clear g B r;go_wp2_with fail;refine (A.out _).mono ?_;rintro e X ⟨rfl,t⟩;exact ⟨rfl,n.out.symm,aa Q.out t⟩
 | true =>
   rw [u,if_pos rfl] at g;have J:mP zs F x 8=fI zs x:=(by unfold mP fI;rw [u];rfl);rw [J];have L:=Ib F l x 2 K u ab ab;go_wp2_with fail;refine (B.out _ Q.out).mono ?_;rintro e X ⟨rfl,t⟩;rw [L];have H:Hid (Bw w X):=aa Q.out t;have R2:Hid (X.heap[w.heap.size]?=some (.cells #[.slice (some ⟨z,0,none⟩) F s,.slice (some ⟨b,f,none⟩) 22 y,.i p,.u va,.i k] 114 (0,0))):=ge t R1.out;clear k0 k1 k2 k3 k4 t;obtain ⟨k0,k1,k2,k3,k4⟩:=lZ R2.out;clear B J L;have UE:U (fI zs x):=Sm zs HW.out.hw x;have Y:=TJ (fI zs x) UE;rw [<- Y] at g;clear Y;generalize fI zs x=C at *;generalize ay l 1 x (aU x 8) 2 4 0=pb at *;cases pb with
   | false =>have n:Hid (qn zs F l k x=gF (dJ k)):=g.out.trans (if_neg bc);clear g r;go_wp2_with fail;refine (A.out _).mono ?_;exact a0o
   | true =>
     have j:qn zs F l k x=if Qx C=true then gF (ey k) else .returned (.tuple #[.u x,.u C]):=g.out.trans (if_pos rfl)
     clear g A;unfold Qx at j;cases N:(bits .and .u64 C 1==0) with
     | true =>
       rw [N] at j;have n:Hid (qn zs F l k x=gF (ey k)):=j.trans (if_pos rfl);clear j;cases O:(bits .and .u64 C 6==4) with
       | true =>go_wp2_with fail;refine (r.out _).mono ?_;exact a0o
       | false =>go_wp2_with fail;refine (r.out _).mono ?_;exact a0o
     | false =>
       cases O:(bits .and .u64 C 6==4) with
       | true =>rw [N,O] at j;have n:Hid (qn zs F l k x=gF (ey k)):=j.trans (if_pos rfl);clear j;go_wp2_with fail;refine (r.out _).mono ?_;exact a0o
       | false =>
         cases t3:(bits .and .u64 C 18428729675200069632 != 0) with
         | true =>rw [N,O,t3] at j;have n:Hid (qn zs F l k x=gF (ey k)):=j.trans (if_pos rfl);clear j;go_wp2_with fail;refine (r.out _).mono ?_;exact a0o
         | false =>rw [N,O,t3] at j;have n:Hid (qn zs F l k x=.returned (.tuple #[.u x,.u C])):=j.trans (if_neg bc);clear j;go_wp2_with fail;go_ret2;exact ⟨n.out.symm,H.out⟩
theorem FY (he:U D) (w:World):CE 139 #[.u D] w (.bool (!mC D)):=by have F:Hid ((bits .and .u64 D 10 != 0)=!mC D):=Qy D he;generalize (!mC D)=v at *;go_enter func139,ntmps139;exact a02
theorem tY (he:U D) (w:World):Calls prog 191 #[.u D] w λr c=>r=.returned (.u (dg D 10 44))/\c=w.drew:=by have d:Hid (∀ w,Calls prog 66 #[.u D,.i 10,.i 44] w λr c=>r=.returned (.u (dg D 10 44))/\c=w.drew):=λw=>bF D 10 44 he.1 he.2 ab ab w;generalize dg D 10 44=f at *;go_enter func191,ntmps191;go_wp2_with fail;refine (d.out _).mono ?_;rintro r g ⟨rfl,b⟩;subst b;exact x7
def Ko (k e:Int) (lv:Nat):Ending:=if jt e lv=true then gF (ey k) else .returned (.u (Uz.wrap (eB e*4096)))
theorem Dl (g n y:Nat) (b m u:Nat) (p va k e:Int) (lv:Nat) (he:U e) (B:1<=k) (C:k<=3) (w:World):Calls prog 140 #[.agg #[.slice (some ⟨g,0,none⟩) n y,.slice (some ⟨b,m,none⟩) 22 u,.i p,.u va,.i k],.u e,.i (lv:Int)] w λr q=>r=Ko k e lv/\Bw w q:=by
 have l:Hid (∀ w,Calls prog 137 #[.agg #[.slice (some ⟨g,0,none⟩) n y,.slice (some ⟨b,m,none⟩) 22 u,.i p,.u va,.i k]] w λe q=>e=gF (ey k)/\Bw w q):=λw=>ks _ _ _ _ _ _ _ _ B C w;have A:Hid (∀ w,Calls prog 191 #[.u e] w λr q=>r=.returned (.u (eB e))/\q=w.drew):=λw=>by have:=tY e he w;rw [xf e he] at this;exact this
 have F:Ko k e lv=if (((lv:Int)==0)||(bits .and .u64 e 208 != 0))=true then gF (ey k) else .returned (.u (Uz.wrap (eB e*4096))):=by rw [Qz e he lv];rfl
 have c:∀ o,Bw w (w.alloc o):=λo=>bal _ _;generalize eB e=f at *;generalize Ko k e lv=v at *;cases t:((lv:Int)==0) with
 | true =>rw [t] at F;have j:Hid (v=gF (ey k)):=F.trans (if_pos rfl);clear F;go_enter func140,ntmps140;go_wp2_with fail;refine (l.out _).mono ?_;rintro r D ⟨rfl,d⟩;exact ⟨rfl,j.out.symm,aa (c _) d⟩
 | false =>
   cases z:(bits .and .u64 e 208 != 0) with
   | true =>rw [t,z] at F;have j:Hid (v=gF (ey k)):=F.trans (if_pos rfl);clear F;go_enter func140,ntmps140;go_wp2_with fail;refine (l.out _).mono ?_;rintro r D ⟨rfl,d⟩;exact ⟨rfl,j.out.symm,aa (c _) d⟩
   | false =>rw [t,z] at F;have j:Hid (v=.returned (.u (Uz.wrap (f*4096)))):=F.trans (if_neg bc);clear F;go_enter func140,ntmps140;go_wp2_with fail;refine (A.out _).mono ?_;rintro r E ⟨rfl,s⟩;subst s;go_wp2_with fail;go_ret;exact ⟨j.out.symm,gZ (c _) 1⟩
theorem Dn (b d j:Nat) (p va k e x:Int) (u:1<=k) (y:k<=3) (w:World) (n:∀ o,(w.alloc o).cell? ⟨b,d,none⟩=some (.u x)): CB 192 #[.agg #[.slice t z F,.slice (some ⟨b,d,none⟩) 22 j,.i p,.u va,.i k],.u e] w (.bool (oZ x k e)):=by
 have c:∀ o,Bw w (w.alloc o):=λo=>bal _ _;have g:k=1\/k=2\/k=3:=ab
 rcases g with rfl|rfl|rfl;·have l:Hid (oZ x 1 e=(bits .and .u64 e 8 != 0)):=(rfl:oZ x 1 e=_);generalize oZ x 1 e=v at *;go_enter func192,ntmps192;go_wp2_with fail;go_ret;exact ⟨sx,c _⟩
 ·have l:oZ x 2 e=((bits .and .u64 e 2 != 0)||((bits .and .u64 x 524288 != 0)&&(bits .and .u64 e 8 != 0))):=rfl;generalize oZ x 2 e=v at *;cases m:(bits .and .u64 e 2 != 0)<;>cases q:(bits .and .u64 x 524288 != 0)<;>cases s:(bits .and .u64 e 8 != 0);all_goals
   rw [m,q,s] at l
   have f:=dR l
   clear l
   go_enter func192,ntmps192
   go_wp2_with fail
   go_ret
   exact ⟨by rw [f.out];rfl,c _⟩
 ·have l:Hid (oZ x 3 e=(bits .and .u64 e 4 != 0)):=(rfl:oZ x 3 e=_);generalize oZ x 3 e=v at *;go_enter func192,ntmps192;go_wp2_with fail;go_ret;exact ⟨sx,c _⟩
theorem Do (b d j:Nat) (p va k e x:Int) (w:World) (u:∀ o,(w.alloc o).cell? ⟨b,d,none⟩=some (.u x)): CB 193 #[.agg #[.slice t z F,.slice (some ⟨b,d,none⟩) 22 j,.i p,.u va,.i k],.u e] w (.bool (CZ x p k e)):=by
 have c:∀ o,Bw w (w.alloc o):=λo=>bal _ _;have l:CZ x p k e=if (bits .and .u64 e 16==0)=true then (p==1) else ((p==0)||((k != 1)&&(bits .and .u64 x 262144 != 0))):=rfl
 generalize CZ x p k e=v at *;cases t0:(bits .and .u64 e 16==0) with
 | true =>have g:Hid (v=(p==1)):=(by rw [t0] at l;exact l.trans (if_pos rfl));clear l;go_enter func193,ntmps193;go_wp2_with fail;go_ret;exact ⟨by rw [g.out];rfl,c _⟩
 | false =>
   have f:v=((p==0)||((k != 1)&&(bits .and .u64 x 262144 != 0))):=(by rw [t0] at l;exact l.trans (if_neg bc));clear l;cases m:(p==0)<;>cases q:(k != 1)<;>cases s:(bits .and .u64 x 262144 != 0);all_goals
    rw [m,q,s] at f
    have g:=dR f
    clear f
    go_enter func193,ntmps193
    go_wp2_with fail
    go_ret
    exact ⟨by rw [g.out];rfl,c _⟩
def FZ (l:List Int) (p k e:Int) (lv:Nat):Ending:=if (mD e lv||gO l k e||gQ l p k e)=true then gF (ey k) else .returned (.tuple #[])
theorem xZ (b c u:Nat) (l:List Int) (p va k e:Int) (lv:Nat) (V:lv<=2) (he:U e) (hp:p=0\/p=1) (w:World) (W:Wk w z F s C b c u l p va k): Calls prog 141 #[.agg #[.slice (some ⟨z,0,none⟩) F s,.slice (some ⟨b,c,none⟩) 22 u,.i p,.u va,.i k],.u e,.i (lv:Int)] w λr d=>r=FZ l p k e lv/\Bw w d:=by
 have HW:Hid (Wk w z F s C b c u l p va k):=W;obtain ⟨q,Z⟩:∃ q:Nat,q=9*lv:=⟨_,rfl⟩;have K:Hid (9*(lv:Int)=(q:Int)):=by show _=_;omega
 have J:Hid (∀ w,Calls prog 66 #[.u e,.i 10,.i (q:Int)] w λr d=>r=.returned (.u (dg e 10 q))/\d=w.drew):=λw=>bF e 10 q he.1 he.2 ab ab w;have D:Hid (∀ w,Calls prog 137 #[.agg #[.slice (some ⟨z,0,none⟩) F s,.slice (some ⟨b,c,none⟩) 22 u,.i p,.u va,.i k]] w λe d=>e=gF (ey k)/\Bw w d):=λw=>ks _ _ _ _ _ _ _ _ W.hk1 W.hk3 w;have y:∀ o m,Bw w ((w.alloc o).drewN m):=λo m=>gZ (bal _ _) m;have S:Hid (∀ d,Bw w d->∀ o,(d.alloc o).cell? ⟨b,c,none⟩=some (.u (l.getD 0 0))):=λd I o=>(W.below (aa I (bal _ _))).at 0 ab;have zs:Hid (∀ d,Bw w d->CB 192 #[.agg #[.slice (some ⟨z,0,none⟩) F s,.slice (some ⟨b,c,none⟩) 22 u,.i p,.u va,.i k],.u e] d (.bool (!gO l k e))):=λd I=>by have:=Dn (some ⟨z,0,none⟩) F s b c u p va k e (l.getD 0 0) W.hk1 W.hk3 d (S.out d I);rw [NC l k e he (W.hU 0) W.hk1 W.hk3] at this;exact this
 have H:Hid (∀ d,Bw w d->CB 193 #[.agg #[.slice (some ⟨z,0,none⟩) F s,.slice (some ⟨b,c,none⟩) 22 u,.i p,.u va,.i k],.u e] d (.bool (!gQ l p k e))):=λd I=>by have:=Do (some ⟨z,0,none⟩) F s b c u p va k e (l.getD 0 0) d (S.out d I);rw [ND l p k e he (W.hU 0) hp] at this;exact this
 have Y:(dg e 10 q != 0)=mD e lv:=by rw [Z];exact NB e he lv V
 have n:FZ l p k e lv=if (mD e lv||gO l k e||gQ l p k e)=true then gF (ey k) else .returned (.tuple #[]):=rfl
 rw [<- Y] at n;generalize FZ l p k e lv=v at *;generalize dg e 10 q=ff at *;generalize gO l k e=nk at *;generalize gQ l p k e=np at *;clear W S Z Y;cases Q:(ff != 0) with
 | true =>rw [Q] at n;have B:Hid (v=gF (ey k)):=n.trans (if_pos rfl);clear n;go_enter func141,ntmps141;go_wp2_with fail;rw [K.out];refine (J.out _).mono ?_;rintro r X ⟨rfl,t⟩;subst t;go_wp2_with fail;refine (D.out _).mono ?_;rintro r G ⟨rfl,j⟩;exact ⟨rfl,B.out.symm,aa (y _ 1) j⟩
 | false =>
   cases nk with
   | true =>rw [Q] at n;have B:Hid (v=gF (ey k)):=n.trans (if_pos rfl);clear n;go_enter func141,ntmps141;go_wp2_with fail;rw [K.out];refine (J.out _).mono ?_;rintro r X ⟨rfl,t⟩;subst t;go_wp2_with fail;refine (zs.out _ (y _ 1)).mono ?_;rintro r g ⟨rfl,f⟩;have R2:Hid (g.heap[w.heap.size]?=some (.cells #[.slice (some ⟨z,0,none⟩) F s,.slice (some ⟨b,c,none⟩) 22 u,.i p,.u va,.i k] 114 (0,0))):=ge f (heap_alloc_new w _);obtain ⟨L,M,N,O,P⟩:=lZ R2.out;have A:Hid (Bw w g):=aa (y _ 1) f;clear f;go_wp2_with fail;refine (D.out _).mono ?_;rintro r G ⟨rfl,j⟩;exact ⟨rfl,B.out.symm,aa A.out j⟩
   | false =>
     cases np with
     | true =>rw [Q] at n;have B:Hid (v=gF (ey k)):=n.trans (if_pos rfl);clear n;go_enter func141,ntmps141;go_wp2_with fail;rw [K.out];refine (J.out _).mono ?_;rintro r X ⟨rfl,t⟩;subst t;go_wp2_with fail;refine (zs.out _ (y _ 1)).mono ?_;rintro r g ⟨rfl,f⟩;have R2:Hid (g.heap[w.heap.size]?=some (.cells #[.slice (some ⟨z,0,none⟩) F s,.slice (some ⟨b,c,none⟩) 22 u,.i p,.u va,.i k] 114 (0,0))):=ge f (heap_alloc_new w _);obtain ⟨L,M,N,O,P⟩:=lZ R2.out;have A:Hid (Bw w g):=aa (y _ 1) f;clear f;go_wp2_with fail;refine (H.out _ A.out).mono ?_;rintro r G ⟨rfl,j⟩;have R3:Hid (G.heap[w.heap.size]?=some (.cells #[.slice (some ⟨z,0,none⟩) F s,.slice (some ⟨b,c,none⟩) 22 u,.i p,.u va,.i k] 114 (0,0))):=ge j R2.out;clear L M N O P;obtain ⟨L,M,N,O,P⟩:=lZ R3.out;have R:Hid (Bw w G):=aa A.out j;clear j;go_wp2_with fail;refine (D.out _).mono ?_;rintro r w4 ⟨rfl,T⟩;exact ⟨rfl,B.out.symm,aa R.out T⟩
     | false =>rw [Q] at n;have B:Hid (v=.returned (.tuple #[])):=n.trans (if_neg bc);clear n;go_enter func141,ntmps141;go_wp2_with fail;rw [K.out];refine (J.out _).mono ?_;rintro r X ⟨rfl,t⟩;subst t;go_wp2_with fail;refine (zs.out _ (y _ 1)).mono ?_;rintro r g ⟨rfl,f⟩;have R2:Hid (g.heap[w.heap.size]?=some (.cells #[.slice (some ⟨z,0,none⟩) F s,.slice (some ⟨b,c,none⟩) 22 u,.i p,.u va,.i k] 114 (0,0))):=ge f (heap_alloc_new w _);obtain ⟨L,M,N,O,P⟩:=lZ R2.out;have A:Hid (Bw w g):=aa (y _ 1) f;clear f;go_wp2_with fail;refine (H.out _ A.out).mono ?_;rintro r G ⟨rfl,j⟩;have R:Hid (Bw w G):=aa A.out j;clear j;go_wp2_with fail;go_end0;exact ⟨B.out.symm,R.out⟩
theorem QM (b l g:Nat) (p va k e:Int) (lv:Nat) (d:lv<=2) (he:U e) (hv:U va) (A:mD e lv=false) (w:World): CB 142 #[.agg #[.slice (some ⟨z,0,none⟩) F s,.slice (some ⟨b,l,none⟩) 22 g,.i p,.u va,.i k],.u e,.i (lv:Int)] w (.u (gH e va lv)):=by
 obtain ⟨q,j⟩:∃ q:Nat,q=12+9*lv:=⟨_,rfl⟩;have y:Hid (∀ w,Calls prog 187 #[.i (lv:Int)] w λe c=>e=.returned (.i (q:Int))/\∃ m,c=w.drewN m):=λw=>by rw [j];exact (tX lv d w).mono λ_ _ h=>⟨h.1,0,h.2⟩
 have t:Hid (∀ w,Calls prog 66 #[.u va,.i 0,.i (q:Int)] w λe c=>e=.returned (.u (dg va 0 q))/\∃ m,c=w.drewN m):=λw=>(bF va 0 q hv.1 hv.2 ab ab w).mono λ_ _ h=>⟨h.1,1,h.2⟩;have u:Hid (∀ w,Calls prog 191 #[.u e] w λr c=>r=.returned (.u (dg e 10 44))/\∃ m,c=w.drewN m):=λw=>(tY e he w).mono λ_ _ h=>⟨h.1,1,h.2⟩;have n:Hid (bits .or .u64 (Uz.wrap (dg e 10 44*4096)) (dg va 0 q)=gH e va lv):=by show _=_;rw [j];exact QB e va he hv lv d A
 have f:∀ o m,Bw w ((w.alloc o).drewN m):=λo m=>gZ (bal _ _) m;generalize gH e va lv=v at *;clear j A;go_enter func142,ntmps142;go_wp2_with fail;go_quiet (first | (go_at_call 187;with_reducible refine Calls.quiet_of (y.out _)) | (go_at_call 66;with_reducible refine Calls.quiet_of (t.out _)) | (go_at_call 191;with_reducible refine Calls.quiet_of (u.out _)))
 go_wp2_with fail;go_ret;exact ⟨by rw [n.out];rfl,f _ _⟩
def l4 (w w':World) (zs:List Int) (a:Option Addr) (n c:Nat):Prop:=w'.ownsRow w.heap.size 5 1 (.slice a n c) n (zs.map (Value.int .u8))/\Bw w w'
theorem qo (w:World) (hz:C.length=F) (N:1<=F) (hn:F<=1048576) (hs:Sl .u8 w (some ⟨z,0,none⟩) C): Calls prog 39 #[.slice (some ⟨z,0,none⟩) F s] w λr Q=>∃ (D:Option Addr) (c:Nat),r=.returned (.slice D F c)/\l4 w Q C D F c:=by
 have R:∀ (w:World) (a:Option Addr) (F c zs n:Nat),(binOp .eql 24 (.slice a F c) (.slice none zs n)).run prog w=.ok (.bool a.isNone) w:=λw a F c zs n=>Lib.run_eql_slice_nil w _ _ a F c zs n underlying24
 obtain ⟨P,M,g,A,B⟩:=info_parts info5
 have p:Hid (∀ u ∈ C.map (Value.int .u8),u.oneCell'=true):=ints_oneCell _ _
 have t:(0+F)*1<=140737488355328:=ab
 have y:0+F<=maxLen:=by unfold maxLen;omega
 have m:(C.map (Value.int .u8)).length=F*1:=by rw [List.length_map,hz];omega
 have K:=E6 w w.heap.size (Nat.le_refl _) (.cells #[] 5 (0,0)) rfl
 have f:Hid (∀ (o:Obj) (j:Nat) (u:Value),(C.map (Value.int .u8))[j]?=some u->(w.alloc o).cell? ((⟨z,0,none⟩:Addr).add j)=some u):=λo j u O=>Po hs o j u O
 clear hs
 go_enter func39,ntmps39
 go_wp2_with (first
  | (at_builtin;refine wpList_append_own _ rfl (.tmp 5) (.tmp 6) 24 rfl _ 5 P (.int .u8 0) 1 1 underlying24 M g A B rfl bc _ 0 [] (by rfl) K ⟨z,0,none⟩ F s (C.map (Value.int .u8)) rfl m (f.out _) p.out y t cp ?_;intro S G b d l;simp only [Nat.zero_add,List.nil_append] at b;obtain ⟨J,I,E,L⟩:=jV b ab;rw [E] at b ⊢;have q:Hid (G.ownsRow w.heap.size 5 1 (.slice (some ⟨J,0,none⟩) F I) F (C.map (Value.int .u8))):=b;have H:Hid (Bw w G):=JU d;clear l d b E L))
 go_ret
 exact ⟨_,_,rfl,q.out,H.out⟩
theorem Kp (b u D:Nat) (l:List Int) (p va k e x:Int) (he:U e) (hm:(cn e k != e)=false) (w:World) (W:Wk w z F s C b u D l p va k): Calls prog 143 #[.agg #[.slice (some ⟨z,0,none⟩) F s,.slice (some ⟨b,u,none⟩) 22 D,.i p,.u va,.i k],.u x,.u e] w λr m=>∃ (f:Option Addr) (c:Nat),r=.returned (.slice f F c)/\l4 w m C f F c:=by
 have E:=fT W.hr;have A:Hid (∀ o,Calls prog 39 #[.slice (some ⟨z,0,none⟩) F s] (w.alloc o) λr m=>∃ (f:Option Addr) (c:Nat),r=.returned (.slice f F c)/\l4 (w.alloc o) m C f F c):=λo=>qo z F s C (w.alloc o) W.hz ab ab (W.hs.below (bal _ _));have y:∀ o,Bw w (w.alloc o):=λo=>bal _ _;have B:Hid (∀ o m f c,l4 (w.alloc o) m C f F c->l4 w m C f F c):=λo m f c h=>⟨cF h.1 cp,aa (y o) h.2⟩;have d:=Ia e k he;rw [hm] at d;have zs:bits .or .u64 64 128=192:=cb
 clear W;cases t:(k==3) with
 | true =>have e3:k=3:=(by simpa using t);have j:o0 k=192:=if_pos e3;rw [j] at d;have q:(bits .and .u64 e 192==192)=true:=d;clear d j e3;go_enter func143,ntmps143;go_wp2_with fail;refine (A.out _).mono ?_;rintro r n ⟨f,c,rfl,g⟩;go_wp2_with fail;go_ret;exact ⟨_,_,rfl,B.out _ _ _ _ g⟩
 | false =>have e3:¬ k=3:=(by simpa using t);have j:o0 k=64:=if_neg e3;rw [j] at d;have q:(bits .and .u64 e 64==64)=true:=d;clear d j e3;go_enter func143,ntmps143;go_wp2_with fail;refine (A.out _).mono ?_;rintro r n ⟨f,c,rfl,g⟩;go_wp2_with fail;go_ret;exact ⟨_,_,rfl,B.out _ _ _ _ g⟩
def NT (l:List Int) (k e x:Int) (n:Nat) (zs:List Int) (w:World) (r:Ending) (w':World):Prop :=
 if ay l 1 x (aU x 8) 3 4 0=true then ∃ (a:Option Addr) (c:Nat),r=.returned (.slice a n c)/\l4 w w' (jT zs (x-2147483648).toNat (cn e k) 8) a n c else r=gF (dJ k)/\Bw w w'
theorem xl (b j g:Nat) (l:List Int) (p va k e x:Int) (he:U e) (hx:gi F x 8=true) (hm:(cn e k != e)=true) (w:World) (W:Wk w z F s C b j g l p va k): Calls prog 143 #[.agg #[.slice (some ⟨z,0,none⟩) F s,.slice (some ⟨b,j,none⟩) 22 g,.i p,.u va,.i k],.u x,.u e] w λr A=>NT l k e x F C w r A:=by
 have hbd:=fT W.hr;have UX:U x:=by obtain ⟨_,_,h1,h2,_,_,_,h4⟩:=iR hx;exact ⟨ab,ab⟩
 have H:Hid (∀ w,Calls prog 190 #[.agg #[.slice (some ⟨z,0,none⟩) F s,.slice (some ⟨b,j,none⟩) 22 g,.i p,.u va,.i k]] w λe A=>e=gF (dJ k)/\Bw w A):=λw=>nW _ _ _ _ _ _ _ _ W.hk1 W.hk3 w;have m:∀ o,Bw w (w.alloc o):=λo=>bal _ _;have y:Hid (∀ o,CB 189 #[.slice (some ⟨b,j,none⟩) 22 g,.i 1,.u x,.i 8,.i 3] (w.alloc o) (.bool (ay l 1 x (aU x 8) 3 4 0))):=λo=>by have:=kO (some ⟨b,j,none⟩) 22 g l 1 x 8 3 (w.alloc o) W.hlz (W.hl.below (m o)) W.hU UX (W.hT.below (m o));rw [Ib F l x 3 W.one hx ab ab] at this;exact this
 have I:Hid (∀ A,Bw w A->Calls prog 194 #[.slice (some ⟨z,0,none⟩) F s,.u x,.i 8,.u (cn e k)] A λr B=>∃ (D:Option Addr) (c:Nat),r=.returned (.tuple #[.slice D F c,.bool true])/\l4 w B (jT C (x-2147483648).toNat (cn e k) 8) D F c):=λA P=>by obtain ⟨_,_,h1,h2,_,_,_,h4⟩:=iR hx;obtain ⟨f,K⟩:∃ f:Nat,x=2147483648+(f:Int):=⟨(x-2147483648).toNat,ab⟩;subst K;have hu:=mF e k;have:=C9 (some ⟨z,0,none⟩) F s f 8 C (cn e k) A W.hz ab (W.hs.below P) hx hu.1 (by have:=hu.2;omega);rw [show (2147483648+(f:Int)-2147483648).toNat=f from ab];exact this.mono λr B h=>⟨_,_,h.1,cF h.2.1 P.size,aa P h.2.2⟩
 have n:Hid (∀ r A,NT l k e x F C w r A=if ay l 1 x (aU x 8) 3 4 0=true then ∃ (D:Option Addr) (c:Nat),r=.returned (.slice D F c)/\l4 w A (jT C (x-2147483648).toNat (cn e k) 8) D F c else r=gF (dJ k)/\Bw w A):=λr A=>rfl;have q:=Ia e k he;have G:=H9 e k;rw [hm] at q;have Z:bits .or .u64 64 128=192:=cb
 generalize ay l 1 x (aU x 8) 3 4 0=pb at *;generalize jT C (x-2147483648).toNat (cn e k) 8=ms at *;generalize NT l k e x F C w=Q at *;generalize cn e k=we at *;clear W hm;obtain ⟨N,M,t⟩:∃ N,o0 k=N/\(((k==3)=true/\N=192)\/((k==3)=false/\N=64)):=by
  refine ⟨_,rfl,?_⟩;by_cases O:k=3;·exact .inl ⟨by simpa using O,if_pos O⟩
  ·exact .inr ⟨by simpa using O,if_neg O⟩
 rw [M] at q G;have J:Hid (bits .or .u64 e N=we):=G;clear G M;rcases t with ⟨t,rfl⟩|⟨t,rfl⟩
 ·have L:(bits .and .u64 e 192==192)=false:=q;clear q;cases pb with
  | false =>go_enter func143,ntmps143;go_wp2_with fail;refine (y.out _).mono ?_;rintro r u ⟨rfl,d⟩;have R1:Hid (u.heap[w.heap.size]?=some (.cells #[.slice (some ⟨z,0,none⟩) F s,.slice (some ⟨b,j,none⟩) 22 g,.i p,.u va,.i k] 114 (0,0))):=ge d (heap_alloc_new w _);obtain ⟨R,S,T,V,X⟩:=lZ R1.out;have zs:Hid (Bw w u):=aa (m _) d;clear d;go_wp2_with fail;refine (H.out _).mono ?_;rintro r Y ⟨rfl,E⟩;exact ⟨rfl,Eq.mpr ((n.out _ _).trans (if_neg bc)) ⟨rfl,aa zs.out E⟩⟩
  | true =>go_enter func143,ntmps143;go_wp2_with fail;refine (y.out _).mono ?_;rintro r u ⟨rfl,d⟩;have R1:Hid (u.heap[w.heap.size]?=some (.cells #[.slice (some ⟨z,0,none⟩) F s,.slice (some ⟨b,j,none⟩) 22 g,.i p,.u va,.i k] 114 (0,0))):=ge d (heap_alloc_new w _);obtain ⟨R,S,T,V,X⟩:=lZ R1.out;have zs:Hid (Bw w u):=aa (m _) d;clear d;go_wp2_with fail;rw [J.out];refine (I.out _ zs.out).mono ?_;rintro r Y ⟨D,c,rfl,K⟩;go_wp2_with fail;exact Eq.mpr ((n.out _ _).trans (if_pos bc)) ⟨_,_,rfl,K⟩
 ·have L:(bits .and .u64 e 64==64)=false:=q;clear q;cases pb with
  | false =>go_enter func143,ntmps143;go_wp2_with fail;refine (y.out _).mono ?_;rintro r u ⟨rfl,d⟩;have R1:Hid (u.heap[w.heap.size]?=some (.cells #[.slice (some ⟨z,0,none⟩) F s,.slice (some ⟨b,j,none⟩) 22 g,.i p,.u va,.i k] 114 (0,0))):=ge d (heap_alloc_new w _);obtain ⟨R,S,T,V,X⟩:=lZ R1.out;have zs:Hid (Bw w u):=aa (m _) d;clear d;go_wp2_with fail;refine (H.out _).mono ?_;rintro r Y ⟨rfl,E⟩;exact ⟨rfl,Eq.mpr ((n.out _ _).trans (if_neg bc)) ⟨rfl,aa zs.out E⟩⟩
  | true =>go_enter func143,ntmps143;go_wp2_with fail;refine (y.out _).mono ?_;rintro r u ⟨rfl,d⟩;have R1:Hid (u.heap[w.heap.size]?=some (.cells #[.slice (some ⟨z,0,none⟩) F s,.slice (some ⟨b,j,none⟩) 22 g,.i p,.u va,.i k] 114 (0,0))):=ge d (heap_alloc_new w _);obtain ⟨R,S,T,V,X⟩:=lZ R1.out;have zs:Hid (Bw w u):=aa (m _) d;clear d;go_wp2_with fail;rw [J.out];refine (I.out _ zs.out).mono ?_;rintro r Y ⟨D,c,rfl,K⟩;go_wp2_with fail;exact Eq.mpr ((n.out _ _).trans (if_pos bc)) ⟨_,_,rfl,K⟩
end Go.Proofs.YtjifdmoehfbihaaGreatDoor
