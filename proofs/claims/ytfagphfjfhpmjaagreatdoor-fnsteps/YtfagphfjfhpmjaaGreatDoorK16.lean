/- Own lemmas. -/
import Derived.Test.YtfagphfjfhpmjaaGreatDoorAut
import Derived.Test.YtfagphfjfhpmjaaGreatDoorK13
import Derived.Test.YtfagphfjfhpmjaaGreatDoorK14
import Derived.Test.YtfagphfjfhpmjaaGreatDoorK15
set_option maxRecDepth 100000
set_option maxHeartbeats 1600000
namespace Go.Proofs.YtfagphfjfhpmjaaGreatDoor
open Go.RowKit Tryz
open IntKind renaming u64->Uz
set_option linter.unusedVariables false
variable {M k:MV} {A n l p b:Nat} {B r w:World} {g a:MA} {e d c:Int} {j x:List Int} {W:List Kr} {f:Bool} (m:MV) (y:MA) (L:List Int) (t:Bool) (z:Int) (v:Option Addr) (F o C:Nat) (D:List Int) (N P R:Nat) (S:List Int) (T:World)
def aM (M:MV) (k:Nat) (i:Bool) (v:Int):MV :=
 ⟨ee (n7 M.cs (dh M.cs M.pr k i)) k (mS M.cs (dh M.cs M.pr k i) i),M.x,sV (dh M.cs M.pr k i),iG M.cs (dh M.cs M.pr k i) M.pr (gD k i) M.pc v,M.ram,M.d,M.hd,M.hl,M.wt⟩
def be (M:MV) (rd x to:Int):MV :=
 ⟨to,if rd=0 then M.x else M.x.set rd.toNat x,M.pr,M.cs.set 21 (Uz.wrap (M.cs.getD 21 0+1)),M.ram,M.d,M.hd,M.hl,M.wt⟩
def cw (M:MV) (h:Bool) (a:Int):MV:=⟨M.pc,M.x,M.pr,M.cs,M.ram,M.d,a,h,M.wt⟩
def gy (M:MV) (b:Bool):MV:=⟨M.pc,M.x,M.pr,M.cs,M.ram,M.d,M.hd,M.hl,b⟩
def iK (M:MV) (l:List Int):MV:=⟨M.pc,M.x,M.pr,l,M.ram,M.d,M.hd,M.hl,M.wt⟩
def gz (M:MV) (p:Int):MV:=⟨M.pc,M.x,p,M.cs,M.ram,M.d,M.hd,M.hl,M.wt⟩
def cL (r:Int × MV × Int) (more:Nat) (v:Int):MV × Int:=(aM r.2.1 ((r.2.2-16).toNat+more) false v,2)
def fL (M:MV) (i:Ins) (a b n:Int):Int :=
 if i.op=4 then bits .andNot .u64 (Uz.wrap (a+n)) 1
 else if (decide (4<i.op)&&!Kt i.op a b)=true then Uz.wrap (M.pc+4) else Uz.wrap (M.pc+n)
def pV (M:MV) (i:Ins) (a b n:Int):MV × Int :=
 if (bits .and .u64 (fL M i a b n) 2 != 0)=true then (aM M 0 false (fL M i a b n),2)
 else (be M (if 4<i.op then 0 else i.rd) (Uz.wrap (M.pc+4)) (fL M i a b n),1)
def jK (op:Int):Nat:=if op-11<4 then 2^(op-11).toNat else 2^(op-15).toNat
def mZ (M:MV) (i:Ins) (at_:Int):MV × Int :=
 let r:=aC M at_ (jK i.op) 2 0
 if (r.2.2 != 0)=true then cL r 0 at_
 else (be r.2.1 i.rd (if i.op-11<4 then au (8*jK i.op) r.1 else r.1) (Uz.wrap (r.2.1.pc+4)),1)
def nL (M:MV) (i:Ins) (at_ b:Int):MV × Int :=
 let r:=aC M at_ (2^(i.op-18).toNat:Nat) 3 b
 if (r.2.2 != 0)=true then cL r 0 at_ else (be r.2.1 0 0 (Uz.wrap (r.2.1.pc+4)),1)
def bD (op:Int):Nat:=if op-63>=11 then 8 else 4
def m0 (op:Int):Int:=if op-63>=11 then op-74 else op-63
def cy (M:MV) (va kind:Int):Fd:=ct M.ram M.ram.length M.cs (gc M.cs M.pr kind) va kind
def dA (M:MV) (va kind:Int):MV:=bU M (bx M.ram (cy M va kind))
def Uo (M:MV) (i:Ins) (a:Int):MV × Int :=
 let r:=aC M a (bD i.op) 2 0
 if (r.2.2 != 0)=true then cL r 0 a
 else (be (cw (dA r.2.1 a 2) true (cy r.2.1 a 2).addr) i.rd (au (8*bD i.op) r.1) (Uz.wrap (M.pc+4)),1)
def Vp (M:MV) (i:Ins) (a b:Int) (pa:Int):MV × Int :=
 if (M.hl&&(M.hd==pa))=true then
  (let r:=aC M a (bD i.op) 3 b
   if (r.2.2 != 0)=true then cL r 0 a else (be (cw r.2.1 false 0) i.rd 0 (Uz.wrap (M.pc+4)),1))
 else (be (cw M false 0) i.rd 1 (Uz.wrap (M.pc+4)),1)
def SZ (M:MV) (i:Ins) (a b:Int):MV × Int :=
 let r:=aC M a (bD i.op) 2 0
 if (r.2.2 != 0)=true then cL r 2 a
 else
  let q:=aC r.2.1 a (bD i.op) 3 (iT i.op r.1 b)
  if (q.2.2 != 0)=true then cL q 0 a else (be q.2.1 i.rd (au (8*bD i.op) r.1) (Uz.wrap (M.pc+4)),1)
def iU (M:MV) (i:Ins) (a b:Int):MV × Int :=
 if (m0 i.op==0)=true then Uo M i a
 else if (a%(bD i.op:Nat) != 0)=true then (aM M 6 false a,2)
 else if ((cy M a 3).code != 0)=true then (aM (dA M a 3) (cy M a 3).code.toNat false a,2)
 else if (m0 i.op==1)=true then Vp (dA M a 3) i a b (cy M a 3).addr
 else SZ (dA M a 3) i a b
def ey (i:Ins):Bool:=((i.op-87).tmod 3==0)||(i.a != 0)
def lW (i:Ins) (a:Int):Int:=if 90<=i.op then Uz.wrap i.a else a
def uk (i:Ins) (a old:Int):Int:=if ((i.op-87).tmod 3==1)=true then bits .or .u64 old (lW i a) else if ((i.op-87).tmod 3==2)=true then bits .andNot .u64 old (lW i a) else lW i a
def nM (M:MV) (i:Ins) (a w:Int):MV × Int :=
 if (!jt M.cs.length M.cs i.imm M.pr||(ey i&&((wrap64 (i.imm.tdiv 1024)).tmod 4==3)))=true then (aM M 2 false w,2)
 else
  let N:=be M i.rd (dE M.cs i.imm) (Uz.wrap (M.pc+4))
  (if ey i=true then iK N (cn N.cs i.imm (uk i a (dE M.cs i.imm))) else N,1)
def o6 (p:Int):Nat:=if p=0 then 8 else if p=1 then 9 else 11
def kN (M:MV) (i:Ins) (w:Int):MV × Int :=
 if i.op=93 then (aM M (o6 M.pr) false 0,2)
 else if i.op=94 then (aM M 3 false M.pc,2)
 else if i.op=95\/i.op=96 then
  (if (((i.op==96)&&(M.pr != 3))||(M.pr==0))=true then (aM M 2 false w,2)
   else (be (gz (iK M (M.cs.set 0 (cW (M.cs.getD 0 0) (i.op==96)))) (dx (M.cs.getD 0 0) (i.op==96))) 0 0 (eH M.cs (i.op==96)),1))
 else if (M.pr==0)=true then (aM M 2 false w,2)
 else if i.op=97 then (be (gy M true) 0 0 (Uz.wrap (M.pc+4)),1)
 else (be M 0 0 (Uz.wrap (M.pc+4)),1)
def dq (M:MV) (i:Ins) (w:Int):MV × Int :=
 let a:=M.x.getD i.a.toNat 0
 let b:=M.x.getD i.b.toNat 0
 let n:=Uz.wrap i.imm
 if i.op=1 then (be M i.rd n (Uz.wrap (M.pc+4)),1)
 else if i.op=2 then (be M i.rd (Uz.wrap (M.pc+n)) (Uz.wrap (M.pc+4)),1)
 else if i.op<=10 then pV M i a b n
 else if i.op<=17 then mZ M i (Uz.wrap (a+n))
 else if i.op<=21 then nL M i (Uz.wrap (a+n)) b
 else if i.op<=62 then (be M i.rd (nv i.op a (if (fp i.op).toList=[82] then b else n)) (Uz.wrap (M.pc+4)),1)
 else if i.op<=84 then iU M i a b
 else if i.op<=86 then (be M 0 0 (Uz.wrap (M.pc+4)),1)
 else if i.op<=92 then nM M i a w
 else kN M i w
def cj (M:MV):MV × Int :=
 if (M.wt&&(kq M.cs==0))=true then (M,4)
 else if 0<=fN M.cs M.pr then (aM (gy M false) (fN M.cs M.pr).toNat true 0,3)
 else
  let r:=aC (gy M false) M.pc 4 1 0
  if (r.2.2 != 0)=true then cL r 0 r.2.1.pc
  else match BW r.1 with
   | none=>(aM r.2.1 2 false r.1,2)
   | some i=>dq r.2.1 i r.1
theorem CV (h:lK M=true) {j:List Int} (e:j.getD 9 0=M.cs.getD 9 0):(bits .and .u64 (j.getD 9 0) 2184==dP M.d)=true:=by rw [e];exact h
theorem Qb (d pc v:Int):(iG L t z d pc v).getD 9 0=L.getD 9 0:=by
 cases t;·show ((((L.set 7 d).set 6 (bits .andNot .u64 pc 3)).set 8 v).set 0 (mJ (L.getD 0 0) z)).getD 9 0=_;rw [gn _ _ _ _ ab,gn _ _ _ _ ab,gn _ _ _ _ ab,gn _ _ _ _ ab]
 ·show ((((L.set 13 d).set 12 (bits .andNot .u64 pc 3)).set 14 v).set 0 (mh (L.getD 0 0) (z==1))).getD 9 0=_;rw [gn _ _ _ _ ab,gn _ _ _ _ ab,gn _ _ _ _ ab,gn _ _ _ _ ab]
theorem J1 (k:Int) (j:Bool):U (ee z k j):=by
 cases j;·exact ah .andNot z 1
 ·exact aU (bits .andNot .u64 z 1+Uz.wrap (4*k))
theorem J2:bZ (sV t)=true:=by cases t<;>rfl
theorem Gd.trap (h:Gd M) (hk:A<16) (i:Bool) (hv:U e):Gd (aM M A i e):=by
 obtain ⟨n,v,o,f,g,j,l⟩:=fg h.ok;obtain ⟨b,a,c,_,_,_⟩:=aI h.ok;have d:fI 4 (n7 M.cs (dh M.cs M.pr A i))=true\/fI 10 (n7 M.cs (dh M.cs M.pr A i))=true:=by
  cases dh M.cs M.pr A i;·exact Or.inl (eM a 4 ab)
  ·exact Or.inr (eM a 10 ab)
 have m:=MI M.cs b h.mw.cs a (dh M.cs M.pr A i) M.pr M.pc e c h.pc A hk i;refine ⟨kY (M:=aM M A i e) (by show (bits .and .u64 (ee _ _ _) 3==0)=true;rw [VX _ _ _ d];rfl) v ?_ f g j (CV l (Qb _ _ _ _ _ _)),⟨PF _ h.mw.cs _ _ _ _ hv _ hk _,h.mw.ram,h.mw.xs,h.mw.ys⟩,h.ux,J1 _ _ _,h.hd⟩;show bn (iG M.cs _ _ _ _ _).length (iG M.cs _ _ _ _ _) (sV _)=true;unfold bn;rw [lP,b,J2,Bool.and_true];exact m
theorem Gd.done (h:Gd M) {to:Int} (o:0<=d) (p:d<=31) (hx:U c) (q:U to) (h4:bits .and .u64 to 3=0):Gd (be M d c to):=by
 obtain ⟨_,b,r,f,l,m,n⟩:=fg h.ok;obtain ⟨x,i,k,_,_,_⟩:=aI h.ok;unfold gv at b;rw [Bool.and_eq_true,decide_eq_true_eq] at b;have rd:U (Uz.wrap (M.cs.getD 21 0+1)):=aU _;have g:bE 22 (M.cs.set 21 (Uz.wrap (M.cs.getD 21 0+1)))=true:=cR M.cs x i 21 ab _ (beq_self_eq_true _);have a:(if d=0 then M.x else M.x.set d.toNat c).length=32/\((if d=0 then M.x else M.x.set d.toNat c).getD 0 0==0)=true/\∀ j,U ((if d=0 then M.x else M.x.set d.toNat c).getD j 0):=by
  by_cases e:d=0;·rw [if_pos e];exact ⟨b.1,b.2,h.ux⟩
  ·rw [if_neg e];refine ⟨by rw [List.length_set];exact b.1,by rw [gn _ _ _ _ ab];exact b.2,λj=>?_⟩;rw [List.getD_eq_getElem?_getD,List.getElem?_set];split
   ·split;·exact hx
    ·exact ⟨bc,bc⟩
   ·have:=h.ux j;rw [List.getD_eq_getElem?_getD] at this;exact this
 refine ⟨kY (M:=be M d c to) (by show (bits .and .u64 to 3==0)=true;rw [h4];rfl) ?_ ?_ f l m (CV n (gn _ _ _ _ ab)),⟨?_,h.mw.ram,h.mw.xs,h.mw.ys⟩,a.2.2,q,h.hd⟩;·show gv (if d=0 then M.x else M.x.set d.toNat c).length (if d=0 then M.x else M.x.set d.toNat c)=true;unfold gv;rw [a.2.1,decide_eq_true a.1];rfl
 ·show bn (M.cs.set 21 _).length (M.cs.set 21 _) M.pr=true;unfold bn;rw [List.length_set,x,k,Bool.and_true];exact g
 ·intro j;show U ((M.cs.set 21 (Uz.wrap (M.cs.getD 21 0+1))).getD j 0);rw [List.getD_eq_getElem?_getD,List.getElem?_set];split
  ·split;·exact rd
   ·exact ⟨bc,bc⟩
  ·have:=h.mw.cs j;rw [List.getD_eq_getElem?_getD] at this;exact this
theorem Gd.hold (h:Gd M) (k:U e) (hb:f=true\/e=0):Gd (cw M f e):=by obtain ⟨c,d,b,g,i,l,j⟩:=fg h.ok;exact ⟨kY (M:=cw M f e) c d b g i (by show (f||(e==0))=true;rcases hb with a|a<;>rw [a]<;>simp) j,⟨h.mw.cs,h.mw.ram,h.mw.xs,h.mw.ys⟩,h.ux,h.pc,k⟩
theorem Gd.wait (h:Gd M) (b:Bool):Gd (gy M b):=by obtain ⟨a,c,d,e,f,g,i⟩:=fg h.ok;exact ⟨kY (M:=gy M b) a c d e f g i,⟨h.mw.cs,h.mw.ram,h.mw.xs,h.mw.ys⟩,h.ux,h.pc,h.hd⟩
structure Ht (B hh r:Nat) (M:MV) (A:MA) (W:World):Prop where
 row:W.heap[hh]?=some (.cells #[.p r 0,.slice none 0 0] 72 (0,0))
 mp:Mp B r M A W
 ne:hh≠r
 nq:∀ q ∈ aG M A,q.v.ownBlock≠some hh
theorem Ht.lt (h:Ht A n l M g B):n<B.heap.size:=(Array.getElem?_eq_some_iff.1 h.row).1
theorem Ht.step (h:Ht A n l M g B) (p:Mp A l k a r) (w:Kx l (aG M g) (aG k a) B r):Ht A n l k a r :=
 ⟨(w.block n h.lt h.ne h.nq).trans h.row,p,h.ne,λq d e=>by obtain ⟨f,c,b⟩:=w.own q d n e h.lt;exact h.nq f c b⟩
theorem Ht.below (h:Ht A n l M g B) (hb:Bw B r):Ht A n l M g r:=h.step (h.mp.below hb) (Kx.of_below hb)
theorem Ht.cells (h:Ht A n l M g B):B.cell? ⟨n,0,none⟩=some (.p l 0)/\B.cell? ⟨n,1,none⟩=some (.slice none 0 0):=by simp [World.cell?,h.row]
theorem Mp.cs {r:Nat} (h:Mp A r M g w) (i:M.cs.length=22):∃ B,g.ac=some ⟨B,0,none⟩/\eG w A B g.cc M.cs /\ ∀ (c:World) (l:List Int),l.length=22->w.grownBy c (some B)->eG c A B g.cc l->Mp A r (iK M l) g c/\Kx r (aG M g) (aG (iK M l) g) w c:=by
 have m:aJ g.ac M.cs.length g.cc M.cs ∈ aG M g:=dv
 have v:=h.fam.own _ m;have f:∃ B,g.ac=some ⟨B,0,none⟩:=by
  rcases v.2 with ⟨e,o⟩|⟨u,cap,x,e,_⟩;·have:M.cs.length=0:=o;omega
  ·have e2:Value.slice g.ac M.cs.length g.cc=.slice (some ⟨u,0,none⟩) M.cs.length cap:=e;injection e2 with e3
   exact ⟨u,e3⟩
 obtain ⟨B,f⟩:=f;have p:eG w A B g.cc M.cs:=by have:w.ownsRow A 22 1 (.slice g.ac M.cs.length g.cc) M.cs.length (M.cs.map (Value.int .u64)):=v;rw [f,i] at this;exact this
 refine ⟨B,f,p,λc l D j n=>?_⟩;have k:w.grownBy c (aJ g.ac M.cs.length g.cc M.cs).v.ownBlock:=by have e:(aJ g.ac M.cs.length g.cc M.cs).v.ownBlock=some B:=(by show (Value.slice g.ac M.cs.length g.cc).ownBlock=_;rw [f];rfl);rw [e];exact j
 have t:c.ownsRow A 22 1 (aJ g.ac M.cs.length g.cc M.cs).v M.cs.length (l.map (Value.int .u64)):=by show c.ownsRow A 22 1 (.slice g.ac M.cs.length g.cc) _ _;rw [f,i];exact n
 have d:=bA.markL (L1:=[aJ g.ax M.x.length g.cx M.x]) (L2:=[aD g.ar M.ram.length g.cr M.ram,aD g.ai M.d.xs.length g.ci M.d.xs,aD g.ao M.d.ys.length g.co M.d.ys]) (r:=aJ g.ac M.cs.length g.cc M.cs) h.fam k _ t;have a:l.length=M.cs.length:=ab
 have b:=jy (M:=M) (M':=iK M l) (A:=g) rfl a rfl rfl rfl;have hF:bA A w.heap.size c (aG (iK M l) g):=by unfold aG iK;dsimp only;rw [a];exact d.1
 refine ⟨⟨?_,hF.low (Nat.le_refl _) j.size,λq s e=>?_,h.lo⟩,Kx.of_keepL d.2 b⟩;·have z:c.heap[r]?=w.heap[r]?:=d.2.block r h.lt (λq s e=>h.ne q s e);rw [z,h.row];unfold aj iK;dsimp only;rw [a]
 ·obtain ⟨C,y,o⟩:=b q s;exact h.ne C y (by rw [o];exact e)
theorem Ht.atX (h:Ht A n l M g B) (d:M.x.length=32):∃ b,g.ax=some ⟨b,0,none⟩/\∀ j,j<32->B.cell? ⟨b,j,none⟩=some (.u (M.x.getD j 0))/\B.frozen? ⟨b,j,none⟩=false:=by have a:=h.mp.xrow;rw [d] at a;obtain ⟨b,c,e,w⟩:=jP a ab;simp only [Value.slice.injEq,true_and] at e;obtain ⟨f,e2⟩:=e;refine ⟨b,f,λj i=>?_⟩;rw [f] at a;refine ⟨?_,a.frozenAt j⟩;rw [a.cellAt j ab];rw [List.getElem?_map,List.getElem?_eq_getElem (show j<M.x.length by omega),List.getD_eq_getElem?_getD,List.getElem?_eq_getElem (show j<M.x.length by omega)];rfl
theorem Ht.atC (h:Ht A n l M g B) (d:M.cs.length=22):∃ b,g.ac=some ⟨b,0,none⟩/\∀ j,j<22->B.cell? ⟨b,j,none⟩=some (.u (M.cs.getD j 0))/\B.frozen? ⟨b,j,none⟩=false:=by have a:B.ownsRow A 22 1 (.slice g.ac M.cs.length g.cc) M.cs.length (M.cs.map (Value.int .u64)):=h.mp.fam.own (aJ g.ac M.cs.length g.cc M.cs) dv;rw [d] at a;obtain ⟨b,c,e,w⟩:=jP a ab;simp only [Value.slice.injEq,true_and] at e;obtain ⟨f,e2⟩:=e;refine ⟨b,f,λj i=>?_⟩;rw [f] at a;refine ⟨?_,a.frozenAt j⟩;rw [a.cellAt j ab];rw [List.getElem?_map,List.getElem?_eq_getElem (show j<M.cs.length by omega),List.getD_eq_getElem?_getD,List.getElem?_eq_getElem (show j<M.cs.length by omega)];rfl
theorem wY (h:Ht A l p M g B) (q:Gd M) (k:Nat) (hk:k<16) (i:Bool) (v:Int): Calls prog 90 #[.slice g.ac M.cs.length g.cc,.i M.pr,.u M.pc,.i k,.bool i,.u v] B λe c=>e=.returned (.tuple #[.i (aM M k i v).pr,.u (aM M k i v).pc])/\Ht A l p (iK M (aM M k i v).cs) g c/\Kx p (aG M g) (aG (iK M (aM M k i v).cs) g) B c:=by obtain ⟨a,r,f,_,_,_⟩:=aI q.ok;obtain ⟨w,d,b,j⟩:=h.mp.cs a;rw [d,a];refine (BZ A w g.cc M.cs M.pr M.pc v f k hk i B b).mono λe c ⟨m,n,o⟩=>?_;obtain ⟨s,hh⟩:=j c _ (by rw [lP];exact a) o n;exact ⟨m,h.step s hh,hh⟩
theorem m7 (h:Ht F o C m y T): CE 91 #[.p o 0] T (.tuple #[]):=by obtain ⟨c,d⟩:=h.cells;clear h;go_enter func91,ntmps91;go_wp2_with fail;exact bodyPost_end (results_none rfl _ _ _) rfl ⟨rfl,rfl⟩
def aO (hh r:Nat):Kr:=⟨hh,#[.p r 0,.slice none 0 0],72,[(0,1)]⟩
def eU (N:Nat):List (Array Value × TypeId)->List Kr
 | []=>[]
 | x::l=>⟨N,x.1,x.2,[]⟩::eU (N+1) l
theorem CW {x:Kr}:∀ {l:List (Array Value × TypeId)} {N:Nat},x ∈ eU N l->∃ i y,l[i]?=some y/\x.b=N+i/\x.cs=y.1/\x.t=y.2
 | [],_,h=>ni
 | y::l,N,h=>by
   rcases List.mem_cons.1 h with rfl|h
   ·exact ⟨0,y,rfl,rfl,rfl,rfl⟩
   ·obtain ⟨i,z,a,c,b⟩:=CW h
    exact ⟨i+1,z,ri,ab,b⟩
section
variable {B hh r : Nat} {M : MV} {A : MA} {w : World}
theorem Hx.start (h:Ht B hh r M A w) (bs:List (Array Value × TypeId)):Hx B r (aO hh r::eU w.heap.size bs) M A w M A (bP w bs):=by
 obtain ⟨d,a⟩:=Bs.start w bs;refine ⟨h.mp.below a,Kx.of_below a,λx b=>?_⟩;rcases List.mem_cons.1 b with rfl | b;·exact ⟨bq a h.row,h.ne,h.nq⟩
 ·obtain ⟨i,y,c,e2,e3,e4⟩:=CW b;have f:=h.mp.lt;refine ⟨by rw [e2,e3,e4];exact d i y c,ab,λq g e=>?_⟩;have:=h.mp.fam.hi q g _ e;omega
theorem Hx.ht {M':MV} {a:MA} {L:List Kr} {W:World} (h:Hx B r (aO hh r::L) M A w M' a W):Ht B hh r M' a W:=by obtain ⟨b,c,d⟩:=h.rows (aO hh r) cp;exact ⟨b,h.mp,c,d⟩
theorem Hx.to {M' M2:MV} {b a:MA} {L:List Kr} {W W2:World} (h:Hx B r (aO hh r::L) M A w M' b W) (k:Ht B hh r M2 a W2) (c:Kx r (aG M' b) (aG M2 a) W W2):Hx B r (aO hh r::L) M A w M2 a W2:=h.step k.mp c
end
def HR (B hh r:Nat) (M:MV) (A:MA) (w:World) (R:MV × Int) (e:Ending) (w':World):Prop:=e=.returned (.i R.2)/\∃ a,Ht B hh r R.1 a w'/\Kx r (aG M A) (aG R.1 a) w w'
theorem Hx.hr (h:Hx A l (aO n l::W) M g w k a B) (M':Int):HR A n l M g w (k,M') (.returned (.i M')) B:=⟨rfl,a,h.ht,h.kx⟩
section
variable {B hh r : Nat} {M : MV} {A : MA} {w : World}
theorem dX (k:Nat) (hk:k<16) (v:Int) (h:Ht B hh r M A w) (n:Gd M):Calls prog 93 #[.p hh 0,.i k,.u v] w (HR B hh r M A w (aM M k false v,2)):=by
 refine bC (S:=Hx B r [aO hh r] M A w M A) (args:=[.p hh 0,.i k,.u v]) [] func93 ?_;refine aK 0 2 ?_;refine ae (Hx.eng (dr:=false)) {} 10 (Hx.start h []) λW b=>?_;have o:(aM M k false v).cs.length=M.cs.length:=lP _ _ _ _ _ _;have d:aj (iK M (aM M k false v).cs) A=aj M A:=by unfold aj iK;dsimp only;rw [o]
 refine aH (Hs r [aO hh r] (aj M A)) ?_;refine lG 37 ?_;refine aS (Hs.eng (dr:=true) (λ_ h=>h.hs)) {} 100 (b.below (Below.refl _ _).drew) (λg c=>wY c.ht n k hk false v) ?_;rintro g e q c ⟨rfl,j,p⟩;have a:=c.to j p;refine ⟨_,0,rfl,λ_=>d ▸ a.hs,?_⟩;refine ae (Hs.eng (dr:=true) (λ_ h=>d ▸ h.hs)) {} 40 a λs a=>?_;refine bM (bJ (i:=2) (T:=2) (v:=.i (aM M k false v).pr) a.mp.row (show 2<14 by decide) ba rfl) ?_;have l:=a.fld (M':=gz (iK M (aM M k false v).cs) (aM M k false v).pr) 2 (.i (aM M k false v).pr) rfl rfl;refine aH (Hx B r [aO hh r] M A w (gz (iK M (aM M k false v).cs) (aM M k false v).pr) A) ?_;refine ae (Hx.eng (dr:=true)) {} 40 l λu f=>?_;refine bM (bJ (i:=0) (T:=22) (v:=.u (aM M k false v).pc) f.mp.row (show 0<14 by decide) ba rfl) ?_;have m:=f.fld (M':=aM M k false v) 0 (.u (aM M k false v).pc) rfl rfl;refine aH (Hx B r [aO hh r] M A w (aM M k false v) A) ?_;exact bm (t:=6) (v:=.i 2) (Hx.eng (dr:=true)) {cv:=[(47,ke λW b=>m7 (aM M k false v) A B hh r W b.ht)]} 40 m λW b=>b.hr 2
theorem fq (rd x to:Int) (J:0<=rd) (K:rd<=31) (h:Ht B hh r M A w) (f:M.x.length=32) (k:M.cs.length=22):Calls prog 95 #[.p hh 0,.i rd,.u x,.u to] w (HR B hh r M A w (be M rd x to,1)):=by
 have p:=Hx.start h [];have fin:∀ (S:World->Prop) (N:MV) (W:World),Hx B r [aO hh r] M A w N A W->N.x.length=32->N.cs=M.cs->⟨to,N.x,M.pr,M.cs.set 21 (Uz.wrap (M.cs.getD 21 0+1)),M.ram,M.d,M.hd,M.hl,M.wt⟩=be M rd x to->(N.pr=M.pr/\N.ram=M.ram/\N.d=M.d/\N.hd=M.hd/\N.hl=M.hl/\N.wt=M.wt)->Wg prog S (bodyPost prog Tryz.f95 (HR B hh r M A w (be M rd x to,1))) Tryz.f95.ntmps [.code (aq 2 (aL Tryz.f95))] [(0,.p hh 0,2),(3,.u to,0)] W:=by
  intro S N W y L z C I;obtain ⟨o,l,U,O,D,Z,P,Q,V⟩:=N;obtain ⟨rfl,rfl,rfl,rfl,rfl,rfl⟩:=I;dsimp only at L z C;subst z;obtain ⟨b,g,j⟩:=y.ht.atC k;refine aH (Hx B r [aO hh r] M A w ⟨o,l,M.pr,M.cs,M.ram,M.d,M.hd,M.hl,M.wt⟩ A) ?_;refine ae (Hx.eng (dr:=false)) {} 40 y λX n=>?_;refine bM (bJ (i:=0) (T:=22) (v:=.u to) n.mp.row (show 0<14 by decide) ba rfl) ?_;have G:=n.fld (M':=⟨to,l,M.pr,M.cs,M.ram,M.d,M.hd,M.hl,M.wt⟩) 0 (.u to) rfl rfl;refine aH (Hx B r [aO hh r] M A w ⟨to,l,M.pr,M.cs,M.ram,M.d,M.hd,M.hl,M.wt⟩ A) ?_;refine ae (Hx.eng (dr:=false)) {} 40 G λY H=>?_;refine zT ?_;have m:∀ W,Hx B r [aO hh r] M A w ⟨to,l,M.pr,M.cs,M.ram,M.d,M.hd,M.hl,M.wt⟩ A W->W.cell? ⟨b,0+(21:Int).toNat,none⟩=some (.u (M.cs.getD 21 0))/\W.frozen? ⟨b,0+(21:Int).toNat,none⟩=false:=λW c=>by obtain ⟨F,d,a⟩:=c.ht.atC k;rw [g] at d;cases d;exact a 21 ab
  refine ae (Hx.eng (dr:=true)) {ov:=[(42,kF M.cs.length A.cc .i64 21 g ⟨ab,ab⟩ underlying23 ba),(43,iL ⟨b,0+(21:Int).toNat,none⟩ (.u (M.cs.getD 21 0)) underlying22 rfl (λW c=>(m W c).1)),(45,kF M.cs.length A.cc .i64 21 g ⟨ab,ab⟩ underlying23 ba)]} 60 (H.below (Below.refl _ _).drew) λE s=>?_;refine bM (jw (T:=22) (v:=.u (Uz.wrap (M.cs.getD 21 0+1))) (m E s) ba rfl) ?_;have u:=s.setC b g 21 (Uz.wrap (M.cs.getD 21 0+1));rw [show cM (⟨to,l,M.pr,M.cs,M.ram,M.d,M.hd,M.hl,M.wt⟩:MV) (M.cs.set 21 (Uz.wrap (M.cs.getD 21 0+1)))=be M rd x to from C] at u;refine aH (Hx B r [aO hh r] M A w (be M rd x to) A) ?_;exact bm (t:=8) (v:=.i 1) (Hx.eng (dr:=true)) {} 40 u λW c=>c.hr 1
 refine bC (S:=Hx B r [aO hh r] M A w M A) (args:=[.p hh 0,.i rd,.u x,.u to]) [] func95 ?_;refine aK 0 2 ?_;by_cases e:rd=0;·subst e;refine ae (Hx.eng (dr:=false)) {} 8 p λW c=>?_;exact af _ _ (fin _ M W c f rfl rfl ⟨rfl,rfl,rfl,rfl,rfl,rfl⟩)
 ·have q:(rd != 0)=true:=(by simpa using e);obtain ⟨b,g,j⟩:=h.atX f;have m:∀ W,Hx B r [aO hh r] M A w M A W->W.cell? ⟨b,0+rd.toNat,none⟩=some (.u (M.x.getD (0+rd.toNat) 0))/\W.frozen? ⟨b,0+rd.toNat,none⟩=false:=λW c=>by obtain ⟨F,d,a⟩:=c.ht.atX f;rw [g] at d;cases d;exact a (0+rd.toNat) ab
  refine ae (Hx.eng (dr:=false)) {eq:=[(10,ak q)],ov:=[(20,kF M.x.length A.cx .i64 rd g ⟨ab,ab⟩ underlying23 ba)]} 40 p λW c=>?_;refine bM (jw (T:=22) (v:=.u x) (m W c) ba rfl) ?_;have n:=c.setX b g (0+rd.toNat) x;refine an (R:=[]) trivial {} 1 ?_;refine af _ _ (fin _ _ _ n (by show (M.x.set _ _).length=32;rw [List.length_set];exact f) rfl ?_ ⟨rfl,rfl,rfl,rfl,rfl,rfl⟩);unfold be xM;rw [if_neg e,Nat.zero_add]
end
theorem Hx.last {P:Program} {fn:Func} {S:World->Prop} {R:List Rw} {V:MV × Int} {C:List KI} {F:Fr} (E:nZ P S (Hx A p (aO l p::W) M g B k a) R f (bodyPost P fn (HR A l p M g B V))) (H:Hn P S (Hx A p (aO l p::W) M g B k a)) (m:Nat) (hS:Hx A p (aO l p::W) M g B k a r) {args:Array Value} (j:∀ r,Hx A p (aO l p::W) M g B k a r->Calls P b args r (HR A l p k a r V)) {t:Nat} (hr:fn.results=#[.tmp t]:=by rfl) (hx:((bp P R H n f m C F).1.1,OA P n (bp P R H n f m C F).1.2.2 (bp P R H n f m C F).1.2.1,zB (bp P R H n f m C F).1.2.2 (bp P R H n f m C F).1.2.1,ij (po (bp P R H n f m C F).1.2.2 (bp P R H n f m C F).1.2.1))=(false,some (b,args),false,true):=by kernel_rfl) (he:(bp P R H n f m C F).2.map Prod.fst=(bp P R H n f m C F).2.map Prod.snd:=by kernel_rfl) (hy:∀ J:World->Prop,(λ(y:(Bool × List KI × Fr) × List (Oe × Oe))=>(y.1.1,(lk y.1.2.2 t).map Prod.fst,y.2.map Prod.fst)) (bp P [] ({}:Hn P (λ_=>True) J) n true 20 (po (bp P R H n f m C F).1.2.2 (bp P R H n f m C F).1.2.1) (qA (bp P R H n f m C F).1.2.2 (bp P R H n f m C F).1.2.1 (.i V.2) 0))=(true,some (.i V.2),[]):=by intro _;kernel_rfl): Wg P S (bodyPost P fn (HR A l p M g B V)) n C F r:=by simp only [Prod.mk.injEq] at hx;refine aS E H m hS j (hx:=vw) (he:=he) ?_;rintro o e L d ⟨rfl,N,w,hh⟩;refine ⟨_,0,rfl,gh hx.2.2.1,?_⟩;have i:=d.to w hh;refine aH (λ_=>True) (hn:=hx.2.2.2) ?_;have dr:=hy (Hx A p (aO l p::W) M g B V.1 N);simp only [Prod.mk.injEq] at dr;refine bm (R:=[]) (t:=t) (v:=.i V.2) (J:=Hx A p (aO l p::W) M g B V.1 N) ⟨λ_ _=>trivial,λ_ _ x hx=>(by cases hx),λ_ r h=>h.below (Below.refl _ _).drew,cH⟩ {} 20 i (hv:=by rw [dr.1,dr.2.1]) (he:=by rw [List.map_eq_nil_iff.1 dr.2.2];rfl) (hr:=hr) λr c=>⟨rfl,N,c.ht,c.kx⟩
theorem Gd.x32 (h:Gd M):M.x.length=32:=by have:=(fg h.ok).2.1;unfold gv at this;rw [Bool.and_eq_true,decide_eq_true_eq] at this;exact this.1
theorem kh {M:MV} {addr size kind x c:Int} (a:(aC M addr size kind x).2.2=c) (hn:(c != 0)=true):IntKind.i64.wrap (c-16)=(((c-16).toNat:Nat):Int)/\(c-16).toNat<16:=by
 have h:=MZ M addr size kind x;rw [a] at h;rcases h with h|⟨d,b,e⟩;·rw [h] at hn;cases hn
 ·rw [IntKind.wrap_i64];omega
section
variable {B hh r : Nat} {M : MV} {A : MA} {w : World}
theorem S7 (op rd d f imm at_:Int) (j:11<=op) (o:op<=14) (u:0<=rd) (v:rd<=31) (t:U at_) (h:Ht B hh r M A w) (m:Gd M):Calls prog 97 #[.p hh 0,.agg #[.i op,.i rd,.i d,.i f,.i imm],.u at_] w (HR B hh r M A w (mZ M ⟨op,rd,d,f,imm⟩ at_)):=by
 obtain ⟨V,s⟩:∃ V,mZ M ⟨op,rd,d,f,imm⟩ at_=V:=⟨_,rfl⟩;rw [s];obtain ⟨a,q⟩:∃ a,a=jK op:=⟨_,rfl⟩;obtain p|p|p|p:op=11\/op=12\/op=13\/op=14:=ab
 all_goals
  have l:=m.acc at_ a 2 0
  have k:=λW (b:Mp B r M A W)=>fS M A B r at_ a 2 0 W b m.len m.mw m.ok ki ab ab t ⟨bc,bc⟩
  have n:=λc=>kh (M:=M) (addr:=at_) (size:=a) (kind:=2) (x:=0) (c:=c)
  have i:(if ((aC M at_ a 2 0).2.2 != 0)=true then cL (aC M at_ a 2 0) 0 at_ else (be (aC M at_ a 2 0).2.1 rd (au (8*a) (aC M at_ a 2 0).1) (Uz.wrap ((aC M at_ a 2 0).2.1.pc+4)),1))=V:=by subst p q;exact s
  clear s
  generalize aC M at_ a 2 0=X at *
  obtain ⟨y,N,c⟩:=X
  dsimp only at l k n i
  refine bC (S:=Hs r (aO hh r::eU w.heap.size [(#[.i op,.i rd,.i d,.i f,.i imm],80)]) (aj M A)) (args:=[.p hh 0,.agg #[.i op,.i rd,.i d,.i f,.i imm],.u at_]) [(#[.i op,.i rd,.i d,.i f,.i imm],80)] func97 (hn:=bb) (hs:=bb) ?_
  refine aK 0 2 (aK 4 3 ?_)
  refine ae (Hs.eng (dr:=false) (λ_ h=>h.hs)) {} 80 (Hx.start h _) (hret:=bb) (he:=bb) λW b=>?_
  refine lG 10 (hm:=bb) (hk:=bb) ?_
  refine aS (Hs.eng (dr:=true) (λ_ h=>h.hs)) {} 60 (b.below (Below.refl _ _).drew) (λz j=>k z j.mp) (hx:=bb) (he:=bb) ?_
  rintro z e E j ⟨rfl,C,o,D⟩
  refine ⟨_,0,rfl,gh bb,aH (Hs r (aO hh r::eU w.heap.size [(#[.i op,.i rd,.i d,.i f,.i imm],80)]) (aj N C)) (hn:=bb) ?_⟩
  cases g:(c != 0) with
  | true =>
    rw [g,if_pos rfl] at i
    subst i
    exact Hx.last (Hs.eng (dr:=true) (λ_ h=>h.hs)) {eq:=[(39,ak g),(42,dG .i64 (n c rfl g).1)]} 60 (j.step o D) (λW b=>dX _ (n c rfl g).2 at_ b.ht l) (hx:=bb) (he:=bb) (hy:=λ_=>bb)
  | false =>
    rw [g,if_neg bc] at i
    subst i
    refine ae (Hs.eng (dr:=false) (λ_ h=>h.hs)) {eq:=[(39,ak g)],cv:=[(51,ke λW _=>eB y (8*a) ki ki W)]} 60 (j.step o D) (hret:=bb) (he:=bb) λW b=>?_
    refine lG 12 (hm:=bb) (hk:=bb) ?_
    exact Hx.last (Hs.eng (dr:=true) (λ_ h=>h.hs)) {} 60 (b.below (Below.refl _ _).drew) (λW b=>fq rd (au (8*a) y) _ u v b.ht l.x32 (aI l.ok).1) (hx:=bb) (he:=bb) (hy:=λ_=>bb)
theorem S8 (op rd d f imm at_:Int) (j:15<=op) (o:op<=17) (u:0<=rd) (v:rd<=31) (t:U at_) (h:Ht B hh r M A w) (m:Gd M):Calls prog 97 #[.p hh 0,.agg #[.i op,.i rd,.i d,.i f,.i imm],.u at_] w (HR B hh r M A w (mZ M ⟨op,rd,d,f,imm⟩ at_)):=by
 obtain ⟨V,s⟩:∃ V,mZ M ⟨op,rd,d,f,imm⟩ at_=V:=⟨_,rfl⟩;rw [s];obtain ⟨a,q⟩:∃ a,a=jK op:=⟨_,rfl⟩;obtain p|p|p:op=15\/op=16\/op=17:=ab
 all_goals
  have l:=m.acc at_ a 2 0
  have k:=λW (b:Mp B r M A W)=>fS M A B r at_ a 2 0 W b m.len m.mw m.ok ki ab ab t ⟨bc,bc⟩
  have n:=λc=>kh (M:=M) (addr:=at_) (size:=a) (kind:=2) (x:=0) (c:=c)
  have i:(if ((aC M at_ a 2 0).2.2 != 0)=true then cL (aC M at_ a 2 0) 0 at_ else (be (aC M at_ a 2 0).2.1 rd ((aC M at_ a 2 0).1) (Uz.wrap ((aC M at_ a 2 0).2.1.pc+4)),1))=V:=by subst p q;exact s
  clear s
  generalize aC M at_ a 2 0=X at *
  obtain ⟨y,N,c⟩:=X
  dsimp only at l k n i
  refine bC (S:=Hs r (aO hh r::eU w.heap.size [(#[.i op,.i rd,.i d,.i f,.i imm],80)]) (aj M A)) (args:=[.p hh 0,.agg #[.i op,.i rd,.i d,.i f,.i imm],.u at_]) [(#[.i op,.i rd,.i d,.i f,.i imm],80)] func97 (hn:=bb) (hs:=bb) ?_
  refine aK 0 2 (aK 4 3 ?_)
  refine ae (Hs.eng (dr:=false) (λ_ h=>h.hs)) {} 80 (Hx.start h _) (hret:=bb) (he:=bb) λW b=>?_
  refine lG 10 (hm:=bb) (hk:=bb) ?_
  refine aS (Hs.eng (dr:=true) (λ_ h=>h.hs)) {} 60 (b.below (Below.refl _ _).drew) (λz j=>k z j.mp) (hx:=bb) (he:=bb) ?_
  rintro z e E j ⟨rfl,C,o,D⟩
  refine ⟨_,0,rfl,gh bb,aH (Hs r (aO hh r::eU w.heap.size [(#[.i op,.i rd,.i d,.i f,.i imm],80)]) (aj N C)) (hn:=bb) ?_⟩
  cases g:(c != 0) with
  | true =>
    rw [g,if_pos rfl] at i
    subst i
    exact Hx.last (Hs.eng (dr:=true) (λ_ h=>h.hs)) {eq:=[(39,ak g),(42,dG .i64 (n c rfl g).1)]} 60 (j.step o D) (λW b=>dX _ (n c rfl g).2 at_ b.ht l) (hx:=bb) (he:=bb) (hy:=λ_=>bb)
  | false =>
    rw [g,if_neg bc] at i
    subst i
    refine ae (Hs.eng (dr:=false) (λ_ h=>h.hs)) {eq:=[(39,ak g)]} 60 (j.step o D) (hret:=bb) (he:=bb) λW b=>?_
    refine lG 12 (hm:=bb) (hk:=bb) ?_
    exact Hx.last (Hs.eng (dr:=true) (λ_ h=>h.hs)) {} 60 (b.below (Below.refl _ _).drew) (λW b=>fq rd (y) _ u v b.ht l.x32 (aI l.ok).1) (hx:=bb) (he:=bb) (hy:=λ_=>bb)
theorem Qc (i:Ins) (at_ b:Int) (z:18<=i.op) (D:i.op<=21) (F:U at_) (hb:U b) (h:Ht B hh r M A w) (u:Gd M):Calls prog 98 #[.p hh 0,.agg #[.i i.op,.i i.rd,.i i.a,.i i.b,.i i.imm],.u at_,.u b] w (HR B hh r M A w (nL M i at_ b)):=by
 obtain ⟨d,o,m,n,a⟩:=i;dsimp only at z D ⊢;obtain ⟨V,E⟩:∃ V,nL M ⟨d,o,m,n,a⟩ at_ b=V:=⟨_,rfl⟩;rw [E];obtain ⟨f,q⟩:∃ f:Nat,f=2^(d-18).toNat:=⟨_,rfl⟩;obtain p|p|p|p:d=18\/d=19\/d=20\/d=21:=ab
 all_goals
  have s:=u.acc at_ f 3 b
  have l:=λW (g:Mp B r M A W)=>fS M A B r at_ f 3 b W g u.len u.mw u.ok ki ab ab F hb
  have v:=λc=>kh (M:=M) (addr:=at_) (size:=f) (kind:=3) (x:=b) (c:=c)
  have k:(if ((aC M at_ f 3 b).2.2 != 0)=true then cL (aC M at_ f 3 b) 0 at_ else (be (aC M at_ f 3 b).2.1 0 0 (Uz.wrap ((aC M at_ f 3 b).2.1.pc+4)),1))=V:=by subst p q;exact E
  clear E
  generalize aC M at_ f 3 b=X at *
  obtain ⟨y,N,c⟩:=X
  dsimp only at s l v k
  refine bC (S:=Hs r (aO hh r::eU w.heap.size [(#[.i d,.i o,.i m,.i n,.i a],80)]) (aj M A)) (args:=[.p hh 0,.agg #[.i d,.i o,.i m,.i n,.i a],.u at_,.u b]) [(#[.i d,.i o,.i m,.i n,.i a],80)] func98 (hn:=bb) (hs:=bb) ?_
  refine aK 0 2 (aK 5 3 ?_)
  refine ae (Hs.eng (dr:=false) (λ_ h=>h.hs)) {} 10 (Hx.start h _) (hret:=bb) (he:=bb) λW g=>?_
  refine lG 15 (hm:=bb) (hk:=bb) ?_
  refine aS (Hs.eng (dr:=true) (λ_ h=>h.hs)) {} 60 (g.below (Below.refl _ _).drew) (λG t=>l G t.mp) (hx:=bb) (he:=bb) ?_
  rintro G e J t ⟨rfl,C,H,I⟩
  refine ⟨_,0,rfl,gh bb,aH (Hs r (aO hh r::eU w.heap.size [(#[.i d,.i o,.i m,.i n,.i a],80)]) (aj N C)) (hn:=bb) ?_⟩
  cases j:(c != 0) with
  | true =>
    rw [j,if_pos rfl] at k
    subst k
    exact Hx.last (Hs.eng (dr:=true) (λ_ h=>h.hs)) {eq:=[(31,ak j),(34,dG .i64 (v c rfl j).1)]} 60 (t.step H I) (λW g=>dX _ (v c rfl j).2 at_ g.ht s) (hx:=bb) (he:=bb) (hy:=λ_=>bb)
  | false =>
    rw [j,if_neg bc] at k
    subst k
    exact Hx.last (Hs.eng (dr:=true) (λ_ h=>h.hs)) {eq:=[(31,ak j)]} 80 (t.step H I) (λW g=>fq 0 0 _ bc bc g.ht s.x32 (aI s.ok).1) (hx:=bb) (he:=bb) (hy:=λ_=>bb)
theorem S9 (i:Ins) (at_:Int) (d:11<=i.op) (e:i.op<=17) (b:0<=i.rd) (c:i.rd<=31) (a:U at_) (h:Ht B hh r M A w) (f:Gd M):Calls prog 97 #[.p hh 0,.agg #[.i i.op,.i i.rd,.i i.a,.i i.b,.i i.imm],.u at_] w (HR B hh r M A w (mZ M i at_)):=by
 by_cases k:i.op<=14;·exact S7 i.op i.rd i.a i.b i.imm at_ d k b c a h f
 ·exact S8 i.op i.rd i.a i.b i.imm at_ ab e b c a h f
end
theorem Hx.add {y:Kr} (h:Hx A n (y::W) k g B M a r) (cs:Array Value) (t:TypeId):Hx A n (y::(W++[⟨r.heap.size,cs,t,[]⟩])) k g B M a (r.alloc (.cells cs t)):=by
 have c:=(Below.refl r.heap.size r).alloc (Nat.le_refl _) (.cells cs t);have b:=h.below c;refine ⟨b.mp,b.kx,λx f=>?_⟩;rw [<- List.cons_append,List.mem_append] at f;rcases f with f | f;·exact b.rows x f
 ·rw [List.mem_singleton.1 f];exact ⟨heap_alloc_new _ _,by have:=h.mp.lt;exact λe=>by dsimp only at e;omega,λq i e=>by have:=h.mp.fam.hi q i _ e;dsimp only at this;omega⟩
theorem Nu:aj (gz (iK m L) z) y=(aj (iK m L) y).setIfInBounds 2 (.i z):=rfl
theorem Nv:aG (gz (iK m L) z) y=aG (iK m L) y:=rfl
theorem Ax (e:Hx A n W k g B (iK M L) a r):Hx A n W k g B (gz (iK M L) z) a (r.setCell ⟨n,2,none⟩ (.i z)):=e.fld 2 (.i z) (Nu M a L z) (Nv M a L z)
section
variable {B hh r : Nat} {M : MV} {A : MA} {w : World}
theorem Ta (i:Ins) (a b n:Int) (y:3<=i.op) (v:i.op<=10) (p:0<=i.rd) (q:i.rd<=31) (h:Ht B hh r M A w) (k:Gd M):Calls prog 96 #[.p hh 0,.agg #[.i i.op,.i i.rd,.i i.a,.i i.b,.i i.imm],.u a,.u b,.u n] w (HR B hh r M A w (pV M i a b n)):=by
 obtain ⟨V,c⟩:∃ V,pV M i a b n=V:=⟨_,rfl⟩;rw [c];obtain ⟨f,o,s,t,j⟩:=i;dsimp only at y v p q ⊢;unfold pV at c;dsimp only at c;have d:=λW=>wO f a b W;obtain ⟨x,u⟩:∃ x,Kt f a b=x:=⟨_,rfl⟩;rw [u] at d;refine bC (S:=Hs r (aO hh r::eU w.heap.size [(#[.i f,.i o,.i s,.i t,.i j],80)]) (aj M A)) (args:=[.p hh 0,.agg #[.i f,.i o,.i s,.i t,.i j],.u a,.u b,.u n]) [(#[.i f,.i o,.i s,.i t,.i j],80)] func96 ?_;refine aK 0 2 (aK 6 3 ?_);by_cases e4:f=4
 ·have m:(f==4)=true:=(by simpa using e4);have e5:¬ 4<f:=ab;have l:decide (4<f)=false:=decide_eq_false e5;rw [show fL M ⟨f,o,s,t,j⟩ a b n=bits .andNot .u64 (Uz.wrap (a+n)) 1 from by unfold fL;dsimp only;rw [if_pos e4]] at c;cases e:(bits .and .u64 (bits .andNot .u64 (Uz.wrap (a+n)) 1) 2 != 0) with
  | true =>rw [e,if_pos rfl] at c;exact a0m
  | false =>rw [e,if_neg bc] at c;rw [if_neg e5] at c;subst c;exact Hx.last (Hs.eng (dr:=true) (λ_ h=>h.hs)) {eq:=[(31,ak m),(39,ak l),(57,ak e)],cv:=[(45,ke λW _=>d W)]} 150 (Hx.start h _) (λW g=>fq o _ _ p q g.ht k.x32 (aI k.ok).1)
 ·have m:(f==4)=false:=(by simpa using e4);by_cases e5:4<f
  ·have l:decide (4<f)=true:=decide_eq_true e5;cases x with
   | true =>
     rw [show fL M ⟨f,o,s,t,j⟩ a b n=Uz.wrap (M.pc+n) from by unfold fL;dsimp only;rw [if_neg e4,decide_eq_true e5,u];rfl] at c;cases e:(bits .and .u64 (Uz.wrap (M.pc+n)) 2 != 0) with
     | true =>rw [e,if_pos rfl] at c;exact a0m
     | false =>rw [e,if_neg bc] at c;rw [if_pos e5] at c;subst c;exact Hx.last (Hs.eng (dr:=true) (λ_ h=>h.hs)) {eq:=[(31,ak m),(39,ak l),(57,ak e)],cv:=[(45,ke λW _=>d W)]} 150 (Hx.start h _) (λW g=>fq 0 _ _ bc bc g.ht k.x32 (aI k.ok).1)
   | false =>
     rw [show fL M ⟨f,o,s,t,j⟩ a b n=Uz.wrap (M.pc+4) from by unfold fL;dsimp only;rw [if_neg e4,decide_eq_true e5,u];rfl] at c;cases e:(bits .and .u64 (Uz.wrap (M.pc+4)) 2 != 0) with
     | true =>rw [e,if_pos rfl] at c;exact a0m
     | false =>rw [e,if_neg bc] at c;rw [if_pos e5] at c;subst c;exact Hx.last (Hs.eng (dr:=true) (λ_ h=>h.hs)) {eq:=[(31,ak m),(39,ak l),(57,ak e)],cv:=[(45,ke λW _=>d W)]} 150 (Hx.start h _) (λW g=>fq 0 _ _ bc bc g.ht k.x32 (aI k.ok).1)
  ·have l:decide (4<f)=false:=decide_eq_false e5;rw [show fL M ⟨f,o,s,t,j⟩ a b n=Uz.wrap (M.pc+n) from by unfold fL;dsimp only;rw [if_neg e4,decide_eq_false e5];rfl] at c;cases e:(bits .and .u64 (Uz.wrap (M.pc+n)) 2 != 0) with
   | true =>rw [e,if_pos rfl] at c;exact a0m
   | false =>rw [e,if_neg bc] at c;rw [if_neg e5] at c;subst c;exact Hx.last (Hs.eng (dr:=true) (λ_ h=>h.hs)) {eq:=[(31,ak m),(39,ak l),(57,ak e)],cv:=[(45,ke λW _=>d W)]} 150 (Hx.start h _) (λW g=>fq o _ _ p q g.ht k.x32 (aI k.ok).1)
theorem wZ {B hh r:Nat} {M:MV} {A:MA} {w:World} (h:Ht B hh r M A w) (a:M.cs.length=22) (m:Bool):Calls prog 152 #[.slice A.ac M.cs.length A.cc,.bool m] w λe c=>e=.returned (.tuple #[.i (dx (M.cs.getD 0 0) m),.u (eH M.cs m)])/\Ht B hh r (iK M (M.cs.set 0 (cW (M.cs.getD 0 0) m))) A c/\Kx r (aG M A) (aG (iK M (M.cs.set 0 (cW (M.cs.getD 0 0) m))) A) w c:=by obtain ⟨g,d,b,f⟩:=h.mp.cs a;rw [d,a];refine (Ct B g A.cc M.cs m w b).mono λe c ⟨j,k,l⟩=>?_;obtain ⟨n,i⟩:=f c _ (by rw [List.length_set];exact a) l k;exact ⟨j,h.step n i,i⟩
theorem J3 (rd f g imm a x:Int) (hx:U x) (h:Ht B hh r M A w) (i:Gd M):Calls prog 103 #[.p hh 0,.agg #[.i 93,.i rd,.i f,.i g,.i imm],.u a,.u x] w (HR B hh r M A w (kN M ⟨93,rd,f,g,imm⟩ x)):=by
 obtain ⟨V,l⟩:∃ V,kN M ⟨93,rd,f,g,imm⟩ x=V:=⟨_,rfl⟩;rw [l];have n:=(aI i.ok).1;have p:=i.x32;refine bC (S:=Hs r (aO hh r::eU w.heap.size [(#[.i 93,.i rd,.i f,.i g,.i imm],80)]) (aj M A)) (args:=[.p hh 0,.agg #[.i 93,.i rd,.i f,.i g,.i imm],.u a,.u x]) [(#[.i 93,.i rd,.i f,.i g,.i imm],80)] func103 ?_;refine aK 0 2 (aK 5 3 ?_);have m:(aM M (o6 M.pr) false 0,2)=V:=l;subst m;have d:M.pr=0\/M.pr=1\/M.pr=3:=by have:=(aI i.ok).2.2.1;unfold bZ at this;simp at this;omega
 refine ae (Hs.eng (dr:=false) (λ_ h=>h.hs)) {} 60 (Hx.start h _) λW e=>?_;refine dF 0 (s:=do pure (.value (<- Instr.buildSlice 39 4 #[(0,.i 8),(1,.i 9),(2,.i 0),(3,.i 11)]))) (v:=.slice (some ⟨W.heap.size,0,none⟩) 4 4) (w':=W.alloc (.cells #[.i 8,.i 9,.i 0,.i 11] 2)) ba ?_;have k:=e.add #[.i 8,.i 9,.i 0,.i 11] 2;refine aH (Hs r (aO hh r::(eU w.heap.size [(#[.i 93,.i rd,.i f,.i g,.i imm],80)]++[⟨W.heap.size,#[.i 8,.i 9,.i 0,.i 11],2,[]⟩])) (aj M A)) ?_;rcases d with d | d | d;·have j:o6 M.pr=8:=(by unfold o6;rw [if_pos d]);rw [j];refine ae (Hs.eng (dr:=true) (λ_ h=>h.hs)) {eq:=[(25,dG .i64 d)],ov:=[(26,kF (a:=some ⟨W.heap.size,0,none⟩) (b:=W.heap.size) (o:=0) 4 4 .i64 0 rfl ⟨ab,ab⟩ underlying39 ba),(27,iL ⟨W.heap.size,0+(0:Int).toNat,none⟩ (.i 8) underlying2 rfl (λX c=>(cell_of_row _ _ _ _ _ _ (c.2 ⟨W.heap.size,#[.i 8,.i 9,.i 0,.i 11],2,[]⟩ cp)).trans rfl))]} 60 k λX c=>?_;exact Hx.last (Hs.eng (dr:=true) (λ_ h=>h.hs)) {} 20 c (λW e=>dX 8 bc 0 e.ht i)
 ·have j:o6 M.pr=9:=(by unfold o6;rw [if_neg ab,if_pos d]);rw [j];refine ae (Hs.eng (dr:=true) (λ_ h=>h.hs)) {eq:=[(25,dG .i64 d)],ov:=[(26,kF (a:=some ⟨W.heap.size,0,none⟩) (b:=W.heap.size) (o:=0) 4 4 .i64 1 rfl ⟨ab,ab⟩ underlying39 ba),(27,iL ⟨W.heap.size,0+(1:Int).toNat,none⟩ (.i 9) underlying2 rfl (λX c=>(cell_of_row _ _ _ _ _ _ (c.2 ⟨W.heap.size,#[.i 8,.i 9,.i 0,.i 11],2,[]⟩ cp)).trans rfl))]} 60 k λX c=>?_;exact Hx.last (Hs.eng (dr:=true) (λ_ h=>h.hs)) {} 20 c (λW e=>dX 9 bc 0 e.ht i)
 ·have j:o6 M.pr=11:=(by unfold o6;rw [if_neg ab,if_neg ab]);rw [j];refine ae (Hs.eng (dr:=true) (λ_ h=>h.hs)) {eq:=[(25,dG .i64 d)],ov:=[(26,kF (a:=some ⟨W.heap.size,0,none⟩) (b:=W.heap.size) (o:=0) 4 4 .i64 3 rfl ⟨ab,ab⟩ underlying39 ba),(27,iL ⟨W.heap.size,0+(3:Int).toNat,none⟩ (.i 11) underlying2 rfl (λX c=>(cell_of_row _ _ _ _ _ _ (c.2 ⟨W.heap.size,#[.i 8,.i 9,.i 0,.i 11],2,[]⟩ cp)).trans rfl))]} 60 k λX c=>?_;exact Hx.last (Hs.eng (dr:=true) (λ_ h=>h.hs)) {} 20 c (λW e=>dX 11 bc 0 e.ht i)
theorem J4 (rd b c imm a x:Int) (hx:U x) (h:Ht B hh r M A w) (d:Gd M):Calls prog 103 #[.p hh 0,.agg #[.i 94,.i rd,.i b,.i c,.i imm],.u a,.u x] w (HR B hh r M A w (kN M ⟨94,rd,b,c,imm⟩ x)):=by obtain ⟨V,e⟩:∃ V,kN M ⟨94,rd,b,c,imm⟩ x=V:=⟨_,rfl⟩;rw [e];have g:=(aI d.ok).1;have i:=d.x32;refine bC (S:=Hs r (aO hh r::eU w.heap.size [(#[.i 94,.i rd,.i b,.i c,.i imm],80)]) (aj M A)) (args:=[.p hh 0,.agg #[.i 94,.i rd,.i b,.i c,.i imm],.u a,.u x]) [(#[.i 94,.i rd,.i b,.i c,.i imm],80)] func103 ?_;refine aK 0 2 (aK 5 3 ?_);have f:(aM M 3 false M.pc,2)=V:=e;subst f;exact Hx.last (Hs.eng (dr:=true) (λ_ h=>h.hs)) {} 120 (Hx.start h _) (λW j=>dX 3 bc _ j.ht d)
theorem J5 (rd f g imm a x:Int) (hx:U x) (h:Ht B hh r M A w) (D:Gd M):Calls prog 103 #[.p hh 0,.agg #[.i 95,.i rd,.i f,.i g,.i imm],.u a,.u x] w (HR B hh r M A w (kN M ⟨95,rd,f,g,imm⟩ x)):=by
 obtain ⟨V,G⟩:∃ V,kN M ⟨95,rd,f,g,imm⟩ x=V:=⟨_,rfl⟩;rw [G];have u:=(aI D.ok).1;have z:=D.x32;refine bC (S:=Hs r (aO hh r::eU w.heap.size [(#[.i 95,.i rd,.i f,.i g,.i imm],80)]) (aj M A)) (args:=[.p hh 0,.agg #[.i 95,.i rd,.i f,.i g,.i imm],.u a,.u x]) [(#[.i 95,.i rd,.i f,.i g,.i imm],80)] func103 ?_;refine aK 0 2 (aK 5 3 ?_);have j:=λ(W:World) (c:Ht B hh r M A W)=>wZ c u false;have p:(M.cs.set 0 (cW (M.cs.getD 0 0) false)).length=22:=by rw [List.length_set];exact u
 have l:(if (((((95:Int)==96))&&(M.pr != 3))||(M.pr==0))=true then (aM M 2 false x,2) else (be (gz (iK M (M.cs.set 0 (cW (M.cs.getD 0 0) false))) (dx (M.cs.getD 0 0) false)) 0 0 (eH M.cs false),1))=V:=G;clear G;generalize M.cs.set 0 (cW (M.cs.getD 0 0) false)=n at j p l;generalize dx (M.cs.getD 0 0) false=m at j l;generalize eH M.cs false=E at j l;obtain ⟨L,t⟩:∃ b,(M.pr != 3)=b:=⟨_,rfl⟩;obtain ⟨K,s⟩:∃ b,(M.pr==0)=b:=⟨_,rfl⟩;rw [t,s] at l;cases L<;>cases K;·have d:(be (gz (iK M n) m) 0 0 E,1)=V:=l;subst d;refine ae (Hs.eng (dr:=false) (λ_ h=>h.hs)) {eq:=[(48,ak t),(55,ak s)]} 120 (Hx.start h _) λW c=>?_;refine lG 7 ?_;refine aS (Hs.eng (dr:=true) (λ_ h=>h.hs)) {} 60 (c.below (Below.refl _ _).drew) (λq o=>j q o.ht) ?_;rintro q e I o ⟨rfl,F,H⟩;refine ⟨_,0,rfl,gh ba,aH (Hs r (aO hh r::eU w.heap.size [(#[.i 95,.i rd,.i f,.i g,.i imm],80)]) (aj (iK M n) A)) ?_⟩;refine ae (Hs.eng (dr:=false) (λ_ h=>h.hs)) {} 60 (o.to F H) λJ y=>?_;refine bM (bJ (i:=2) (T:=2) (v:=.i m) y.mp.row (show 2<14 by decide) ba rfl) ?_;have C:=Ax n m y;obtain ⟨N,k⟩:∃ N,N=gz (iK M n) m:=⟨_,rfl⟩;have n32:N.x.length=32:=(by rw [k];unfold gz iK;exact z);have n22:N.cs.length=22:=(by rw [k];unfold gz iK;exact p);rw [<- k] at C ⊢;clear k;refine aH (Hs r (aO hh r::eU w.heap.size [(#[.i 95,.i rd,.i f,.i g,.i imm],80)]) (aj N A)) ?_;exact Hx.last (Hs.eng (dr:=true) (λ_ h=>h.hs)) {cv:=[(76,ke λW (c:Hx B r (aO hh r::eU w.heap.size [(#[.i 95,.i rd,.i f,.i g,.i imm],80)]) M A w N A W)=>m7 N A B hh r W c.ht)]} 60 C (λW c=>fq 0 0 E bc bc c.ht n32 n22)
 ·have d:(aM M 2 false x,2)=V:=l;subst d;exact Hx.last (Hs.eng (dr:=true) (λ_ h=>h.hs)) {eq:=[(48,ak t),(55,ak s)]} 120 (Hx.start h _) (λW c=>dX 2 bc x c.ht D)
 ·have d:(be (gz (iK M n) m) 0 0 E,1)=V:=l;subst d;refine ae (Hs.eng (dr:=false) (λ_ h=>h.hs)) {eq:=[(48,ak t),(55,ak s)]} 120 (Hx.start h _) λW c=>?_;refine lG 7 ?_;refine aS (Hs.eng (dr:=true) (λ_ h=>h.hs)) {} 60 (c.below (Below.refl _ _).drew) (λq o=>j q o.ht) ?_;rintro q e I o ⟨rfl,F,H⟩;refine ⟨_,0,rfl,gh ba,aH (Hs r (aO hh r::eU w.heap.size [(#[.i 95,.i rd,.i f,.i g,.i imm],80)]) (aj (iK M n) A)) ?_⟩;refine ae (Hs.eng (dr:=false) (λ_ h=>h.hs)) {} 60 (o.to F H) λJ y=>?_;refine bM (bJ (i:=2) (T:=2) (v:=.i m) y.mp.row (show 2<14 by decide) ba rfl) ?_;have C:=Ax n m y;obtain ⟨N,k⟩:∃ N,N=gz (iK M n) m:=⟨_,rfl⟩;have n32:N.x.length=32:=(by rw [k];unfold gz iK;exact z);have n22:N.cs.length=22:=(by rw [k];unfold gz iK;exact p);rw [<- k] at C ⊢;clear k;refine aH (Hs r (aO hh r::eU w.heap.size [(#[.i 95,.i rd,.i f,.i g,.i imm],80)]) (aj N A)) ?_;exact Hx.last (Hs.eng (dr:=true) (λ_ h=>h.hs)) {cv:=[(76,ke λW (c:Hx B r (aO hh r::eU w.heap.size [(#[.i 95,.i rd,.i f,.i g,.i imm],80)]) M A w N A W)=>m7 N A B hh r W c.ht)]} 60 C (λW c=>fq 0 0 E bc bc c.ht n32 n22)
 ·have d:(aM M 2 false x,2)=V:=l;subst d;exact Hx.last (Hs.eng (dr:=true) (λ_ h=>h.hs)) {eq:=[(48,ak t),(55,ak s)]} 120 (Hx.start h _) (λW c=>dX 2 bc x c.ht D)
theorem J6 (rd g j imm a x:Int) (hx:U x) (h:Ht B hh r M A w) (o:Gd M):Calls prog 103 #[.p hh 0,.agg #[.i 96,.i rd,.i g,.i j,.i imm],.u a,.u x] w (HR B hh r M A w (kN M ⟨96,rd,g,j,imm⟩ x)):=by
 obtain ⟨V,z⟩:∃ V,kN M ⟨96,rd,g,j,imm⟩ x=V:=⟨_,rfl⟩;rw [z];have n:=(aI o.ok).1;have y:=o.x32;refine bC (S:=Hs r (aO hh r::eU w.heap.size [(#[.i 96,.i rd,.i g,.i j,.i imm],80)]) (aj M A)) (args:=[.p hh 0,.agg #[.i 96,.i rd,.i g,.i j,.i imm],.u a,.u x]) [(#[.i 96,.i rd,.i g,.i j,.i imm],80)] func103 ?_;refine aK 0 2 (aK 5 3 ?_);have f:=λ(W:World) (d:Ht B hh r M A W)=>wZ d n true;have p:(M.cs.set 0 (cW (M.cs.getD 0 0) true)).length=22:=by rw [List.length_set];exact n
 have k:(if (((((96:Int)==96))&&(M.pr != 3))||(M.pr==0))=true then (aM M 2 false x,2) else (be (gz (iK M (M.cs.set 0 (cW (M.cs.getD 0 0) true))) (dx (M.cs.getD 0 0) true)) 0 0 (eH M.cs true),1))=V:=z;clear z;generalize M.cs.set 0 (cW (M.cs.getD 0 0) true)=t at f p k;generalize dx (M.cs.getD 0 0) true=s at f k;generalize eH M.cs true=F at f k;obtain ⟨J,m⟩:∃ b,(M.pr != 3)=b:=⟨_,rfl⟩;obtain ⟨I,l⟩:∃ b,(M.pr==0)=b:=⟨_,rfl⟩;rw [m,l] at k;cases J<;>cases I;·have c:(be (gz (iK M t) s) 0 0 F,1)=V:=k;subst c;refine ae (Hs.eng (dr:=false) (λ_ h=>h.hs)) {eq:=[(48,ak m),(55,ak l)]} 120 (Hx.start h _) λW d=>?_;refine lG 7 ?_;refine aS (Hs.eng (dr:=true) (λ_ h=>h.hs)) {} 60 (d.below (Below.refl _ _).drew) (λC u=>f C u.ht) ?_;rintro C e K u ⟨rfl,G,H⟩;refine ⟨_,0,rfl,gh ba,aH (Hs r (aO hh r::eU w.heap.size [(#[.i 96,.i rd,.i g,.i j,.i imm],80)]) (aj (iK M t) A)) ?_⟩;refine ae (Hs.eng (dr:=false) (λ_ h=>h.hs)) {} 60 (u.to G H) λL D=>?_;refine bM (bJ (i:=2) (T:=2) (v:=.i s) D.mp.row (show 2<14 by decide) ba rfl) ?_;have E:=Ax t s D;obtain ⟨N,q⟩:∃ N,N=gz (iK M t) s:=⟨_,rfl⟩;have n32:N.x.length=32:=(by rw [q];unfold gz iK;exact y);have n22:N.cs.length=22:=(by rw [q];unfold gz iK;exact p);rw [<- q] at E ⊢;clear q;refine aH (Hs r (aO hh r::eU w.heap.size [(#[.i 96,.i rd,.i g,.i j,.i imm],80)]) (aj N A)) ?_;exact Hx.last (Hs.eng (dr:=true) (λ_ h=>h.hs)) {cv:=[(76,ke λW (d:Hx B r (aO hh r::eU w.heap.size [(#[.i 96,.i rd,.i g,.i j,.i imm],80)]) M A w N A W)=>m7 N A B hh r W d.ht)]} 60 E (λW d=>fq 0 0 F bc bc d.ht n32 n22)
 ·have c:(aM M 2 false x,2)=V:=k;exact a0n
 ·have c:(aM M 2 false x,2)=V:=k;exact a0n
 ·have c:(aM M 2 false x,2)=V:=k;exact a0n
theorem J7 (rd b c imm a x:Int) (hx:U x) (h:Ht B hh r M A w) (f:Gd M):Calls prog 103 #[.p hh 0,.agg #[.i 97,.i rd,.i b,.i c,.i imm],.u a,.u x] w (HR B hh r M A w (kN M ⟨97,rd,b,c,imm⟩ x)):=by
 obtain ⟨V,j⟩:∃ V,kN M ⟨97,rd,b,c,imm⟩ x=V:=⟨_,rfl⟩;rw [j];have g:=(aI f.ok).1;have m:=f.x32;refine bC (S:=Hs r (aO hh r::eU w.heap.size [(#[.i 97,.i rd,.i b,.i c,.i imm],80)]) (aj M A)) (args:=[.p hh 0,.agg #[.i 97,.i rd,.i b,.i c,.i imm],.u a,.u x]) [(#[.i 97,.i rd,.i b,.i c,.i imm],80)] func103 ?_;refine aK 0 2 (aK 5 3 ?_);have d:(if (M.pr==0)=true then (aM M 2 false x,2) else (be (gy M true) 0 0 (Uz.wrap (M.pc+4)),1))=V:=j;clear j;cases e:(M.pr==0) with
 | true =>rw [e,if_pos rfl] at d;subst d;exact Hx.last (Hs.eng (dr:=true) (λ_ h=>h.hs)) {eq:=[(84,ak e)]} 120 (Hx.start h _) (λW k=>dX 2 bc x k.ht f)
 | false =>rw [e,if_neg bc] at d;subst d;refine ae (Hs.eng (dr:=false) (λ_ h=>h.hs)) {eq:=[(84,ak e)]} 120 (Hx.start h _) λo l=>?_;refine bM (bJ (i:=13) (T:=4) (v:=.bool true) l.mp.row (show 13<14 by decide) ba rfl) ?_;have n:=l.fld (M':=gy M true) 13 (.bool true) rfl rfl;refine aH (Hs r (aO hh r::eU w.heap.size [(#[.i 97,.i rd,.i b,.i c,.i imm],80)]) (aj (gy M true) A)) ?_;exact Hx.last (Hs.eng (dr:=true) (λ_ h=>h.hs)) {} 60 n (λW k=>fq 0 0 _ bc bc k.ht f.x32 g)
theorem J8 (rd b c imm a x:Int) (hx:U x) (h:Ht B hh r M A w) (f:Gd M):Calls prog 103 #[.p hh 0,.agg #[.i 98,.i rd,.i b,.i c,.i imm],.u a,.u x] w (HR B hh r M A w (kN M ⟨98,rd,b,c,imm⟩ x)):=by
 obtain ⟨V,i⟩:∃ V,kN M ⟨98,rd,b,c,imm⟩ x=V:=⟨_,rfl⟩;rw [i];have g:=(aI f.ok).1;have k:=f.x32;refine bC (S:=Hs r (aO hh r::eU w.heap.size [(#[.i 98,.i rd,.i b,.i c,.i imm],80)]) (aj M A)) (args:=[.p hh 0,.agg #[.i 98,.i rd,.i b,.i c,.i imm],.u a,.u x]) [(#[.i 98,.i rd,.i b,.i c,.i imm],80)] func103 ?_;refine aK 0 2 (aK 5 3 ?_);have d:(if (M.pr==0)=true then (aM M 2 false x,2) else (be M 0 0 (Uz.wrap (M.pc+4)),1))=V:=i;clear i;cases e:(M.pr==0) with
 | true =>rw [e,if_pos rfl] at d;subst d;exact Hx.last (Hs.eng (dr:=true) (λ_ h=>h.hs)) {eq:=[(84,ak e)]} 120 (Hx.start h _) (λW j=>dX 2 bc x j.ht f)
 | false =>rw [e,if_neg bc] at d;subst d;exact Hx.last (Hs.eng (dr:=true) (λ_ h=>h.hs)) {eq:=[(84,ak e)]} 150 (Hx.start h _) (λW j=>fq 0 0 _ bc bc j.ht f.x32 g)
theorem Nw (i:Ins) (a x:Int) (j:93<=i.op) (k:i.op<=98) (hx:U x) (h:Ht B hh r M A w) (c:Gd M):Calls prog 103 #[.p hh 0,.agg #[.i i.op,.i i.rd,.i i.a,.i i.b,.i i.imm],.u a,.u x] w (HR B hh r M A w (kN M i x)):=by
 obtain ⟨f,g,d,e,b⟩:=i;dsimp only at j k ⊢;obtain rfl|rfl|rfl|rfl|rfl|rfl:f=93\/f=94\/f=95\/f=96\/f=97\/f=98:=ab
 ·exact J3 g d e b a x hx h c
 ·exact J4 g d e b a x hx h c
 ·exact J5 g d e b a x hx h c
 ·exact J6 g d e b a x hx h c
 ·exact J7 g d e b a x hx h c
 ·exact J8 g d e b a x hx h c
end
def gC (c:Int):Ending:=.panicked [{v:=.iface 189 (.i c),recovered:=false}]
def CZ (k:Int):Int:=if k=2 then 5 else if k=3 then 7 else 1
theorem Hv (b:1<=z) (c:z<=3):CZ z=dL z:=by
 have a:z=1\/z=2\/z=3:=ab
 rcases a with rfl|rfl|rfl<;>rfl
theorem Nx (h:¬ (1<=z/\z<=3)):CZ z=1:=by unfold CZ;rw [if_neg ab,if_neg ab]
theorem o9:CE 107 #[.i z] T (.i (CZ z)):=by
 have F:Hid (CZ z=if z=2 then 5 else if z=3 then 7 else 1):=(rfl:CZ z=_);generalize CZ z=v at *;cases c:(z==2) with
 | true =>have e2:z=2:=kc;have b:Hid (v=5):=F.out.trans (if_pos e2);exact a0o
 | false =>
   have e2:¬ z=2:=kc;cases d:(z==3) with
   | true =>have e3:z=3:=kp;have b:Hid (v=7):=F.out.trans ((if_neg e2).trans (if_pos e3));exact a0o
   | false =>have e3:¬ z=3:=kp;have b:Hid (v=1):=F.out.trans ((if_neg e2).trans (if_neg e3));exact a0o
theorem Ay (d:1<=z) (f:z<=3) (w:World):CE 206 #[.i z] w (.i (eu z)):=by
 have b:z=1\/z=2\/z=3:=ab
 rcases b with rfl|rfl|rfl;·go_enter func206,ntmps206;exact x8
 ·go_enter func206,ntmps206;exact x8
 ·go_enter func206,ntmps206;exact x8
theorem nU (m:Nat) (j:Option Addr) (l:Nat) (p va k:Int) (f:1<=k) (g:k<=3) (w:World): Calls prog 210 #[.agg #[.slice v F m,.slice j 22 l,.i p,.u va,.i k]] w λe c=>e=gC (dL k)/\Bw w c:=by
 have d:Hid (∀ w,CE 107 #[.i k] w (.i (dL k))):=λw=>by have:=o9 k w;rw [Hv k f g] at this;exact this
 generalize dL k=o at *;go_enter func210,ntmps210;go_wp2_with fail;refine (d.out _).mono ?_;rintro e q ⟨rfl,b⟩;subst b;go_wp2_with fail;exact ⟨rfl,rfl,bal _ _⟩
theorem kj (m:Nat) (j:Option Addr) (l:Nat) (p va k:Int) (f:1<=k) (g:k<=3) (w:World): Calls prog 154 #[.agg #[.slice v F m,.slice j 22 l,.i p,.u va,.i k]] w λe c=>e=gC (eu k)/\Bw w c:=by have d:Hid (∀ w,CE 206 #[.i k] w (.i (eu k))):=λw=>Ay k f g w;generalize eu k=o at *;go_enter func154,ntmps154;go_wp2_with fail;refine (d.out _).mono ?_;rintro e q ⟨rfl,b⟩;subst b;go_wp2_with fail;exact ⟨rfl,rfl,bal _ _⟩
structure Wk (w:World) (g n rc:Nat) (zs:List Int) (b off lc:Nat) (l:List Int) (p va k:Int):Prop where
 hz:zs.length=n
 hr:bf n=true
 hs:Sl .u8 w (some ⟨g,0,none⟩) zs
 hw:∀ y ∈ zs,(Lit.int .u8 y).wf=true
 hc:n<=rc
 hc2:rc<=9223372036854775807
 hlz:l.length=22
 hl:Sl .u64 w (some ⟨b,off,none⟩) l
 hU:∀ j,U (l.getD j 0)
 hg:bn 22 l p=true
 hva:U va
 hk1:1<=k
 hk3:k<=3
 hT:qH w
theorem Wk.below {g:Nat} (h:Wk B g n A j b l p x e d c) (hb:Bw B r):Wk r g n A j b l p x e d c :=
 ⟨h.hz,h.hr,h.hs.below hb,h.hw,h.hc,h.hc2,h.hlz,h.hl.below hb,h.hU,h.hg,h.hva,h.hk1,h.hk3,h.hT.below hb⟩
theorem Wk.at {m:Nat} {k:Int} (h:Wk w A n l j m p b x e d k) (a:Nat) (f:a<22):w.cell? ⟨m,p+a,none⟩=some (.u (x.getD a 0)):=by obtain ⟨o,c,zs,_,va⟩:=h.hl a (by rw [h.hlz];exact f);simp only [Option.some.injEq,Addr.mk.injEq,and_true] at zs;obtain ⟨rfl,rfl⟩:=zs;exact va
theorem Wk.one {k:Nat} (h:Wk B A n l j b p k x e d c):bn 22 x 1=true:=by have:=h.hg;unfold bn at this ⊢;rw [Bool.and_eq_true] at this;rw [this.1];rfl
theorem lZ {a b c d e:Value} {t:TypeId} {f:Nat × Nat} (h:B.heap[A]?=some (.cells #[a,b,c,d,e] t f)):B.cell? ⟨A,0,none⟩=some a/\B.cell? ⟨A,1,none⟩=some b/\B.cell? ⟨A,2,none⟩=some c/\B.cell? ⟨A,3,none⟩=some d/\B.cell? ⟨A,4,none⟩=some e:=by refine ⟨?_,?_,?_,?_,?_⟩<;>simp [World.cell?,h]
theorem fT (hb:Bw B r) {o:Obj} (h:B.heap[A]?=some o):r.heap[A]?=some o:=by rw [hb.block A (Array.getElem?_eq_some_iff.1 h).1];exact h
theorem tR (h:F<=2) (w:World):CE 207 #[.i (F:Int)] w (.i ((12+9*F:Nat):Int)):=by
 have:F=0\/F=1\/F=2:=ab
 rcases this with rfl|rfl|rfl;·go_enter func207,ntmps207;exact x8
 ·go_enter func207,ntmps207;exact x8
 ·go_enter func207,ntmps207;exact x8
def qm (zs:List Int) (n:Nat) (l:List Int) (k x:Int):Ending :=
 if gB n x 8=true then (if aB l 1 x (bo x 8) 2 4 0=true then (if pL (fE zs x)=true then gC (eu k) else .returned (.tuple #[.u x,.u (fE zs x)])) else gC (dL k)) else gC (dL k)
theorem Rf (a:∀ y ∈ L,(Lit.int .u8 y).wf=true) (x:Int):U (fE L x):=by have:=uO L (iW a) 8 (x-2147483648).toNat ab;exact ⟨this.1,this.2⟩
theorem C9 (z:Nat) (zs:List Int) (b f y:Nat) (l:List Int) (p va k T:Int) (lv:Nat) (S:lv<=2) (w:World) (W:Wk w F o z zs b f y l p va k): Calls prog 155 #[.agg #[.slice (some ⟨F,0,none⟩) o z,.slice (some ⟨b,f,none⟩) 22 y,.i p,.u va,.i k],.u T,.i (lv:Int)] w λe c=>e=qm zs o l k (bK T va lv)/\Bw w c:=by
 have HW:Hid (Wk w F o z zs b f y l p va k):=W;have hn:o<=1048576:=by have:=gq W.hr;omega
 obtain ⟨q,V⟩:∃ q:Nat,q=12+9*lv:=⟨_,rfl⟩;have HL:Hid (∀ w,Calls prog 207 #[.i (lv:Int)] w λe c=>e=.returned (.i (q:Int))/\∃ m,c=w.drewN m):=λw=>by rw [V];exact (tR lv S w).mono λ_ _ h=>⟨h.1,0,h.2⟩
 have Z:Hid (∀ w,Calls prog 76 #[.u va,.i (q:Int),.i 9] w λe c=>e=.returned (.u (dc va q 9))/\∃ m,c=w.drewN m):=λw=>(bG va q 9 W.hva.1 W.hva.2 ab ab w).mono λ_ _ h=>⟨h.1,1,h.2⟩;have PX:Hid (Uz.wrap (T+Uz.wrap (8*dc va q 9))=bK T va lv):=by show _=_;rw [V];exact SX T va W.hva lv
 clear V;have R:U (bK T va lv):=aU _;generalize bK T va lv=x at *;have I:Hid (∀ c,Bw w c->CB 208 #[.slice (some ⟨F,0,none⟩) o z,.u x,.i 8] c (.tuple #[.u (mN zs o x 8),.bool (gB o x 8)])):=λc M =>
  qu F o z zs x 8 c W.hz hn (W.hs.below M) W.hw W.hc W.hc2 R.1 (by have:=R.2;omega)
 have B:Hid (∀ c,Bw w c->CB 209 #[.slice (some ⟨b,f,none⟩) 22 y,.i 1,.u x,.i 8,.i 2] c (.bool (vG 22 l 1 x 8 2))):=λc M =>
  kK (some ⟨b,f,none⟩) 22 y l 1 x 8 2 c W.hlz (W.hl.below M) W.hU R (W.hT.below M)
 have A:Hid (∀ w,Calls prog 210 #[.agg #[.slice (some ⟨F,0,none⟩) o z,.slice (some ⟨b,f,none⟩) 22 y,.i p,.u va,.i k]] w λe c=>e=gC (dL k)/\Bw w c):=λw=>nU _ _ _ _ _ _ _ _ W.hk1 W.hk3 w;have r:Hid (∀ w,Calls prog 154 #[.agg #[.slice (some ⟨F,0,none⟩) o z,.slice (some ⟨b,f,none⟩) 22 y,.i p,.u va,.i k]] w λe c=>e=gC (eu k)/\Bw w c):=λw=>kj _ _ _ _ _ _ _ _ W.hk1 W.hk3 w;have D:∀ n m,Bw w ((w.alloc n).drewN m):=λn m=>gW (bal _ _) m;have g:Hid (qm zs o l k x=if gB o x 8=true then (if aB l 1 x (bo x 8) 2 4 0=true then (if pL (fE zs x)=true then gC (eu k) else .returned (.tuple #[.u x,.u (fE zs x)])) else gC (dL k)) else gC (dL k)):=(rfl:qm zs o l k x=_);have K:=W.one;clear W;go_enter func155,ntmps155;go_wp2_with fail;go_quiet (first | (go_at_call 207;with_reducible refine Calls.quiet_of (HL.out _)) | (go_at_call 76;with_reducible refine Calls.quiet_of (Z.out _)))
 rw [PX.out];go_wp2_with fail;refine (I.out _ (D _ _)).mono ?_;rintro e w1 ⟨rfl,E⟩;have Q:Hid (Bw w w1):=aa (D _ _) E;have R1:Hid (w1.heap[w.heap.size]?=some (.cells #[.slice (some ⟨F,0,none⟩) o z,.slice (some ⟨b,f,none⟩) 22 y,.i p,.u va,.i k] 136 (0,0))):=fT E (heap_alloc_new w _);obtain ⟨k0,k1,k2,k3,k4⟩:=lZ R1.out;clear E D I HL Z;cases u:gB o x 8 with
 | false =>rw [u] at g;have s:Hid (qm zs o l k x=gC (dL k)):=g.out.trans (if_neg bc);clear g B r;go_wp2_with fail;refine (A.out _).mono ?_;rintro e X ⟨rfl,t⟩;exact ⟨rfl,s.out.symm,aa Q.out t⟩
 | true =>
   rw [u,if_pos rfl] at g;have J:mN zs o x 8=fE zs x:=(by unfold mN fE;rw [u];rfl);rw [J];have L:=Hm o l x 2 K u ab ab;go_wp2_with fail;refine (B.out _ Q.out).mono ?_;rintro e X ⟨rfl,t⟩;rw [L];have H:Hid (Bw w X):=aa Q.out t;have R2:Hid (X.heap[w.heap.size]?=some (.cells #[.slice (some ⟨F,0,none⟩) o z,.slice (some ⟨b,f,none⟩) 22 y,.i p,.u va,.i k] 136 (0,0))):=fT t R1.out;clear k0 k1 k2 k3 k4 t;obtain ⟨k0,k1,k2,k3,k4⟩:=lZ R2.out;clear B J L;have UE:U (fE zs x):=Rf zs HW.out.hw x;have Y:=SV (fE zs x) UE;rw [<- Y] at g;clear Y;generalize fE zs x=C at *;generalize aB l 1 x (bo x 8) 2 4 0=pb at *;cases pb with
   | false =>have s:Hid (qm zs o l k x=gC (dL k)):=g.out.trans (if_neg bc);clear g r;go_wp2_with fail;refine (A.out _).mono ?_;exact a0p
   | true =>
     have j:qm zs o l k x=if PV C=true then gC (eu k) else .returned (.tuple #[.u x,.u C]):=g.out.trans (if_pos rfl)
     clear g A;unfold PV at j;cases N:(bits .and .u64 C 1==0) with
     | true =>
       rw [N] at j;have s:Hid (qm zs o l k x=gC (eu k)):=j.trans (if_pos rfl);clear j;cases O:(bits .and .u64 C 6==4) with
       | true =>go_wp2_with fail;refine (r.out _).mono ?_;exact a0p
       | false =>go_wp2_with fail;refine (r.out _).mono ?_;exact a0p
     | false =>
       cases O:(bits .and .u64 C 6==4) with
       | true =>rw [N,O] at j;have s:Hid (qm zs o l k x=gC (eu k)):=j.trans (if_pos rfl);clear j;go_wp2_with fail;refine (r.out _).mono ?_;exact a0p
       | false =>
         cases t3:(bits .and .u64 C 18428729675200069632 != 0) with
         | true =>rw [N,O,t3] at j;have s:Hid (qm zs o l k x=gC (eu k)):=j.trans (if_pos rfl);clear j;go_wp2_with fail;refine (r.out _).mono ?_;exact a0p
         | false =>rw [N,O,t3] at j;have s:Hid (qm zs o l k x=.returned (.tuple #[.u x,.u C])):=j.trans (if_neg bc);clear j;go_wp2_with fail;go_ret2;exact ⟨s.out.symm,H.out⟩
theorem FA (he:U z) (w:World):CE 156 #[.u z] w (.bool (!mz z)):=by have F:Hid ((bits .and .u64 z 10 != 0)=!mz z):=PW z he;generalize (!mz z)=v at *;go_enter func156,ntmps156;exact a03
theorem tT (he:U z) (w:World):Calls prog 211 #[.u z] w λr c=>r=.returned (.u (dc z 10 44))/\c=w.drew:=by have d:Hid (∀ w,Calls prog 76 #[.u z,.i 10,.i 44] w λr c=>r=.returned (.u (dc z 10 44))/\c=w.drew):=λw=>bG z 10 44 he.1 he.2 ab ab w;generalize dc z 10 44=f at *;go_enter func211,ntmps211;go_wp2_with fail;refine (d.out _).mono ?_;rintro r g ⟨rfl,b⟩;subst b;exact x8
def J9 (k e:Int) (lv:Nat):Ending:=if jk e lv=true then gC (eu k) else .returned (.u (Uz.wrap (ew e*4096)))
theorem Da (p va k e:Int) (lv:Nat) (he:U e) (B:1<=k) (y:k<=3) (w:World): Calls prog 157 #[.agg #[.slice (some ⟨F,0,none⟩) o C,.slice (some ⟨N,P,none⟩) 22 R,.i p,.u va,.i k],.u e,.i (lv:Int)] w λr q=>r=J9 k e lv/\Bw w q:=by
 have l:Hid (∀ w,Calls prog 154 #[.agg #[.slice (some ⟨F,0,none⟩) o C,.slice (some ⟨N,P,none⟩) 22 R,.i p,.u va,.i k]] w λe q=>e=gC (eu k)/\Bw w q):=λw=>kj _ _ _ _ _ _ _ _ B y w;have A:Hid (∀ w,Calls prog 211 #[.u e] w λr q=>r=.returned (.u (ew e))/\q=w.drew):=λw=>by have:=tT e he w;rw [wQ e he] at this;exact this
 have g:J9 k e lv=if (((lv:Int)==0)||(bits .and .u64 e 208 != 0))=true then gC (eu k) else .returned (.u (Uz.wrap (ew e*4096))):=by rw [PY e he lv];rfl
 have c:∀ n,Bw w (w.alloc n):=λn=>bal _ _;generalize ew e=f at *;generalize J9 k e lv=v at *;cases t:((lv:Int)==0) with
 | true =>rw [t] at g;have j:Hid (v=gC (eu k)):=g.trans (if_pos rfl);clear g;go_enter func157,ntmps157;go_wp2_with fail;refine (l.out _).mono ?_;rintro r D ⟨rfl,d⟩;exact ⟨rfl,j.out.symm,aa (c _) d⟩
 | false =>
   cases z:(bits .and .u64 e 208 != 0) with
   | true =>rw [t,z] at g;have j:Hid (v=gC (eu k)):=g.trans (if_pos rfl);clear g;go_enter func157,ntmps157;go_wp2_with fail;refine (l.out _).mono ?_;rintro r D ⟨rfl,d⟩;exact ⟨rfl,j.out.symm,aa (c _) d⟩
   | false =>rw [t,z] at g;have j:Hid (v=.returned (.u (Uz.wrap (f*4096)))):=g.trans (if_neg bc);clear g;go_enter func157,ntmps157;go_wp2_with fail;refine (A.out _).mono ?_;rintro r E ⟨rfl,s⟩;subst s;go_wp2_with fail;go_ret;exact ⟨j.out.symm,gW (c _) 1⟩
theorem Db (ra:Option Addr) (n l:Nat) (b d j:Nat) (p va k e x:Int) (u:1<=k) (y:k<=3) (w:World) (z:∀ o,(w.alloc o).cell? ⟨b,d,none⟩=some (.u x)):CB 212 #[.agg #[.slice ra n l,.slice (some ⟨b,d,none⟩) 22 j,.i p,.u va,.i k],.u e] w (.bool (oV x k e)):=by
 have c:∀ o,Bw w (w.alloc o):=λo=>bal _ _;have g:k=1\/k=2\/k=3:=ab
 rcases g with rfl|rfl|rfl;·have F:Hid (oV x 1 e=(bits .and .u64 e 8 != 0)):=(rfl:oV x 1 e=_);generalize oV x 1 e=v at *;go_enter func212,ntmps212;go_wp2_with fail;go_ret;exact ⟨bh,c _⟩
 ·have F:oV x 2 e=((bits .and .u64 e 2 != 0)||((bits .and .u64 x 524288 != 0)&&(bits .and .u64 e 8 != 0))):=rfl;generalize oV x 2 e=v at *;cases m:(bits .and .u64 e 2 != 0)<;>cases q:(bits .and .u64 x 524288 != 0)<;>cases s:(bits .and .u64 e 8 != 0);all_goals
   rw [m,q,s] at F
   have f:=dQ F
   clear F
   go_enter func212,ntmps212
   go_wp2_with fail
   go_ret
   exact ⟨by rw [f.out];rfl,c _⟩
 ·have F:Hid (oV x 3 e=(bits .and .u64 e 4 != 0)):=(rfl:oV x 3 e=_);generalize oV x 3 e=v at *;go_enter func212,ntmps212;go_wp2_with fail;go_ret;exact ⟨bh,c _⟩
theorem Dd (ra:Option Addr) (n l:Nat) (b d j:Nat) (p va k e x:Int) (w:World) (u:∀ o,(w.alloc o).cell? ⟨b,d,none⟩=some (.u x)):CB 213 #[.agg #[.slice ra n l,.slice (some ⟨b,d,none⟩) 22 j,.i p,.u va,.i k],.u e] w (.bool (CO x p k e)):=by
 have c:∀ o,Bw w (w.alloc o):=λo=>bal _ _;have F:CO x p k e=if (bits .and .u64 e 16==0)=true then (p==1) else ((p==0)||((k != 1)&&(bits .and .u64 x 262144 != 0))):=rfl
 generalize CO x p k e=v at *;cases t0:(bits .and .u64 e 16==0) with
 | true =>have g:Hid (v=(p==1)):=(by rw [t0] at F;exact F.trans (if_pos rfl));clear F;go_enter func213,ntmps213;go_wp2_with fail;go_ret;exact ⟨vo,c _⟩
 | false =>
   have f:v=((p==0)||((k != 1)&&(bits .and .u64 x 262144 != 0))):=(by rw [t0] at F;exact F.trans (if_neg bc));clear F;cases m:(p==0)<;>cases q:(k != 1)<;>cases s:(bits .and .u64 x 262144 != 0);all_goals
    rw [m,q,s] at f
    have g:=dQ f
    clear f
    go_enter func213,ntmps213
    go_wp2_with fail
    go_ret
    exact ⟨vo,c _⟩
def FC (l:List Int) (p k e:Int) (lv:Nat):Ending:=if (mA e lv||gJ l k e||gK l p k e)=true then gC (eu k) else .returned (.tuple #[])
theorem xQ (p va k e:Int) (lv:Nat) (V:lv<=2) (he:U e) (hp:p=0\/p=1) (w:World) (W:Wk w F o C D N P R S p va k): Calls prog 158 #[.agg #[.slice (some ⟨F,0,none⟩) o C,.slice (some ⟨N,P,none⟩) 22 R,.i p,.u va,.i k],.u e,.i (lv:Int)] w λr d=>r=FC S p k e lv/\Bw w d:=by
 have HW:Hid (Wk w F o C D N P R S p va k):=W;obtain ⟨q,Z⟩:∃ q:Nat,q=9*lv:=⟨_,rfl⟩;have K:Hid (9*(lv:Int)=(q:Int)):=by show _=_;omega
 have J:Hid (∀ w,Calls prog 76 #[.u e,.i 10,.i (q:Int)] w λr d=>r=.returned (.u (dc e 10 q))/\d=w.drew):=λw=>bG e 10 q he.1 he.2 ab ab w;have zs:Hid (∀ w,Calls prog 154 #[.agg #[.slice (some ⟨F,0,none⟩) o C,.slice (some ⟨N,P,none⟩) 22 R,.i p,.u va,.i k]] w λe d=>e=gC (eu k)/\Bw w d):=λw=>kj _ _ _ _ _ _ _ _ W.hk1 W.hk3 w;have s:∀ n m,Bw w ((w.alloc n).drewN m):=λn m=>gW (bal _ _) m;have l:Hid (∀ d,Bw w d->∀ n,(d.alloc n).cell? ⟨N,P,none⟩=some (.u (S.getD 0 0))):=λd I n=>(W.below (aa I (bal _ _))).at 0 ab;have y:Hid (∀ d,Bw w d->CB 212 #[.agg #[.slice (some ⟨F,0,none⟩) o C,.slice (some ⟨N,P,none⟩) 22 R,.i p,.u va,.i k],.u e] d (.bool (!gJ S k e))):=λd I=>by have:=Db (some ⟨F,0,none⟩) o C N P R p va k e (S.getD 0 0) W.hk1 W.hk3 d (l.out d I);rw [Ng S k e he (W.hU 0) W.hk1 W.hk3] at this;exact this
 have H:Hid (∀ d,Bw w d->CB 213 #[.agg #[.slice (some ⟨F,0,none⟩) o C,.slice (some ⟨N,P,none⟩) 22 R,.i p,.u va,.i k],.u e] d (.bool (!gK S p k e))):=λd I=>by have:=Dd (some ⟨F,0,none⟩) o C N P R p va k e (S.getD 0 0) d (l.out d I);rw [Nh S p k e he (W.hU 0) hp] at this;exact this
 have Y:(dc e 10 q != 0)=mA e lv:=by rw [Z];exact Nf e he lv V
 have g:FC S p k e lv=if (mA e lv||gJ S k e||gK S p k e)=true then gC (eu k) else .returned (.tuple #[]):=rfl
 rw [<- Y] at g;generalize FC S p k e lv=v at *;generalize dc e 10 q=ff at *;generalize gJ S k e=nk at *;generalize gK S p k e=np at *;clear W l Z Y;cases Q:(ff != 0) with
 | true =>rw [Q] at g;have B:Hid (v=gC (eu k)):=g.trans (if_pos rfl);clear g;go_enter func158,ntmps158;go_wp2_with fail;rw [K.out];refine (J.out _).mono ?_;rintro r X ⟨rfl,t⟩;subst t;go_wp2_with fail;refine (zs.out _).mono ?_;rintro r G ⟨rfl,j⟩;exact ⟨rfl,B.out.symm,aa (s _ 1) j⟩
 | false =>
   cases nk with
   | true =>rw [Q] at g;have B:Hid (v=gC (eu k)):=g.trans (if_pos rfl);clear g;go_enter func158,ntmps158;go_wp2_with fail;rw [K.out];refine (J.out _).mono ?_;rintro r X ⟨rfl,t⟩;subst t;go_wp2_with fail;refine (y.out _ (s _ 1)).mono ?_;rintro r z ⟨rfl,f⟩;have R2:Hid (z.heap[w.heap.size]?=some (.cells #[.slice (some ⟨F,0,none⟩) o C,.slice (some ⟨N,P,none⟩) 22 R,.i p,.u va,.i k] 136 (0,0))):=fT f (heap_alloc_new w _);obtain ⟨L,M,b,O,c⟩:=lZ R2.out;have A:Hid (Bw w z):=aa (s _ 1) f;clear f;go_wp2_with fail;refine (zs.out _).mono ?_;rintro r G ⟨rfl,j⟩;exact ⟨rfl,B.out.symm,aa A.out j⟩
   | false =>
     cases np with
     | true =>rw [Q] at g;have B:Hid (v=gC (eu k)):=g.trans (if_pos rfl);clear g;go_enter func158,ntmps158;go_wp2_with fail;rw [K.out];refine (J.out _).mono ?_;rintro r X ⟨rfl,t⟩;subst t;go_wp2_with fail;refine (y.out _ (s _ 1)).mono ?_;rintro r z ⟨rfl,f⟩;have R2:Hid (z.heap[w.heap.size]?=some (.cells #[.slice (some ⟨F,0,none⟩) o C,.slice (some ⟨N,P,none⟩) 22 R,.i p,.u va,.i k] 136 (0,0))):=fT f (heap_alloc_new w _);obtain ⟨L,M,b,O,c⟩:=lZ R2.out;have A:Hid (Bw w z):=aa (s _ 1) f;clear f;go_wp2_with fail;refine (H.out _ A.out).mono ?_;rintro r G ⟨rfl,j⟩;have R3:Hid (G.heap[w.heap.size]?=some (.cells #[.slice (some ⟨F,0,none⟩) o C,.slice (some ⟨N,P,none⟩) 22 R,.i p,.u va,.i k] 136 (0,0))):=fT j R2.out;clear L M b O c;obtain ⟨L,M,b,O,c⟩:=lZ R3.out;have u:Hid (Bw w G):=aa A.out j;clear j;go_wp2_with fail;refine (zs.out _).mono ?_;rintro r w4 ⟨rfl,T⟩;exact ⟨rfl,B.out.symm,aa u.out T⟩
     | false =>rw [Q] at g;have B:Hid (v=.returned (.tuple #[])):=g.trans (if_neg bc);clear g;go_enter func158,ntmps158;go_wp2_with fail;rw [K.out];refine (J.out _).mono ?_;rintro r X ⟨rfl,t⟩;subst t;go_wp2_with fail;refine (y.out _ (s _ 1)).mono ?_;rintro r z ⟨rfl,f⟩;have R2:Hid (z.heap[w.heap.size]?=some (.cells #[.slice (some ⟨F,0,none⟩) o C,.slice (some ⟨N,P,none⟩) 22 R,.i p,.u va,.i k] 136 (0,0))):=fT f (heap_alloc_new w _);obtain ⟨L,M,b,O,c⟩:=lZ R2.out;have A:Hid (Bw w z):=aa (s _ 1) f;clear f;go_wp2_with fail;refine (H.out _ A.out).mono ?_;rintro r G ⟨rfl,j⟩;have u:Hid (Bw w G):=aa A.out j;clear j;go_wp2_with fail;go_end0;exact ⟨B.out.symm,u.out⟩
theorem Qd (p va k e:Int) (lv:Nat) (d:lv<=2) (he:U e) (hv:U va) (s:mA e lv=false) (w:World): CB 159 #[.agg #[.slice (some ⟨F,0,none⟩) o C,.slice (some ⟨N,P,none⟩) 22 R,.i p,.u va,.i k],.u e,.i (lv:Int)] w (.u (gE e va lv)):=by
 obtain ⟨q,j⟩:∃ q:Nat,q=12+9*lv:=⟨_,rfl⟩;have y:Hid (∀ w,Calls prog 207 #[.i (lv:Int)] w λe c=>e=.returned (.i (q:Int))/\∃ m,c=w.drewN m):=λw=>by rw [j];exact (tR lv d w).mono λ_ _ h=>⟨h.1,0,h.2⟩
 have t:Hid (∀ w,Calls prog 76 #[.u va,.i 0,.i (q:Int)] w λe c=>e=.returned (.u (dc va 0 q))/\∃ m,c=w.drewN m):=λw=>(bG va 0 q hv.1 hv.2 ab ab w).mono λ_ _ h=>⟨h.1,1,h.2⟩;have u:Hid (∀ w,Calls prog 211 #[.u e] w λr c=>r=.returned (.u (dc e 10 44))/\∃ m,c=w.drewN m):=λw=>(tT e he w).mono λ_ _ h=>⟨h.1,1,h.2⟩;have g:Hid (bits .or .u64 (Uz.wrap (dc e 10 44*4096)) (dc va 0 q)=gE e va lv):=by show _=_;rw [j];exact P3 e va he hv lv d s
 have f:∀ n m,Bw w ((w.alloc n).drewN m):=λn m=>gW (bal _ _) m;generalize gE e va lv=v at *;clear j s;go_enter func159,ntmps159;go_wp2_with fail;go_quiet (first | (go_at_call 207;with_reducible refine Calls.quiet_of (y.out _)) | (go_at_call 76;with_reducible refine Calls.quiet_of (t.out _)) | (go_at_call 211;with_reducible refine Calls.quiet_of (u.out _)))
 go_wp2_with fail;go_ret;exact ⟨vo,f _ _⟩
def l4 (w w':World) (zs:List Int) (a:Option Addr) (n c:Nat):Prop:=w'.ownsRow w.heap.size 5 1 (.slice a n c) n (zs.map (Value.int .u8))/\Bw w w'
theorem qn (hz:D.length=o) (N:1<=o) (hn:o<=1048576) (hs:Sl .u8 T (some ⟨F,0,none⟩) D): Calls prog 49 #[.slice (some ⟨F,0,none⟩) o C] T λr Q=>∃ (zs:Option Addr) (c:Nat),r=.returned (.slice zs o c)/\l4 T Q D zs o c:=by
 have R:∀ (T:World) (a:Option Addr) (o c n s:Nat),(binOp .eql 24 (.slice a o c) (.slice none n s)).run prog T=.ok (.bool a.isNone) T:=λT a o c n s=>Lib.run_eql_slice_nil T _ _ a o c n s underlying24
 obtain ⟨P,M,z,A,B⟩:=info_parts info5
 have p:Hid (∀ u ∈ D.map (Value.int .u8),u.oneCell'=true):=ints_oneCell _ _
 have t:(0+o)*1<=140737488355328:=ab
 have y:0+o<=maxLen:=by unfold maxLen;omega
 have m:(D.map (Value.int .u8)).length=o*1:=by rw [List.length_map,hz];omega
 have K:=EO T T.heap.size (Nat.le_refl _) (.cells #[] 5 (0,0)) rfl
 have f:Hid (∀ (g:Obj) (j:Nat) (u:Value),(D.map (Value.int .u8))[j]?=some u->(T.alloc g).cell? ((⟨F,0,none⟩:Addr).add j)=some u):=λg j u O=>OK hs g j u O
 clear hs
 go_enter func49,ntmps49
 go_wp2_with (first
  | (at_builtin;refine wpList_append_own _ rfl (.tmp 5) (.tmp 6) 24 rfl _ 5 P (.int .u8 0) 1 1 underlying24 M z A B rfl bc _ 0 [] (by rfl) K ⟨F,0,none⟩ o C (D.map (Value.int .u8)) rfl m (f.out _) p.out y t cp ?_;intro S G b d l;simp only [Nat.zero_add,List.nil_append] at b;obtain ⟨J,I,E,L⟩:=jP b ab;rw [E] at b ⊢;have q:Hid (G.ownsRow T.heap.size 5 1 (.slice (some ⟨J,0,none⟩) o I) o (D.map (Value.int .u8))):=b;have H:Hid (Bw T G):=JE d;clear l d b E L))
 go_ret
 exact ⟨_,_,rfl,q.out,H.out⟩
theorem Ka (p va k e x:Int) (he:U e) (hm:(cF e k != e)=false) (w:World) (W:Wk w F o C D N P R S p va k): Calls prog 160 #[.agg #[.slice (some ⟨F,0,none⟩) o C,.slice (some ⟨N,P,none⟩) 22 R,.i p,.u va,.i k],.u x,.u e] w λr m=>∃ (f:Option Addr) (c:Nat),r=.returned (.slice f o c)/\l4 w m D f o c:=by
 have E:=gq W.hr;have A:Hid (∀ n,Calls prog 49 #[.slice (some ⟨F,0,none⟩) o C] (w.alloc n) λr m=>∃ (f:Option Addr) (c:Nat),r=.returned (.slice f o c)/\l4 (w.alloc n) m D f o c):=λn=>qn F o C D (w.alloc n) W.hz ab ab (W.hs.below (bal _ _));have y:∀ n,Bw w (w.alloc n):=λn=>bal _ _;have B:Hid (∀ n m f c,l4 (w.alloc n) m D f o c->l4 w m D f o c):=λn m f c h=>⟨cG h.1 cp,aa (y n) h.2⟩;have d:=Hk e k he;rw [hm] at d;have u:bits .or .u64 64 128=192:=cb
 clear W;cases t:(k==3) with
 | true =>have e3:k=3:=(by simpa using t);have j:oW k=192:=if_pos e3;rw [j] at d;have q:(bits .and .u64 e 192==192)=true:=d;clear d j e3;go_enter func160,ntmps160;go_wp2_with fail;refine (A.out _).mono ?_;rintro r g ⟨f,c,rfl,z⟩;go_wp2_with fail;go_ret;exact ⟨_,_,rfl,B.out _ _ _ _ z⟩
 | false =>have e3:¬ k=3:=(by simpa using t);have j:oW k=64:=if_neg e3;rw [j] at d;have q:(bits .and .u64 e 64==64)=true:=d;clear d j e3;go_enter func160,ntmps160;go_wp2_with fail;refine (A.out _).mono ?_;rintro r g ⟨f,c,rfl,z⟩;go_wp2_with fail;go_ret;exact ⟨_,_,rfl,B.out _ _ _ _ z⟩
def Ny (l:List Int) (k e x:Int) (n:Nat) (zs:List Int) (w:World) (r:Ending) (w':World):Prop :=
 if aB l 1 x (bo x 8) 3 4 0=true then ∃ (a:Option Addr) (c:Nat),r=.returned (.slice a n c)/\l4 w w' (km zs (x-2147483648).toNat (cF e k) 8) a n c else r=gC (dL k)/\Bw w w'
theorem xa (p va k e x:Int) (he:U e) (hx:gB o x 8=true) (hm:(cF e k != e)=true) (w:World) (W:Wk w F o C D N P R S p va k): Calls prog 160 #[.agg #[.slice (some ⟨F,0,none⟩) o C,.slice (some ⟨N,P,none⟩) 22 R,.i p,.u va,.i k],.u x,.u e] w λr s=>Ny S k e x o D w r s:=by
 have hbd:=gq W.hr;have UX:U x:=by obtain ⟨_,_,h1,h2,_,_,_,h4⟩:=kl hx;exact ⟨ab,ab⟩
 have H:Hid (∀ w,Calls prog 210 #[.agg #[.slice (some ⟨F,0,none⟩) o C,.slice (some ⟨N,P,none⟩) 22 R,.i p,.u va,.i k]] w λe s=>e=gC (dL k)/\Bw w s):=λw=>nU _ _ _ _ _ _ _ _ W.hk1 W.hk3 w;have m:∀ n,Bw w (w.alloc n):=λn=>bal _ _;have y:Hid (∀ n,CB 209 #[.slice (some ⟨N,P,none⟩) 22 R,.i 1,.u x,.i 8,.i 3] (w.alloc n) (.bool (aB S 1 x (bo x 8) 3 4 0))):=λn=>by have:=kK (some ⟨N,P,none⟩) 22 R S 1 x 8 3 (w.alloc n) W.hlz (W.hl.below (m n)) W.hU UX (W.hT.below (m n));rw [Hm o S x 3 W.one hx ab ab] at this;exact this
 have I:Hid (∀ s,Bw w s->Calls prog 214 #[.slice (some ⟨F,0,none⟩) o C,.u x,.i 8,.u (cF e k)] s λr B=>∃ (zs:Option Addr) (c:Nat),r=.returned (.tuple #[.slice zs o c,.bool true])/\l4 w B (km D (x-2147483648).toNat (cF e k) 8) zs o c):=λs j=>by obtain ⟨_,_,h1,h2,_,_,_,h4⟩:=kl hx;obtain ⟨f,K⟩:∃ f:Nat,x=2147483648+(f:Int):=⟨(x-2147483648).toNat,ab⟩;subst K;have hu:=mC e k;have:=CP (some ⟨F,0,none⟩) o C f 8 D (cF e k) s W.hz ab (W.hs.below j) hx hu.1 (by have:=hu.2;omega);rw [show (2147483648+(f:Int)-2147483648).toNat=f from ab];exact this.mono λr B h=>⟨_,_,h.1,cG h.2.1 j.size,aa j h.2.2⟩
 have g:Hid (∀ r s,Ny S k e x o D w r s=if aB S 1 x (bo x 8) 3 4 0=true then ∃ (zs:Option Addr) (c:Nat),r=.returned (.slice zs o c)/\l4 w s (km D (x-2147483648).toNat (cF e k) 8) zs o c else r=gC (dL k)/\Bw w s):=λr s=>rfl;have q:=Hk e k he;have G:=Hj e k;rw [hm] at q;have Z:bits .or .u64 64 128=192:=cb
 generalize aB S 1 x (bo x 8) 3 4 0=pb at *;generalize km D (x-2147483648).toNat (cF e k) 8=ms at *;generalize Ny S k e x o D w=Q at *;generalize cF e k=we at *;clear W hm;obtain ⟨b,M,t⟩:∃ b,oW k=b/\(((k==3)=true/\b=192)\/((k==3)=false/\b=64)):=by
  refine ⟨_,rfl,?_⟩;by_cases O:k=3;·exact .inl ⟨by simpa using O,if_pos O⟩
  ·exact .inr ⟨by simpa using O,if_neg O⟩
 rw [M] at q G;have J:Hid (bits .or .u64 e b=we):=G;clear G M;rcases t with ⟨t,rfl⟩|⟨t,rfl⟩
 ·have L:(bits .and .u64 e 192==192)=false:=q;clear q;cases pb with
  | false =>go_enter func160,ntmps160;go_wp2_with fail;refine (y.out _).mono ?_;rintro r u ⟨rfl,d⟩;have R1:Hid (u.heap[w.heap.size]?=some (.cells #[.slice (some ⟨F,0,none⟩) o C,.slice (some ⟨N,P,none⟩) 22 R,.i p,.u va,.i k] 136 (0,0))):=fT d (heap_alloc_new w _);obtain ⟨z,l,T,V,X⟩:=lZ R1.out;have A:Hid (Bw w u):=aa (m _) d;clear d;go_wp2_with fail;refine (H.out _).mono ?_;rintro r Y ⟨rfl,E⟩;exact ⟨rfl,Eq.mpr ((g.out _ _).trans (if_neg bc)) ⟨rfl,aa A.out E⟩⟩
  | true =>go_enter func160,ntmps160;go_wp2_with fail;refine (y.out _).mono ?_;rintro r u ⟨rfl,d⟩;have R1:Hid (u.heap[w.heap.size]?=some (.cells #[.slice (some ⟨F,0,none⟩) o C,.slice (some ⟨N,P,none⟩) 22 R,.i p,.u va,.i k] 136 (0,0))):=fT d (heap_alloc_new w _);obtain ⟨z,l,T,V,X⟩:=lZ R1.out;have A:Hid (Bw w u):=aa (m _) d;clear d;go_wp2_with fail;rw [J.out];refine (I.out _ A.out).mono ?_;rintro r Y ⟨zs,c,rfl,K⟩;go_wp2_with fail;exact Eq.mpr ((g.out _ _).trans (if_pos bc)) ⟨_,_,rfl,K⟩
 ·have L:(bits .and .u64 e 64==64)=false:=q;clear q;cases pb with
  | false =>go_enter func160,ntmps160;go_wp2_with fail;refine (y.out _).mono ?_;rintro r u ⟨rfl,d⟩;have R1:Hid (u.heap[w.heap.size]?=some (.cells #[.slice (some ⟨F,0,none⟩) o C,.slice (some ⟨N,P,none⟩) 22 R,.i p,.u va,.i k] 136 (0,0))):=fT d (heap_alloc_new w _);obtain ⟨z,l,T,V,X⟩:=lZ R1.out;have A:Hid (Bw w u):=aa (m _) d;clear d;go_wp2_with fail;refine (H.out _).mono ?_;rintro r Y ⟨rfl,E⟩;exact ⟨rfl,Eq.mpr ((g.out _ _).trans (if_neg bc)) ⟨rfl,aa A.out E⟩⟩
  | true =>go_enter func160,ntmps160;go_wp2_with fail;refine (y.out _).mono ?_;rintro r u ⟨rfl,d⟩;have R1:Hid (u.heap[w.heap.size]?=some (.cells #[.slice (some ⟨F,0,none⟩) o C,.slice (some ⟨N,P,none⟩) 22 R,.i p,.u va,.i k] 136 (0,0))):=fT d (heap_alloc_new w _);obtain ⟨z,l,T,V,X⟩:=lZ R1.out;have A:Hid (Bw w u):=aa (m _) d;clear d;go_wp2_with fail;rw [J.out];refine (I.out _ A.out).mono ?_;rintro r Y ⟨zs,c,rfl,K⟩;go_wp2_with fail;exact Eq.mpr ((g.out _ _).trans (if_pos bc)) ⟨_,_,rfl,K⟩
end Go.Proofs.YtfagphfjfhpmjaaGreatDoor
