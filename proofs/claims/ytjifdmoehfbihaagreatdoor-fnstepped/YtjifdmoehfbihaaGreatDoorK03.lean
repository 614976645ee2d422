/- Own lemmas. -/
import Derived.Test.YtjifdmoehfbihaaGreatDoorAut
import Derived.Test.YtjifdmoehfbihaaGreatDoorK02
import Derived.Deep.AppendSrc
set_option maxRecDepth 100000
set_option maxHeartbeats 1600000
namespace Go.Proofs.YtjifdmoehfbihaaGreatDoor
open Go.RowKit Tryz
open IntKind renaming u64->Uz
set_option linter.unusedVariables false
def aF (a:Option Addr) (n c:Nat) (xs:List Int):FRow:=⟨5,.slice a n c,n,xs.map (Value.int .u8)⟩
def fO (a1:Option Addr) (a c1:Nat) (xs:List Int) (a2:Option Addr) (b c2:Nat) (ys:List Int):List FRow:=[aF a1 a c1 xs,aF a2 b c2 ys]
theorem bx.in_ {B E:Nat} {w:World} {a1:Option Addr} {a c1:Nat} {xs:List Int} {a2:Option Addr} {b c2:Nat} {ys:List Int} (h:bx B E w (fO a1 a c1 xs a2 b c2 ys)):Sl .u8 w a1 xs:=gv (h.own (aF a1 a c1 xs) tk)
theorem bx.out_ {B E:Nat} {w:World} {a1:Option Addr} {b c1:Nat} {xs:List Int} {a2:Option Addr} {a c2:Nat} {ys:List Int} (h:bx B E w (fO a1 b c1 xs a2 a c2 ys)):Sl .u8 w a2 ys:=gv (h.own (aF a2 a c2 ys) tk)
theorem aD {p:Prop} (h:p):Hid p:=h
theorem bA {w w':World} (hb:Bw w w') {g:Nat} {o:Obj} (h:w.heap[g]?=some o):w'.heap[g]?=some o:=by rw [hb.block g (Array.getElem?_eq_some_iff.1 h).1];exact h
theorem gQ {W:World} {g:Nat} {a b c d e f:Value} {t:TypeId} (h:W.heap[g]?=some (.cells #[a,b,c,d,e,f] t (0,0))):W.cell? ⟨g,0,none⟩=some a/\W.cell? ⟨g,1,none⟩=some b/\W.cell? ⟨g,2,none⟩=some c/\W.cell? ⟨g,3,none⟩=some d/\W.cell? ⟨g,4,none⟩=some e/\W.cell? ⟨g,5,none⟩=some f:=by refine ⟨?_,?_,?_,?_,?_,?_⟩<;>simp [World.cell?,h]
theorem gU {W:World} {g:Nat} {cs:Array Value} {t:TypeId} (h:W.heap[g]?=some (.cells cs t (0,0))) (i:Nat):W.frozen? ⟨g,i,none⟩=false:=by simp [World.frozen?,h]
theorem Al {W:World} {g:Nat} {cs:Array Value} {t:TypeId} (h:W.heap[g]?=some (.cells cs t (0,0))):W.frozen? ⟨g,0,none⟩=false/\W.frozen? ⟨g,1,none⟩=false/\W.frozen? ⟨g,2,none⟩=false/\W.frozen? ⟨g,3,none⟩=false/\W.frozen? ⟨g,4,none⟩=false/\W.frozen? ⟨g,5,none⟩=false :=
 ⟨gU h 0,gU h 1,gU h 2,gU h 3,gU h 4,gU h 5⟩
theorem uk {w w2:World} {o1 o2:Obj} (hb:Below ((w.alloc o1).alloc o2).heap.size ((w.alloc o1).alloc o2) w2):w2.heap[w.heap.size]?=some o1/\w2.heap[w.heap.size+1]?=some o2:=by have e2:=heap_alloc_new (w.alloc o1) o2;rw [World.size_alloc] at e2;exact ⟨bA hb ((Below.heap_alloc _ _ _ dv).trans (heap_alloc_new w o1)),bA hb e2⟩
theorem SK {w w2:World} {o1 o2 o3:Obj} (hb:Below (((w.alloc o1).alloc o2).alloc o3).heap.size (((w.alloc o1).alloc o2).alloc o3) w2):w2.heap[w.heap.size]?=some o1/\w2.heap[w.heap.size+1]?=some o2/\w2.heap[w.heap.size+1+1]?=some o3:=by have e3:=heap_alloc_new ((w.alloc o1).alloc o2) o3;rw [World.size_alloc,World.size_alloc] at e3;have h:=uk (w:=w) (o1:=o1) (o2:=o2) (Below.refl _ ((w.alloc o1).alloc o2));exact ⟨bA hb ((Below.heap_alloc _ _ _ dv).trans h.1),bA hb ((Below.heap_alloc _ _ _ dv).trans h.2),bA hb e3⟩
theorem bD {w:World} {g:Nat} {cs:Array Value} {t:TypeId} {a:Nat × Nat} (h:w.heap[g]?=some (.cells cs t a)) (i:Nat) (v:Value):(w.setCell ⟨g,i,none⟩ v).heap[g]?=some (.cells (cs.setIfInBounds i v) t a):=by simp [World.setCell,Array.getElem?_modify,h]
theorem gy {w:World} {g:Nat} {o:Obj} (h:w.heap[g]?=some o) (p:Addr) (v:Value) (a:g≠p.block):(w.setCell p v).heap[g]?=some o:=(Below.heap_setCell w p v g a).trans h
theorem aO (w:World) (p:Addr) (v:Value):(w.setCell p v).heap.size=w.heap.size:=by simp [World.setCell]
theorem bI:(prog.info? 30).map (·.size)=some 6:=by kernel_rfl
def Am (w:World) (g:Nat) (a b c x3 d e:Value):World:=(((((w.setCell ⟨g,0,none⟩ a).setCell ⟨g,1,none⟩ b).setCell ⟨g,2,none⟩ c).setCell ⟨g,3,none⟩ x3).setCell ⟨g,4,none⟩ d).setCell ⟨g,5,none⟩ e
theorem nH {w:World} {g:Nat} {a b c d e f:Value} {t:TypeId} {n:Nat × Nat} (h:w.heap[g]?=some (.cells #[a,b,c,d,e,f] t n)) (i j k x3 l m:Value):(Am w g i j k x3 l m).heap[g]?=some (.cells #[i,j,k,x3,l,m] t n):=
 bD (bD (bD (bD (bD (bD h 0 i) 1 j) 2 k) 3 x3) 4 l) 5 m
theorem Hd (w:World) (g:Nat) (a b c x3 d e:Value):(Am w g a b c x3 d e).heap.size=w.heap.size:=by unfold Am;simp only [aO]
theorem kT {B:Nat} {v w:World} (h:Below B v w) {g:Nat} (a:B<=g) (b c d x3 e f:Value):Below B v (Am w g b c d x3 e f):=
 (((((h.setCell (by exact a) b).setCell (by exact a) c).setCell (by exact a) d).setCell (by exact a) x3).setCell (by exact a) e).setCell (by exact a) f
theorem bx.put6 {B E:Nat} {w:World} {L:List FRow} (h:bx B E w L) (g:Nat) (a:g<B\/E<=g) (b c d x3 e f:Value):bx B E (Am w g b c d x3 e f) L :=
 (((((h.set ⟨g,0,none⟩ b a).set ⟨g,1,none⟩ c a).set ⟨g,2,none⟩ d a).set ⟨g,3,none⟩ x3 a).set ⟨g,4,none⟩ e a).set ⟨g,5,none⟩ f a
theorem iP (w:World) (base:Nat) (hb:base<=w.heap.size) (o:Obj) (a:o=.cells #[] 5 (0,0)):(w.alloc o).ownsRow base 5 1 (.slice (some ⟨w.heap.size,0,none⟩) 0 0) 0 []:=by subst a;exact World.ownsRow_lit w #[] 0 hb et rfl
theorem gX {r:Array Oper} {rest:List Oper} {o:Oper} {a:Act} {Q:Exit->Act->World->Prop} {w:World} (p:o.guard=none) (s x:Operand) (I:o.op=.call {callee:=.builtin .append,args:=#[s,x],argTypes:=#[24,24]}) (base g:Nat) (hs:a.eval s=.slice (some ⟨g,0,none⟩) 0 0) (d:w.ownsRow base 5 1 (.slice (some ⟨g,0,none⟩) 0 0) 0 []) (ad:Option Addr) (m c:Nat) (zs:List Int) (hx:a.eval x=.slice ad m c) (hz:zs.length=m) (hm:m<=1048576) (q:Sl .u8 w ad zs) (f:base<=w.heap.size) (h:∀ l n t,t.ownsRow base 5 1 (.slice l m n) m (zs.map (Value.int .u8))->w.grownBy t (some g)->wpList prog r Q rest (a.put o.dst (.slice l m n)) t):wpList prog r Q (o::rest) a w:=by
 obtain ⟨J,H,B,C,D⟩:=info_parts info5;cases ad with
 | none =>
   have z:m=0:=by
    rcases Nat.eq_zero_or_pos m with G|G;·exact G
    ·obtain ⟨b,F,e,_⟩:=q 0 ab;cases e
   subst z;have E:zs=[]:=List.length_eq_zero_iff.1 hz;subst E;refine wpList_plain p λK O=>?_;have S:=run_append_room_src (P:=prog) w 24 24 o.type 5 J underlying24 H g 0 0 0 (.slice none 0 c) 0 [] (Src.ofNil w underlying24 c) ab (λj i=>by simp at i) (λj i=>by simp at i);unfold Oper.wp execOp;simp only [I,resolve,invoke,builtin,Sem.run_bind,Sem.run_pure,Result.andThen_ok,List.map_toArray,List.map_cons,List.map_nil,hs,hx,S];exact O _ _ (h _ _ w d ⟨rfl,rfl,rfl,Nat.le_refl _,λ_ _ _=>rfl⟩)
 | some A =>
   have k:∀ j u,(zs.map (Value.int .u8))[j]?=some u->w.cell? (A.add j)=some u:=by
    intro j u v;have i:j<zs.length:=by
     rcases Nat.lt_or_ge j zs.length with h|h;·exact h
     ·rw [List.getElem?_eq_none ej] at v;cases v
    obtain ⟨b,F,e,_,R⟩:=q j i;cases e;rw [yz,R];rw [List.getElem?_map,List.getElem?_eq_getElem i] at v;rw [List.getD_eq_getElem?_getD,List.getElem?_eq_getElem i];exact v
   refine wpList_append_own _ p s x 24 I base 5 J (.int .u8 0) 1 1 underlying24 H B C D rfl bb _ 0 [] hs d A m c (zs.map (Value.int .u8)) hx (by rw [List.length_map,hz];omega) k (ints_oneCell _ _) et ab f ?_;intro U t y N W;simp only [Nat.zero_add,List.nil_append] at y;have T:∃ l n,U=.slice l m n:=by
    rcases y.2 with ⟨e,M⟩|⟨V,cap,L,e,_⟩;·exact ⟨none,0,by rw [e,M]⟩
    ·exact ⟨_,_,e⟩
   obtain ⟨l,n,rfl⟩:=T;exact h l n t y N
structure DV where
 t:Int
 cm:Int
 so:Bool
 xs:List Int
 ys:List Int
 ir:Int
def zeroD:DV:=⟨0,0,false,[],[],0⟩
def fM (D:DV) (a1:Option Addr) (c1:Nat) (a2:Option Addr) (c2:Nat):Array Value:=#[.u D.t,.u D.cm,.bool D.so,.slice a1 D.xs.length c1,.slice a2 D.ys.length c2,.i D.ir]
theorem fw (D:DV) (a1:Option Addr) (c1:Nat) (a2:Option Addr) (c2:Nat):(fM D a1 c1 a2 c2).all (·.oneCell')=true:=by simp [fM,Value.oneCell']
def um (D:DV) (a1:Option Addr) (c1:Nat) (a2:Option Addr) (c2:Nat):List FRow:=fO a1 D.xs.length c1 D.xs a2 D.ys.length c2 D.ys
def dH (D:DV):Prop:=(∀ y ∈ D.xs,(Lit.int .u8 y).wf=true)/\∀ y ∈ D.ys,(Lit.int .u8 y).wf=true
def nD (b c:Nat) (a:Int):Bool:=decide (b<=16)&&decide (c<=4096)&&decide (0<=a/\a<=1)
def gj (addr size:Int):Nat :=
 if addr=33554432/\size=4 then 0 else if addr=33570816/\size=8 then 1 else if addr=33603576/\size=8 then 2 else if addr=268435456/\size=1 then 3 else if addr=268435457/\size=1 then 4 else if addr=268435461/\size=1 then 5 else 6
def ge (b:Bool):Int:=if b=true then 1 else 0
def jc (D:DV):Nat->Int × DV × Bool
 | 0=>(ge D.so,D,true)
 | 1=>(D.cm,D,true)
 | 2=>(D.t,D,true)
 | 3=>(D.xs.getD 0 0,⟨D.t,D.cm,D.so,D.xs.drop 1,D.ys,D.ir⟩,true)
 | 4=>(Uz.wrap D.ir,D,true)
 | 5=>(Uz.wrap (32+ge (decide (0<D.xs.length))),D,true)
 | _=>(0,zeroD,false)
def fI (D:DV) (x:Int):Nat->DV × Bool
 | 0=>(⟨D.t,D.cm,bits .and .u64 x 1==1,D.xs,D.ys,D.ir⟩,true)
 | 1=>(⟨D.t,x,D.so,D.xs,D.ys,D.ir⟩,true)
 | 2=>(⟨x,D.cm,D.so,D.xs,D.ys,D.ir⟩,true)
 | 3=>(⟨D.t,D.cm,D.so,D.xs,if D.ys.length<4096 then D.ys++[IntKind.u8.wrap x] else D.ys,D.ir⟩,true)
 | 4=>(⟨D.t,D.cm,D.so,D.xs,D.ys,wrap64 (bits .and .u64 x 1)⟩,true)
 | 5=>(D,true)
 | _=>(zeroD,false)
def dD (D:DV):Int:=Uz.wrap (Uz.wrap (Uz.wrap (8*ge D.so)+Uz.wrap (128*ge (decide (D.cm<=D.t))))+Uz.wrap (2048*ge ((D.ir==1)&&decide (0<D.xs.length))))
def uo (D:DV) (addr size:Int):Int × DV × Bool:=if nD D.xs.length D.ys.length D.ir=true then jc D (gj addr size) else (0,zeroD,false)
def qX (D:DV) (addr size x:Int):DV × Bool:=if nD D.xs.length D.ys.length D.ir=true then fI D x (gj addr size) else (zeroD,false)
def iQ (D:DV):Int:=if nD D.xs.length D.ys.length D.ir=true then dD D else 0
theorem jD (addr size:Int) (P:Nat->Prop) (c:addr=33554432->size=4->P 0) (d:addr=33570816->size=8->P 1) (e:addr=33603576->size=8->P 2) (f:addr=268435456->size=1->P 3) (h4:addr=268435457->size=1->P 4) (g:addr=268435461->size=1->P 5) (i:(addr=33554432->¬ size=4)->(addr=33570816->¬ size=8)->(addr=33603576->¬ size=8)->(addr=268435456->¬ size=1)->(addr=268435457->¬ size=1)->(addr=268435461->¬ size=1)->P 6):P (gj addr size):=by
 unfold gj;split;·rename_i h;exact c h.1 h.2
 ·rename_i j;split;·rename_i h;exact d h.1 h.2
  ·rename_i k;split;·rename_i h;exact e h.1 h.2
   ·rename_i l;split;·rename_i h;exact f h.1 h.2
    ·rename_i m;split;·rename_i h;exact h4 h.1 h.2
     ·rename_i n;split;·rename_i h;exact g h.1 h.2
      ·rename_i o;exact i (λa b=>j ⟨a,b⟩) (λa b=>k ⟨a,b⟩) (λa b=>l ⟨a,b⟩) (λa b=>m ⟨a,b⟩) (λa b=>n ⟨a,b⟩) (λa b=>o ⟨a,b⟩)
theorem kU (B E:Nat) (w:World):bx B E w (um zeroD none 0 none 0):=by
 refine ⟨λr a=>?_,λr a k e=>?_,?_⟩
 ·simp only [um,fO,List.mem_cons,List.not_mem_nil,or_false] at a;rcases a with rfl|rfl;·exact ⟨rfl,.inl ⟨rfl,rfl⟩⟩
  ·exact ⟨rfl,.inl ⟨rfl,rfl⟩⟩
 ·simp only [um,fO,List.mem_cons,List.not_mem_nil,or_false] at a;rcases a with rfl|rfl;·cases e
  ·cases e
 ·exact List.pairwise_cons.2 ⟨λs b k e=>un,List.pairwise_singleton _ _⟩
theorem bx.newIn {B E:Nat} {w:World} {a1:Option Addr} {j c1:Nat} {xs:List Int} {a2:Option Addr} {d c2:Nat} {ys:List Int} (h:bx B E w (fO a1 j c1 xs a2 d c2 ys)) (a:Option Addr) (n c:Nat) (zs:List Int) (base E':Nat) (i:w.ownsRow base 5 1 (.slice a n c) n (zs.map (Value.int .u8))) (e:E<=base) (f:B<=base) (g:w.heap.size<=E') (h4:E<=E'):bx B E' w (fO a n c zs a2 d c2 ys):=by have t:bx B E w [aF a2 d c2 ys]:=⟨λr b=>h.own r (List.mem_cons_of_mem _ b),λr b=>h.hi r (List.mem_cons_of_mem _ b),(List.pairwise_cons.1 h.ne).2⟩;exact t.cons (aF a n c zs) base E' i e f g h4
theorem bx.newOut {B E:Nat} {w:World} {a1:Option Addr} {d c1:Nat} {xs:List Int} {a2:Option Addr} {j c2:Nat} {ys:List Int} (h:bx B E w (fO a1 d c1 xs a2 j c2 ys)) (a:Option Addr) (n c:Nat) (zs:List Int) (base E':Nat) (i:w.ownsRow base 5 1 (.slice a n c) n (zs.map (Value.int .u8))) (e:E<=base) (f:B<=base) (g:w.heap.size<=E') (h4:E<=E'):bx B E' w (fO a1 d c1 xs a n c zs):=by have t:bx B E w [aF a1 d c1 xs]:=⟨λr b=>h.own r (by rw [List.mem_singleton.1 b];exact List.mem_cons_self ..),λr b=>h.hi r (by rw [List.mem_singleton.1 b];exact List.mem_cons_self ..),List.pairwise_singleton _ _⟩;exact t.snoc (aF a n c zs) base E' i e f g h4
theorem bN {P:Program} {fn:Func} {s p u:Tmp} {ty:TypeId} (h:fn.results=#[.tmp s,.cell p ty,.tmp u]) (tmps:Array Value) (w:World) (g:Nat) (t:TypeId) (cs:Array Value) (e:Nat × Nat) (d:TypeDesc) (k:tmps.getD p undef=.p g 0) (i:w.heap[g]?=some (.cells cs t e)) (l:P.underlying ty=some d) (hd:(match d with | .struct _ | .array _ _=>true | _=>false)=true) (j:(P.info? ty).map (·.size)=some cs.size):(results fn tmps).run P w=.ok (.tuple #[tmps.getD s undef,.agg cs,tmps.getD u undef]) w:=by
 have f:(results fn tmps).run P w=((asAddr (tmps.getD p undef)).run P w).andThen λa b=>((loadVar ty a).run P b).andThen λv c=>.ok (.tuple #[tmps.getD s undef,v,tmps.getD u undef]) c:=by simp only [results,h];simp [Sem.run_bind,Result.andThen]
 rw [f,k];simp [asAddr,run_loadVar_row w g t ty cs e d i l hd j]
theorem cJ {P:Program} {fn:Func} {p u:Tmp} {ty:TypeId} (h:fn.results=#[.cell p ty,.tmp u]) (tmps:Array Value) (w:World) (g:Nat) (t:TypeId) (cs:Array Value) (e:Nat × Nat) (d:TypeDesc) (k:tmps.getD p undef=.p g 0) (i:w.heap[g]?=some (.cells cs t e)) (l:P.underlying ty=some d) (hd:(match d with | .struct _ | .array _ _=>true | _=>false)=true) (j:(P.info? ty).map (·.size)=some cs.size):(results fn tmps).run P w=.ok (.tuple #[.agg cs,tmps.getD u undef]) w:=by
 have f:(results fn tmps).run P w=((asAddr (tmps.getD p undef)).run P w).andThen λa b=>((loadVar ty a).run P b).andThen λv c=>.ok (.tuple #[v,tmps.getD u undef]) c:=by simp only [results,h];simp [Sem.run_bind,Result.andThen]
 rw [f,k];simp [asAddr,run_loadVar_row w g t ty cs e d i l hd j]
theorem An:(prog.info? 22).map (λi=>(i.zero,i.size,i.bytes))=some (some (.u 0),1,8):=by kernel_rfl
theorem j5 (zs:List Int) (i:Nat) (y:Int):(zs.map (Value.int .u64)).set i (.u y)=(zs.set i y).map (Value.int .u64):=by rw [List.map_set]
structure MV where
 pc:Int
 x:List Int
 pr:Int
 cs:List Int
 ram:List Int
 d:DV
 hd:Int
 hl:Bool
 wt:Bool
structure MA where
 ax:Option Addr
 cx:Nat
 ac:Option Addr
 cc:Nat
 ar:Option Addr
 cr:Nat
 ai:Option Addr
 ci:Nat
 ao:Option Addr
 co:Nat
def zeroM:MV:=⟨0,[],0,[],[],zeroD,0,false,false⟩
def zeroA:MA:=⟨none,0,none,0,none,0,none,0,none,0⟩
def aq (M:MV) (A:MA):Array Value:=#[.u M.pc,.slice A.ax M.x.length A.cx,.i M.pr,.slice A.ac M.cs.length A.cc,.slice A.ar M.ram.length A.cr,.u M.d.t,.u M.d.cm,.bool M.d.so,.slice A.ai M.d.xs.length A.ci,.slice A.ao M.d.ys.length A.co,.i M.d.ir,.u M.hd,.bool M.hl,.bool M.wt]
def aJ (a:Option Addr) (n c:Nat) (xs:List Int):FRow:=⟨22,.slice a n c,n,xs.map (Value.int .u64)⟩
def aI (M:MV) (A:MA):List FRow:=[aJ A.ax M.x.length A.cx M.x,aJ A.ac M.cs.length A.cc M.cs,aF A.ar M.ram.length A.cr M.ram,aF A.ai M.d.xs.length A.ci M.d.xs,aF A.ao M.d.ys.length A.co M.d.ys]
structure sa (w:World) (M:MV) (A:MA):Prop where
 x:Sl .u64 w A.ax M.x
 cs:Sl .u64 w A.ac M.cs
 ram:Sl .u8 w A.ar M.ram
 xs:Sl .u8 w A.ai M.d.xs
 ys:Sl .u8 w A.ao M.d.ys
theorem sa.below {w w':World} {M:MV} {A:MA} (h:sa w M A) (hb:Bw w w'):sa w' M A:=⟨h.x.below hb,h.cs.below hb,h.ram.below hb,h.xs.below hb,h.ys.below hb⟩
theorem bx.msl {B E:Nat} {w:World} {M:MV} {A:MA} (h:bx B E w (aI M A)):sa w M A :=
 ⟨gv (h.own (aJ A.ax M.x.length A.cx M.x) dm),gv (h.own (aJ A.ac M.cs.length A.cc M.cs) dm),gv (h.own (aF A.ar M.ram.length A.cr M.ram) dm),gv (h.own (aF A.ai M.d.xs.length A.ci M.d.xs) dm),gv (h.own (aF A.ao M.d.ys.length A.co M.d.ys) dm)⟩
theorem aR {W:World} {g:Nat} {d v1 v2 e f i j k l m a b c v13:Value} {t:TypeId} (h:W.heap[g]?=some (.cells #[d,v1,v2,e,f,i,j,k,l,m,a,b,c,v13] t (0,0))):W.cell? ⟨g,0,none⟩=some d/\W.cell? ⟨g,1,none⟩=some v1/\W.cell? ⟨g,2,none⟩=some v2/\W.cell? ⟨g,3,none⟩=some e/\W.cell? ⟨g,4,none⟩=some f/\W.cell? ⟨g,5,none⟩=some i/\W.cell? ⟨g,6,none⟩=some j/\W.cell? ⟨g,7,none⟩=some k/\W.cell? ⟨g,8,none⟩=some l/\W.cell? ⟨g,9,none⟩=some m/\W.cell? ⟨g,10,none⟩=some a/\W.cell? ⟨g,11,none⟩=some b/\W.cell? ⟨g,12,none⟩=some c/\W.cell? ⟨g,13,none⟩=some v13:=by simp [World.cell?,h]
theorem eO {W:World} {g:Nat} {cs:Array Value} {t:TypeId} (h:W.heap[g]?=some (.cells cs t (0,0))):W.frozen? ⟨g,0,none⟩=false/\W.frozen? ⟨g,1,none⟩=false/\W.frozen? ⟨g,2,none⟩=false/\W.frozen? ⟨g,3,none⟩=false/\W.frozen? ⟨g,4,none⟩=false/\W.frozen? ⟨g,5,none⟩=false/\W.frozen? ⟨g,6,none⟩=false/\W.frozen? ⟨g,7,none⟩=false/\W.frozen? ⟨g,8,none⟩=false/\W.frozen? ⟨g,9,none⟩=false/\W.frozen? ⟨g,10,none⟩=false/\W.frozen? ⟨g,11,none⟩=false/\W.frozen? ⟨g,12,none⟩=false/\W.frozen? ⟨g,13,none⟩=false :=
 ⟨gU h 0,gU h 1,gU h 2,gU h 3,gU h 4,gU h 5,gU h 6,gU h 7,gU h 8,gU h 9,gU h 10,gU h 11,gU h 12,gU h 13⟩
def JO (w:World) (g:Nat) (e f h x3 i j k l m n a b c d:Value):World:=(((((((((((((w.setCell ⟨g,0,none⟩ e).setCell ⟨g,1,none⟩ f).setCell ⟨g,2,none⟩ h).setCell ⟨g,3,none⟩ x3).setCell ⟨g,4,none⟩ i).setCell ⟨g,5,none⟩ j).setCell ⟨g,6,none⟩ k).setCell ⟨g,7,none⟩ l).setCell ⟨g,8,none⟩ m).setCell ⟨g,9,none⟩ n).setCell ⟨g,10,none⟩ a).setCell ⟨g,11,none⟩ b).setCell ⟨g,12,none⟩ c).setCell ⟨g,13,none⟩ d
theorem qY {w:World} {g:Nat} {Q v1 v2 B A z y x v u f e c v13:Value} {t:TypeId} {o:Nat × Nat} (h:w.heap[g]?=some (.cells #[Q,v1,v2,B,A,z,y,x,v,u,f,e,c,v13] t o)) (a b d x3 j k m n q r i l p s:Value):(JO w g a b d x3 j k m n q r i l p s).heap[g]?=some (.cells #[a,b,d,x3,j,k,m,n,q,r,i,l,p,s] t o):=by have G:(w.setCell ⟨g,0,none⟩ a).heap[g]?=some (.cells #[a,v1,v2,B,A,z,y,x,v,u,f,e,c,v13] t o):=bD h 0 a;have H:((w.setCell ⟨g,0,none⟩ a).setCell ⟨g,1,none⟩ b).heap[g]?=some (.cells #[a,b,v2,B,A,z,y,x,v,u,f,e,c,v13] t o):=bD G 1 b;have I:(((w.setCell ⟨g,0,none⟩ a).setCell ⟨g,1,none⟩ b).setCell ⟨g,2,none⟩ d).heap[g]?=some (.cells #[a,b,d,B,A,z,y,x,v,u,f,e,c,v13] t o):=bD H 2 d;have J:((((w.setCell ⟨g,0,none⟩ a).setCell ⟨g,1,none⟩ b).setCell ⟨g,2,none⟩ d).setCell ⟨g,3,none⟩ x3).heap[g]?=some (.cells #[a,b,d,x3,A,z,y,x,v,u,f,e,c,v13] t o):=bD I 3 x3;have K:(((((w.setCell ⟨g,0,none⟩ a).setCell ⟨g,1,none⟩ b).setCell ⟨g,2,none⟩ d).setCell ⟨g,3,none⟩ x3).setCell ⟨g,4,none⟩ j).heap[g]?=some (.cells #[a,b,d,x3,j,z,y,x,v,u,f,e,c,v13] t o):=bD J 4 j;have L:((((((w.setCell ⟨g,0,none⟩ a).setCell ⟨g,1,none⟩ b).setCell ⟨g,2,none⟩ d).setCell ⟨g,3,none⟩ x3).setCell ⟨g,4,none⟩ j).setCell ⟨g,5,none⟩ k).heap[g]?=some (.cells #[a,b,d,x3,j,k,y,x,v,u,f,e,c,v13] t o):=bD K 5 k;have M:(((((((w.setCell ⟨g,0,none⟩ a).setCell ⟨g,1,none⟩ b).setCell ⟨g,2,none⟩ d).setCell ⟨g,3,none⟩ x3).setCell ⟨g,4,none⟩ j).setCell ⟨g,5,none⟩ k).setCell ⟨g,6,none⟩ m).heap[g]?=some (.cells #[a,b,d,x3,j,k,m,x,v,u,f,e,c,v13] t o):=bD L 6 m;have N:((((((((w.setCell ⟨g,0,none⟩ a).setCell ⟨g,1,none⟩ b).setCell ⟨g,2,none⟩ d).setCell ⟨g,3,none⟩ x3).setCell ⟨g,4,none⟩ j).setCell ⟨g,5,none⟩ k).setCell ⟨g,6,none⟩ m).setCell ⟨g,7,none⟩ n).heap[g]?=some (.cells #[a,b,d,x3,j,k,m,n,v,u,f,e,c,v13] t o):=bD M 7 n;have O:(((((((((w.setCell ⟨g,0,none⟩ a).setCell ⟨g,1,none⟩ b).setCell ⟨g,2,none⟩ d).setCell ⟨g,3,none⟩ x3).setCell ⟨g,4,none⟩ j).setCell ⟨g,5,none⟩ k).setCell ⟨g,6,none⟩ m).setCell ⟨g,7,none⟩ n).setCell ⟨g,8,none⟩ q).heap[g]?=some (.cells #[a,b,d,x3,j,k,m,n,q,u,f,e,c,v13] t o):=bD N 8 q;have P:((((((((((w.setCell ⟨g,0,none⟩ a).setCell ⟨g,1,none⟩ b).setCell ⟨g,2,none⟩ d).setCell ⟨g,3,none⟩ x3).setCell ⟨g,4,none⟩ j).setCell ⟨g,5,none⟩ k).setCell ⟨g,6,none⟩ m).setCell ⟨g,7,none⟩ n).setCell ⟨g,8,none⟩ q).setCell ⟨g,9,none⟩ r).heap[g]?=some (.cells #[a,b,d,x3,j,k,m,n,q,r,f,e,c,v13] t o):=bD O 9 r;have C:(((((((((((w.setCell ⟨g,0,none⟩ a).setCell ⟨g,1,none⟩ b).setCell ⟨g,2,none⟩ d).setCell ⟨g,3,none⟩ x3).setCell ⟨g,4,none⟩ j).setCell ⟨g,5,none⟩ k).setCell ⟨g,6,none⟩ m).setCell ⟨g,7,none⟩ n).setCell ⟨g,8,none⟩ q).setCell ⟨g,9,none⟩ r).setCell ⟨g,10,none⟩ i).heap[g]?=some (.cells #[a,b,d,x3,j,k,m,n,q,r,i,e,c,v13] t o):=bD P 10 i;have D:((((((((((((w.setCell ⟨g,0,none⟩ a).setCell ⟨g,1,none⟩ b).setCell ⟨g,2,none⟩ d).setCell ⟨g,3,none⟩ x3).setCell ⟨g,4,none⟩ j).setCell ⟨g,5,none⟩ k).setCell ⟨g,6,none⟩ m).setCell ⟨g,7,none⟩ n).setCell ⟨g,8,none⟩ q).setCell ⟨g,9,none⟩ r).setCell ⟨g,10,none⟩ i).setCell ⟨g,11,none⟩ l).heap[g]?=some (.cells #[a,b,d,x3,j,k,m,n,q,r,i,l,c,v13] t o):=bD C 11 l;have E:(((((((((((((w.setCell ⟨g,0,none⟩ a).setCell ⟨g,1,none⟩ b).setCell ⟨g,2,none⟩ d).setCell ⟨g,3,none⟩ x3).setCell ⟨g,4,none⟩ j).setCell ⟨g,5,none⟩ k).setCell ⟨g,6,none⟩ m).setCell ⟨g,7,none⟩ n).setCell ⟨g,8,none⟩ q).setCell ⟨g,9,none⟩ r).setCell ⟨g,10,none⟩ i).setCell ⟨g,11,none⟩ l).setCell ⟨g,12,none⟩ p).heap[g]?=some (.cells #[a,b,d,x3,j,k,m,n,q,r,i,l,p,v13] t o):=bD D 12 p;have F:((((((((((((((w.setCell ⟨g,0,none⟩ a).setCell ⟨g,1,none⟩ b).setCell ⟨g,2,none⟩ d).setCell ⟨g,3,none⟩ x3).setCell ⟨g,4,none⟩ j).setCell ⟨g,5,none⟩ k).setCell ⟨g,6,none⟩ m).setCell ⟨g,7,none⟩ n).setCell ⟨g,8,none⟩ q).setCell ⟨g,9,none⟩ r).setCell ⟨g,10,none⟩ i).setCell ⟨g,11,none⟩ l).setCell ⟨g,12,none⟩ p).setCell ⟨g,13,none⟩ s).heap[g]?=some (.cells #[a,b,d,x3,j,k,m,n,q,r,i,l,p,s] t o):=bD E 13 s;exact F
theorem nI {B:Nat} {v w:World} (h:Below B v w) {g:Nat} (a:B<=g) (f i j x3 k l m n o q b c d e:Value):Below B v (JO w g f i j x3 k l m n o q b c d e):=
 ((((((((((((((h.setCell (p:=⟨g,0,none⟩) a f).setCell (p:=⟨g,1,none⟩) a i).setCell (p:=⟨g,2,none⟩) a j).setCell (p:=⟨g,3,none⟩) a x3).setCell (p:=⟨g,4,none⟩) a k).setCell (p:=⟨g,5,none⟩) a l).setCell (p:=⟨g,6,none⟩) a m).setCell (p:=⟨g,7,none⟩) a n).setCell (p:=⟨g,8,none⟩) a o).setCell (p:=⟨g,9,none⟩) a q).setCell (p:=⟨g,10,none⟩) a b).setCell (p:=⟨g,11,none⟩) a c).setCell (p:=⟨g,12,none⟩) a d).setCell (p:=⟨g,13,none⟩) a e)
theorem bx.put14 {B E:Nat} {w:World} {L:List FRow} (h:bx B E w L) (g:Nat) (a:g<B\/E<=g) (f i j x3 k l m n o p b c d e:Value):bx B E (JO w g f i j x3 k l m n o p b c d e) L :=
 ((((((((((((((h.set ⟨g,0,none⟩ f a).set ⟨g,1,none⟩ i a).set ⟨g,2,none⟩ j a).set ⟨g,3,none⟩ x3 a).set ⟨g,4,none⟩ k a).set ⟨g,5,none⟩ l a).set ⟨g,6,none⟩ m a).set ⟨g,7,none⟩ n a).set ⟨g,8,none⟩ o a).set ⟨g,9,none⟩ p a).set ⟨g,10,none⟩ b a).set ⟨g,11,none⟩ c a).set ⟨g,12,none⟩ d a).set ⟨g,13,none⟩ e a)
theorem nJ:(prog.info? 32).map (·.size)=some 14:=by kernel_rfl
theorem uq (b:Bool) (w:World):CE 104 #[.bool b] w (.u (ge b)):=by
 cases b with
 | false =>go_enter func104,ntmps104;exact v8
 | true =>go_enter func104,ntmps104;exact v8
theorem QP (x:Int) (w:World):CE 51 #[.i x,.i 0,.i 1] w (.bool (decide (0<=x/\x<=1))):=by
 by_cases b:0<=x
 ·by_cases c:x<=1;·have F:Hid (decide (0<=x/\x<=1)=true):=(by show decide (0<=x/\x<=1)=true;simp [b,c]);have d:decide (0<=x)=true:=kd;have f:decide (x<=1)=true:=i5;clear b c;generalize decide (0<=x/\x<=1)=v at *;go_enter func51,ntmps51;go_wp2;go_ret;exact ⟨bc,rfl⟩
  ·have F:Hid (decide (0<=x/\x<=1)=false):=(by show _=false;simp;omega);have d:decide (0<=x)=true:=kd;have f:decide (x<=1)=false:=i5;clear b c;generalize decide (0<=x/\x<=1)=v at *;exact v9
 ·have F:Hid (decide (0<=x/\x<=1)=false):=(by show _=false;simp;omega);have d:decide (0<=x)=false:=kd;clear b;generalize decide (0<=x/\x<=1)=v at *;exact v9
theorem wu (t cm:Int) (A:Bool) (a1:Option Addr) (c c1:Nat) (a2:Option Addr) (d c2:Nat) (b:Int) (w:World) (f:c<=1048576) (g:d<=1048576):CB 60 #[.agg #[.u t,.u cm,.bool A,.slice a1 c c1,.slice a2 d c2,.i b]] w (.bool (nD c d b)):=by
 have u:Hid (∀ w,CE 51 #[.i b,.i 0,.i 1] w (.bool (decide (0<=b/\b<=1)))):=QP b;have p:∀ o,Bw w (w.alloc o):=λo=>(Below.refl _ _).alloc (Nat.le_refl _) o;have F:nD c d b=(decide (c<=16)&&decide (d<=4096)&&decide (0<=b/\b<=1)):=rfl;generalize nD c d b=v at *;generalize decide (0<=b/\b<=1)=q at *;by_cases j:c<=16
 ·have y:decide ((c:Int)<=16)=true:=bh;by_cases m:d<=4096;·have z:decide ((d:Int)<=4096)=true:=bh;have l:Hid (v=q):=(by show v=q;rw [F,decide_eq_true j,decide_eq_true m];rfl);clear F j m f g;go_enter func60,ntmps60;go_wp2_with fail;refine (u.out _).mono ?_;rintro e B ⟨rfl,r⟩;subst r;go_wp2_with fail;go_ret;exact ⟨by rw [l.out];rfl,p _⟩
  ·have z:decide ((d:Int)<=4096)=false:=bh;have l:Hid (v=false):=(by show v=_;rw [F,decide_eq_true j,decide_eq_false m];rfl);clear F j m f g;go_enter func60,ntmps60;go_wp2_with fail;go_ret;exact ⟨by rw [l.out];rfl,p _⟩
 ·have y:decide ((c:Int)<=16)=false:=bh;have l:Hid (v=false):=(by show v=_;rw [F,decide_eq_false j];rfl);clear F j f g;go_enter func60,ntmps60;go_wp2_with fail;go_ret;exact ⟨by rw [l.out];rfl,p _⟩
theorem cS {W:World} {g:Nat} {o:Obj} (h:W.heap[g]?=some o) (a:Obj):(W.alloc a).heap[g]?=some o:=(Below.heap_alloc W a g (Array.getElem?_eq_some_iff.1 h).1).trans h
theorem NN {w w1:World} {o1 o2 o3:Obj} (a:(((w.alloc o1).alloc o2).alloc o3).grownBy w1 (some (w.heap.size+1+1))):w1.heap[w.heap.size]?=some o1/\w1.heap[w.heap.size+1]?=some o2/\Bw w w1/\w.heap.size+1+1+1<=w1.heap.size:=by obtain ⟨c,d,_⟩:=SK (w:=w) (o1:=o1) (o2:=o2) (o3:=o3) (Below.refl _ (((w.alloc o1).alloc o2).alloc o3));have b:=a.size;simp only [World.size_alloc] at b;refine ⟨(a.block _ dv bh).trans c,(a.block _ dv cp).trans d,?_,b⟩;exact Below.grown ((((Below.refl _ _).alloc (Nat.le_refl _) o1).alloc cp o2).alloc bh o3) a dv (λk e=>by simp at e;omega)
theorem QQ {w w1:World} {o:Obj} {g:Nat} (a:(w.alloc o).grownBy w1 (some g)) (b:g=w.heap.size):Bw w w1:=by subst b;exact Below.grown ((Below.refl _ _).alloc (Nat.le_refl _) o) a cp (λk c=>by simp at c;omega)
theorem CT (t cm:Int) (s:Bool) (a1:Option Addr) (b c1:Nat) (a2:Option Addr) (c c2:Nat) (r:Int) (xs ys:List Int) (w:World) (hx:xs.length=b) (hy:ys.length=c) (E:b<=1048576) (F:c<=1048576) (G:Sl .u8 w a1 xs) (H:Sl .u8 w a2 ys):Calls prog 72 #[.agg #[.u t,.u cm,.bool s,.slice a1 b c1,.slice a2 c c2,.i r]] w λe l=>∃ (d:Option Addr) (f:Nat) (m:Option Addr) (q:Nat),e=.returned (.agg #[.u t,.u cm,.bool s,.slice d b f,.slice m c q,.i r]) /\ bx w.heap.size l.heap.size l (fO d b f xs m c q ys)/\Bw w l:=by
 have B:∀ R S,Bw w ((w.alloc R).alloc S):=λR S=>((Below.refl _ _).alloc (Nat.le_refl _) R).alloc cp S
 have X:=iP ((w.alloc (.cells #[.u t,.u cm,.bool s,.slice a1 b c1,.slice a2 c c2,.i r] 30)).alloc (.cells #[.u 0,.u 0,.bool false,.slice none 0 0,.slice none 0 0,.i 0] 30)) (w.heap.size+1+1) cp (.cells #[] 5 (0,0)) rfl
 rw [World.size_alloc,World.size_alloc] at X
 have N:Hid (∀ l,Bw w l->Sl .u8 l a1 xs):=λl Q=>G.below Q
 have O:Hid (∀ l,Bw w l->Sl .u8 l a2 ys):=λl Q=>H.below Q
 have K:Hid (xs.length=b/\ys.length=c/\b<=1048576/\c<=1048576):=⟨hx,hy,E,F⟩
 clear G H hx hy E F
 go_enter func72,ntmps72
 go_wp2_with (first
  | (at_builtin;refine gX rfl (.tmp 3) (.tmp 5) rfl (w.heap.size+1+1) _ rfl X a1 b c1 xs rfl K.out.1 K.out.2.2.1 (N.out _ ((B _ _).alloc (B _ _).size _)) cp ?_;intro d f u I z;obtain ⟨L,r1,D,z1⟩:=NN z;have V:=aD L;have R1:=aD r1;have M:=aD D;have Z1:=aD z1;have A1:=aD ((bx.nil (w.heap.size+1+1) (w.heap.size+1+1) u).snoc (aF d b f xs) _ u.heap.size I (Nat.le_refl _) (Nat.le_refl _) (Nat.le_refl _) ab);obtain ⟨Y,Z,p2,p3,p4,p5⟩:=gQ L;have f3:=gU L 3;have C:=iP (u.setCell ⟨w.heap.size,3,none⟩ (.slice d b f)) u.heap.size ef (.cells #[] 5 (0,0)) rfl;rw [aO] at C;have y:(u.setCell ⟨w.heap.size,3,none⟩ (.slice d b f)).heap[w.heap.size]?=some (.cells #[.u t,.u cm,.bool s,.slice d b f,.slice a2 c c2,.i r] 30 (0,0)):=bD V.out 3 (.slice d b f);have T:=λo=>(gQ (cS y o)).2.2.2.2.1;clear L r1 D z1 I z y)
  | (at_builtin;refine gX rfl (.tmp 8) (.tmp 10) rfl u.heap.size _ rfl C a2 c c2 ys rfl K.out.2.1 K.out.2.2.2 (O.out _ ((M.out.setCell (p:=⟨w.heap.size,3,none⟩) (Nat.le_refl _) _).alloc (M.out.setCell (p:=⟨w.heap.size,3,none⟩) (Nat.le_refl _) _).size _)) (by rw [World.size_alloc,aO];omega) ?_;intro m q w2 J A;have j:=QQ A (by rw [aO]);have U:=j.size;have W:Hid (w2.heap[w.heap.size]?=some (.cells #[.u t,.u cm,.bool s,.slice d b f,.slice a2 c c2,.i r] 30 (0,0))):=bA j (bD V.out 3 (.slice d b f));have P:=aD (bA j (gy R1.out ⟨w.heap.size,3,none⟩ (.slice d b f) cb));have B2:=aD (aa (M.out.setCell (p:=⟨w.heap.size,3,none⟩) (Nat.le_refl _) (.slice d b f)) j);rw [aO] at U;have A2:=aD (((A1.out.set ⟨w.heap.size,3,none⟩ (.slice d b f) (.inl cb)).below j).snoc (aF m c q ys) _ w2.heap.size J (Nat.le_refl _) (by have:=Z1.out;omega) (Nat.le_refl _) U);clear Y Z p2 p3 p4 p5 f3 T;obtain ⟨Y,Z,p2,p3,p4,p5⟩:=gQ W.out;have f4:=gU W.out 4;obtain ⟨s0,s1,s2,s3,s4,s5⟩:=gQ P.out;obtain ⟨y0,y1,y2,y3,y4,y5⟩:=Al P.out;clear J A j U))
 have T1:=gy P.out ⟨w.heap.size,4,none⟩ (.slice m c q) cb
 have A3:=(A2.out.set ⟨w.heap.size,4,none⟩ (.slice m c q) (.inl cb)).put6 (w.heap.size+1) (.inl ab) (.u t) (.u cm) (.bool s) (.slice d b f) (.slice m c q) (.i r)
 have B3:=kT (B2.out.setCell (p:=⟨w.heap.size,4,none⟩) (Nat.le_refl _) (.slice m c q)) (g:=w.heap.size+1) ab (.u t) (.u cm) (.bool s) (.slice d b f) (.slice m c q) (.i r)
 exact bodyPost_ret (results_cell_row results72 _ _ _ _ _ _ _ rfl (nH T1 _ _ _ _ _ _) underlying30 rfl bI) rfl ⟨d,f,m,q,rfl,A3.low ab ob,B3⟩
theorem Ao {W:World} {g:Nat} {o:Obj} (h:W.heap[g]?=some o):W.drew.heap[g]?=some o:=h
theorem xu {w:World} {o1 o2:Obj}:((w.alloc o1).alloc o2).drew.heap[w.heap.size+1]?=some o2:=(uk (w:=w) (o1:=o1) (o2:=o2) (Below.refl _ ((w.alloc o1).alloc o2))).2
theorem iX {w:World} {o1 o2:Obj}:((w.alloc o1).alloc o2).heap[w.heap.size+1]?=some o2:=(uk (w:=w) (o1:=o1) (o2:=o2) (Below.refl _ ((w.alloc o1).alloc o2))).2
theorem oH {w:World} {o1 o2:Obj}:Bw w ((w.alloc o1).alloc o2).drew:=(((Below.refl _ _).alloc (Nat.le_refl _) o1).alloc cp o2).drew
theorem dZ {w:World} {o1 o2:Obj}:Bw w ((w.alloc o1).alloc o2):=((Below.refl _ _).alloc (Nat.le_refl _) o1).alloc cp o2
theorem JP (t cm:Int) (b:Bool) (a1:Option Addr) (g c1:Nat) (a2:Option Addr) (j c2:Nat) (f:Int) (w:World):CB 120 #[.agg #[.u t,.u cm,.bool b,.slice a1 g c1,.slice a2 j c2,.i f],.u 33554432,.i 4] w (.tuple #[.u (ge b),.agg #[.u t,.u cm,.bool b,.slice a1 g c1,.slice a2 j c2,.i f],.bool true]):=by
 have l:Hid (∀ w,CE 104 #[.bool b] w (.u (ge b))):=uq b;generalize ge b=v at *;go_enter func120,ntmps120;go_wp2_with fail;go_region_with (first | (go_at_call 104;with_reducible refine (l.out _).mono ?_;rintro e m ⟨rfl,c⟩;subst c));all_goals go_wp2_with fail
 all_goals exact bodyPost_ret (bN results120 _ _ _ _ _ _ _ rfl xu underlying30 rfl bI) rfl ⟨rfl,oH⟩
theorem JQ (t cm:Int) (f:Bool) (a1:Option Addr) (c c1:Nat) (a2:Option Addr) (d c2:Nat) (b:Int) (w:World):CB 120 #[.agg #[.u t,.u cm,.bool f,.slice a1 c c1,.slice a2 d c2,.i b],.u 33570816,.i 8] w (.tuple #[.u cm,.agg #[.u t,.u cm,.bool f,.slice a1 c c1,.slice a2 d c2,.i b],.bool true]):=by go_enter func120,ntmps120;go_wp2_with fail;go_region;exact wl
theorem JR (t cm:Int) (f:Bool) (a1:Option Addr) (c c1:Nat) (a2:Option Addr) (d c2:Nat) (b:Int) (w:World):CB 120 #[.agg #[.u t,.u cm,.bool f,.slice a1 c c1,.slice a2 d c2,.i b],.u 33603576,.i 8] w (.tuple #[.u t,.agg #[.u t,.u cm,.bool f,.slice a1 c c1,.slice a2 d c2,.i b],.bool true]):=by go_enter func120,ntmps120;go_wp2_with fail;go_region;exact wl
theorem He (t cm:Int) (d:Bool) (a1:Option Addr) (c1:Nat) (a2:Option Addr) (c c2:Nat) (b:Int) (w:World):CB 120 #[.agg #[.u t,.u cm,.bool d,.slice a1 0 c1,.slice a2 c c2,.i b],.u 268435456,.i 1] w (.tuple #[.u 0,.agg #[.u t,.u cm,.bool d,.slice a1 0 c1,.slice a2 c c2,.i b],.bool true]):=by go_enter func120,ntmps120;go_wp2_with fail;go_region;exact wl
theorem JS (t cm:Int) (f:Bool) (a1:Option Addr) (c c1:Nat) (a2:Option Addr) (d c2:Nat) (b:Int) (w:World):CB 120 #[.agg #[.u t,.u cm,.bool f,.slice a1 c c1,.slice a2 d c2,.i b],.u 268435457,.i 1] w (.tuple #[.u (Uz.wrap b),.agg #[.u t,.u cm,.bool f,.slice a1 c c1,.slice a2 d c2,.i b],.bool true]):=by go_enter func120,ntmps120;go_wp2_with fail;go_region;exact wl
theorem JT (t cm:Int) (l:Bool) (a1:Option Addr) (b c1:Nat) (a2:Option Addr) (j c2:Nat) (g:Int) (c:b<=1048576) (w:World):CB 120 #[.agg #[.u t,.u cm,.bool l,.slice a1 b c1,.slice a2 j c2,.i g],.u 268435461,.i 1] w (.tuple #[.u (Uz.wrap (32+ge (decide (0<b)))),.agg #[.u t,.u cm,.bool l,.slice a1 b c1,.slice a2 j c2,.i g],.bool true]):=by
 have m:Hid (∀ w,CE 104 #[.bool (decide (0<b))] w (.u (ge (decide (0<b))))):=uq _;generalize ge (decide (0<b))=v at *;clear c;go_enter func120,ntmps120;go_wp2_with fail;go_region_with (first | (go_at_call 104;with_reducible refine (m.out _).mono ?_;rintro e o ⟨rfl,d⟩;subst d));all_goals go_wp2_with fail
 all_goals exact bodyPost_ret (bN results120 _ _ _ _ _ _ _ rfl xu underlying30 rfl bI) rfl ⟨rfl,oH⟩
theorem JU (t cm:Int) (u:Bool) (a1:Option Addr) (r c1:Nat) (a2:Option Addr) (s c2:Nat) (q:Int) (addr size:Int) (b:addr=33554432->¬ size=4) (k1:addr=33570816->¬ size=8) (k2:addr=33603576->¬ size=8) (c:addr=268435456->¬ size=1) (d:addr=268435457->¬ size=1) (f:addr=268435461->¬ size=1) (w:World):CB 120 #[.agg #[.u t,.u cm,.bool u,.slice a1 r c1,.slice a2 s c2,.i q],.u addr,.i size] w (.tuple #[.u 0,.agg #[.u 0,.u 0,.bool false,.slice none 0 0,.slice none 0 0,.i 0],.bool false]):=by
 by_cases g:addr=33554432;·have z:(size==4)=false:=(by simpa using b g);subst g;clear b k1 k2 c d f;go_enter func120,ntmps120;go_wp2_with fail;exact bodyPost_ret (bN results120 _ _ _ _ _ _ _ rfl iX underlying30 rfl bI) rfl ⟨rfl,dZ⟩
 ·have t0:(addr==33554432)=false:=ul;by_cases j:addr=33570816;·have A:(size==8)=false:=(by simpa using k1 j);subst j;clear b k1 k2 c d f;go_enter func120,ntmps120;go_wp2_with fail;exact bodyPost_ret (bN results120 _ _ _ _ _ _ _ rfl iX underlying30 rfl bI) rfl ⟨rfl,dZ⟩
  ·have F:(addr==33570816)=false:=(by simpa using j);by_cases l:addr=33603576;·have B:(size==8)=false:=(by simpa using k2 l);subst l;clear b k1 k2 c d f;go_enter func120,ntmps120;go_wp2_with fail;exact bodyPost_ret (bN results120 _ _ _ _ _ _ _ rfl iX underlying30 rfl bI) rfl ⟨rfl,dZ⟩
   ·have G:(addr==33603576)=false:=(by simpa using l);by_cases m:addr=268435456;·have C:(size==1)=false:=(by simpa using c m);subst m;clear b k1 k2 c d f;go_enter func120,ntmps120;go_wp2_with fail;exact bodyPost_ret (bN results120 _ _ _ _ _ _ _ rfl iX underlying30 rfl bI) rfl ⟨rfl,dZ⟩
    ·have H:(addr==268435456)=false:=(by simpa using m);by_cases o:addr=268435457;·have D:(size==1)=false:=(by simpa using d o);subst o;clear b k1 k2 c d f;go_enter func120,ntmps120;go_wp2_with fail;exact bodyPost_ret (bN results120 _ _ _ _ _ _ _ rfl iX underlying30 rfl bI) rfl ⟨rfl,dZ⟩
     ·have I:(addr==268435457)=false:=(by simpa using o);by_cases p:addr=268435461;·have E:(size==1)=false:=(by simpa using f p);subst p;clear b k1 k2 c d f;go_enter func120,ntmps120;go_wp2_with fail;exact bodyPost_ret (bN results120 _ _ _ _ _ _ _ rfl iX underlying30 rfl bI) rfl ⟨rfl,dZ⟩
      ·have J:(addr==268435461)=false:=(by simpa using p);clear b k1 k2 c d f g j l m o p;go_enter func120,ntmps120;go_wp2_with fail;exact bodyPost_ret (bN results120 _ _ _ _ _ _ _ rfl iX underlying30 rfl bI) rfl ⟨rfl,dZ⟩
theorem Sl.next {w:World} {b a:Nat} {zs:List Int} (h:Sl .u8 w (some ⟨b,a,none⟩) zs):Sl .u8 w (some ⟨b,a+1,none⟩) (zs.drop 1):=by
 intro i g;rw [List.length_drop] at g;obtain ⟨j,c,e,d,f⟩:=h (i+1) ab;simp only [Option.some.injEq,Addr.mk.injEq,and_true] at e;obtain ⟨rfl,rfl⟩:=e;refine ⟨_,_,rfl,d,?_⟩;have e2:(zs.drop 1).getD i 0=zs.getD (i+1) 0:=by rw [List.getD_eq_getElem?_getD,List.getD_eq_getElem?_getD,List.getElem?_drop,Nat.add_comm]
 rw [e2,show a+1+i=a+(i+1) from ab];exact f
theorem Hf {B E:Nat} {w:World} {a1:Option Addr} {a c1:Nat} {xs:List Int} {a2:Option Addr} {j c2:Nat} {ys:List Int} (h:bx B E w (fO a1 a c1 xs a2 j c2 ys)) (hn:1<=a):∃ g,a1=some ⟨g,0,none⟩/\a<=c1/\c1<=maxLen:=by
 have f:=h.own (aF a1 a c1 xs) tk;rcases f.2 with ⟨_,c⟩|⟨g,cap,b,i,_,_,d,e,_⟩;·have:a=0:=c;omega
 ·injection i with e1 e2 e3
  subst e1 e3;exact ⟨g,rfl,d,e⟩
theorem yB {b c:Nat} {a:Int} (h:nD b c a=true):b<=16/\c<=4096/\0<=a/\a<=1:=by unfold nD at h;simp only [Bool.and_eq_true,decide_eq_true_eq] at h;exact ⟨h.1.1,h.1.2,h.2.1,h.2.2⟩
theorem Hg (t cm:Int) (f:Bool) (a1:Option Addr) (c c1:Nat) (a2:Option Addr) (d c2:Nat) (b:Int) (x:Int) (w:World):CB 122 #[.agg #[.u t,.u cm,.bool f,.slice a1 c c1,.slice a2 d c2,.i b],.u 33554432,.i 4,.u x] w (.tuple #[.agg #[.u t,.u cm,.bool (bits .and .u64 x 1==1),.slice a1 c c1,.slice a2 d c2,.i b],.bool true]):=by go_enter func122,ntmps122;exact ww
theorem Hh (t cm:Int) (f:Bool) (a1:Option Addr) (c c1:Nat) (a2:Option Addr) (d c2:Nat) (b:Int) (x:Int) (w:World):CB 122 #[.agg #[.u t,.u cm,.bool f,.slice a1 c c1,.slice a2 d c2,.i b],.u 33570816,.i 8,.u x] w (.tuple #[.agg #[.u t,.u x,.bool f,.slice a1 c c1,.slice a2 d c2,.i b],.bool true]):=by go_enter func122,ntmps122;exact ww
theorem Hi (t cm:Int) (f:Bool) (a1:Option Addr) (c c1:Nat) (a2:Option Addr) (d c2:Nat) (b:Int) (x:Int) (w:World):CB 122 #[.agg #[.u t,.u cm,.bool f,.slice a1 c c1,.slice a2 d c2,.i b],.u 33603576,.i 8,.u x] w (.tuple #[.agg #[.u x,.u cm,.bool f,.slice a1 c c1,.slice a2 d c2,.i b],.bool true]):=by go_enter func122,ntmps122;exact ww
theorem CU (t cm:Int) (g:Bool) (a1:Option Addr) (f c1:Nat) (a2:Option Addr) (b c2:Nat) (d:Int) (x:Int) (j:¬ b<4096) (c:b<=4096) (w:World):CB 122 #[.agg #[.u t,.u cm,.bool g,.slice a1 f c1,.slice a2 b c2,.i d],.u 268435456,.i 1,.u x] w (.tuple #[.agg #[.u t,.u cm,.bool g,.slice a1 f c1,.slice a2 b c2,.i d],.bool true]):=by
 have m:decide ((b:Int)<4096)=false:=by simp;omega
 clear j c;exact x7
theorem Hj (t cm:Int) (d:Bool) (a1:Option Addr) (b c1:Nat) (a2:Option Addr) (c c2:Nat) (f:Int) (x:Int) (w:World):CB 122 #[.agg #[.u t,.u cm,.bool d,.slice a1 b c1,.slice a2 c c2,.i f],.u 268435457,.i 1,.u x] w (.tuple #[.agg #[.u t,.u cm,.bool d,.slice a1 b c1,.slice a2 c c2,.i (wrap64 (bits .and .u64 x 1))],.bool true]):=by go_enter func122,ntmps122;exact ww
theorem Hk (t cm:Int) (f:Bool) (a1:Option Addr) (c c1:Nat) (a2:Option Addr) (d c2:Nat) (b:Int) (x:Int) (w:World):CB 122 #[.agg #[.u t,.u cm,.bool f,.slice a1 c c1,.slice a2 d c2,.i b],.u 268435461,.i 1,.u x] w (.tuple #[.agg #[.u t,.u cm,.bool f,.slice a1 c c1,.slice a2 d c2,.i b],.bool true]):=by go_enter func122,ntmps122;exact ww
theorem Hl (t cm:Int) (u:Bool) (a1:Option Addr) (r c1:Nat) (a2:Option Addr) (s c2:Nat) (q:Int) (x addr size:Int) (b:addr=33554432->¬ size=4) (k1:addr=33570816->¬ size=8) (k2:addr=33603576->¬ size=8) (c:addr=268435456->¬ size=1) (d:addr=268435457->¬ size=1) (f:addr=268435461->¬ size=1) (w:World):CB 122 #[.agg #[.u t,.u cm,.bool u,.slice a1 r c1,.slice a2 s c2,.i q],.u addr,.i size,.u x] w (.tuple #[.agg #[.u 0,.u 0,.bool false,.slice none 0 0,.slice none 0 0,.i 0],.bool false]):=by
 by_cases g:addr=33554432;·have z:(size==4)=false:=(by simpa using b g);subst g;clear b k1 k2 c d f;exact x7
 ·have t0:(addr==33554432)=false:=ul;by_cases j:addr=33570816;·have A:(size==8)=false:=(by simpa using k1 j);subst j;clear b k1 k2 c d f;go_enter func122,ntmps122;go_wp2_with fail;exact bodyPost_ret (cJ results122 _ _ _ _ _ _ _ rfl iX underlying30 rfl bI) rfl ⟨rfl,dZ⟩
  ·have F:(addr==33570816)=false:=(by simpa using j);by_cases l:addr=33603576;·have B:(size==8)=false:=(by simpa using k2 l);subst l;clear b k1 k2 c d f;go_enter func122,ntmps122;go_wp2_with fail;exact bodyPost_ret (cJ results122 _ _ _ _ _ _ _ rfl iX underlying30 rfl bI) rfl ⟨rfl,dZ⟩
   ·have G:(addr==33603576)=false:=(by simpa using l);by_cases m:addr=268435456;·have C:(size==1)=false:=(by simpa using c m);subst m;clear b k1 k2 c d f;go_enter func122,ntmps122;go_wp2_with fail;exact bodyPost_ret (cJ results122 _ _ _ _ _ _ _ rfl iX underlying30 rfl bI) rfl ⟨rfl,dZ⟩
    ·have H:(addr==268435456)=false:=(by simpa using m);by_cases o:addr=268435457;·have D:(size==1)=false:=(by simpa using d o);subst o;clear b k1 k2 c d f;go_enter func122,ntmps122;go_wp2_with fail;exact bodyPost_ret (cJ results122 _ _ _ _ _ _ _ rfl iX underlying30 rfl bI) rfl ⟨rfl,dZ⟩
     ·have I:(addr==268435457)=false:=(by simpa using o);by_cases p:addr=268435461;·have E:(size==1)=false:=(by simpa using f p);subst p;clear b k1 k2 c d f;go_enter func122,ntmps122;go_wp2_with fail;exact bodyPost_ret (cJ results122 _ _ _ _ _ _ _ rfl iX underlying30 rfl bI) rfl ⟨rfl,dZ⟩
      ·have J:(addr==268435461)=false:=(by simpa using p);clear b k1 k2 c d f g j l m o p;exact x7
theorem NP (w:World) (b:Int) (j:Nat) (u:Value) (h:[Value.int .u8 b][j]?=some u):(w.alloc (.cells #[.int .u8 b] 5)).cell? ((⟨w.heap.size,0,none⟩:Addr).add j)=some u:=by
 have c:j=0:=by
  rcases Nat.eq_zero_or_pos j with a|a;·exact a
  ·rw [List.getElem?_eq_none bh] at h;cases h
 subst c;rw [yz];simp only [List.getElem?_cons_zero,Option.some.injEq] at h;subst h;have e:=heap_alloc_new w (.cells #[.int .u8 b] 5);show (w.alloc (.cells #[.int .u8 b] 5)).cell? ⟨w.heap.size,0,none⟩=_;simp only [World.cell?,e];rfl
theorem JV {w:World} {base n:Nat} {t:TypeId} {v:Value} {xs:List Value} (h:w.ownsRow base t 1 v n xs):∃ a c,v=.slice a n c:=by
 rcases h.2 with ⟨e,d⟩|⟨f,cap,b,e,_⟩;·exact ⟨none,0,by rw [e,d]⟩
 ·exact ⟨_,_,e⟩
theorem T7 {w w1 w2:World} {o o1 o2:Obj} {n:Nat} {t:TypeId} {v:Value} {xs:List Value} (d:w1.heap[w.heap.size]?=some o1) (c:w1.heap[w.heap.size+1]?=some o2) (f:w1.ownsRow (w.heap.size+1+1) t 1 v n xs) (a:(w1.alloc o).grownBy w2 v.ownBlock):w2.heap[w.heap.size]?=some o1/\w2.heap[w.heap.size+1]?=some o2/\Below (w.heap.size+1+1) w1 w2:=by have z:=(Array.getElem?_eq_some_iff.1 c).1;have b:∀ k,k<w.heap.size+1+1->w2.heap[k]?=w1.heap[k]?:=λk b=>(a.block k ia (λe=>by have:=(f.lt k e.symm).1;omega)).trans (Below.heap_alloc w1 o k ab);refine ⟨(b _ ab).trans d,(b _ ab).trans c,⟨a.os,a.tape,a.output,?_,b⟩⟩;have:=a.size;rw [World.size_alloc] at this;omega
end Go.Proofs.YtjifdmoehfbihaaGreatDoor
