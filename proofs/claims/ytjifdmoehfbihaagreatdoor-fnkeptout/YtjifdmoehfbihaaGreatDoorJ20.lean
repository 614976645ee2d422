/- Own lemmas. -/
import Derived.Test.YtjifdmoehfbihaaGreatDoorAuj
import Derived.Test.YtjifdmoehfbihaaGreatDoorJ18
import Derived.Test.YtjifdmoehfbihaaGreatDoorJ19
set_option maxRecDepth 100000
namespace Go.Proofs.YtjifdmoehfbihaaGreatDoor
open Go.RowKit Tryz
open IntKind renaming u64->Uz
set_option linter.unusedVariables false
variable {B w l K g:Nat} {c b E:World} {x M' M:MV} {k A:MA} {p F t' t:TV} {L:List Int} {Q:Option Addr} {R a n v:Int} {S P:Program} {W fn:Func} {X Rs:Ending->World->Prop} {dr:Bool} {L1 L2:List FRow} {r:FRow} (d:Ins) (e f:Int)
theorem bz.swap (h:bz B w c (L1++r::L2)) (q:FRow) (f:c.ownsRow w q.t 1 q.v q.n q.xs) (o:B<=w) (p:w<=l) (t:c.heap.size<=l):bz B l c (L1++q::L2):=by
 have d:∀ s ∈ L1++q::L2,s=q\/s ∈ L1++r::L2:=λs E'=>by
  simp only [List.mem_append,List.mem_cons] at E' ⊢;rcases E' with E'|E'|E';·exact Or.inr (Or.inl E')
  ·exact Or.inl E'
  ·exact Or.inr (Or.inr (Or.inr E'))
 refine ⟨λs E'=>?_,λs E' k e=>?_,?_⟩
 ·rcases d s E' with rfl|E';·exact cF f o
  ·exact h.own s E'
 ·rcases d s E' with rfl|E';·exact Nat.lt_of_lt_of_le (f.lt k e).2 t
  ·exact Nat.lt_of_lt_of_le (h.hi s E' k e) p
 ·have j:=h.ne;rw [List.pairwise_append,List.pairwise_cons] at j ⊢;obtain ⟨E,⟨u,m⟩,n⟩:=j;refine ⟨E,⟨λs E' k e e2=>?_,m⟩,λa i b g k e e2=>?_⟩;·have:=(f.lt k e).1;have:=h.hi s (by simp [E']) k e2;omega
  ·rcases List.mem_cons.1 g with rfl|g;·have:=(f.lt k e2).1;have:=h.hi a (by simp [i]) k e;omega
   ·exact n a i b (by simp [g]) k e e2
theorem bz.other {L:List FRow} (h:bz B w c L) (hk:∀ q ∈ L,∀ k,q.v.ownBlock=some k->b.heap[k]?=c.heap[k]?):bz B w b L:=⟨λr a=>eu (h.own r a) (hk r a),h.hi,h.ne⟩
theorem AW {q:FRow} (h:∀ s ∈ L1++r::L2,s.v.ownBlock≠some B) (b:q.v.ownBlock≠some B):∀ s ∈ L1++q::L2,s.v.ownBlock≠some B:=λs a=>by
 simp only [List.mem_append,List.mem_cons] at a;rcases a with a|rfl|a;·exact h s (by simp [a])
 ·exact b
 ·exact h s (by simp [a])
structure Tq (B g:Nat) (w0:World) (M:MV) (A:MA) (t:TV) (w:World):Prop where
 row:ix ⟨g,bL M A t,[]⟩ w
 fam:bz B w.heap.size w (aH M A)
 ne:∀ q ∈ aH M A,q.v.ownBlock≠some g
 le:B<=w.heap.size
 os:w.os=w0.os
 tape:w.tape=w0.tape
 output:w.output=w0.output
 size:w0.heap.size<=w.heap.size
 block:∀ k,k<B->k≠g->w.heap[k]?=w0.heap[k]?
 t0:pS w0
 tb:0<B
 tn:0≠g
theorem Tq.tab (h:Tq B w c x k p b):pS b:=λj a=>by have:=h.t0 j a;simp only [World.cell?,h.block _ h.tb h.tn];exact this
theorem Tq.sl {M:MV} (h:Tq B w c M A p b):pn b M A:=by obtain ⟨a,w0,g,d,e⟩:=bz.rsl (A:=A) (x:=M.x) (cs:=M.cs) (ram:=M.ram) (xs:=M.d.xs) (ys:=M.d.ys) h.fam;exact ⟨a,w0,g,d,e⟩
theorem Tq.glt (h:Tq B w c x k p b):w<b.heap.size:=let ⟨_,a⟩:=h.row;(Array.getElem?_eq_some_iff.1 a).1
theorem Tq.other {R:List Rw} (h:Tq B w c x k p b) (f:bz B l b (aH x k)) (A:Iv [w] b R E):bz B l E (aH x k):=f.other λq a i e=>A.ag.block i ((f.own q a).lt i e).2 (by rw [List.mem_singleton];exact λe2=>h.ne q a (by rw [e,e2]))
theorem Tq.iv1 {A':MA} (h:Tq B w c x k p b) (A:Iv [w] b [⟨w,bL M' A' F,[]⟩] E) (f:bz B E.heap.size E (aH M' A')) (a:∀ q ∈ aH M' A',q.v.ownBlock≠some w):Tq B w c M' A' F E :=
 ⟨A.row1,f,a,Nat.le_trans h.le A.ag.size,A.ag.os.trans h.os,A.ag.tape.trans h.tape,A.ag.output.trans h.output,Nat.le_trans h.size A.ag.size,λi g w0=>(A.ag.block i (Nat.lt_of_lt_of_le g h.le) (by rw [List.mem_singleton];exact w0)).trans (h.block i g w0),h.t0,h.tb,h.tn⟩
theorem Tq.iv {M':MV} (h:Tq B w c x k p b) (A:Iv [w] b [⟨w,bL M' k F,[]⟩] E) (a:aH M' k=aH x k):Tq B w c M' k F E :=
 h.iv1 A (by rw [a];exact (h.other h.fam A).low (Nat.le_refl _) A.ag.size) (by rw [a];exact h.ne)
theorem Tq.new {M':MV} {A':MA} (h:Tq B w c x k p b) (A:Iv [w] b [⟨w,bL M' A' F,[]⟩] E) (f:bz b.heap.size E.heap.size E (aH M' A')):Tq B w c M' A' F E:=h.iv1 A (f.low h.le (Nat.le_refl _)) (λq a e=>by have:=((f.own q a).lt w e).1;have:=h.glt;omega)
theorem Tq.iv0 (h:Tq B w c x k p b):Iv [w] b [⟨w,bL x k p,[]⟩] b:=Iv.one h.row
theorem Tq.below (h:Tq B g c x k p b) (hb:Bw b E):Tq B g c x k p E:=h.iv (h.iv0.below hb) rfl
theorem Tq.ram (h:Tq B w c x A p b) (k:Iv [w] b [⟨w,bL {x with ram:=L} {A with ar:=Q,cr:=l} F,[]⟩] E) (o:E.ownsRow b.heap.size 5 1 (.slice Q L.length l) L.length (L.map (Value.int .u8))):Tq B w c (bP x L) {A with ar:=Q,cr:=l} F E:=by refine h.iv1 (M':=bP x L) k ?_ (AW (L1:=[aK A.ax x.x.length A.cx x.x,aK A.ac x.cs.length A.cc x.cs]) (L2:=[aF A.ai x.d.xs.length A.ci x.d.xs,aF A.ao x.d.ys.length A.co x.d.ys]) (r:=aF A.ar x.ram.length A.cr x.ram) (q:=aF Q L.length l L) h.ne λe=>by have:=(o.lt w e).1;have:=h.glt;omega);have f:=h.other h.fam k;exact bz.swap (L1:=[aK A.ax x.x.length A.cx x.x,aK A.ac x.cs.length A.cc x.cs]) (r:=aF A.ar x.ram.length A.cr x.ram) (L2:=[aF A.ai x.d.xs.length A.ci x.d.xs,aF A.ao x.d.ys.length A.co x.d.ys]) f (aF Q L.length l L) o h.le k.ag.size (Nat.le_refl _)
theorem Tq.csrs (h:Tq B w c x k p b) (a:M'.x=x.x/\M'.cs=L/\M'.ram=x.ram/\M'.d=x.d) (A:Iv [w] b [⟨w,bL M' {k with ac:=Q,cc:=l} t',[]⟩] E) (o:E.ownsRow b.heap.size 22 1 (.slice Q L.length l) L.length (L.map (Value.int .u64))):Tq B w c M' {k with ac:=Q,cc:=l} t' E:=by
 have w0:=AW (L1:=[aK k.ax x.x.length k.cx x.x]) (L2:=[aF k.ar x.ram.length k.cr x.ram,aF k.ai x.d.xs.length k.ci x.d.xs,aF k.ao x.d.ys.length k.co x.d.ys]) (r:=aK k.ac x.cs.length k.cc x.cs) (q:=aK Q L.length l L) h.ne λe=>by have:=(o.lt w e).1;have:=h.glt;omega
 have f:=h.other h.fam A;have s:=bz.swap (L1:=[aK k.ax x.x.length k.cx x.x]) (r:=aK k.ac x.cs.length k.cc x.cs) (L2:=[aF k.ar x.ram.length k.cr x.ram,aF k.ai x.d.xs.length k.ci x.d.xs,aF k.ao x.d.ys.length k.co x.d.ys]) f (aK Q L.length l L) o h.le A.ag.size (Nat.le_refl _);refine h.iv1 A ?_ ?_;·unfold aH;rw [a.1,a.2.1,a.2.2.1,a.2.2.2];exact s
 ·unfold aH;rw [a.1,a.2.1,a.2.2.1,a.2.2.2];exact w0
theorem sX (h:c.ownsRow B 22 1 (.slice Q L.length l) L.length (L.map (Value.int .u64))) (hn:L.length=w) (g:0<w):∃ b,Q=some ⟨b,0,none⟩/\B<=b/\∀ j,j<w->c.cell? ⟨b,j,none⟩=some (.u (L.getD j 0))/\c.frozen? ⟨b,j,none⟩=false:=by obtain ⟨b,c',e,f⟩:=jV h ab;simp only [Value.slice.injEq,true_and] at e;obtain ⟨d,e2⟩:=e;refine ⟨b,d,f,λj i=>?_⟩;rw [d] at h;refine ⟨?_,h.frozenAt j⟩;rw [h.cellAt j ab];rw [List.getElem?_map,List.getElem?_eq_getElem (show j<L.length by omega),List.getD_eq_getElem?_getD,List.getElem?_eq_getElem (show j<L.length by omega)];rfl
theorem Tq.atX (h:Tq B w c x k p b) (a:x.x.length=32):∃ w0,k.ax=some ⟨w0,0,none⟩/\w0≠w/\∀ j,j<32->b.cell? ⟨w0,j,none⟩=some (.u (x.x.getD j 0))/\b.frozen? ⟨w0,j,none⟩=false:=by have f:b.ownsRow B 22 1 (.slice k.ax x.x.length k.cx) x.x.length (x.x.map (Value.int .u64)):=h.fam.own (aK k.ax x.x.length k.cx x.x) dv;obtain ⟨w0,g,i,d⟩:=sX f a ab;exact ⟨w0,g,λe=>h.ne (aK k.ax x.x.length k.cx x.x) dv (by show (Value.slice k.ax x.x.length k.cx).ownBlock=_;rw [g,e];rfl),d⟩
theorem Tq.atC (h:Tq B w c x k p b) (a:x.cs.length=22):∃ w0,k.ac=some ⟨w0,0,none⟩/\w0≠w/\∀ j,j<22->b.cell? ⟨w0,j,none⟩=some (.u (x.cs.getD j 0))/\b.frozen? ⟨w0,j,none⟩=false:=by have f:b.ownsRow B 22 1 (.slice k.ac x.cs.length k.cc) x.cs.length (x.cs.map (Value.int .u64)):=h.fam.own (aK k.ac x.cs.length k.cc x.cs) dv;obtain ⟨w0,g,i,d⟩:=sX f a ab;exact ⟨w0,g,λe=>h.ne (aK k.ac x.cs.length k.cc x.cs) dv (by show (Value.slice k.ac x.cs.length k.cc).ownBlock=_;rw [g,e];rfl),d⟩
theorem Tq.good (h:Tq B w c x k p b):xu x.ram.length k.ar k.cr:=DI (h.fam.own (aF k.ar x.ram.length k.cr x.ram) dv)
theorem Tq.setX (h:Tq B w c x k p b) (hb:k.ax=some ⟨l,0,none⟩) (i:Nat) (v:Int):Tq B w c (xM x (x.x.set i v)) k p (b.setCell ⟨l,i,none⟩ (.u v)):=by
 have j:b.ownsRow B 22 1 (.slice k.ax x.x.length k.cx) x.x.length (x.x.map (Value.int .u64)):=h.fam.own (aK k.ax x.x.length k.cx x.x) dv;rw [hb] at j;have f:=j.stored i (.u v);rw [mX] at f;have u:=(j.lt l rfl).1;have M:b.grownBy (b.setCell ⟨l,i,none⟩ (.u v)) (aK k.ax x.x.length k.cx x.x).v.ownBlock:=by simp only [aK];rw [hb];exact f.2
 have y:=bz.mark (L1:=[]) (r:=aK k.ax x.x.length k.cx x.x) (L2:=[aK k.ac x.cs.length k.cc x.cs,aF k.ar x.ram.length k.cr x.ram,aF k.ai x.d.xs.length k.ci x.d.xs,aF k.ao x.d.ys.length k.co x.d.ys]) h.fam M ((x.x.set i v).map (Value.int .u64)) sb;have a:(b.setCell ⟨l,i,none⟩ (.u v)).heap.size=b.heap.size:=aX _ _ _;have m:aH (xM x (x.x.set i v)) k=[]++⟨(aK k.ax x.x.length k.cx x.x).t,(aK k.ax x.x.length k.cx x.x).v,(aK k.ax x.x.length k.cx x.x).n,(x.x.set i v).map (Value.int .u64)⟩::[aK k.ac x.cs.length k.cc x.cs,aF k.ar x.ram.length k.cr x.ram,aF k.ai x.d.xs.length k.ci x.d.xs,aF k.ao x.d.ys.length k.co x.d.ys]:=by simp [aH,xM,aK]
 have w0:∀ A,A≠l->(b.setCell ⟨l,i,none⟩ (.u v)).heap[A]?=b.heap[A]?:=λA w0=>Below.heap_setCell b _ _ A w0;have d:w≠l:=λe=>h.ne (aK k.ax x.x.length k.cx x.x) dv (by show (Value.slice k.ax x.x.length k.cx).ownBlock=_;rw [hb,e];rfl);refine ⟨?_,?_,(λq z=>by obtain ⟨C,n,g⟩:=jB (M:=x) (M':=xM x (x.x.set i v)) (A:=k) (show (x.x.set i v).length=x.x.length by simp) rfl rfl rfl rfl q z;rw [<- g];exact h.ne C n),by rw [a];exact h.le,h.os,h.tape,h.output,by rw [a];exact h.size,λA o t=>(w0 A ab).trans (h.block A o t),h.t0,h.tb,h.tn⟩;·obtain ⟨T,s⟩:=h.row;refine ⟨T,(w0 w d).trans (s.trans ?_)⟩;simp [bL,xM]
 ·rw [m,a];exact y.1
theorem Tq.setC (h:Tq B w c x k p b) (hb:k.ac=some ⟨l,0,none⟩) (i:Nat) (v:Int):Tq B w c (cM x (x.cs.set i v)) k p (b.setCell ⟨l,i,none⟩ (.u v)):=by
 have j:b.ownsRow B 22 1 (.slice k.ac x.cs.length k.cc) x.cs.length (x.cs.map (Value.int .u64)):=h.fam.own (aK k.ac x.cs.length k.cc x.cs) dv;rw [hb] at j;have f:=j.stored i (.u v);rw [mX] at f;have u:=(j.lt l rfl).1;have M:b.grownBy (b.setCell ⟨l,i,none⟩ (.u v)) (aK k.ac x.cs.length k.cc x.cs).v.ownBlock:=by simp only [aK];rw [hb];exact f.2
 have y:=bz.mark (L1:=[aK k.ax x.x.length k.cx x.x]) (r:=aK k.ac x.cs.length k.cc x.cs) (L2:=[aF k.ar x.ram.length k.cr x.ram,aF k.ai x.d.xs.length k.ci x.d.xs,aF k.ao x.d.ys.length k.co x.d.ys]) h.fam M ((x.cs.set i v).map (Value.int .u64)) sb;have a:(b.setCell ⟨l,i,none⟩ (.u v)).heap.size=b.heap.size:=aX _ _ _;have m:aH (cM x (x.cs.set i v)) k=[aK k.ax x.x.length k.cx x.x]++⟨(aK k.ac x.cs.length k.cc x.cs).t,(aK k.ac x.cs.length k.cc x.cs).v,(aK k.ac x.cs.length k.cc x.cs).n,(x.cs.set i v).map (Value.int .u64)⟩::[aF k.ar x.ram.length k.cr x.ram,aF k.ai x.d.xs.length k.ci x.d.xs,aF k.ao x.d.ys.length k.co x.d.ys]:=by simp [aH,cM,aK]
 have w0:∀ A,A≠l->(b.setCell ⟨l,i,none⟩ (.u v)).heap[A]?=b.heap[A]?:=λA w0=>Below.heap_setCell b _ _ A w0;have d:w≠l:=λe=>h.ne (aK k.ac x.cs.length k.cc x.cs) dv (by show (Value.slice k.ac x.cs.length k.cc).ownBlock=_;rw [hb,e];rfl);refine ⟨?_,?_,(λq z=>by obtain ⟨C,n,g⟩:=jB (M:=x) (M':=cM x (x.cs.set i v)) (A:=k) rfl (show (x.cs.set i v).length=x.cs.length by simp) rfl rfl rfl q z;rw [<- g];exact h.ne C n),by rw [a];exact h.le,h.os,h.tape,h.output,by rw [a];exact h.size,λA o t=>(w0 A ab).trans (h.block A o t),h.t0,h.tb,h.tn⟩;·obtain ⟨T,s⟩:=h.row;refine ⟨T,(w0 w d).trans (s.trans ?_)⟩;simp [bL,cM]
 ·rw [m,a];exact y.1
theorem Tq.acc (h:Tq B w c x k p b) (a:Gd x) {size kind M:Int} (f:jp size=true) (w0:1<=kind) (g:kind<=3) (d:kind=1->size=4) (i:U R) (hx:U M): Calls prog 200 #[.func (.func 40) #[] #[],.agg (aj x k),.u R,.i size,.i kind,.u M] b (yk b (aE x R size kind M)):=by
 have q:xp x size kind=true:=by
  unfold xp;rw [a.ok,f,decide_eq_true ⟨w0,g⟩];by_cases e:kind=1;·rw [d e];simp
  ·simp [e]
 have e:uO x R size kind M=aE x R size kind M:=by unfold uO;rw [if_pos q]
 rw [<- e];exact AV x k R size kind M b a.len h.sl a.mw a.hd i hx h.tab (λ_=>h.good)
def wN (op:Int):Nat:=2^((cj (op-1).toNat).f3z%4).toNat
def wS (op:Int):Bool:=decide ((cj (op-1).toNat).f3z<4)
def eX (op:Int):Value :=
 if op<3 then .iface 176 (.agg #[])
 else if op<11 then .iface 177 (.agg #[])
 else if op<18 then ns .ld (wN op) (wS op)
 else if op<22 then ns .st (wN op) (wS op)
 else if op<63 then .iface 176 (.agg #[])
 else if op<85 then (if op=63\/op=74 then ns .hd (wN op) (wS op) else if op=64\/op=75 then ns .sc (wN op) (wS op) else ns .am (wN op) (wS op))
 else if op<87 then .iface 188 (.agg #[])
 else if op<93 then .iface 189 (.agg #[])
 else .iface 190 (.agg #[])
theorem Oo:∀ k,k<98->0<=(cj k).f3z/\(cj k).f3z<8/\((10<=k/\k<=16)->wN ((k:Nat)+1:Int)=jN ((k:Nat)+1:Int)/\wS ((k:Nat)+1:Int)=decide (k<14))/\((17<=k/\k<=20)->wN ((k:Nat)+1:Int)=2^(k-17))/\((62<=k/\k<=83)->wN ((k:Nat)+1:Int)=bE ((k:Nat)+1:Int)/\wS ((k:Nat)+1:Int)=true):=by
 have h:(List.range 98).all (λk=>decide (0<=(cj k).f3z/\(cj k).f3z<8/\((10<=k/\k<=16)->wN ((k:Nat)+1:Int)=jN ((k:Nat)+1:Int)/\wS ((k:Nat)+1:Int)=decide (k<14))/\((17<=k/\k<=20)->wN ((k:Nat)+1:Int)=2^(k-17))/\((62<=k/\k<=83)->wN ((k:Nat)+1:Int)=bE ((k:Nat)+1:Int)/\wS ((k:Nat)+1:Int)=true)))=true:=ba
 intro k a;exact of_decide_eq_true (List.all_eq_true.1 h k oi)
theorem Is (a:1<=R) (h:R<=98):0<=(cj (R-1).toNat).f3z/\(cj (R-1).toNat).f3z<8/\((11<=R/\R<=17)->wN R=jN R/\wS R=decide (R-11<4))/\((18<=R/\R<=21)->wN R=2^(R-18).toNat)/\((63<=R/\R<=84)->wN R=bE R/\wS R=true):=by
 obtain ⟨k,rfl⟩:∃ k:Nat,R=(k:Int)+1:=⟨(R-1).toNat,ab⟩;obtain ⟨a,c,d,f,g⟩:=Oo k ab;rw [show ((k:Int)+1-1).toNat=k from ab];refine ⟨a,c,λe=>?_,λe=>?_,λe=>g ab⟩
 ·obtain ⟨b,e2⟩:=d ab;refine ⟨b,e2.trans ?_⟩;by_cases q:k<14;·rw [decide_eq_true q,decide_eq_true ab]
  ·rw [decide_eq_false q,decide_eq_false ab]
 ·rw [f ab,show ((k:Int)+1-18).toNat=k-17 from ab]
theorem uf (J:1<=e) (u:e<=98) (w:World):CB 205 #[.i e] w (.agg #[.i (wN e:Nat),.bool (wS e)]):=by
 obtain ⟨N,Z,_⟩:=Is J u;have B:rW e=true:=decide_eq_true ⟨J,u⟩;have f:=λW=>yF e (t7 ab ab) W;have H:xJ e=(cj (e-1).toNat).val:=by unfold xJ;rw [B];rfl
 rw [H,B] at f;unfold wN wS;generalize cj (e-1).toNat=R at *;obtain ⟨i,I,o,z,m⟩:=R;unfold Row.val at f;dsimp only at f;generalize Fm.str I=l at f;generalize (Row.mk i I o z m).f3z=y at *;refine bD (S:=Bs w [(#[.i 0,.bool false],179)]) (args:=[.i e]) [(#[.i 0,.bool false],179)] func205 ?_;refine aW Bs.eng {} 40 (Bs.start _ _) (λG _=>f G) ?_;rintro G op Y L ⟨rfl,M⟩;refine ⟨_,0,rfl,gE ba,?_⟩;have v:=L.below M;refine ae Bs.eng {} 3 v λb q=>?_;refine dM 2 (dQ (T:=232) (z:=noRow) ba b) ?_;refine bM (aD (g:=b.heap.size) (t:=232) (ty:=232) (old:=#[.string ⟨#[]⟩,.string ⟨#[]⟩,.u 0,.u 0,.u 0]) (cells:=#[.string i,.string l,.u o,.u y,.u m]) (heap_alloc_new _ _) ba rfl ba) ?_;have X:w.heap.size<b.heap.size:=(Array.getElem?_eq_some_iff.1 (q.1 0 _ rfl)).1;have D:Bw b ((b.alloc (.cells noRow.cells 232)).setRow b.heap.size #[.string i,.string l,.u o,.u y,.u m]):=aS (bal _ _) (Nat.le_refl _) _;have E:ix ⟨b.heap.size,#[.string i,.string l,.u o,.u y,.u m],[]⟩ ((b.alloc (.cells noRow.cells 232)).setRow b.heap.size #[.string i,.string l,.u o,.u y,.u m]):=⟨_,setRow_heap _ _ _ _ _ _ (heap_alloc_new _ _)⟩;generalize (b.alloc (.cells noRow.cells 232)).setRow b.heap.size #[.string i,.string l,.u o,.u y,.u m]=r at D E ⊢;have j:=q.below D;have p:Iv [w.heap.size,b.heap.size] r [⟨w.heap.size,#[.i 0,.bool false],[]⟩,⟨b.heap.size,#[.string i,.string l,.u o,.u y,.u m],[]⟩] r:=Iv.two ⟨_,j.1 0 _ rfl⟩ E ab;refine aJ (Iv [w.heap.size,b.heap.size] r [⟨w.heap.size,#[.i 0,.bool false],[]⟩,⟨b.heap.size,#[.string i,.string l,.u o,.u y,.u m],[]⟩]) ?_;refine an (R:=[]) trivial {} 3 ?_;refine uI ?_;have fin:∀ (n:Nat) (s:Bool) (k:List KI) (F:Fr) (c:World),Iv [w.heap.size,b.heap.size] r [⟨w.heap.size,#[.i 0,.bool false],[]⟩,⟨b.heap.size,#[.string i,.string l,.u o,.u y,.u m],[]⟩] c->io k=true->((cy prog ({}:Hw prog (Ag [w.heap.size,b.heap.size] c)) Tryz.f205.ntmps 40 k (xN 2 1 F) [⟨w.heap.size,#[.i 0,.bool false],[]⟩,⟨b.heap.size,#[.string i,.string l,.u o,.u y,.u m],[]⟩]).1.1,(cy prog ({}:Hw prog (Ag [w.heap.size,b.heap.size] c)) Tryz.f205.ntmps 40 k (xN 2 1 F) [⟨w.heap.size,#[.i 0,.bool false],[]⟩,⟨b.heap.size,#[.string i,.string l,.u o,.u y,.u m],[]⟩]).1.2.2.2)=(true,[⟨w.heap.size,#[.i n,.bool s],[]⟩,⟨b.heap.size,#[.string i,.string l,.u o,.u y,.u m],[]⟩]) ->
  (cy prog ({}:Hw prog (Ag [w.heap.size,b.heap.size] c)) Tryz.f205.ntmps 40 k (xN 2 1 F) [⟨w.heap.size,#[.i 0,.bool false],[]⟩,⟨b.heap.size,#[.string i,.string l,.u o,.u y,.u m],[]⟩]).2.map Prod.fst=(cy prog ({}:Hw prog (Ag [w.heap.size,b.heap.size] c)) Tryz.f205.ntmps 40 k (xN 2 1 F) [⟨w.heap.size,#[.i 0,.bool false],[]⟩,⟨b.heap.size,#[.string i,.string l,.u o,.u y,.u m],[]⟩]).2.map Prod.snd ->
  (lk (cy prog ({}:Hw prog (Ag [w.heap.size,b.heap.size] c)) Tryz.f205.ntmps 40 k (xN 2 1 F) [⟨w.heap.size,#[.i 0,.bool false],[]⟩,⟨b.heap.size,#[.string i,.string l,.u o,.u y,.u m],[]⟩]).1.2.2.1 2).map Prod.fst=some (.p w.heap.size 0) ->
  n=2^(y%4).toNat/\s=decide (y<4)->Wg prog (Iv [w.heap.size,b.heap.size] r [⟨w.heap.size,#[.i 0,.bool false],[]⟩,⟨b.heap.size,#[.string i,.string l,.u o,.u y,.u m],[]⟩]) (bodyPost prog Tryz.f205 λop w'=>op=.returned (.agg #[.i (2^(y%4).toNat:Nat),.bool (decide (y<4))])/\Bw w w') Tryz.f205.ntmps k F c:=by
  intro n s k F c d hn hx he U A
  refine aJ (λ_=>True) (hn:=hn) ?_
  refine aN 2 1 ?_
  have O:=Iv.two (d.rows _ (List.mem_cons_self ..)) (d.rows _ (List.mem_cons_of_mem _ (List.mem_cons_self ..))) (λop=>by have:=d.nd;simp [op] at this)
  refine iO O {} 40 (hx:=hx) (he:=he) λQ a K C=>?_
  obtain ⟨P,V⟩:=K.rows _ (List.mem_cons_self ..)
  have x:=d.ag.trans K.ag
  refine ⟨_,results_cell_row results205 a.tmps Q w.heap.size P _ (0,0) _ (C.slot U) V underlying179 rfl rfl,by rw [<- A.1,<- A.2],?_⟩
  exact ⟨x.os.trans j.2.os,x.tape.trans j.2.tape,x.output.trans j.2.output,Nat.le_trans j.2.size x.size,λk C=>(x.block k (Nat.lt_of_lt_of_le C j.2.size) l5).trans (j.2.block k C)⟩
 have MY:=λW=>(bF y 0 2 N ab bc bc W).mono λop w' k=>And.intro k.1 (show Bw W w' by rw [k.2];exact (Below.refl _ _).drew);have h:=λW=>(bF y 2 1 N ab bc bc W).mono λop w' k=>And.intro k.1 (show Bw W w' by rw [k.2];exact (Below.refl _ _).drew);clear L v q M H f X D E;obtain rfl | rfl | rfl | rfl | rfl | rfl | rfl | rfl:y=0\/y=1\/y=2\/y=3\/y=4\/y=5\/y=6\/y=7:=ab
 ·refine ae Iv.eng {cv:=[(12,jQ Iv.below λW _=>MY W),(16,jQ Iv.below λW _=>h W)]} 40 (p.below (Below.refl _ _).drew) λc d=>?_;exact fin 1 true _ _ c d ba ba ba ba cb
 ·refine ae Iv.eng {cv:=[(12,jQ Iv.below λW _=>MY W),(16,jQ Iv.below λW _=>h W)]} 40 (p.below (Below.refl _ _).drew) λc d=>?_;exact fin 2 true _ _ c d ba ba ba ba cb
 ·refine ae Iv.eng {cv:=[(12,jQ Iv.below λW _=>MY W),(16,jQ Iv.below λW _=>h W)]} 40 (p.below (Below.refl _ _).drew) λc d=>?_;exact fin 4 true _ _ c d ba ba ba ba cb
 ·refine ae Iv.eng {cv:=[(12,jQ Iv.below λW _=>MY W),(16,jQ Iv.below λW _=>h W)]} 40 (p.below (Below.refl _ _).drew) λc d=>?_;exact fin 8 true _ _ c d ba ba ba ba cb
 ·refine ae Iv.eng {cv:=[(12,jQ Iv.below λW _=>MY W),(16,jQ Iv.below λW _=>h W)]} 40 (p.below (Below.refl _ _).drew) λc d=>?_;exact fin 1 false _ _ c d ba ba ba ba cb
 ·refine ae Iv.eng {cv:=[(12,jQ Iv.below λW _=>MY W),(16,jQ Iv.below λW _=>h W)]} 40 (p.below (Below.refl _ _).drew) λc d=>?_;exact fin 2 false _ _ c d ba ba ba ba cb
 ·refine ae Iv.eng {cv:=[(12,jQ Iv.below λW _=>MY W),(16,jQ Iv.below λW _=>h W)]} 40 (p.below (Below.refl _ _).drew) λc d=>?_;exact fin 4 false _ _ c d ba ba ba ba cb
 ·refine ae Iv.eng {cv:=[(12,jQ Iv.below λW _=>MY W),(16,jQ Iv.below λW _=>h W)]} 40 (p.below (Below.refl _ _).drew) λc d=>?_;exact fin 8 false _ _ c d ba ba ba ba cb
theorem sY (b:63<=e) (c:e<=84) (w:World):CB 206 #[.i e] w (if e=63\/e=74 then ns .hd (wN e) (wS e) else if e=64\/e=75 then ns .sc (wN e) (wS e) else ns .am (wN e) (wS e)):=by
 have a:=λW (_:Bw w W)=>uf e ab ab W;generalize wN e=n at *;generalize wS e=s at *;refine bD (S:=Bs w []) (args:=[.i e]) [] func206 ?_;by_cases d:e=63;·rw [if_pos ab];exact bm (t:=2) (v:=ns .hd n s) Bs.eng {eq:=[(5,ak (show (e==63)=true by simp;omega))],cv:=[(8,fY a),(15,fY a),(19,fY a)]} 60 (Bs.start w []) λw' h=>⟨rfl,h.2⟩
 by_cases f:e=74;·rw [if_pos ab];exact bm (t:=2) (v:=ns .hd n s) Bs.eng {eq:=[(5,ak (show (e==63)=false by simp;omega)),(6,ak (show (e==74)=true by simp;omega))],cv:=[(8,fY a),(15,fY a),(19,fY a)]} 60 (Bs.start w []) λw' h=>⟨rfl,h.2⟩
 by_cases g:e=64;·rw [if_neg ab,if_pos ab];exact bm (t:=2) (v:=ns .sc n s) Bs.eng {eq:=[(5,ak (show (e==63)=false by simp;omega)),(6,ak (show (e==74)=false by simp;omega)),(12,ak (show (e==64)=true by simp;omega))],cv:=[(8,fY a),(15,fY a),(19,fY a)]} 60 (Bs.start w []) λw' h=>⟨rfl,h.2⟩
 by_cases i:e=75;·rw [if_neg ab,if_pos ab];exact bm (t:=2) (v:=ns .sc n s) Bs.eng {eq:=[(5,ak (show (e==63)=false by simp;omega)),(6,ak (show (e==74)=false by simp;omega)),(12,ak (show (e==64)=false by simp;omega)),(13,ak (show (e==75)=true by simp;omega))],cv:=[(8,fY a),(15,fY a),(19,fY a)]} 60 (Bs.start w []) λw' h=>⟨rfl,h.2⟩
 rw [if_neg ab,if_neg ab];exact bm (t:=2) (v:=ns .am n s) Bs.eng {eq:=[(5,ak (show (e==63)=false by simp;omega)),(6,ak (show (e==74)=false by simp;omega)),(12,ak (show (e==64)=false by simp;omega)),(13,ak (show (e==75)=false by simp;omega))],cv:=[(8,fY a),(15,fY a),(19,fY a)]} 60 (Bs.start w []) λw' h=>⟨rfl,h.2⟩
theorem Gg (g:1<=e) (d:e<=98) (w:World):CB 152 #[.i e] w (eX e):=by
 have a:=λW (_:Bw w W)=>uf e g d W;have i:=λW (b:63<=e) (c:e<=84)=>sY e b c W;unfold eX;generalize wN e=n at *;generalize wS e=s at *;refine bD (S:=Bs w []) (args:=[.i e]) [] func152 ?_;by_cases k:e<3;·rw [if_pos ab];exact bm (t:=2) (v:=.iface 176 (.agg #[])) Bs.eng {eq:=[(5,ak (show decide (e<3)=true by rw [decide_eq_true_eq];omega))]} 100 (Bs.start w []) λw' h=>⟨rfl,h.2⟩
 by_cases l:e<11;·rw [if_neg ab,if_pos ab];exact bm (t:=2) (v:=.iface 177 (.agg #[])) Bs.eng {eq:=[(5,ak (show decide (e<3)=false by rw [decide_eq_false_iff_not];omega)),(10,ak (show decide (e<11)=true by rw [decide_eq_true_eq];omega))]} 100 (Bs.start w []) λw' h=>⟨rfl,h.2⟩
 by_cases m:e<18;·rw [if_neg ab,if_neg ab,if_pos ab];exact bm (t:=2) (v:=ns .ld n s) Bs.eng {eq:=[(5,ak (show decide (e<3)=false by rw [decide_eq_false_iff_not];omega)),(10,ak (show decide (e<11)=false by rw [decide_eq_false_iff_not];omega)),(15,ak (show decide (e<18)=true by rw [decide_eq_true_eq];omega))],cv:=[(17,fY a),(24,fY a)]} 100 (Bs.start w []) λw' h=>⟨rfl,h.2⟩
 by_cases o:e<22;·rw [if_neg ab,if_neg ab,if_neg ab,if_pos ab];exact bm (t:=2) (v:=ns .st n s) Bs.eng {eq:=[(5,ak (show decide (e<3)=false by rw [decide_eq_false_iff_not];omega)),(10,ak (show decide (e<11)=false by rw [decide_eq_false_iff_not];omega)),(15,ak (show decide (e<18)=false by rw [decide_eq_false_iff_not];omega)),(22,ak (show decide (e<22)=true by rw [decide_eq_true_eq];omega))],cv:=[(17,fY a),(24,fY a)]} 100 (Bs.start w []) λw' h=>⟨rfl,h.2⟩
 by_cases p:e<63;·rw [if_neg ab,if_neg ab,if_neg ab,if_neg ab,if_pos ab];exact bm (t:=2) (v:=.iface 176 (.agg #[])) Bs.eng {eq:=[(5,ak (show decide (e<3)=false by rw [decide_eq_false_iff_not];omega)),(10,ak (show decide (e<11)=false by rw [decide_eq_false_iff_not];omega)),(15,ak (show decide (e<18)=false by rw [decide_eq_false_iff_not];omega)),(22,ak (show decide (e<22)=false by rw [decide_eq_false_iff_not];omega)),(29,ak (show decide (e<63)=true by rw [decide_eq_true_eq];omega))]} 100 (Bs.start w []) λw' h=>⟨rfl,h.2⟩
 by_cases q:e<85;·rw [if_neg ab,if_neg ab,if_neg ab,if_neg ab,if_neg ab,if_pos ab];have j:=λW (_:Bw w W)=>i W ab ab;generalize (if e=63\/e=74 then ns .hd n s else if e=64\/e=75 then ns .sc n s else ns .am n s)=f at *;exact bm (t:=2) (v:=f) Bs.eng {eq:=[(5,ak (show decide (e<3)=false by rw [decide_eq_false_iff_not];omega)),(10,ak (show decide (e<11)=false by rw [decide_eq_false_iff_not];omega)),(15,ak (show decide (e<18)=false by rw [decide_eq_false_iff_not];omega)),(22,ak (show decide (e<22)=false by rw [decide_eq_false_iff_not];omega)),(29,ak (show decide (e<63)=false by rw [decide_eq_false_iff_not];omega)),(34,ak (show decide (e<85)=true by rw [decide_eq_true_eq];omega))],cv:=[(36,fY j)]} 100 (Bs.start w []) λw' h=>⟨rfl,h.2⟩
 by_cases r:e<87;·rw [if_neg ab,if_neg ab,if_neg ab,if_neg ab,if_neg ab,if_neg ab,if_pos ab];exact bm (t:=2) (v:=.iface 188 (.agg #[])) Bs.eng {eq:=[(5,ak (show decide (e<3)=false by rw [decide_eq_false_iff_not];omega)),(10,ak (show decide (e<11)=false by rw [decide_eq_false_iff_not];omega)),(15,ak (show decide (e<18)=false by rw [decide_eq_false_iff_not];omega)),(22,ak (show decide (e<22)=false by rw [decide_eq_false_iff_not];omega)),(29,ak (show decide (e<63)=false by rw [decide_eq_false_iff_not];omega)),(34,ak (show decide (e<85)=false by rw [decide_eq_false_iff_not];omega)),(39,ak (show decide (e<87)=true by rw [decide_eq_true_eq];omega))]} 100 (Bs.start w []) λw' h=>⟨rfl,h.2⟩
 by_cases u:e<93;·rw [if_neg ab,if_neg ab,if_neg ab,if_neg ab,if_neg ab,if_neg ab,if_neg ab,if_pos ab];exact bm (t:=2) (v:=.iface 189 (.agg #[])) Bs.eng {eq:=[(5,ak (show decide (e<3)=false by rw [decide_eq_false_iff_not];omega)),(10,ak (show decide (e<11)=false by rw [decide_eq_false_iff_not];omega)),(15,ak (show decide (e<18)=false by rw [decide_eq_false_iff_not];omega)),(22,ak (show decide (e<22)=false by rw [decide_eq_false_iff_not];omega)),(29,ak (show decide (e<63)=false by rw [decide_eq_false_iff_not];omega)),(34,ak (show decide (e<85)=false by rw [decide_eq_false_iff_not];omega)),(39,ak (show decide (e<87)=false by rw [decide_eq_false_iff_not];omega)),(44,ak (show decide (e<93)=true by rw [decide_eq_true_eq];omega))]} 100 (Bs.start w []) λw' h=>⟨rfl,h.2⟩
 rw [if_neg ab,if_neg ab,if_neg ab,if_neg ab,if_neg ab,if_neg ab,if_neg ab,if_neg ab];exact bm (t:=2) (v:=.iface 190 (.agg #[])) Bs.eng {eq:=[(5,ak (show decide (e<3)=false by rw [decide_eq_false_iff_not];omega)),(10,ak (show decide (e<11)=false by rw [decide_eq_false_iff_not];omega)),(15,ak (show decide (e<18)=false by rw [decide_eq_false_iff_not];omega)),(22,ak (show decide (e<22)=false by rw [decide_eq_false_iff_not];omega)),(29,ak (show decide (e<63)=false by rw [decide_eq_false_iff_not];omega)),(34,ak (show decide (e<85)=false by rw [decide_eq_false_iff_not];omega)),(39,ak (show decide (e<87)=false by rw [decide_eq_false_iff_not];omega)),(44,ak (show decide (e<93)=false by rw [decide_eq_false_iff_not];omega))]} 100 (Bs.start w []) λw' h=>⟨rfl,h.2⟩
def uB (cf:Bool) (M:MV) (t:TV):MV × Int :=
 if t.up=true then (aL M t.cz.toNat false t.vl,2)
 else (⟨t.nx,if t.rd=0 then M.x else M.x.set t.rd.toNat t.rs,M.pr,if cf=true then M.cs else M.cs.set 21 (Uz.wrap (M.cs.getD 21 0+1)),M.ram,M.d,M.hd,M.hl,M.wt⟩,1)
def t0 (M:MV) (i:Ins) (wd:Int):TV:=⟨.func (.func 40) #[] #[],wd,i.op,i.rd,i.a,i.b,i.imm,eX i.op,M.x.getD i.rd.toNat 0,Uz.wrap (M.pc+4),false,false,0,0⟩
structure Pf (cf:Bool) (V:MV × Int) (i:Ins) (M':MV) (t':TV):Prop where
 e:uB cf M' t'=V
 g:Gd M'
 rd:t'.rd=i.rd
 fm:t'.fm=eX i.op
 c:t'.up=true->∃ k:Nat,k<16/\t'.cz=k
def TR (B g:Nat) (w0:World) (P:MV->TV->Prop) (e:Ending) (w':World):Prop:=e=.returned (.tuple #[])/\∃ M' A' t',P M' t'/\Tq B g w0 M' A' t' w'
theorem Tq.eng:n6 P (Tq B w c x k p) (Tq B w c x k p) [⟨w,bL x k p,[]⟩] dr (bodyPost P fn Rs):=
 ⟨λ_ h=>h,λW h r a=>by rw [List.mem_singleton] at a;subst a;exact h.row.in_,λ_ W h=>h.below (Below.refl _ _).drew,cJ⟩
def ug {B g:Nat} {w0:World} {M:MV} {A:MA} {t:TV} {P:Program} {f:Nat} {args:Array Value} {v:Value} (h:∀ W,Tq B g w0 M A t W->Calls P f args W λe w'=>e=.returned v/\Iv [g] W [⟨g,bL M A t,[]⟩] w'):Cv P (Tq B g w0 M A t):=⟨f,args,v,0,λW a=>(h W a).mono λe w' k=>⟨k.1,a.iv k.2 rfl⟩⟩
def Pd {B g:Nat} {w0:World} {M:MV} {A:MA} {t:TV} {P:Program} {f:Nat} {args:Array Value} {v:Value} (h:∀ W,Tq B g w0 M A t W->Calls P f args W λe w'=>e=.returned v/\Bw W w'):Cv P (Tq B g w0 M A t):=⟨f,args,v,0,λW a=>(h W a).mono λe w' k=>⟨k.1,a.below k.2⟩⟩
theorem Uf {M:MV} (h:Tq B w c M k p b) (a:M.x.length=32) (d:0<=p.ra) (f:p.ra<=31):Calls prog 156 #[.p w 0] b λe w'=>e=.returned (.u (M.x.getD p.ra.toNat 0))/\Iv [w] b [⟨w,bL M k p,[]⟩] w':=by obtain ⟨w0,i,g,j⟩:=h.atX a;have:=L7 (x:=M.x.getD (0+p.ra.toNat) 0) h.row i ⟨d,ab⟩ g (j (0+p.ra.toNat) ab).1;rw [Nat.zero_add] at this;exact this
theorem Ww {M:MV} (h:Tq B w c M k p b) (a:M.x.length=32) (d:0<=p.rb) (f:p.rb<=31):Calls prog 159 #[.p w 0] b λe w'=>e=.returned (.u (M.x.getD p.rb.toNat 0))/\Iv [w] b [⟨w,bL M k p,[]⟩] w':=by obtain ⟨w0,i,g,j⟩:=h.atX a;have:=VC (x:=M.x.getD (0+p.rb.toNat) 0) h.row i ⟨d,ab⟩ g (j (0+p.rb.toNat) ab).1;rw [Nat.zero_add] at this;exact this
def xw (M:MV) (i:Ins):Int:=if i.op=1 then Uz.wrap i.imm else if i.op=2 then Uz.wrap (M.pc+Uz.wrap i.imm) else nC i.op (M.x.getD i.a.toNat 0) (if (fs i.op).toList=[82] then M.x.getD i.b.toNat 0 else Uz.wrap i.imm)
theorem Gh (i:Ins) (wd:Int) (C:jS i) (h:Tq B w c x k (t0 x i wd) b) (n:Gd x):Calls prog 153 #[.p w 0] b λe w'=>e=.returned (.u (xw x i))/\Tq B w c x k (t0 x i wd) w':=by
 obtain ⟨H,F,G,s,y,l,z,m,D,E,_⟩:=C;have g:=n.x32;have A:=n.ux i.a.toNat;have u:=n.ux i.b.toNat;have M:U (Uz.wrap i.imm):=aT _;have q:=λW (h:Tq B w c x k (t0 x i wd) W)=>Uf h g y l;have r:=λW (h:Tq B w c x k (t0 x i wd) W)=>Ww h g z m;have j:=λW (h:Tq B w c x k (t0 x i wd) W)=>tI h.row;unfold xw;refine bD (S:=Tq B w c x k (t0 x i wd)) (args:=[.p w 0]) [] func153 ?_;refine aN 0 1 ?_;by_cases o:i.op=1;·rw [if_pos o];exact bm (t:=2) (v:=.u (Uz.wrap i.imm)) (Tq.eng (dr:=true)) {eq:=[(12,ak (show (i.op==1)=true by simp;omega))],cv:=[(14,ug j)]} 100 h λw' h=>⟨rfl,h⟩
 rw [if_neg o];have a:(i.op==1)=false:=by simp;omega
 by_cases p:i.op=2;·rw [if_pos p];exact bm (t:=2) (v:=.u (Uz.wrap (x.pc+Uz.wrap i.imm))) (Tq.eng (dr:=true)) {eq:=[(12,ak a),(16,ak (show (i.op==2)=true by simp;omega))],cv:=[(23,ug j)]} 100 h λw' h=>⟨rfl,h⟩
 rw [if_neg p];have w0:(i.op==2)=false:=by simp;omega
 have f:=λW (_:Tq B w c x k (t0 x i wd) W)=>zP i.op (t7 ab ab) W;cases d:((fs i.op).toList==(⟨#[82]⟩:ByteArray).toList) with
 | true =>rw [if_pos (show (fs i.op).toList=[82] from (eq_of_beq d).trans cb)];exact bm (t:=2) (v:=.u (nC i.op (x.x.getD i.a.toNat 0) (x.x.getD i.b.toNat 0))) (Tq.eng (dr:=true)) {eq:=[(12,ak a),(16,ak w0),(33,ak d)],cv:=[(26,ug j),(32,Pd f),(35,ug r),(43,ug q),(45,Pd λW _=>tW i.op _ _ (t7 ab ab) A.1 A.2 u.1 u.2 W)]} 200 h λw' h=>⟨rfl,h⟩
 | false =>rw [if_neg (show ¬ (fs i.op).toList=[82] from λe=>by rw [e] at d;exact absurd d cb)];exact bm (t:=2) (v:=.u (nC i.op (x.x.getD i.a.toNat 0) (Uz.wrap i.imm))) (Tq.eng (dr:=true)) {eq:=[(12,ak a),(16,ak w0),(33,ak d)],cv:=[(26,ug j),(32,Pd f),(35,ug r),(43,ug q),(45,Pd λW _=>tW i.op _ _ (t7 ab ab) A.1 A.2 M.1 M.2 W)]} 200 h λw' h=>⟨rfl,h⟩
section
variable {l l' : List Int} (h : ∀ j, j≠9 -> l.getD j 0 = l'.getD j 0)
include h
theorem Iu (i:Nat):db l i=db l' i:=by unfold db;rw [h 16 ab]
theorem Oq (i:Nat):iN l i=iN l' i:=by unfold iN;rw [Iu h]
theorem Ot (i:Nat):cG l i=cG l' i:=by unfold cG jE;rw [Oq h,h (17+i) ab,h (16+i) ab]
theorem AX (p x y kind:Int):∀ n k,ay l p x y kind n k=ay l' p x y kind n k
 | 0,_=>rfl
 | n+1,k=>by rw [ay,ay,Ot h,Iu h,AX p x y kind n (k+1)]
theorem Ou (p va kind e x:Int) (lv:Nat):cH l p va kind e x lv=cH l' p va kind e x lv:=by unfold cH gO gQ;rw [h 0 ab,AX h]
theorem Iw (zs:List Int) (n:Nat) (p va kind:Int):∀ a T,bC zs n l p va kind a T=bC zs n l' p va kind a T
 | 0,T=>by rw [bC,bC,AX h,Ou h]
 | a+1,T=>by rw [bC,bC,AX h,Ou h,Iw zs n p va kind a]
theorem Rh (zs:List Int) (n:Nat) (p va kind:Int):bN zs n l p va kind=bN zs n l' p va kind:=by unfold bN kY;rw [h 15 ab,Iw h]
theorem Ug (p kind:Int):fO l p kind=fO l' p kind:=by unfold fO;rw [h 0 ab]
end
theorem Rj (M:MV) (pa n x:Int) (b:(rN M pa n 2 x).2.2=0):(rN M pa n 2 x).2.1.ram=M.ram/\(rN M pa n 2 x).2.1.pr=M.pr/\∀ j,j≠9->(rN M pa n 2 x).2.1.cs.getD j 0=M.cs.getD j 0:=by
 unfold rN at b ⊢;split;·exact ⟨rfl,rfl,λ_ _=>rfl⟩
 ·rename_i c;rw [if_neg c] at b;split
  ·rename_i a;split;·exact ⟨rfl,rfl,λj d=>fG _ 9 j _ (Ne.symm d)⟩
   ·exact ⟨rfl,rfl,λ_ _=>rfl⟩
  ·rename_i a;exact absurd rfl a
theorem Gi (r:Gd x) (b:(aE x a n 2 0).2.2=0):(cw (aE x a n 2 0).2.1 a 2).code=0:=by
 have p:∀ i,0<=x.ram.getD i 0/\x.ram.getD i 0<=255:=Ga r.mw.ram;have key:∀ F:Fd,F=bN x.ram x.ram.length x.cs (fO x.cs x.pr 2) a 2->F.code=0->∀ N:MV,N.ram=bp x.ram F->N.pr=x.pr->(∀ j,j≠9->N.cs.getD j 0=x.cs.getD j 0)->(cw N a 2).code=0:=by
  intro F hF l N m o h;unfold cw;rw [m,o,kB,Rh h,Ug h];rcases Fs x.ram x.ram.length rfl p x.cs (fO x.cs x.pr 2) a 2 with ⟨_,e,_⟩|⟨e,_⟩;·rw [hF,e]
  ·rw [<- hF] at e;exact absurd l e
 unfold aE at b ⊢;split;·rename_i q;rw [if_pos q] at b;exact absurd b (show ¬ oL 2=0 by decide)
 ·rename_i q;rw [if_neg q] at b;unfold xQ at b ⊢;split;·rename_i f;rw [if_pos f] at b;exfalso;obtain ⟨c,k,e⟩:=lV x.ram x.ram.length x.cs (fO x.cs x.pr 2) a 2;have d:wrap64 ((bN x.ram x.ram.length x.cs (fO x.cs x.pr 2) a 2).code+16)=0:=b;rw [e] at d;unfold wrap64 at d;omega
  ·rename_i f;rw [if_neg f] at b;have s:(bN x.ram x.ram.length x.cs (fO x.cs x.pr 2) a 2).code=0:=i3;split;·rename_i g;rw [if_pos g] at b;exact absurd b (show ¬ hH 2=0 by decide)
   ·rename_i g;rw [if_neg g] at b;obtain ⟨t,u,v⟩:=Rj _ _ _ _ b;exact key _ rfl s _ t u v
theorem Wx (h:Tq B w c x k p b) (w0:x.x.length=32) (g:0<=p.ra) (a:p.ra<=31) (hv:x.x.getD p.ra.toNat 0=v):Calls prog 156 #[.p w 0] b λe w'=>e=.returned (.u v)/\Iv [w] b [⟨w,bL x k p,[]⟩] w':=by subst hv;exact Uf h w0 g a
theorem WG (h:Tq B w c x k p b) (w0:x.x.length=32) (g:0<=p.rb) (a:p.rb<=31) (hv:x.x.getD p.rb.toNat 0=v):Calls prog 159 #[.p w 0] b λe w'=>e=.returned (.u v)/\Iv [w] b [⟨w,bL x k p,[]⟩] w':=by subst hv;exact Ww h w0 g a
theorem Ow {A:MA} (h:Tq B w c x A p b) (n:Gd x) (d:p.ld=.func (.func 40) #[] #[]) (addr size kind M:Int) (i:jp size=true) (a:1<=kind) (w0:kind<=3) (g:kind=1->size=4) (m:U addr) (hx:U M):
 Calls prog 149 #[.p w 0,.u addr,.i size,.i kind,.u M] b λe w'=>∃ C,e=.returned (.tuple #[.u (if (aE x addr size kind M).2.2 != 0 then 0 else (aE x addr size kind M).1),.bool (!((aE x addr size kind M).2.2 != 0))])/\Tq B w c (aE x addr size kind M).2.1 C (nR p (aE x addr size kind M) addr) w' :=
 (xv (aE x addr size kind M) addr size kind M d h.row (λW l=>(h.iv l rfl).acc n i a w0 g m hx)).mono λe w' ⟨C,j,k,f⟩=>⟨C,j,h.new k f⟩
theorem Sp (hn:B=1\/B=2\/B=4\/B=8):jp (B:Int)=true:=by rcases hn with rfl|rfl|rfl|rfl<;>decide
theorem Gj {A:MA} (h:Tq B w c x A p E) (j:Gd x) (a:p.ld=.func (.func 40) #[] #[]) (f:Wf) (n:Nat) (s:Bool) (hn:n=1\/n=2\/n=4\/n=8) (i:p.fm=ns f n s) (addr:Int) (d:U addr):
 Calls prog 155 #[.p w 0,.u addr] E λe w'=>∃ C,e=.returned (.tuple #[.u (if (aE x addr n 2 0).2.2 != 0 then 0 else (aE x addr n 2 0).1),.bool (!((aE x addr n 2 0).2.2 != 0))])/\Tq B w c (aE x addr n 2 0).2.1 C (ue p (aE x addr n 2 0) addr n s) w' :=
 (Uc (aE x addr n 2 0) f n s hn i addr a h.row (λW g=>(h.iv g rfl).acc j (Sp hn) bc bc (λe=>by cases e) d lw)).mono λe w' ⟨C,b,k,f⟩=>⟨C,b,h.new k f⟩
theorem AY {A:MA} (h:Tq B w c x A p E) (j:Gd x) (a:p.ld=.func (.func 40) #[] #[]) (f:Wf) (n:Nat) (s:Bool) (hn:n=1\/n=2\/n=4\/n=8) (i:p.fm=ns f n s) (addr M:Int) (d:U addr) (hx:U M):
 Calls prog 158 #[.p w 0,.u addr,.u M] E λe w'=>∃ C,e=.returned (.bool (!((aE x addr n 3 M).2.2 != 0)))/\Tq B w c (aE x addr n 3 M).2.1 C (nR p (aE x addr n 3 M) addr) w' :=
 (Re (aE x addr n 3 M) f n s i addr M a h.row (λW g=>(h.iv g rfl).acc j (Sp hn) bc bc (λe=>by cases e) d hx)).mono λe w' ⟨C,b,k,f⟩=>⟨C,b,h.new k f⟩
theorem Ox {A:MA} (h:Tq B w b x A p E) (a:Gd x) (l:p.ld=.func (.func 40) #[] #[]) (addr kind:Int) (i:1<=kind) (j:kind<=3) (s:U addr): Calls prog 212 #[.p w 0,.u addr,.i kind] E λe w'=>∃ C,e=.returned (.tuple #[.u (if (cw x addr kind).code != 0 then 0 else (cw x addr kind).addr),.bool (!((cw x addr kind).code != 0))])/\Tq B w b (dC x addr kind) C (zt p (cw x addr kind).code addr) w':=by
 obtain ⟨f,d,n,v,_,_⟩:=aC a.ok;have m:bj x.cs.length x.cs x.pr=true:=(eU a.ok).2.2.1;have u:=wH (a.mw.cs 0) d n kind;have r:LS x.cs.length x.cs x.pr kind=fO x.cs x.pr kind:=by unfold LS;rw [m,decide_eq_true ⟨i,j⟩];rfl
 have t:nF x.ram.length x.cs.length x.cs (fO x.cs x.pr kind) kind=true:=by unfold nF bj;rw [v,f,d,u];unfold jl;rcases (show kind=1\/kind=2\/kind=3 by omega) with rfl|rfl|rfl<;>rfl
 refine (Ue (cw x addr kind).addr (cw x addr kind).code (fO x.cs x.pr kind) (bp x.ram (cw x addr kind)) addr kind l h.row (λW g=>?_) (λW g=>?_)).mono λe w' ⟨a',c,q,k,o⟩=>⟨_,q,h.ram k o⟩;·have:=mv A.ac x.cs.length A.cc x.cs x.pr kind W rfl (h.iv g rfl).sl.cs a.mw.cs;rw [r] at this;exact this
 ·have:=rG A.ar x.ram.length A.cr x.ram A.ac x.cs.length A.cc x.cs (fO x.cs x.pr kind) addr kind W rfl a.len.ram (h.iv g rfl).sl.ram a.mw.ram rfl (h.iv g rfl).sl.cs a.mw.cs s (h.iv g rfl).tab h.good;unfold GU GV vU at this;rw [t,if_pos rfl,if_pos rfl,if_pos rfl] at this;exact this
theorem DK (h:Tq B w c x k p b) (d:x.x.length=32) (q:0<=p.ra) (g:p.ra<=31) (f:Wf) (n:Nat) (s:Bool) (hn:n=4\/n=8) (z:p.fm=ns f n s) (hz:((x.x.getD p.ra.toNat 0).tmod n != 0)=true): Calls prog 213 #[.p w 0] b λe w'=>e=.returned (.tuple #[.u 0,.bool false])/\Tq B w c x k {p with up:=true,cz:=6,vl:=x.x.getD p.ra.toNat 0} w':=by
 have m:=λW (h:Tq B w c x k p W)=>Uf h d q g;generalize x.x.getD p.ra.toNat 0=a at *;have C:Uz.wrap (n:Int)=n:=by rw [IntKind.wrap_u64];omega
 have j:(n:Int)≠0:=ab
 refine bD (S:=Tq B w c x k p) (args:=[.p w 0]) [] func213 ?_;refine aN 0 1 ?_;cases f;all_goals
  refine ae (Tq.eng (dr:=true)) {cv:=[(5,ug m),(7,ug λW i=>rD _ n s z i.row)]} 60 h λt r=>?_
  refine oH (AK n s t) ba λe F w0=>⟨_,0,w0.1,gE ba,?_⟩
  have u:=r.below w0.2
  refine aW (Tq.eng (dr:=true)) {eq:=[(9,dP .u64 C),(11,ak hz)],ov:=[(10,Pb .u64 a n j)],cv:=[(13,Pd λW _=>(g7 3 (.inr (.inr rfl)) W).mono λe w' A=>⟨A.1,by rw [A.2];exact Below.refl _ _⟩),(15,ug m)]} 60 u (λW i=>km 6 a i.row) λD e G M w0=>⟨_,0,w0.1,gE ba,?_⟩
  have l:=M.iv w0.2 rfl
  refine aJ (λ_=>True) ?_
  exact iO (Iv.one l.row) {} 40 λE a y o=>⟨.tuple #[.u 0,.bool false],by rw [results_tmp2 rfl,o.slot (v:=.u 0) ba,o.slot (v:=.bool false) ba],rfl,l.iv y rfl⟩
theorem Ix (h:Tq B w c x k F b) (d:Gd x) (i:F.ld=.func (.func 40) #[] #[]) (u:0<=F.ra) (w0:F.ra<=31) (f:Wf) (n:Nat) (s:Bool) (hn:n=4\/n=8) (E:F.fm=ns f n s) (hz:((x.x.getD F.ra.toNat 0).tmod n != 0)=false): Calls prog 213 #[.p w 0] b λe w'=>∃ C,e=.returned (.tuple #[.u (if (cw x (x.x.getD F.ra.toNat 0) 3).code != 0 then 0 else (cw x (x.x.getD F.ra.toNat 0) 3).addr),.bool (!((cw x (x.x.getD F.ra.toNat 0) 3).code != 0))])/\Tq B w c (dC x (x.x.getD F.ra.toNat 0) 3) C (zt F (cw x (x.x.getD F.ra.toNat 0) 3).code (x.x.getD F.ra.toNat 0)) w':=by
 have g:=d.x32;have l:=λW (h:Tq B w c x k F W)=>Uf h g u w0;have A:=λW (h:Tq B w c x k F W)=>Ox h d i (x.x.getD F.ra.toNat 0) 3 bc bc (d.ux _);generalize x.x.getD F.ra.toNat 0=a at *;have t:Uz.wrap (n:Int)=n:=by rw [IntKind.wrap_u64];omega
 have j:(n:Int)≠0:=ab
 generalize (if (cw x a 3).code != 0 then 0 else (cw x a 3).addr)=p at *;generalize (!((cw x a 3).code != 0))=q at *;refine bD (S:=Tq B w c x k F) (args:=[.p w 0]) [] func213 ?_;refine aN 0 1 ?_;cases f;all_goals
  refine ae (Tq.eng (dr:=true)) {cv:=[(5,ug l),(7,ug λW D=>rD _ n s E D.row)]} 60 h λr M=>?_
  refine oH (AK n s r) ba λe I o=>⟨_,0,o.1,gE ba,?_⟩
  have y:=M.below o.2
  refine aW (Tq.eng (dr:=true)) {eq:=[(9,dP .u64 t),(11,ak hz)],ov:=[(10,Pb .u64 a n j)],cv:=[(19,ug l)]} 60 y A ?_
  rintro G e J H ⟨C,rfl,z⟩
  refine ⟨_,0,rfl,gE ba,?_⟩
  refine gz (R:=[]) trivial {} 40 λa m=>⟨.tuple #[.u p,.bool q],by rw [results_tmp2 rfl,m.slot (v:=.u p) ba,m.slot (v:=.bool q) ba],C,rfl,z⟩
theorem iL {cf:Bool} {k:Nat} (h:p.up=true) (a:p.cz=k):uB cf x p=(aL x k false p.vl,2):=by unfold uB;rw [if_pos h,a,Int.toNat_natCast]
theorem jg (h:t.up=false):uB false x t=(aY x t.rd t.rs t.nx,1):=by unfold uB;rw [h];rfl
theorem lz {rd to:Int}:aY M rd (M.x.getD rd.toNat 0) to=aY M 0 0 to:=by
 unfold aY;congr 1;by_cases e:rd=0;·rw [if_pos e,if_pos rfl]
 ·rw [if_neg e,if_pos rfl];by_cases a:rd.toNat<M.x.length;·exact mZ M.x rd.toNat a
  ·exact List.set_eq_of_length_le ab
theorem nh {cf:Bool} {i:Ins} {X:Int × MV × Int} {kind x:Int} (f:aE M a n kind x=X) (g:Gd M) (e:(X.2.2 != 0)=true) (d:t.rd=i.rd) (b:t.fm=eX i.op):Pf cf (cS X 0 a) i X.2.1 (nR t X a):=by subst f;have c:=kq (M:=M) (addr:=a) (size:=n) (kind:=kind) (x:=x) rfl e;unfold nR;rw [e];exact ⟨iL rfl c.1,g.acc a n kind x,d,b,λ_=>⟨_,c.2,c.1⟩⟩
theorem Gk {P:World->Prop} {A':List KI} {F:Fr} {Q:MV->TV->Prop} {R:List Rw} (w0:iq b R) (H:Hn S (λM'=>M'=b) (λM'=>M'=b)) (m:Nat) (hx:(io A',(bq S R H l false m A' F).1.1)=(true,true)) (he:(bq S R H l false m A' F).2.map Prod.fst=(bq S R H l false m A' F).2.map Prod.snd) (hr:W.results=#[]) (h:Tq B w c x k p b) (n:Q x p):Wg S P (bodyPost S W (TR B w c Q)) l A' F b :=
 gz w0 H m (hx:=hx) (he:=he) λa _=>⟨_,results_none hr _ _ _,rfl,x,k,p,n,h⟩
theorem Uh {A:MA} (m:jS d) (z:d.op=63\/d.op=74) (h:Tq B w c x A (t0 x d e) b) (l:Gd x) (hd:Ud x.d): Calls prog 160 #[.p w 0] b (TR B w c (Pf false (Uv x d (x.x.getD d.a.toNat 0)) d)):=by
 obtain ⟨n,r⟩:∃ n,n=bE d.op:=⟨_,rfl⟩;have hn:n=4\/n=8:=by rw [r];unfold bE;split<;>simp
 obtain ⟨wn,ws⟩:=(Is m.op1 m.op98).2.2.2.2 ab;have V:eX d.op=ns .hd n true:=by unfold eX;rw [if_neg ab,if_neg ab,if_neg ab,if_neg ab,if_neg ab,if_pos ab,if_pos z,wn,ws,r]
 have o:=l.x32;have F:=l.ux d.a.toNat;have s:=λW (h:Tq B w c x A (t0 x d e) W)=>Uf h o m.a0 m.a31;have Y:=λW (h:Tq B w c x A (t0 x d e) W)=>Gj h l rfl .hd n true ab V (x.x.getD d.a.toNat 0) F;have H:Uv x d (x.x.getD d.a.toNat 0)=if ((aE x (x.x.getD d.a.toNat 0) n 2 0).2.2 != 0)=true then cS (aE x (x.x.getD d.a.toNat 0) n 2 0) 0 (x.x.getD d.a.toNat 0) else (aY (cq (dC (aE x (x.x.getD d.a.toNat 0) n 2 0).2.1 (x.x.getD d.a.toNat 0) 2) true (cw (aE x (x.x.getD d.a.toNat 0) n 2 0).2.1 (x.x.getD d.a.toNat 0) 2).addr) d.rd (au (8*n) (aE x (x.x.getD d.a.toNat 0) n 2 0).1) (Uz.wrap (x.pc+4)),1):=by rw [r];rfl
 rw [H];clear H;have I:=l.acc (x.x.getD d.a.toNat 0) n 2 0;have K:=(i7 x (x.x.getD d.a.toNat 0) n 2 0).2.1;have v:=Gi l (a:=x.x.getD d.a.toNat 0) (n:=n);have E:=λX (T:aE x (x.x.getD d.a.toNat 0) n 2 0=X) k=>nh (cf:=false) (i:=d) (t:=t0 x d e) T l k rfl rfl;generalize P:x.x.getD d.a.toNat 0=a at *;generalize aE x a n 2 0=X at *;obtain ⟨y,N,g⟩:=X;dsimp only at *;refine gq (args:=[.p w 0]) (Tq B w c x A (t0 x d e)) func160 ?_;refine aN 0 1 ?_;refine aW (Tq.eng (dr:=true)) {cv:=[(7,ug s)]} 60 h Y ?_;rintro W1 wd W2 h1 ⟨C,rfl,i⟩;refine ⟨_,0,rfl,gE ba,?_⟩;cases k:(g != 0) with
 | true =>rw [if_pos rfl];unfold ue at i;dsimp only at i;rw [k,if_pos rfl] at i;exact Gk (R:=[]) trivial {} 40 ba ba rfl i (E _ rfl k)
 | false =>rw [if_neg bc];unfold ue at i;dsimp only at i;rw [k,if_neg bc,if_pos rfl] at i;have O:g=0:=(by simpa using k);have u:=v O;obtain ⟨f,w0⟩:∃ f:TV,f={t0 x d e with rs:=au (8*n) y}:=⟨_,rfl⟩;have j:f.ra=d.a:=(by rw [w0];rfl);have M:f.ld=.func (.func 40) #[] #[]:=(by rw [w0];rfl);rw [<- w0] at i;have p:=λW (h:Tq B w c N C f W)=>Uf h (by rw [K];exact o) (by rw [j];exact m.a0) (by rw [j];exact m.a31);rw [j,K,P] at p;have q:=λW (h:Tq B w c N C f W)=>Ox h I M a 2 bc bc F;have Q:Gd (dC N a 2):=I.marked _;have Z:U (cw N a 2).addr:=uK _ _ _ _ _ _ F;rw [u] at q;generalize (cw N a 2).addr=L at *;generalize dC N a 2=G at *;refine aJ (Tq B w c N C f) ?_;refine aW (Tq.eng (dr:=true)) {cv:=[(18,ug p)]} 60 i q ?_;rintro W3 wd W4 h3 ⟨D,rfl,J⟩;refine ⟨_,0,rfl,gE ba,?_⟩;refine aJ (λ_=>True) ?_;refine gx (R1:=[⟨w,bL (cq G true L) D f,[]⟩]) (Iv.one J.row) {} 60 λW5 S=>⟨rfl,cq G true L,D,f,?_,J.iv S rfl⟩;refine ⟨?_,Q.hold Z (Or.inl rfl),by rw [w0];rfl,by rw [w0];rfl,λwd=>by rw [w0] at wd;cases wd⟩;rw [jg (by rw [w0];rfl),w0];rfl
theorem DL {i:Ins} (a:jS i) (b:63<=i.op) (c:i.op<=84):(bE i.op=4\/bE i.op=8)/\wN i.op=bE i.op/\wS i.op=true:=by obtain ⟨wn,d⟩:=(Is a.op1 a.op98).2.2.2.2 ab;refine ⟨?_,wn,d⟩;unfold bE;split<;>simp
theorem Iy (b:U R):R.tmod B=R%(B:Int):=Int.tmod_eq_emod_of_nonneg b.1
theorem Ui {A:MA} (q:jS d) (hop:d.op=64\/d.op=75) (h:Tq B w c x A (t0 x d e) E) (J:Gd x): Calls prog 161 #[.p w 0] E (TR B w c (Pf false (iC x d (x.x.getD d.a.toNat 0) (x.x.getD d.b.toNat 0)) d)):=by
 obtain ⟨hn,wn,ws⟩:=DL q ab ab;have hf:eX d.op=ns .sc (bE d.op:Nat) true:=by unfold eX;rw [if_neg ab,if_neg ab,if_neg ab,if_neg ab,if_neg ab,if_pos ab,if_neg ab,if_pos hop,wn,ws]
 have M:=J.x32;have ua:=J.ux d.a.toNat;have ub:=J.ux d.b.toNat;have k0:(na d.op==0)=false:=by unfold na;split<;>simp<;>omega
 have k1:(na d.op==1)=true:=by unfold na;split<;>simp<;>omega
 have eV:iC x d (x.x.getD d.a.toNat 0) (x.x.getD d.b.toNat 0)=if ((x.x.getD d.a.toNat 0).tmod (bE d.op:Nat) != 0)=true then (aL x 6 false (x.x.getD d.a.toNat 0),2) else if ((cw x (x.x.getD d.a.toNat 0) 3).code != 0)=true then (aL (dC x (x.x.getD d.a.toNat 0) 3) (cw x (x.x.getD d.a.toNat 0) 3).code.toNat false (x.x.getD d.a.toNat 0),2) else if ((dC x (x.x.getD d.a.toNat 0) 3).hl&&((dC x (x.x.getD d.a.toNat 0) 3).hd==(cw x (x.x.getD d.a.toNat 0) 3).addr))=true then (if ((aE (dC x (x.x.getD d.a.toNat 0) 3) (x.x.getD d.a.toNat 0) (bE d.op:Nat) 3 (x.x.getD d.b.toNat 0)).2.2 != 0)=true then cS (aE (dC x (x.x.getD d.a.toNat 0) 3) (x.x.getD d.a.toNat 0) (bE d.op:Nat) 3 (x.x.getD d.b.toNat 0)) 0 (x.x.getD d.a.toNat 0) else (aY (cq (aE (dC x (x.x.getD d.a.toNat 0) 3) (x.x.getD d.a.toNat 0) (bE d.op:Nat) 3 (x.x.getD d.b.toNat 0)).2.1 false 0) d.rd 0 (Uz.wrap (x.pc+4)),1)) else (aY (cq (dC x (x.x.getD d.a.toNat 0) 3) false 0) d.rd 1 (Uz.wrap (x.pc+4)),1):=by unfold iC;rw [k0,k1,if_neg bc,Iy ua,if_pos rfl];rfl
 rw [eV];clear eV k0 k1 wn ws;have o:=λW (h:Tq B w c x A (t0 x d e) W)=>DK h M q.a0 q.a31 .sc _ true hn hf;have j:=λW (h:Tq B w c x A (t0 x d e) W)=>Ix h J rfl q.a0 q.a31 .sc _ true hn hf;have K:Gd (dC x (x.x.getD d.a.toNat 0) 3):=J.marked _;obtain ⟨T,S,hcc⟩:∃ g:Nat,g<16/\(cw x (x.x.getD d.a.toNat 0) 3).code=g:=lV x.ram x.ram.length x.cs (fO x.cs x.pr 3) (x.x.getD d.a.toNat 0) 3;rw [show (t0 x d e).ra=d.a from rfl] at o j;have s:(dC x (x.x.getD d.a.toNat 0) 3).x=x.x:=rfl;generalize ea:x.x.getD d.a.toNat 0=a at *;generalize eb:x.x.getD d.b.toNat 0=b at *;generalize bE d.op=n at *;generalize dC x a 3=N at *;generalize cw x a 3=F at *;obtain ⟨p,fc,fm,ft,fe⟩:=F;dsimp only at *;subst hcc;obtain ⟨i,f⟩:∃ i:TV,i=t0 x d e:=⟨_,rfl⟩;have r:i.up=false:=by rw [f];rfl
 have hld:i.ld=.func (.func 40) #[] #[]:=by rw [f];rfl
 have w0:i.ra=d.a:=by rw [f];rfl
 have G:i.rb=d.b:=by rw [f];rfl
 have l:i.rd=d.rd:=by rw [f];rfl
 have m:i.fm=eX d.op:=by rw [f];rfl
 have O:i.nx=Uz.wrap (x.pc+4):=by rw [f];rfl
 rw [<- f] at h o j;clear f;refine gq (args:=[.p w 0]) (Tq B w c x A i) func161 ?_;refine aN 0 1 ?_;cases hz:(a.tmod n != 0) with
 | true =>rw [if_pos rfl];refine aW (Tq.eng (dr:=true)) {} 60 h (λW Y=>o W Y hz) ?_;rintro W1 wd W2 h1 ⟨rfl,u⟩;refine ⟨_,0,rfl,gE ba,?_⟩;exact Gk (R:=[]) trivial {} 40 ba ba rfl u ⟨iL (k:=6) rfl rfl,J,l,m,λ_=>⟨6,bc,rfl⟩⟩
 | false =>
   rw [if_neg bc];refine aW (Tq.eng (dr:=true)) {} 60 h (λW Y=>j W Y hz) ?_;rintro W1 wd W2 h1 ⟨C,rfl,u⟩;refine ⟨_,0,rfl,gE ba,?_⟩;unfold zt at u;cases P:(((T:Nat):Int) != 0) with
   | true =>rw [P,if_pos rfl] at u;rw [if_pos rfl,Int.toNat_natCast];exact Gk (R:=[]) trivial {} 40 ba ba rfl u ⟨iL (k:=T) rfl rfl,K,l,m,λ_=>⟨T,S,rfl⟩⟩
   | false =>
     rw [P,if_neg bc] at u;rw [if_neg bc];refine an (R:=[]) trivial {} 14 ?_;refine af [.code (aw 2 (aM Tryz.f161))] [(0,.p w 0,1),(2,.u p,0)] ?_;refine aJ (λ_=>True) ?_;refine oG (R1:=[⟨w,bL N C {i with rs:=1},[]⟩]) (Iv.one u.row) {} 7 λW3 h3=>?_;have U:=u.iv h3 rfl;refine af [.code (aw 3 (aM Tryz.f161))] [(0,.p w 0,1),(2,.u p,0)] ?_;have no:∀ (H:Hw prog (Ag [w] W3)),(N.hl&&(N.hd==p))=false->((cy prog H Tryz.f161.ntmps 60 [.code (aw 3 (aM Tryz.f161))] [(0,.p w 0,1),(2,.u p,0)] [⟨w,bL N C {i with rs:=1},[]⟩]).1.1,(cy prog H Tryz.f161.ntmps 60 [.code (aw 3 (aM Tryz.f161))] [(0,.p w 0,1),(2,.u p,0)] [⟨w,bL N C {i with rs:=1},[]⟩]).1.2.2.2)=(false,[⟨w,bL (cq N false 0) C {i with rs:=1},[]⟩]) ->
      (cy prog H Tryz.f161.ntmps 60 [.code (aw 3 (aM Tryz.f161))] [(0,.p w 0,1),(2,.u p,0)] [⟨w,bL N C {i with rs:=1},[]⟩]).1.2.1.isEmpty=true->(cy prog H Tryz.f161.ntmps 60 [.code (aw 3 (aM Tryz.f161))] [(0,.p w 0,1),(2,.u p,0)] [⟨w,bL N C {i with rs:=1},[]⟩]).2.map Prod.fst=(cy prog H Tryz.f161.ntmps 60 [.code (aw 3 (aM Tryz.f161))] [(0,.p w 0,1),(2,.u p,0)] [⟨w,bL N C {i with rs:=1},[]⟩]).2.map Prod.snd ->
      Wg prog (λ_=>True) (bodyPost prog Tryz.f161 (TR B w c (Pf false (if (N.hl&&(N.hd==p))=true then (if ((aE N a n 3 b).2.2 != 0)=true then cS (aE N a n 3 b) 0 a else (aY (cq (aE N a n 3 b).2.1 false 0) d.rd 0 (Uz.wrap (x.pc+4)),1)) else (aY (cq N false 0) d.rd 1 (Uz.wrap (x.pc+4)),1)) d))) Tryz.f161.ntmps [.code (aw 3 (aM Tryz.f161))] [(0,.p w 0,1),(2,.u p,0)] W3:=by
      intro H hn0 hx hz1 he
      rw [hn0,if_neg bc]
      refine gx (Iv.one U.row) H 60 (hx:=hx) (hz:=hz1) (he:=he) λW5 V=>⟨rfl,cq N false 0,C,{i with rs:=1},?_,U.iv V rfl⟩
      refine ⟨?_,K.hold lw (Or.inr rfl),l,m,λwd=>by rw [show TV.up {i with rs:=1}=i.up from rfl,r] at wd;cases wd⟩
      rw [jg (t:={i with rs:=1}) r,<- O,<- l]
     cases z:N.hl with
     | false =>have:=no {eq:=[(18,ak z)]} (by rw [z];rfl) ba ba ba;rw [z] at this;exact this
     | true =>
       cases Q:(N.hd==p) with
       | false =>have:=no {eq:=[(18,ak z),(26,ak Q)]} (by rw [z,Q];rfl) ba ba ba;rw [z,Q] at this;exact this
       | true =>
         clear no;rw [if_pos bc];have V:=U;have ga:=K.acc a n 3 b;have Z:=λW (h:Tq B w c N C {i with rs:=1} W)=>Wx h (by rw [s];exact M) (show 0<=i.ra by rw [w0];exact q.a0) (show i.ra<=31 by rw [w0];exact q.a31) (v:=a) (show N.x.getD i.ra.toNat 0=a by rw [s,w0];exact ea);have hb2:=λW (h:Tq B w c N C {i with rs:=1} W)=>WG h (by rw [s];exact M) (show 0<=i.rb by rw [G];exact q.b0) (show i.rb<=31 by rw [G];exact q.b31) (v:=b) (show N.x.getD i.rb.toNat 0=b by rw [s,G];exact eb);have hst:=λW (h:Tq B w c N C {i with rs:=1} W)=>AY h K (show i.ld=_ from hld) .sc n true ab (show i.fm=_ by rw [m,hf]) a b ua ub;have hrf:=λX (hX:aE N a n 3 b=X) P=>nh (cf:=false) (i:=d) (t:={i with rs:=1}) hX K P l m;generalize aE N a n 3 b=X at *;obtain ⟨y,N2,c2⟩:=X;dsimp only at *;refine aJ (Tq B w c N C {i with rs:=1}) ?_;refine aW (Tq.eng (dr:=true)) {eq:=[(18,ak z),(26,ak Q)],cv:=[(30,ug Z),(32,ug hb2)]} 80 V hst ?_;rintro W6 wd W7 h6 ⟨D,rfl,I⟩;refine ⟨_,0,rfl,gE ba,?_⟩;cases L:(c2 != 0) with
         | true =>rw [if_pos rfl];exact Gk (R:=[]) trivial {} 40 ba ba rfl I (hrf _ rfl L)
         | false =>rw [if_neg bc];unfold nR at I;dsimp only at I;rw [L,if_neg bc] at I;refine aJ (λ_=>True) ?_;refine gx (R1:=[⟨w,bL (cq N2 false 0) D {i with rs:=0},[]⟩]) (Iv.one I.row) {} 60 λW8 h8=>⟨rfl,cq N2 false 0,D,{i with rs:=0},?_,I.iv h8 rfl⟩;refine ⟨?_,ga.hold lw (Or.inr rfl),l,m,λwd=>by rw [show TV.up {i with rs:=0}=i.up from rfl,r] at wd;cases wd⟩;rw [jg (t:={i with rs:=0}) r,<- O,<- l]
theorem Vo {M:MV} {A:MA} (q:jS d) (h63:63<=d.op) (h84:d.op<=84) (hop:¬ (d.op=63\/d.op=74)/\¬ (d.op=64\/d.op=75)) (h:Tq B w c M A (t0 M d e) b) (T:Gd M) (hd:Ud M.d): Calls prog 162 #[.p w 0] b (TR B w c (Pf false (iC M d (M.x.getD d.a.toNat 0) (M.x.getD d.b.toNat 0)) d)):=by
 obtain ⟨hn,wn,ws⟩:=DL q h63 h84;have hf:eX d.op=ns .am (bE d.op:Nat) true:=by unfold eX;rw [if_neg ab,if_neg ab,if_neg ab,if_neg ab,if_neg ab,if_pos ab,if_neg hop.1,if_neg hop.2,wn,ws]
 have u:=T.x32;have ua:=T.ux d.a.toNat;have ub:=T.ux d.b.toNat;have k0:(na d.op==0)=false:=by unfold na;split<;>simp<;>omega
 have k1:(na d.op==1)=false:=by unfold na;split<;>simp<;>omega
 have eV:∀ (a w0:Int) (N:MV) (n:Nat),a=M.x.getD d.a.toNat 0->w0=M.x.getD d.b.toNat 0->N=dC M a 3->n=bE d.op->iC M d a w0=if (a.tmod n != 0)=true then (aL M 6 false a,2) else if ((cw M a 3).code != 0)=true then (aL N (cw M a 3).code.toNat false a,2) else if ((aE N a n 2 0).2.2 != 0)=true then cS (aE N a n 2 0) 2 a else if ((aE (aE N a n 2 0).2.1 a n 3 (i8 d.op (aE N a n 2 0).1 w0)).2.2 != 0)=true then cS (aE (aE N a n 2 0).2.1 a n 3 (i8 d.op (aE N a n 2 0).1 w0)) 0 a else (aY (aE (aE N a n 2 0).2.1 a n 3 (i8 d.op (aE N a n 2 0).1 w0)).2.1 d.rd (au (8*n) (aE N a n 2 0).1) (Uz.wrap (M.pc+4)),1):=by intro a w0 N n e1 e2 e3 e4;subst e1 e2 e3 e4;unfold iC;rw [k0,k1,if_neg bc,Iy ua,if_neg (show ¬ (false=true) by decide)];rfl
 rw [eV _ _ _ _ rfl rfl rfl rfl];clear eV k0 k1 wn ws;have o:=λW (h:Tq B w c M A (t0 M d e) W)=>DK h u q.a0 q.a31 .am _ true hn hf;have m:=λW (h:Tq B w c M A (t0 M d e) W)=>Ix h T rfl q.a0 q.a31 .am _ true hn hf;have gl:Gd (dC M (M.x.getD d.a.toNat 0) 3):=T.marked _;have dl:Ud (dC M (M.x.getD d.a.toNat 0) 3).d:=hd;obtain ⟨cc,c16,hcc⟩:∃ g:Nat,g<16/\(cw M (M.x.getD d.a.toNat 0) 3).code=g:=lV M.ram M.ram.length M.cs (fO M.cs M.pr 3) (M.x.getD d.a.toNat 0) 3;rw [show (t0 M d e).ra=d.a from rfl] at o m;have O:(dC M (M.x.getD d.a.toNat 0) 3).x=M.x:=rfl;generalize ea:M.x.getD d.a.toNat 0=a at *;generalize eb:M.x.getD d.b.toNat 0=w0 at *;generalize bE d.op=n at *;generalize dC M a 3=N at *;generalize cw M a 3=F at *;obtain ⟨pa,fc,fm,ft,fe⟩:=F;dsimp only at *;subst hcc;obtain ⟨l,f⟩:∃ l:TV,l=t0 M d e:=⟨_,rfl⟩;have hup:l.up=false:=by rw [f];rfl
 have hld:l.ld=.func (.func 40) #[] #[]:=by rw [f];rfl
 have H:l.ra=d.a:=by rw [f];rfl
 have hrb:l.rb=d.b:=by rw [f];rfl
 have I:l.rd=d.rd:=by rw [f];rfl
 have hto:l.op=d.op:=by rw [f];rfl
 have p:l.fm=eX d.op:=by rw [f];rfl
 have hnx:l.nx=Uz.wrap (M.pc+4):=by rw [f];rfl
 rw [<- f] at h o m;clear f;refine gq (args:=[.p w 0]) (Tq B w c M A l) func162 ?_;refine aN 0 1 ?_;cases hz:(a.tmod n != 0) with
 | true =>rw [if_pos rfl];refine aW (Tq.eng (dr:=true)) {} 60 h (λW hW=>o W hW hz) ?_;rintro W1 wd W2 h1 ⟨rfl,K⟩;refine ⟨_,0,rfl,gE ba,?_⟩;exact Gk (R:=[]) trivial {} 40 ba ba rfl K ⟨iL (k:=6) rfl rfl,T,I,p,λ_=>⟨6,bc,rfl⟩⟩
 | false =>
   rw [if_neg bc];refine aW (Tq.eng (dr:=true)) {} 60 h (λW hW=>m W hW hz) ?_;rintro W1 wd W2 h1 ⟨C,rfl,K⟩;refine ⟨_,0,rfl,gE ba,?_⟩;unfold zt at K;cases hc:(((cc:Nat):Int) != 0) with
   | true =>rw [hc,if_pos rfl] at K;rw [if_pos rfl,Int.toNat_natCast];exact Gk (R:=[]) trivial {} 40 ba ba rfl K ⟨iL (k:=cc) rfl rfl,gl,I,p,λ_=>⟨cc,c16,rfl⟩⟩
   | false =>
     rw [hc,if_neg bc] at K;rw [if_neg bc];refine an (R:=[]) trivial {} 13 ?_;refine af [.code (aw 1 (aM Tryz.f162))] [(0,.p w 0,1)] ?_;have ha2:=λW (h:Tq B w c N C l W)=>Wx h (by rw [O];exact u) (by rw [H];exact q.a0) (by rw [H];exact q.a31) (v:=a) (by rw [O,H];exact ea);have hl2:=λW (h:Tq B w c N C l W)=>Gj h gl hld .am n true ab (by rw [p,hf]) a ua;have ga:=gl.acc a n 2 0;have da:=AN dl a n 2 lw;have uy:=t8 gl dl a n ab 2 0;have r:=(i7 N a n 2 0).2.1;have e18:=λg=>AM (M:=N) (addr:=a) (size:=n) (x:=0) (c:=g);rw [O] at r;generalize aE N a n 2 0=X at *;obtain ⟨y,s,V⟩:=X;dsimp only at *;refine aJ (Tq B w c N C l) ?_;refine aW (Tq.eng (dr:=true)) {cv:=[(18,ug ha2)]} 60 K hl2 ?_;rintro W3 wd W4 h3 ⟨D,rfl,G⟩;refine ⟨_,0,rfl,gE ba,?_⟩;unfold ue nR at G;dsimp only at G;cases L:(V != 0) with
     | true =>obtain ⟨q1,q2,q3⟩:=e18 V rfl L;rw [L,if_pos rfl,if_pos rfl] at G;rw [if_pos rfl];refine aJ (λ_=>True) ?_;rw [q1] at G;refine px (R1:=[⟨w,bL s D {l with up:=true,cz:=(((V-16).toNat+2:Nat):Int),vl:=a},[]⟩]) (Iv.one G.row) {eq:=[(28,dP .i64 q2)]} 60 λW5 h5=>⟨rfl,s,D,{l with up:=true,cz:=(((V-16).toNat+2:Nat):Int),vl:=a},?_,G.iv h5 rfl⟩;exact ⟨iL (k:=(V-16).toNat+2) rfl rfl,ga,I,p,λ_=>⟨_,q3,rfl⟩⟩
     | false =>
       rw [L,if_neg bc,if_pos rfl] at G;rw [if_neg bc];refine an (R:=[]) trivial {} 14 ?_;refine af [.code (aw 3 (aM Tryz.f162))] [(0,.p w 0,1),(4,.u y,0)] ?_;obtain ⟨j,i⟩:∃ j:TV,j={l with rs:=au (8*n) y}:=⟨_,rfl⟩;have up2:j.up=false:=(by rw [i];exact hup);have ld2:j.ld=.func (.func 40) #[] #[]:=(by rw [i];exact hld);have P:j.ra=d.a:=(by rw [i];exact H);have Q:j.rb=d.b:=(by rw [i];exact hrb);have S:j.rd=d.rd:=(by rw [i];exact I);have to2:j.op=d.op:=(by rw [i];exact hto);have J:j.fm=eX d.op:=(by rw [i];exact p);have nx2:j.nx=Uz.wrap (M.pc+4):=(by rw [i];exact hnx);have rs2:j.rs=au (8*n) y:=(by rw [i]);rw [<- i] at G;clear i;have uv:U (i8 d.op y w0):=Il d.op uy ub;have ha3:=λW (h:Tq B w c s D j W)=>Wx h (by rw [r];exact u) (by rw [P];exact q.a0) (by rw [P];exact q.a31) (v:=a) (by rw [r,P];exact ea);have hb3:=λW (h:Tq B w c s D j W)=>WG h (by rw [r];exact u) (by rw [Q];exact q.b0) (by rw [Q];exact q.b31) (v:=w0) (by rw [r,Q];exact eb);have hm3:=λW (_:Tq B w c s D j W)=>Dr d.op y w0 (t7 ab ab) uy.1 uy.2 ub.1 ub.2 W;have hst:=λW (h:Tq B w c s D j W)=>AY h ga ld2 .am n true ab (by rw [J,hf]) a (i8 d.op y w0) ua uv;have gb:=ga.acc a n 3 (i8 d.op y w0);have hrf:=λX (hX:aE s a n 3 (i8 d.op y w0)=X) hc=>nh (cf:=false) (i:=d) (t:=j) hX ga hc S J;generalize i8 d.op y w0=z at *;generalize sT d.op=zb at *;generalize aE s a n 3 z=Y at *;obtain ⟨y3,N3,c3⟩:=Y;dsimp only at *;refine aJ (Tq B w c s D j) ?_;refine aW (Tq.eng (dr:=true)) {eq:=[(36,dP .i64 to2)],cv:=[(39,ug hb3),(40,Pd hm3),(45,ug ha3)]} 80 G hst ?_;rintro W5 wd W6 h5 ⟨E,rfl,h6⟩;refine ⟨_,0,rfl,gE ba,?_⟩;refine mx {} 40 ba ba rfl ⟨rfl,N3,E,_,?_,h6⟩;cases Z:(c3 != 0) with
       | true =>rw [if_pos rfl];exact hrf _ rfl Z
       | false =>rw [if_neg bc];unfold nR;dsimp only;rw [Z,if_neg bc];refine ⟨?_,gb,S,J,λwd=>by rw [up2] at wd;cases wd⟩;rw [jg up2,nx2,S,rs2]
structure Tz (B g:Nat) (w0:World) (M:MV) (A:MA) (t:TV) (K:Nat) (a':Option Addr) (c':Nat) (l:List Int) (W:World):Prop where
 q:Tq B g w0 M A t W
 f:bz B K W (aH M A)
 o:W.ownsRow K 22 1 (.slice a' l.length c') l.length (l.map (Value.int .u64))
 bk:B<=K
 kw:K<=W.heap.size
 gk:g<K
def Wy:Go.Code->Go.Code
 | .block _ c=>c
 | c=>c
theorem Tz.below (h:Tz B g c x k p K Q w L b) (hb:Bw b E):Tz B g c x k p K Q w L E :=
 ⟨h.q.below hb,h.f.below hb,eu h.o λA e=>hb.block A (h.o.lt A e).2,h.bk,Nat.le_trans h.kw hb.size,h.gk⟩
theorem Tz.iv (h:Tz B w c x k p K Q l L b) (M:Iv [w] b [⟨w,bL x k F,[]⟩] E):Tz B w c x k F K Q l L E:=by have a:=h.gk;exact ⟨h.q.iv M rfl,h.q.other h.f M,eu h.o λi e=>M.ag.block i (h.o.lt i e).2 (by rw [List.mem_singleton];have:=(h.o.lt i e).1;omega),h.bk,Nat.le_trans h.kw M.ag.size,h.gk⟩
theorem Tz.eng:n6 P (Tz B w c x k p K Q l L) (Tz B w c x k p K Q l L) [⟨w,bL x k p,[]⟩] dr (bodyPost P fn Rs):=
 ⟨λ_ h=>h,λW h r a=>by rw [List.mem_singleton] at a;subst a;exact h.q.row.in_,λ_ W h=>h.below (Below.refl _ _).drew,cJ⟩
theorem Tz.eng2 {b:Nat} {a2:Option Addr} {c2:Nat} {c':List Int}:n6 S (Tz B w c x k p K Q l L) (λfn=>Tz B w c x k p K Q l L fn/\Tz B w c x k p b a2 c2 c' fn) [⟨w,bL x k p,[]⟩] dr (bodyPost S W X):=
 ⟨λ_ h=>h.1,λfn h r a=>by rw [List.mem_singleton] at a;subst a;exact h.q.row.in_,λ_ fn h=>⟨h.1.below (Below.refl _ _).drew,h.2.below (Below.refl _ _).drew⟩,cJ⟩
def Xd {B g K:Nat} {w0:World} {M:MV} {A:MA} {t:TV} {a':Option Addr} {c':Nat} {l:List Int} {P:Program} {f:Nat} {args:Array Value} {v:Value} (h:∀ W,Tz B g w0 M A t K a' c' l W->Calls P f args W λe w'=>e=.returned v/\Iv [g] W [⟨g,bL M A t,[]⟩] w'):Cv P (Tz B g w0 M A t K a' c' l):=⟨f,args,v,0,λW a=>(h W a).mono λe w' k=>⟨k.1,a.iv k.2⟩⟩
theorem Tz.set {c':Nat} (h:Tz B w c x A p K (some ⟨c',0,none⟩) l L b) (i:Nat) (v:Int):Tz B w c x A p K (some ⟨c',0,none⟩) l (L.set i v) (b.setCell ⟨c',i,none⟩ (.u v)):=by
 have f:=h.o.stored i (.u v);rw [mX] at f;have n:=(h.o.lt c' rfl).1;have g:∀ k,k≠c'->(b.setCell ⟨c',i,none⟩ (.u v)).heap[k]?=b.heap[k]?:=λk g=>Below.heap_setCell b _ _ k g;have a:(b.setCell ⟨c',i,none⟩ (.u v)).heap.size=b.heap.size:=aX _ _ _;have M:=h.bk;have o:=h.gk;refine ⟨⟨?_,?_,h.q.ne,by rw [a];exact h.q.le,h.q.os,h.q.tape,h.q.output,by rw [a];exact h.q.size,λk j d=>(g k ab).trans (h.q.block k j d),h.q.t0,h.q.tb,h.q.tn⟩,h.f.mono λk _ d _=>g k ab,?_,h.bk,by rw [a];exact h.kw,h.gk⟩;·obtain ⟨T,m⟩:=h.q.row;exact ⟨T,(g w ab).trans m⟩
 ·rw [a];have e:K<=b.heap.size:=(by have:=(h.o.lt c' rfl).2;omega);exact (h.f.mono λk _ d _=>g k ab).low (Nat.le_refl _) e
 ·rw [List.length_set];exact f.1
theorem Tz.csrs (h:Tz B w c x k p K Q l L b) (a:M'.x=x.x/\M'.cs=L/\M'.ram=x.ram/\M'.d=x.d) (M:Iv [w] b [⟨w,bL M' {k with ac:=Q,cc:=l} t',[]⟩] E):Tq B w c M' {k with ac:=Q,cc:=l} t' E:=by
 have g:=h.gk;have o:=eu (w':=E) h.o λi e=>M.ag.block i (h.o.lt i e).2 (by rw [List.mem_singleton];have:=(h.o.lt i e).1;omega);have c':K<=E.heap.size:=Nat.le_trans h.kw M.ag.size;have f:=h.q.other h.f M;have d:=AW (L1:=[aK k.ax x.x.length k.cx x.x]) (L2:=[aF k.ar x.ram.length k.cr x.ram,aF k.ai x.d.xs.length k.ci x.d.xs,aF k.ao x.d.ys.length k.co x.d.ys]) (r:=aK k.ac x.cs.length k.cc x.cs) (q:=aK Q L.length l L) h.q.ne λe=>by have:=(o.lt w e).1;omega
 refine h.q.iv1 M ?_ (by unfold aH;rw [a.1,a.2.1,a.2.2.1,a.2.2.2];exact d);unfold aH;rw [a.1,a.2.1,a.2.2.1,a.2.2.2];exact bz.swap (L1:=[aK k.ax x.x.length k.cx x.x]) (r:=aK k.ac x.cs.length k.cc x.cs) (L2:=[aF k.ar x.ram.length k.cr x.ram,aF k.ai x.d.xs.length k.ci x.d.xs,aF k.ao x.d.ys.length k.co x.d.ys]) f (aK Q L.length l L) o h.bk c' (Nat.le_refl _)
theorem Tz.at_ (h:Tz B w c x k p K Q l L b) (a:L.length=22):∃ c',Q=some ⟨c',0,none⟩/\∀ j,j<22->b.cell? ⟨c',j,none⟩=some (.u (L.getD j 0))/\b.frozen? ⟨c',j,none⟩=false:=by obtain ⟨c',g,e,d⟩:=sX h.o a ab;exact ⟨c',g,d⟩
theorem KF {M:MV} (h:Tq B w c M k p b) (g:M.x.length=32) (f:0<=p.ra) (i:p.ra<=31) (l:87<=p.op/\p.op<=92):Calls prog 217 #[.p w 0,.u e] b λa w'=>a=.returned (.u (pX p.op e (if 90<=p.op then Uz.wrap p.ra else M.x.getD p.ra.toNat 0)))/\Iv [w] b [⟨w,bL M k p,[]⟩] w':=by obtain ⟨w0,j,d,A⟩:=h.atX g;have:=KB (x:=M.x.getD (0+p.ra.toNat) 0) e h.row ab j ⟨f,ab⟩ d (A (0+p.ra.toNat) ab).1;rw [Nat.zero_add] at this;exact this
theorem Rk (c:87<=d.op) (i:d.op<=92):rA d e f=pX d.op f (if 90<=d.op then Uz.wrap d.a else e):=by
 obtain ⟨b,h,old,g,a⟩:=d;dsimp only at c i;unfold rA pX j9;dsimp only;obtain rfl|rfl|rfl|rfl|rfl|rfl:b=87\/b=88\/b=89\/b=90\/b=91\/b=92:=ab
 all_goals rfl
theorem Vp (hi:jS d) (h87:87<=d.op) (h92:d.op<=92) (h:Tq B w c x k (t0 x d e) b) (Z:Gd x): Calls prog 163 #[.p w 0] b (TR B w c (Pf true (mJ x d (x.x.getD d.a.toNat 0) e) d)):=by
 obtain ⟨G,hcs,hpr,_,_,_⟩:=aC Z.ok;have h32:=Z.x32;have ua:=Z.ux d.a.toNat;have uc:=Z.mw.cs;obtain ⟨V,hV⟩:∃ V,mJ x d (x.x.getD d.a.toNat 0) e=V:=⟨_,rfl⟩;rw [hV];have D:=λW (h:Tq B w c x k (t0 x d e) W)=>ut k.ac x.cs.length k.cc x.cs d.imm x.pr W rfl h.sl.cs uc;rw [Mo _ _ uc,wu _ _ uc] at D;obtain ⟨i,p⟩:∃ i:TV,i=t0 x d e:=⟨_,rfl⟩;have L:i.up=false:=by rw [p];rfl
 have n:i.ra=d.a:=by rw [p];rfl
 have s:i.rd=d.rd:=by rw [p];rfl
 have C:i.fm=eX d.op:=by rw [p];rfl
 have K:i.nx=Uz.wrap (x.pc+4):=by rw [p];rfl
 have hwd:i.wd=e:=by rw [p];rfl
 have m:i.op=d.op:=by rw [p];rfl
 have him:i.im=d.imm:=by rw [p];rfl
 rw [<- p] at h D;clear p;refine gq (args:=[.p w 0]) (Tq B w c x k i) func163 ?_;refine aN 0 1 ?_; -- refused
 have bad:∀ (S:World->Prop) (a:TV),a.wd=e->a.rd=d.rd->a.fm=eX d.op->V=(aL x 2 false e,2)->∀ (H:Hn prog (Tq B w c x k a) (Tq B w c x k a)) (A:List KI) (F:Fr) (W:World),Tq B w c x k a W->io A=true->((bq prog [⟨w,bL x k a,[]⟩] H Tryz.f163.ntmps true 60 A F).1.1,Pa prog Tryz.f163.ntmps (bq prog [⟨w,bL x k a,[]⟩] H Tryz.f163.ntmps true 60 A F).1.2.2 (bq prog [⟨w,bL x k a,[]⟩] H Tryz.f163.ntmps true 60 A F).1.2.1)=(false,some (151,#[.p w 0]))->(bq prog [⟨w,bL x k a,[]⟩] H Tryz.f163.ntmps true 60 A F).2.map Prod.fst=(bq prog [⟨w,bL x k a,[]⟩] H Tryz.f163.ntmps true 60 A F).2.map Prod.snd ->
  (zL (bq prog [⟨w,bL x k a,[]⟩] H Tryz.f163.ntmps true 60 A F).1.2.2 (bq prog [⟨w,bL x k a,[]⟩] H Tryz.f163.ntmps true 60 A F).1.2.1,io (pq (bq prog [⟨w,bL x k a,[]⟩] H Tryz.f163.ntmps true 60 A F).1.2.2 (bq prog [⟨w,bL x k a,[]⟩] H Tryz.f163.ntmps true 60 A F).1.2.1))=(false,true) ->
  (∀ J:World->Prop,(λ(y:(Bool × List KI × Fr) × List (Oe × Oe))=>(y.1.1,y.2.map Prod.fst)) (bq prog [] ({}:Hn prog J J) Tryz.f163.ntmps false 20 (pq (bq prog [⟨w,bL x k a,[]⟩] H Tryz.f163.ntmps true 60 A F).1.2.2 (bq prog [⟨w,bL x k a,[]⟩] H Tryz.f163.ntmps true 60 A F).1.2.1) (qA (bq prog [⟨w,bL x k a,[]⟩] H Tryz.f163.ntmps true 60 A F).1.2.2 (bq prog [⟨w,bL x k a,[]⟩] H Tryz.f163.ntmps true 60 A F).1.2.1 (.tuple #[]) 0))=(true,[])) ->
  Wg prog S (bodyPost prog Tryz.f163 (TR B w c (Pf true V d))) Tryz.f163.ntmps A F W:=by
  intro S a x1 x2 x3 x4 H A F W z hn hx he hb hy
  simp only [Prod.mk.injEq] at hb
  refine aJ (Tq B w c x k a) (hn:=hn) ?_
  refine aW (Tq.eng (dr:=true)) H 60 z (λW z=>pz z.row) (hx:=hx) (he:=he) λW1 wd w2 h1 hr=>⟨_,0,hr.1,gE hb.1,?_⟩
  have h2:=h1.iv hr.2 rfl
  have hy2:=hy (λM=>M=w2)
  simp only [Prod.mk.injEq] at hy2
  refine Gk (R:=[]) trivial {} 20 (by rw [hb.2,hy2.1]) ?_ rfl h2 ⟨?_,Z,x2,x3,λ_=>⟨2,bc,rfl⟩⟩
  ·have:(bq prog [] ({}:Hn prog (λM=>M=w2) (λM=>M=w2)) Tryz.f163.ntmps false 20 (pq (bq prog [⟨w,bL x k a,[]⟩] H Tryz.f163.ntmps true 60 A F).1.2.2 (bq prog [⟨w,bL x k a,[]⟩] H Tryz.f163.ntmps true 60 A F).1.2.1) (qA (bq prog [⟨w,bL x k a,[]⟩] H Tryz.f163.ntmps true 60 A F).1.2.2 (bq prog [⟨w,bL x k a,[]⟩] H Tryz.f163.ntmps true 60 A F).1.2.1 (.tuple #[]) 0)).2=[]:=List.map_eq_nil_iff.1 hy2.2
   rw [this];rfl
  ·rw [iL (k:=2) rfl rfl,x4]
   show (aL x 2 false a.wd,2)=_
   rw [x1]
 cases t:iS x.cs.length x.cs d.imm x.pr with
 | false =>rw [t] at D;have x4:V=(aL x 2 false e,2):=(by rw [<- hV];unfold mJ;rw [t];rfl);exact bad _ i hwd s C x4 {eq:=[(15,dP .i64 him)],cv:=[(21,Pd D)]} _ _ b h ba ba ba ba (λ_=>ba)
 | true =>
   rw [t,if_pos rfl] at D;have hold:=Oa uc d.imm;have hkn:dt d.imm=true:=(by have q:=t;unfold iS at q;simp only [Bool.and_eq_true] at q;exact q.1.1.2);have f:(if (eD d&&((wrap64 (d.imm.tdiv 1024)).tmod 4==3))=true then (aL x 2 false e,2) else (if eD d=true then iB (aY x d.rd (de x.cs d.imm) (Uz.wrap (x.pc+4))) (bW (x.cs.set 21 (Uz.wrap (x.cs.getD 21 0+1))) d.imm (rA d (x.x.getD d.a.toNat 0) (de x.cs d.imm))) else aY x d.rd (de x.cs d.imm) (Uz.wrap (x.pc+4)),1))=V:=(by rw [<- hV];unfold mJ;rw [t];rfl);clear hV;have hX:=Rk d (x.x.getD d.a.toNat 0) (de x.cs d.imm) h87 h92;generalize de x.cs d.imm=old at *;have fin:∀ (S:World->Prop) (K2:Nat) (X:Option Addr) (Y:Nat) (l2:List Int) (a:TV) (W:World),Tz B w c x k a K2 X Y l2 W->a.rd=d.rd->a.fm=eX d.op->a.up=false->a.nx=Uz.wrap (x.pc+4)->Gd (iB x l2)->(iB (aY x d.rd old (Uz.wrap (x.pc+4))) l2,1)=V->Wg prog S (bodyPost prog Tryz.f163 (TR B w c (Pf true V d))) Tryz.f163.ntmps [.code (aw 5 (aM Tryz.f163))] [(0,.p w 0,1),(2,.u old,0),(3,.bool true,0),(4,.slice X l2.length Y,0)] W:=(by intro S K2 X Y l2 a W hz x1 x2 x3 x4 x5 x6;refine aJ (λ_=>True) ?_;refine gx (R1:=[⟨w,bL (iB x l2) {k with ac:=X,cc:=Y} {a with rs:=old},[]⟩]) (Iv.one hz.q.row) {} 60 λW5 h5=>⟨rfl,iB x l2,_,{a with rs:=old},⟨?_,x5,x1,x2,λwd=>by rw [show TV.up {a with rs:=old}=a.up from rfl,x3] at wd;cases wd⟩,hz.csrs ⟨rfl,rfl,rfl,rfl⟩ h5⟩;rw [<- x6];unfold uB;rw [show TV.up {a with rs:=old}=a.up from rfl,x3];unfold iB aY;rw [<- x4,<- x1];rfl);refine aW (Tq.eng (dr:=true)) {eq:=[(15,dP .i64 him)],cv:=[(21,Pd D)]} 100 h (λW z=>pe k.ac x.cs.length k.cc x.cs W rfl Z.len.cs z.sl.cs) ?_;rintro W1 wd W2 h1 ⟨a',c',rfl,o2,k2⟩;refine ⟨_,0,rfl,gE ba,?_⟩;have hz2:Tz B w c x k i W1.heap.size a' c' x.cs W2:=⟨h1.below k2,h1.fam.below k2,o2,h1.le,k2.size,h1.glt⟩;obtain ⟨w0,rfl,_⟩:=hz2.at_ G;have cc:∀ W,Tz B w c x k i W1.heap.size (some ⟨w0,0,none⟩) c' x.cs W->W.cell? ⟨w0,0+(21:Int).toNat,none⟩=some (.u (x.cs.getD 21 0))/\W.frozen? ⟨w0,0+(21:Int).toNat,none⟩=false:=λW z=>by obtain ⟨b',hb',P⟩:=z.at_ G;cases hb';exact P 21 ab
   refine aJ (Tz B w c x k i W1.heap.size (some ⟨w0,0,none⟩) c' x.cs) ?_;refine ae (Tz.eng (dr:=false)) {ov:=[(35,kJ (b:=w0) (o:=0) x.cs.length c' .i64 21 rfl ⟨ab,ab⟩ underlying23 ba),(36,je ⟨w0,0+(21:Int).toNat,none⟩ (.u (x.cs.getD 21 0)) underlying22 rfl (λW z=>(cc W z).1)),(38,kJ (b:=w0) (o:=0) x.cs.length c' .i64 21 rfl ⟨ab,ab⟩ underlying23 ba)]} 40 hz2 λW3 hz3=>?_;refine bM (iD (T:=22) (v:=.u (Uz.wrap (x.cs.getD 21 0+1))) (cc W3 hz3) ba rfl) ?_;have g:=hz3.set 21 (Uz.wrap (x.cs.getD 21 0+1));have E:(x.cs.set 21 (Uz.wrap (x.cs.getD 21 0+1))).length=22:=(by rw [List.length_set];exact G);have Q:bo 22 (x.cs.set 21 (Uz.wrap (x.cs.getD 21 0+1)))=true:=cE x.cs G hcs 21 ab _ (beq_self_eq_true _);have lU:∀ j,U ((x.cs.set 21 (Uz.wrap (x.cs.getD 21 0+1))).getD j 0):=iZ _ uc 21 _ (aT _);have l9:(x.cs.set 21 (Uz.wrap (x.cs.getD 21 0+1))).getD 9 0=x.cs.getD 9 0:=fG _ 21 9 _ ab;have ll:x.cs.length=(x.cs.set 21 (Uz.wrap (x.cs.getD 21 0+1))).length:=(by rw [List.length_set]);have I:aY x d.rd old (Uz.wrap (x.pc+4))=iB (aY x d.rd old (Uz.wrap (x.pc+4))) (x.cs.set 21 (Uz.wrap (x.cs.getD 21 0+1))):=rfl;refine an (R:=[]) trivial {} 1 ?_;refine af [.code (aw 4 (aM Tryz.f163))] [(0,.p w 0,1),(2,.u old,0),(3,.bool true,0),(4,.slice (some ⟨w0,0,none⟩) x.cs.length c',0)] ?_;rw [ll];rw [I] at f;generalize x.cs.set 21 (Uz.wrap (x.cs.getD 21 0+1))=l at *;clear I ll;have write:∀ (S:World->Prop),eD d=true->Wg prog S (bodyPost prog Tryz.f163 (TR B w c (Pf true V d))) Tryz.f163.ntmps [.code (aw 1 (Wy (aw 1 (iM (aw 4 (aM Tryz.f163)))))),.blk 0,.code (aw 5 (aM Tryz.f163))] [(0,.p w 0,1),(2,.u old,0),(3,.bool true,0),(4,.slice (some ⟨w0,0,none⟩) l.length c',0)] (W3.setCell ⟨w0,21,none⟩ (.u (Uz.wrap (x.cs.getD 21 0+1)))):=by
    intro S u;rw [u,Bool.true_and,if_pos rfl] at f;obtain ⟨a,r⟩:∃ a:TV,a={i with wr:=true}:=⟨_,rfl⟩;have xup:a.up=false:=(by rw [r];exact L);have xra:a.ra=d.a:=(by rw [r];exact n);have xrd:a.rd=d.rd:=(by rw [r];exact s);have xfm:a.fm=eX d.op:=(by rw [r];exact C);have xnx:a.nx=Uz.wrap (x.pc+4):=(by rw [r];exact K);have xwd:a.wd=e:=(by rw [r];exact hwd);have xop:a.op=d.op:=(by rw [r];exact m);have xim:a.im=d.imm:=(by rw [r];exact him);refine aJ (λ_=>True) ?_;refine oG (R1:=[⟨w,bL x k {i with wr:=true},[]⟩]) (Iv.one g.q.row) {} 8 λW5 h5=>?_;rw [<- r] at h5;have hz5:=g.iv h5;clear r;have hwo:=λW (z:Tz B w c x k a W1.heap.size (some ⟨w0,0,none⟩) c' l W)=>KF old z.q h32 (by rw [xra];exact hi.a0) (by rw [xra];exact hi.a31) (by rw [xop];exact ⟨h87,h92⟩);rw [xop,xra,<- hX] at hwo;have ux:U (rA d (x.x.getD d.a.toNat 0) old):=by
     have hga:U (j9 d (x.x.getD d.a.toNat 0)):=(by unfold j9;split;exact aT _;exact ua);unfold rA;split;·exact ah _ _ _
     ·split;·exact ah _ _ _
      ·exact hga
    clear hX;generalize rA d (x.x.getD d.a.toNat 0) old=M at *;have N:=λW (z:Tz B w c x k a W1.heap.size (some ⟨w0,0,none⟩) c' l W)=>sn (some ⟨w0,0,none⟩) l.length c' l d.imm x.pr M W rfl (fL z.o) lU ux.1 ux.2;rw [JP _ _ rfl lU _ _ _ ux,yS _ _ lU] at N;have ewo:Ea l.length l d.imm x.pr=!((wrap64 (d.imm.tdiv 1024)).tmod 4==3):=by
     unfold Ea;have:iS l.length l d.imm x.pr=true:=by unfold iS at t ⊢;rw [G] at t;rw [E,Q];rw [hcs] at t;exact t
     rw [this,Bool.true_and]
    rw [ewo] at N;unfold Eb at N;rw [ewo] at N;refine aJ (Tz B w c x k a W1.heap.size (some ⟨w0,0,none⟩) c' l) ?_;refine aW (Tz.eng (dr:=true)) {eq:=[(64,dP .i64 xim)],cv:=[(72,Xd hwo)]} 60 hz5 N ?_;rintro W6 wd W7 h6 ⟨X,Y,rfl,o7,k7⟩;refine ⟨_,0,rfl,λ_=>h6.below k7,?_⟩;have h7:=h6.below k7;cases hro:((wrap64 (d.imm.tdiv 1024)).tmod 4==3) with
    | true =>rw [hro,if_pos rfl] at f;refine ae (Tz.eng (dr:=true)) {} 7 h7 λW8 h8=>?_;refine af [.code (aw 5 (aM Tryz.f163))] [(0,.p w 0,1),(3,.bool false,0)] ?_;exact bad _ a xwd xrd xfm f.symm {} _ _ W8 h8.q ba ba ba ba (λ_=>ba)
    | false =>rw [hro,if_neg bc] at f;rw [hro] at o7;have o8:W7.ownsRow W6.heap.size 22 1 (.slice X (bW l d.imm M).length Y) (bW l d.imm M).length ((bW l d.imm M).map (Value.int .u64)):=o7;have gw:Gd (iB x (bW l d.imm M)):=(by have g1:Gd (iB x l):=Z.cs_ E Q lU (by rw [l9]);exact g1.cs_ (M:=iB x l) (by rw [pZ];exact E) (tN _ E lU Q _ _ ux hkn) (Hg _ lU _ _ ux) (Im _ E _ _));generalize bW l d.imm M=l3 at *;have hz7:Tz B w c x k a W6.heap.size X Y l3 W7:=⟨h7.q,h6.q.fam.below k7,o8,h6.q.le,k7.size,h6.q.glt⟩;refine ae (Tz.eng2 (dr:=true)) {} 7 ⟨h7,hz7⟩ λW8 h8=>?_;exact af _ _ (fin _ _ X Y l3 a W8 h8.2 xrd xfm xup xnx gw f)
   have g0:Gd (iB x l):=Z.cs_ E Q lU (by rw [l9]);by_cases O:d.a=0
   ·obtain wd|wd|wd|wd|wd|wd:d.op=87\/d.op=90\/d.op=88\/d.op=89\/d.op=91\/d.op=92:=ab;·refine an (R:=[⟨w,bL x k i,[]⟩]) ⟨g.q.row.in_,trivial⟩ {eq:=[(43,dP .i64 (m.trans wd))]} 41 ?_;exact af _ _ (write _ (by unfold eD;rw [wd];rfl))
    ·refine an (R:=[⟨w,bL x k i,[]⟩]) ⟨g.q.row.in_,trivial⟩ {eq:=[(43,dP .i64 (m.trans wd))]} 41 ?_;exact af _ _ (write _ (by unfold eD;rw [wd];rfl))
    ·refine an (R:=[⟨w,bL x k i,[]⟩]) ⟨g.q.row.in_,trivial⟩ {eq:=[(43,dP .i64 (m.trans wd)),(53,dP .i64 (n.trans O))]} 36 ?_;exact a0q
    ·refine an (R:=[⟨w,bL x k i,[]⟩]) ⟨g.q.row.in_,trivial⟩ {eq:=[(43,dP .i64 (m.trans wd)),(53,dP .i64 (n.trans O))]} 42 ?_;exact a0q
    ·refine an (R:=[⟨w,bL x k i,[]⟩]) ⟨g.q.row.in_,trivial⟩ {eq:=[(43,dP .i64 (m.trans wd)),(53,dP .i64 (n.trans O))]} 48 ?_;exact a0q
    ·refine an (R:=[⟨w,bL x k i,[]⟩]) ⟨g.q.row.in_,trivial⟩ {eq:=[(43,dP .i64 (m.trans wd)),(53,dP .i64 (n.trans O))]} 51 ?_;exact a0q
   ·have nA:(d.a==0)=false:=(by simpa using O);have u:eD d=true:=(by unfold eD;rw [bne,nA];simp);obtain wd|wd|wd|wd|wd|wd:d.op=87\/d.op=90\/d.op=88\/d.op=89\/d.op=91\/d.op=92:=ab;·refine an (R:=[⟨w,bL x k i,[]⟩]) ⟨g.q.row.in_,trivial⟩ {eq:=[(43,dP .i64 (m.trans wd)),(53,dP .i64 n),(54,ak nA)]} 41 ?_;exact af _ _ (write _ u)
    ·refine an (R:=[⟨w,bL x k i,[]⟩]) ⟨g.q.row.in_,trivial⟩ {eq:=[(43,dP .i64 (m.trans wd)),(53,dP .i64 n),(54,ak nA)]} 41 ?_;exact af _ _ (write _ u)
    ·refine an (R:=[⟨w,bL x k i,[]⟩]) ⟨g.q.row.in_,trivial⟩ {eq:=[(43,dP .i64 (m.trans wd)),(53,dP .i64 n),(54,ak nA)]} 37 ?_;exact af _ _ (write _ u)
    ·refine an (R:=[⟨w,bL x k i,[]⟩]) ⟨g.q.row.in_,trivial⟩ {eq:=[(43,dP .i64 (m.trans wd)),(53,dP .i64 n),(54,ak nA)]} 43 ?_;exact af _ _ (write _ u)
    ·refine an (R:=[⟨w,bL x k i,[]⟩]) ⟨g.q.row.in_,trivial⟩ {eq:=[(43,dP .i64 (m.trans wd)),(53,dP .i64 n),(54,ak nA)]} 49 ?_;exact af _ _ (write _ u)
    ·refine an (R:=[⟨w,bL x k i,[]⟩]) ⟨g.q.row.in_,trivial⟩ {eq:=[(43,dP .i64 (m.trans wd)),(53,dP .i64 n),(54,ak nA)]} 52 ?_;exact af _ _ (write _ u)
theorem Tz.engQ:n6 S (Tq B w c x k p) (Tz B w c x k p K Q l L) [⟨w,bL x k p,[]⟩] dr (bodyPost S W X):=
 ⟨λ_ h=>h.q,λfn h r a=>by rw [List.mem_singleton] at a;subst a;exact h.row.in_,λ_ fn h=>h.below (Below.refl _ _).drew,cJ⟩
theorem Iv.cell {cs:Array Value} (h:Iv [g] c [⟨g,cs,[]⟩] b) (i:Nat) (v:Value):Iv [g] c [⟨g,cs.setIfInBounds i v,[]⟩] (b.setCell ⟨g,i,none⟩ v):=by obtain ⟨T,W⟩:=h.row1;refine ⟨λr a=>by rw [List.mem_singleton] at a;subst a;exact ⟨T,bH W i v⟩,h.ag.trans (LT cp b i v),λr a=>by rw [List.mem_singleton] at a;subst a;simp,cp⟩
theorem Iz (h:Tq B w c x k p b) (o:Gd x) (A:Nat) (hk:A<16) (i:Bool) (v:Int):Calls prog 96 #[.p w 0,.i A,.bool i,.u v] b λe w'=>e=.returned (.tuple #[])/\∃ A',Tq B w c (aL x A i v) A' p w':=by
 have j:bj x.cs.length x.cs x.pr=true:=(eU o.ok).2.2.1;have f:=λW (y:Tq B w c x k p W)=>yh k.ac x.cs.length k.cc x.cs x.pr x.pc A i v W rfl y.sl.cs o.mw.cs;have d:Ar x.cs.length x.cs x.pr A=true:=by unfold Ar;rw [j];unfold VE;simp;omega
 have n:sE x.cs.length x.cs x.pr x.pc A i v=(aL x A i v).cs:=by unfold sE;rw [d];rfl
 have e2:Fy x.cs.length x.cs x.pr A i=(aL x A i v).pr:=by unfold Fy;rw [d];rfl
 have e3:Fz x.cs.length x.cs x.pr A i=(aL x A i v).pc:=by unfold Fz;rw [d];rfl
 rw [n,e2,e3,d] at f;have g:(aL x A i v).x=x.x/\(aL x A i v).cs=(aL x A i v).cs/\(aL x A i v).ram=x.ram/\(aL x A i v).d=x.d/\(aL x A i v).hd=x.hd/\(aL x A i v).hl=x.hl/\(aL x A i v).wt=x.wt:=⟨rfl,rfl,rfl,rfl,rfl,rfl,rfl⟩;generalize aL x A i v=N at *;clear n e2 e3 d j;refine gq (args:=[.p w 0,.i A,.bool i,.u v]) (Tq B w c x k p) func96 ?_;refine aN 0 1 ?_;refine lJ 26 ?_;refine aW (Tq.eng (dr:=true)) {} 100 (h.below (Below.refl _ _).drew) f ?_;rintro s e u w0 ⟨a',c',rfl,J,l⟩;refine ⟨_,0,rfl,λ_=>w0.below l,?_⟩;have m:Tz B w c x k p s.heap.size a' c' N.cs u:=⟨w0.below l,w0.fam.below l,J,w0.le,l.size,w0.glt⟩;refine ae (Tz.engQ (dr:=true)) {} 60 m λU a=>?_;obtain ⟨P,K⟩:=a.q.row;have z:=Iv.one a.q.row;refine bM (bJ (i:=3) (T:=23) (v:=.slice a' N.cs.length c') K (show 3<28 by decide) ba rfl) ?_;have t:=z.cell 3 (.slice a' N.cs.length c');obtain ⟨Q,L⟩:=t.row1;refine aJ (λ_=>True) ?_;refine an (R:=[]) trivial {} 2 ?_;refine bM (bJ (i:=2) (T:=2) (v:=.i N.pr) L (by simp [bL]) ba rfl) ?_;have q:=t.cell 2 (.i N.pr);obtain ⟨S,O⟩:=q.row1;refine an (R:=[]) trivial {} 2 ?_;refine bM (bJ (i:=0) (T:=22) (v:=.u N.pc) O (by simp [bL]) ba rfl) ?_;have C:=q.cell 0 (.u N.pc);refine mx {} 40 ba ba rfl ⟨rfl,{k with ac:=a',cc:=c'},a.csrs ⟨g.1,rfl,g.2.2.1,g.2.2.2.1⟩ (t':=p) ?_⟩;have M:bL N {k with ac:=a',cc:=c'} p=(((bL x k p).setIfInBounds 3 (.slice a' N.cs.length c')).setIfInBounds 2 (.i N.pr)).setIfInBounds 0 (.u N.pc):=by obtain ⟨G,X,H,D,r,V,E,F,I⟩:=N;dsimp only at g ⊢;obtain ⟨rfl,_,rfl,rfl,rfl,rfl,rfl⟩:=g;rfl
 rw [M];exact C
theorem Gl (h:cg R=true):IntKind.i64.wrap (8+R)=((o9 R:Nat):Int)/\o9 R<16:=by
 have:R=0\/R=1\/R=3:=by simpa [cg,or_assoc] using h
 rcases this with rfl|rfl|rfl<;>exact ⟨by rw [IntKind.wrap_i64];rfl,bc⟩
theorem Oy (L:jS d) (J:93<=d.op) (h:Tq B w b x k (t0 x d e) E) (a:Gd x) (M:x.wt=false): Calls prog 164 #[.p w 0] E (TR B w b (Pf false (ke x d e) d)):=by
 obtain ⟨l,i,f,_,_,_⟩:=aC a.ok;have u:bj x.cs.length x.cs x.pr=true:=(eU a.ok).2.2.1;have N:=L.op98;by_cases j:d.op=93;·refine (Om h.row j).mono λwd w' ⟨c,A⟩=>⟨c,x,k,_,⟨?_,a,rfl,rfl,λ_=>⟨_,(Gl f).2,(Gl f).1⟩⟩,h.iv A rfl⟩;rw [iL rfl (Gl f).1];unfold ke;rw [if_pos j]
 by_cases p:d.op=94;·refine (KD h.row p).mono λwd w' ⟨c,A⟩=>⟨c,x,k,_,⟨?_,a,rfl,rfl,λ_=>⟨3,bc,rfl⟩⟩,h.iv A rfl⟩;rw [iL (k:=3) rfl rfl];unfold ke;rw [if_neg j,if_pos p]
 by_cases r:d.op=95\/d.op=96
 ·have K:=λW (m:Iv [w] E [⟨w,bL x k (t0 x d e),[]⟩] W)=>Rf (jR x.cs.length x.cs x.pr (d.op==96)) (rm x.cs.length x.cs x.pr (d.op==96)) (rp x.cs.length x.cs x.pr (d.op==96)) (lS x.cs.length x.cs x.pr (d.op==96)) (h.iv m rfl).row (λw0 t=>(yg k.ac x.cs.length k.cc x.cs x.pr (d.op==96) w0 rfl ((h.iv m rfl).iv t rfl).sl.cs a.mw.cs).mono λwd w' ⟨P,Q,R,S,T⟩=>⟨P,Q,R,λ_=>S,T⟩);refine (KE h.row r K (λW wd w' m v=>v.1)).mono λwd w' ⟨c,W,m,v⟩=>⟨c,?_⟩;have D:=h.iv m rfl;have g:=v.2;have s:ke x d e=if lS x.cs.length x.cs x.pr (d.op==96)=true then (aY (gt (iB x (x.cs.set 0 (cO (x.cs.getD 0 0) (d.op==96)))) (dy (x.cs.getD 0 0) (d.op==96))) 0 0 (eQ x.cs (d.op==96)),1) else (aL x 2 false e,2):=by unfold ke lS;rw [if_neg j,if_neg p,if_pos r,u];cases (d.op==96)<;>cases (x.pr != 3)<;>cases (x.pr==0)<;>rfl
  rw [s];cases n:lS x.cs.length x.cs x.pr (d.op==96) with
  | true =>rw [n,if_pos rfl] at g;obtain ⟨a',c',A,o⟩:=g;have y:jR x.cs.length x.cs x.pr (d.op==96)=x.cs.set 0 (cO (x.cs.getD 0 0) (d.op==96)):=(by unfold jR;rw [n]);have G:rm x.cs.length x.cs x.pr (d.op==96)=dy (x.cs.getD 0 0) (d.op==96):=(by unfold rm;rw [n]);have F:rp x.cs.length x.cs x.pr (d.op==96)=eQ x.cs (d.op==96):=(by unfold rp;rw [n]);rw [y,G,F] at A;rw [y] at o;have H:Gd (iB x (x.cs.set 0 (cO (x.cs.getD 0 0) (d.op==96)))):=a.cs_ (by rw [List.length_set];exact l) (cE _ l i 0 ab _ (CN _ (a.mw.cs 0) _ (eC i 0 ab))) (iZ _ a.mw.cs 0 _ (rq _ _)) (by rw [fG _ 0 9 _ ab]);have I:=H.priv (xr _ (a.mw.cs 0) (eC i 0 ab) (d.op==96));have O:=D.csrs (M':=gt (iB x (x.cs.set 0 (cO (x.cs.getD 0 0) (d.op==96)))) (dy (x.cs.getD 0 0) (d.op==96))) ⟨rfl,rfl,rfl,rfl⟩ A o;refine ⟨_,_,_,⟨?_,I,rfl,rfl,λwd=>by cases wd⟩,O⟩;rw [if_pos rfl,jg rfl];exact congrArg (λz=>(z,(1:Int))) (lz (M:=gt (iB x (x.cs.set 0 (cO (x.cs.getD 0 0) (d.op==96)))) (dy (x.cs.getD 0 0) (d.op==96))) (rd:=d.rd) (to:=eQ x.cs (d.op==96)))
  | false =>rw [n,if_neg bc] at g;refine ⟨x,k,_,⟨?_,a,rfl,rfl,λ_=>⟨2,bc,rfl⟩⟩,D.iv g rfl⟩;rw [if_neg bc,iL (k:=2) rfl rfl];rfl
 ·refine (On h.row (show d.op=97\/d.op=98 by omega)).mono λwd w' ⟨c,A⟩=>⟨c,?_⟩;have s:ke x d e=if (x.pr==0)=true then (aL x 2 false e,2) else (aY {x with wt:=d.op==97} 0 0 (Uz.wrap (x.pc+4)),1):=by
   unfold ke;rw [if_neg j,if_neg p,if_neg r];by_cases q:d.op=97;·rw [if_pos q,show (d.op==97)=true by simpa using q];rfl
   ·have wd:(d.op==97)=false:=(by simpa using q);have e2:({x with wt:=false}:MV)=x:=(by rw [<- M]);rw [if_neg q,wd,e2]
  rw [s];cases C:(x.pr==0) with
  | true =>rw [C,if_pos rfl] at A;refine ⟨x,k,_,⟨?_,a,rfl,rfl,λ_=>⟨2,bc,rfl⟩⟩,h.iv A rfl⟩;rw [if_pos rfl,iL (k:=2) rfl rfl];rfl
  | false =>rw [C,if_neg bc] at A;refine ⟨{x with wt:=d.op==97},k,_,⟨?_,a.wait _,rfl,rfl,λwd=>by cases wd⟩,h.iv A rfl⟩;rw [if_neg bc,jg rfl];exact congrArg (λz=>(z,(1:Int))) (lz (M:={x with wt:=d.op==97}) (rd:=d.rd))
end Go.Proofs.YtjifdmoehfbihaaGreatDoor
