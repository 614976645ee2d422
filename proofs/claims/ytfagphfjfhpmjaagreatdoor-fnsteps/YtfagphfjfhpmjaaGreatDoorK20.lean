/- Own lemmas. -/
import Derived.Test.YtfagphfjfhpmjaaGreatDoorAut
import Derived.Test.YtfagphfjfhpmjaaGreatDoorK18
import Derived.Test.YtfagphfjfhpmjaaGreatDoorK19
set_option maxRecDepth 100000
namespace Go.Proofs.YtfagphfjfhpmjaaGreatDoor
open Go.RowKit Tryz
open IntKind renaming u64->Uz
set_option linter.unusedVariables false
variable {w:Nat} {B:World} {L1 L2:List FRow} {r:FRow} (E:Int)
theorem bA.swap {E E':Nat} (h:bA w E B (L1++r::L2)) (q:FRow) (f:B.ownsRow E q.t 1 q.v q.n q.xs) (o:w<=E) (p:E<=E') (t:B.heap.size<=E'):bA w E' B (L1++q::L2):=by
 have d:∀ s ∈ L1++q::L2,s=q\/s ∈ L1++r::L2:=λs c=>by
  simp only [List.mem_append,List.mem_cons] at c ⊢;rcases c with c|c|c;·exact Or.inr (Or.inl c)
  ·exact Or.inl c
  ·exact Or.inr (Or.inr (Or.inr c))
 refine ⟨λs c=>?_,λs c k e=>?_,?_⟩
 ·rcases d s c with rfl|c;·exact cG f o
  ·exact h.own s c
 ·rcases d s c with rfl|c;·exact Nat.lt_of_lt_of_le (f.lt k e).2 t
  ·exact Nat.lt_of_lt_of_le (h.hi s c k e) p
 ·have j:=h.ne;rw [List.pairwise_append,List.pairwise_cons] at j ⊢;obtain ⟨l,⟨u,m⟩,n⟩:=j;refine ⟨l,⟨λs c k e e2=>?_,m⟩,λa i b g k e e2=>?_⟩;·have:=(f.lt k e).1;have:=h.hi s (by simp [c]) k e2;omega
  ·rcases List.mem_cons.1 g with rfl|g;·have:=(f.lt k e2).1;have:=h.hi a (by simp [i]) k e;omega
   ·exact n a i b (by simp [g]) k e e2
theorem bA.other {E:Nat} {w':World} {L:List FRow} (h:bA w E B L) (hk:∀ q ∈ L,∀ k,q.v.ownBlock=some k->w'.heap[k]?=B.heap[k]?):bA w E w' L:=⟨λr a=>eg (h.own r a) (hk r a),h.hi,h.ne⟩
theorem AQ {q:FRow} (h:∀ s ∈ L1++r::L2,s.v.ownBlock≠some w) (b:q.v.ownBlock≠some w):∀ s ∈ L1++q::L2,s.v.ownBlock≠some w:=λs a=>by
 simp only [List.mem_append,List.mem_cons] at a;rcases a with a|rfl|a;·exact h s (by simp [a])
 ·exact b
 ·exact h s (by simp [a])
structure Tq (B g:Nat) (w0:World) (M:MV) (A:MA) (t:TV) (w:World):Prop where
 row:iq ⟨g,bL M A t,[]⟩ w
 fam:bA B w.heap.size w (aG M A)
 ne:∀ q ∈ aG M A,q.v.ownBlock≠some g
 le:B<=w.heap.size
 os:w.os=w0.os
 tape:w.tape=w0.tape
 output:w.output=w0.output
 size:w0.heap.size<=w.heap.size
 block:∀ k,k<B->k≠g->w.heap[k]?=w0.heap[k]?
 t0:qH w0
 tb:0<B
 tn:0≠g
section
variable {B g : Nat} {w0 w w' : World} {M M' : MV} {A A' : MA} {t t' : TV}
theorem Tq.tab (h:Tq B g w0 M A t w):qH w:=λj a=>by have:=h.t0 j a;simp only [World.cell?,h.block _ h.tb h.tn];exact this
theorem Tq.sl (h:Tq B g w0 M A t w):nR w M A:=by obtain ⟨a,b,c,d,e⟩:=bA.rsl (A:=A) (x:=M.x) (cs:=M.cs) (ram:=M.ram) (xs:=M.d.xs) (ys:=M.d.ys) h.fam;exact ⟨a,b,c,d,e⟩
theorem Tq.glt (h:Tq B g w0 M A t w):g<w.heap.size:=let ⟨_,a⟩:=h.row;(Array.getElem?_eq_some_iff.1 a).1
theorem Tq.other {R:List Rw} {E:Nat} (h:Tq B g w0 M A t w) (f:bA B E w (aG M A)) (k:Iv [g] w R w'):bA B E w' (aG M A):=f.other λq a i e=>k.ag.block i ((f.own q a).lt i e).2 (by rw [List.mem_singleton];exact λe2=>h.ne q a (by rw [e,e2]))
theorem Tq.iv1 (h:Tq B g w0 M A t w) (k:Iv [g] w [⟨g,bL M' A' t',[]⟩] w') (f:bA B w'.heap.size w' (aG M' A')) (a:∀ q ∈ aG M' A',q.v.ownBlock≠some g):Tq B g w0 M' A' t' w' :=
 ⟨k.row1,f,a,Nat.le_trans h.le k.ag.size,k.ag.os.trans h.os,k.ag.tape.trans h.tape,k.ag.output.trans h.output,Nat.le_trans h.size k.ag.size,λi c b=>(k.ag.block i (Nat.lt_of_lt_of_le c h.le) (by rw [List.mem_singleton];exact b)).trans (h.block i c b),h.t0,h.tb,h.tn⟩
theorem Tq.iv (h:Tq B g w0 M A t w) (k:Iv [g] w [⟨g,bL M' A t',[]⟩] w') (a:aG M' A=aG M A):Tq B g w0 M' A t' w' :=
 h.iv1 k (by rw [a];exact (h.other h.fam k).low (Nat.le_refl _) k.ag.size) (by rw [a];exact h.ne)
theorem Tq.new (h:Tq B g w0 M A t w) (k:Iv [g] w [⟨g,bL M' A' t',[]⟩] w') (f:bA w.heap.size w'.heap.size w' (aG M' A')):Tq B g w0 M' A' t' w':=h.iv1 k (f.low h.le (Nat.le_refl _)) (λq a e=>by have:=((f.own q a).lt g e).1;have:=h.glt;omega)
theorem Tq.iv0 (h:Tq B g w0 M A t w):Iv [g] w [⟨g,bL M A t,[]⟩] w:=Iv.one h.row
theorem Tq.below (h:Tq B g w0 M A t w) (hb:Bw w w'):Tq B g w0 M A t w':=h.iv (h.iv0.below hb) rfl
theorem Tq.ram (h:Tq B g w0 M A t w) {zs:List Int} {a':Option Addr} {c:Nat} (k:Iv [g] w [⟨g,bL {M with ram:=zs} {A with ar:=a',cr:=c} t',[]⟩] w') (o:w'.ownsRow w.heap.size 5 1 (.slice a' zs.length c) zs.length (zs.map (Value.int .u8))):Tq B g w0 (bU M zs) {A with ar:=a',cr:=c} t' w':=by refine h.iv1 (M':=bU M zs) k ?_ (AQ (L1:=[aJ A.ax M.x.length A.cx M.x,aJ A.ac M.cs.length A.cc M.cs]) (L2:=[aD A.ai M.d.xs.length A.ci M.d.xs,aD A.ao M.d.ys.length A.co M.d.ys]) (r:=aD A.ar M.ram.length A.cr M.ram) (q:=aD a' zs.length c zs) h.ne λe=>by have:=(o.lt g e).1;have:=h.glt;omega);have f:=h.other h.fam k;exact bA.swap (L1:=[aJ A.ax M.x.length A.cx M.x,aJ A.ac M.cs.length A.cc M.cs]) (r:=aD A.ar M.ram.length A.cr M.ram) (L2:=[aD A.ai M.d.xs.length A.ci M.d.xs,aD A.ao M.d.ys.length A.co M.d.ys]) f (aD a' zs.length c zs) o h.le k.ag.size (Nat.le_refl _)
theorem Tq.csrs (h:Tq B g w0 M A t w) {zs:List Int} {a':Option Addr} {c:Nat} (a:M'.x=M.x/\M'.cs=zs/\M'.ram=M.ram/\M'.d=M.d) (k:Iv [g] w [⟨g,bL M' {A with ac:=a',cc:=c} t',[]⟩] w') (o:w'.ownsRow w.heap.size 22 1 (.slice a' zs.length c) zs.length (zs.map (Value.int .u64))):Tq B g w0 M' {A with ac:=a',cc:=c} t' w':=by
 have b:=AQ (L1:=[aJ A.ax M.x.length A.cx M.x]) (L2:=[aD A.ar M.ram.length A.cr M.ram,aD A.ai M.d.xs.length A.ci M.d.xs,aD A.ao M.d.ys.length A.co M.d.ys]) (r:=aJ A.ac M.cs.length A.cc M.cs) (q:=aJ a' zs.length c zs) h.ne λe=>by have:=(o.lt g e).1;have:=h.glt;omega
 have f:=h.other h.fam k;have s:=bA.swap (L1:=[aJ A.ax M.x.length A.cx M.x]) (r:=aJ A.ac M.cs.length A.cc M.cs) (L2:=[aD A.ar M.ram.length A.cr M.ram,aD A.ai M.d.xs.length A.ci M.d.xs,aD A.ao M.d.ys.length A.co M.d.ys]) f (aJ a' zs.length c zs) o h.le k.ag.size (Nat.le_refl _);refine h.iv1 k ?_ ?_;·unfold aG;rw [a.1,a.2.1,a.2.2.1,a.2.2.2];exact s
 ·unfold aG;rw [a.1,a.2.1,a.2.2.1,a.2.2.2];exact b
theorem sO {n:Nat} {a:Option Addr} {c:Nat} {xs:List Int} (h:w.ownsRow B 22 1 (.slice a xs.length c) xs.length (xs.map (Value.int .u64))) (hn:xs.length=n) (g:0<n):∃ b,a=some ⟨b,0,none⟩/\B<=b/\∀ j,j<n->w.cell? ⟨b,j,none⟩=some (.u (xs.getD j 0))/\w.frozen? ⟨b,j,none⟩=false:=by obtain ⟨b,c',e,f⟩:=jP h ab;simp only [Value.slice.injEq,true_and] at e;obtain ⟨d,e2⟩:=e;refine ⟨b,d,f,λj i=>?_⟩;rw [d] at h;refine ⟨?_,h.frozenAt j⟩;rw [h.cellAt j ab];rw [List.getElem?_map,List.getElem?_eq_getElem (show j<xs.length by omega),List.getD_eq_getElem?_getD,List.getElem?_eq_getElem (show j<xs.length by omega)];rfl
theorem Tq.atX (h:Tq B g w0 M A t w) (a:M.x.length=32):∃ b,A.ax=some ⟨b,0,none⟩/\b≠g/\∀ j,j<32->w.cell? ⟨b,j,none⟩=some (.u (M.x.getD j 0))/\w.frozen? ⟨b,j,none⟩=false:=by have f:w.ownsRow B 22 1 (.slice A.ax M.x.length A.cx) M.x.length (M.x.map (Value.int .u64)):=h.fam.own (aJ A.ax M.x.length A.cx M.x) dv;obtain ⟨b,c,i,d⟩:=sO f a ab;exact ⟨b,c,λe=>h.ne (aJ A.ax M.x.length A.cx M.x) dv (by show (Value.slice A.ax M.x.length A.cx).ownBlock=_;rw [c,e];rfl),d⟩
theorem Tq.atC (h:Tq B g w0 M A t w) (a:M.cs.length=22):∃ b,A.ac=some ⟨b,0,none⟩/\b≠g/\∀ j,j<22->w.cell? ⟨b,j,none⟩=some (.u (M.cs.getD j 0))/\w.frozen? ⟨b,j,none⟩=false:=by have f:w.ownsRow B 22 1 (.slice A.ac M.cs.length A.cc) M.cs.length (M.cs.map (Value.int .u64)):=h.fam.own (aJ A.ac M.cs.length A.cc M.cs) dv;obtain ⟨b,c,i,d⟩:=sO f a ab;exact ⟨b,c,λe=>h.ne (aJ A.ac M.cs.length A.cc M.cs) dv (by show (Value.slice A.ac M.cs.length A.cc).ownBlock=_;rw [c,e];rfl),d⟩
theorem Tq.good (h:Tq B g w0 M A t w):xj M.ram.length A.ar A.cr:=Du (h.fam.own (aD A.ar M.ram.length A.cr M.ram) dv)
theorem Tq.setX (h:Tq B g w0 M A t w) {b:Nat} (hb:A.ax=some ⟨b,0,none⟩) (i:Nat) (v:Int):Tq B g w0 (xM M (M.x.set i v)) A t (w.setCell ⟨b,i,none⟩ (.u v)):=by
 have j:w.ownsRow B 22 1 (.slice A.ax M.x.length A.cx) M.x.length (M.x.map (Value.int .u64)):=h.fam.own (aJ A.ax M.x.length A.cx M.x) dv;rw [hb] at j;have f:=j.stored i (.u v);rw [mU] at f;have u:=(j.lt b rfl).1;have x:w.grownBy (w.setCell ⟨b,i,none⟩ (.u v)) (aJ A.ax M.x.length A.cx M.x).v.ownBlock:=by simp only [aJ];rw [hb];exact f.2
 have y:=bA.mark (L1:=[]) (r:=aJ A.ax M.x.length A.cx M.x) (L2:=[aJ A.ac M.cs.length A.cc M.cs,aD A.ar M.ram.length A.cr M.ram,aD A.ai M.d.xs.length A.ci M.d.xs,aD A.ao M.d.ys.length A.co M.d.ys]) h.fam x ((M.x.set i v).map (Value.int .u64)) rz;have a:(w.setCell ⟨b,i,none⟩ (.u v)).heap.size=w.heap.size:=aT _ _ _;have m:aG (xM M (M.x.set i v)) A=[]++⟨(aJ A.ax M.x.length A.cx M.x).t,(aJ A.ax M.x.length A.cx M.x).v,(aJ A.ax M.x.length A.cx M.x).n,(M.x.set i v).map (Value.int .u64)⟩::[aJ A.ac M.cs.length A.cc M.cs,aD A.ar M.ram.length A.cr M.ram,aD A.ai M.d.xs.length A.ci M.d.xs,aD A.ao M.d.ys.length A.co M.d.ys]:=by simp [aG,xM,aJ]
 have c:∀ k,k≠b->(w.setCell ⟨b,i,none⟩ (.u v)).heap[k]?=w.heap[k]?:=λk c=>Below.heap_setCell w _ _ k c;have d:g≠b:=λe=>h.ne (aJ A.ax M.x.length A.cx M.x) dv (by show (Value.slice A.ax M.x.length A.cx).ownBlock=_;rw [hb,e];rfl);refine ⟨?_,?_,(λq z=>by obtain ⟨C,n,l⟩:=jy (M:=M) (M':=xM M (M.x.set i v)) (A:=A) (show (M.x.set i v).length=M.x.length by simp) rfl rfl rfl rfl q z;rw [<- l];exact h.ne C n),by rw [a];exact h.le,h.os,h.tape,h.output,by rw [a];exact h.size,λk o p=>(c k ab).trans (h.block k o p),h.t0,h.tb,h.tn⟩;·obtain ⟨T,s⟩:=h.row;refine ⟨T,(c g d).trans (s.trans ?_)⟩;simp [bL,xM]
 ·rw [m,a];exact y.1
theorem Tq.setC (h:Tq B g w0 M A t w) {b:Nat} (hb:A.ac=some ⟨b,0,none⟩) (i:Nat) (v:Int):Tq B g w0 (cM M (M.cs.set i v)) A t (w.setCell ⟨b,i,none⟩ (.u v)):=by
 have j:w.ownsRow B 22 1 (.slice A.ac M.cs.length A.cc) M.cs.length (M.cs.map (Value.int .u64)):=h.fam.own (aJ A.ac M.cs.length A.cc M.cs) dv;rw [hb] at j;have f:=j.stored i (.u v);rw [mU] at f;have u:=(j.lt b rfl).1;have x:w.grownBy (w.setCell ⟨b,i,none⟩ (.u v)) (aJ A.ac M.cs.length A.cc M.cs).v.ownBlock:=by simp only [aJ];rw [hb];exact f.2
 have y:=bA.mark (L1:=[aJ A.ax M.x.length A.cx M.x]) (r:=aJ A.ac M.cs.length A.cc M.cs) (L2:=[aD A.ar M.ram.length A.cr M.ram,aD A.ai M.d.xs.length A.ci M.d.xs,aD A.ao M.d.ys.length A.co M.d.ys]) h.fam x ((M.cs.set i v).map (Value.int .u64)) rz;have a:(w.setCell ⟨b,i,none⟩ (.u v)).heap.size=w.heap.size:=aT _ _ _;have m:aG (cM M (M.cs.set i v)) A=[aJ A.ax M.x.length A.cx M.x]++⟨(aJ A.ac M.cs.length A.cc M.cs).t,(aJ A.ac M.cs.length A.cc M.cs).v,(aJ A.ac M.cs.length A.cc M.cs).n,(M.cs.set i v).map (Value.int .u64)⟩::[aD A.ar M.ram.length A.cr M.ram,aD A.ai M.d.xs.length A.ci M.d.xs,aD A.ao M.d.ys.length A.co M.d.ys]:=by simp [aG,cM,aJ]
 have c:∀ k,k≠b->(w.setCell ⟨b,i,none⟩ (.u v)).heap[k]?=w.heap[k]?:=λk c=>Below.heap_setCell w _ _ k c;have d:g≠b:=λe=>h.ne (aJ A.ac M.cs.length A.cc M.cs) dv (by show (Value.slice A.ac M.cs.length A.cc).ownBlock=_;rw [hb,e];rfl);refine ⟨?_,?_,(λq z=>by obtain ⟨C,n,l⟩:=jy (M:=M) (M':=cM M (M.cs.set i v)) (A:=A) rfl (show (M.cs.set i v).length=M.cs.length by simp) rfl rfl rfl q z;rw [<- l];exact h.ne C n),by rw [a];exact h.le,h.os,h.tape,h.output,by rw [a];exact h.size,λk o p=>(c k ab).trans (h.block k o p),h.t0,h.tb,h.tn⟩;·obtain ⟨T,s⟩:=h.row;refine ⟨T,(c g d).trans (s.trans ?_)⟩;simp [bL,cM]
 ·rw [m,a];exact y.1
theorem Tq.acc (h:Tq B g w0 M A t w) (a:Gd M) {addr size kind x:Int} (f:jf size=true) (b:1<=kind) (c:kind<=3) (d:kind=1->size=4) (i:U addr) (hx:U x):Calls prog 220 #[.func (.func 50) #[] #[],.agg (aj M A),.u addr,.i size,.i kind,.u x] w (yb w (aC M addr size kind x)):=by
 have q:xe M size kind=true:=by
  unfold xe;rw [a.ok,f,decide_eq_true ⟨b,c⟩];by_cases e:kind=1;·rw [d e];simp
  ·simp [e]
 have e:uJ M addr size kind x=aC M addr size kind x:=by unfold uJ;rw [if_pos q]
 rw [<- e];exact AP M A addr size kind x w a.len h.sl a.mw a.hd i hx h.tab (λ_=>h.good)
end
def wN (op:Int):Nat:=2^((ch (op-1).toNat).f3z%4).toNat
def wS (op:Int):Bool:=decide ((ch (op-1).toNat).f3z<4)
def eO (op:Int):Value :=
 if op<3 then .iface 203 (.agg #[])
 else if op<11 then .iface 204 (.agg #[])
 else if op<18 then nh .ld (wN op) (wS op)
 else if op<22 then nh .st (wN op) (wS op)
 else if op<63 then .iface 203 (.agg #[])
 else if op<85 then (if op=63\/op=74 then nh .hd (wN op) (wS op) else if op=64\/op=75 then nh .sc (wN op) (wS op) else nh .am (wN op) (wS op))
 else if op<87 then .iface 215 (.agg #[])
 else if op<93 then .iface 216 (.agg #[])
 else .iface 217 (.agg #[])
theorem NZ:∀ k,k<98->0<=(ch k).f3z/\(ch k).f3z<8/\((10<=k/\k<=16)->wN ((k:Nat)+1:Int)=jK ((k:Nat)+1:Int)/\wS ((k:Nat)+1:Int)=decide (k<14))/\((17<=k/\k<=20)->wN ((k:Nat)+1:Int)=2^(k-17))/\((62<=k/\k<=83)->wN ((k:Nat)+1:Int)=bD ((k:Nat)+1:Int)/\wS ((k:Nat)+1:Int)=true):=by
 have h:(List.range 98).all (λk=>decide (0<=(ch k).f3z/\(ch k).f3z<8/\((10<=k/\k<=16)->wN ((k:Nat)+1:Int)=jK ((k:Nat)+1:Int)/\wS ((k:Nat)+1:Int)=decide (k<14))/\((17<=k/\k<=20)->wN ((k:Nat)+1:Int)=2^(k-17))/\((62<=k/\k<=83)->wN ((k:Nat)+1:Int)=bD ((k:Nat)+1:Int)/\wS ((k:Nat)+1:Int)=true)))=true:=ba
 intro k a;exact of_decide_eq_true (List.all_eq_true.1 h k ri)
theorem Ie {op:Int} (a:1<=op) (h:op<=98):0<=(ch (op-1).toNat).f3z/\(ch (op-1).toNat).f3z<8/\((11<=op/\op<=17)->wN op=jK op/\wS op=decide (op-11<4))/\((18<=op/\op<=21)->wN op=2^(op-18).toNat)/\((63<=op/\op<=84)->wN op=bD op/\wS op=true):=by
 obtain ⟨k,rfl⟩:∃ k:Nat,op=(k:Int)+1:=⟨(op-1).toNat,ab⟩;obtain ⟨a,c,d,f,g⟩:=NZ k ab;rw [show ((k:Int)+1-1).toNat=k from ab];refine ⟨a,c,λe=>?_,λe=>?_,λe=>g ab⟩
 ·obtain ⟨b,e2⟩:=d ab;refine ⟨b,e2.trans ?_⟩;by_cases q:k<14;·rw [decide_eq_true q,decide_eq_true ab]
  ·rw [decide_eq_false q,decide_eq_false ab]
 ·rw [f ab,show ((k:Int)+1-18).toNat=k-17 from ab]
theorem t6 (J:1<=E) (u:E<=98) (w:World):CB 225 #[.i E] w (.agg #[.i (wN E:Nat),.bool (wS E)]):=by
 obtain ⟨N,Z,_⟩:=Ie J u;have B:rU E=true:=decide_eq_true ⟨J,u⟩;have f:=λW=>yv E (tW ab ab) W;have H:xA E=(ch (E-1).toNat).val:=by unfold xA;rw [B];rfl
 rw [H,B] at f;unfold wN wS;generalize ch (E-1).toNat=R at *;obtain ⟨i,I,o,z,m⟩:=R;unfold Row.val at f;dsimp only at f;generalize Fm.str I=l at f;generalize (Row.mk i I o z m).f3z=y at *;refine bC (S:=Bs w [(#[.i 0,.bool false],206)]) (args:=[.i E]) [(#[.i 0,.bool false],206)] func225 ?_;refine aS Bs.eng {} 40 (Bs.start _ _) (λG _=>f G) ?_;rintro G e Y L ⟨rfl,M⟩;refine ⟨_,0,rfl,gh ba,?_⟩;have v:=L.below M;refine ae Bs.eng {} 3 v λb q=>?_;refine dF 2 (dD (T:=260) (z:=noRow) ba b) ?_;refine bM (az (g:=b.heap.size) (t:=260) (ty:=260) (old:=#[.string ⟨#[]⟩,.string ⟨#[]⟩,.u 0,.u 0,.u 0]) (cells:=#[.string i,.string l,.u o,.u y,.u m]) (heap_alloc_new _ _) ba rfl ba) ?_;have X:w.heap.size<b.heap.size:=(Array.getElem?_eq_some_iff.1 (q.1 0 _ rfl)).1;have D:Bw b ((b.alloc (.cells noRow.cells 260)).setRow b.heap.size #[.string i,.string l,.u o,.u y,.u m]):=aR (bal _ _) (Nat.le_refl _) _;have op:iq ⟨b.heap.size,#[.string i,.string l,.u o,.u y,.u m],[]⟩ ((b.alloc (.cells noRow.cells 260)).setRow b.heap.size #[.string i,.string l,.u o,.u y,.u m]):=⟨_,setRow_heap _ _ _ _ _ _ (heap_alloc_new _ _)⟩;generalize (b.alloc (.cells noRow.cells 260)).setRow b.heap.size #[.string i,.string l,.u o,.u y,.u m]=r at D op ⊢;have j:=q.below D;have p:Iv [w.heap.size,b.heap.size] r [⟨w.heap.size,#[.i 0,.bool false],[]⟩,⟨b.heap.size,#[.string i,.string l,.u o,.u y,.u m],[]⟩] r:=Iv.two ⟨_,j.1 0 _ rfl⟩ op ab;refine aH (Iv [w.heap.size,b.heap.size] r [⟨w.heap.size,#[.i 0,.bool false],[]⟩,⟨b.heap.size,#[.string i,.string l,.u o,.u y,.u m],[]⟩]) ?_;refine an (R:=[]) trivial {} 3 ?_;refine zT ?_;have fin:∀ (n:Nat) (s:Bool) (k:List KI) (F:Fr) (c:World),Iv [w.heap.size,b.heap.size] r [⟨w.heap.size,#[.i 0,.bool false],[]⟩,⟨b.heap.size,#[.string i,.string l,.u o,.u y,.u m],[]⟩] c->ij k=true->((cC prog ({}:Hw prog (Ag [w.heap.size,b.heap.size] c)) Tryz.f225.ntmps 40 k (xE 2 1 F) [⟨w.heap.size,#[.i 0,.bool false],[]⟩,⟨b.heap.size,#[.string i,.string l,.u o,.u y,.u m],[]⟩]).1.1,(cC prog ({}:Hw prog (Ag [w.heap.size,b.heap.size] c)) Tryz.f225.ntmps 40 k (xE 2 1 F) [⟨w.heap.size,#[.i 0,.bool false],[]⟩,⟨b.heap.size,#[.string i,.string l,.u o,.u y,.u m],[]⟩]).1.2.2.2)=(true,[⟨w.heap.size,#[.i n,.bool s],[]⟩,⟨b.heap.size,#[.string i,.string l,.u o,.u y,.u m],[]⟩]) ->
  (cC prog ({}:Hw prog (Ag [w.heap.size,b.heap.size] c)) Tryz.f225.ntmps 40 k (xE 2 1 F) [⟨w.heap.size,#[.i 0,.bool false],[]⟩,⟨b.heap.size,#[.string i,.string l,.u o,.u y,.u m],[]⟩]).2.map Prod.fst=(cC prog ({}:Hw prog (Ag [w.heap.size,b.heap.size] c)) Tryz.f225.ntmps 40 k (xE 2 1 F) [⟨w.heap.size,#[.i 0,.bool false],[]⟩,⟨b.heap.size,#[.string i,.string l,.u o,.u y,.u m],[]⟩]).2.map Prod.snd ->
  (lk (cC prog ({}:Hw prog (Ag [w.heap.size,b.heap.size] c)) Tryz.f225.ntmps 40 k (xE 2 1 F) [⟨w.heap.size,#[.i 0,.bool false],[]⟩,⟨b.heap.size,#[.string i,.string l,.u o,.u y,.u m],[]⟩]).1.2.2.1 2).map Prod.fst=some (.p w.heap.size 0) ->
  n=2^(y%4).toNat/\s=decide (y<4)->Wg prog (Iv [w.heap.size,b.heap.size] r [⟨w.heap.size,#[.i 0,.bool false],[]⟩,⟨b.heap.size,#[.string i,.string l,.u o,.u y,.u m],[]⟩]) (bodyPost prog Tryz.f225 λe w'=>e=.returned (.agg #[.i (2^(y%4).toNat:Nat),.bool (decide (y<4))])/\Bw w w') Tryz.f225.ntmps k F c:=by
  intro n s k F c d hn hx he U A
  refine aH (λ_=>True) (hn:=hn) ?_
  refine aK 2 1 ?_
  have O:=Iv.two (d.rows _ (List.mem_cons_self ..)) (d.rows _ (List.mem_cons_of_mem _ (List.mem_cons_self ..))) (λe=>by have:=d.nd;simp [e] at this)
  refine iH O {} 40 (hx:=hx) (he:=he) λQ a K C=>?_
  obtain ⟨P,V⟩:=K.rows _ (List.mem_cons_self ..)
  have x:=d.ag.trans K.ag
  refine ⟨_,results_cell_row results225 a.tmps Q w.heap.size P _ (0,0) _ (C.slot U) V underlying206 rfl rfl,by rw [<- A.1,<- A.2],?_⟩
  exact ⟨x.os.trans j.2.os,x.tape.trans j.2.tape,x.output.trans j.2.output,Nat.le_trans j.2.size x.size,λk C=>(x.block k (Nat.lt_of_lt_of_le C j.2.size) l7).trans (j.2.block k C)⟩
 have Mu:=λW=>(bG y 0 2 N ab bc bc W).mono λe w' k=>And.intro k.1 (show Bw W w' by rw [k.2];exact (Below.refl _ _).drew);have h:=λW=>(bG y 2 1 N ab bc bc W).mono λe w' k=>And.intro k.1 (show Bw W w' by rw [k.2];exact (Below.refl _ _).drew);clear L v q M H f X D op;obtain rfl | rfl | rfl | rfl | rfl | rfl | rfl | rfl:y=0\/y=1\/y=2\/y=3\/y=4\/y=5\/y=6\/y=7:=ab
 ·refine ae Iv.eng {cv:=[(12,jp Iv.below λW _=>Mu W),(16,jp Iv.below λW _=>h W)]} 40 (p.below (Below.refl _ _).drew) λc d=>?_;exact fin 1 true _ _ c d ba ba ba ba cb
 ·refine ae Iv.eng {cv:=[(12,jp Iv.below λW _=>Mu W),(16,jp Iv.below λW _=>h W)]} 40 (p.below (Below.refl _ _).drew) λc d=>?_;exact fin 2 true _ _ c d ba ba ba ba cb
 ·refine ae Iv.eng {cv:=[(12,jp Iv.below λW _=>Mu W),(16,jp Iv.below λW _=>h W)]} 40 (p.below (Below.refl _ _).drew) λc d=>?_;exact fin 4 true _ _ c d ba ba ba ba cb
 ·refine ae Iv.eng {cv:=[(12,jp Iv.below λW _=>Mu W),(16,jp Iv.below λW _=>h W)]} 40 (p.below (Below.refl _ _).drew) λc d=>?_;exact fin 8 true _ _ c d ba ba ba ba cb
 ·refine ae Iv.eng {cv:=[(12,jp Iv.below λW _=>Mu W),(16,jp Iv.below λW _=>h W)]} 40 (p.below (Below.refl _ _).drew) λc d=>?_;exact fin 1 false _ _ c d ba ba ba ba cb
 ·refine ae Iv.eng {cv:=[(12,jp Iv.below λW _=>Mu W),(16,jp Iv.below λW _=>h W)]} 40 (p.below (Below.refl _ _).drew) λc d=>?_;exact fin 2 false _ _ c d ba ba ba ba cb
 ·refine ae Iv.eng {cv:=[(12,jp Iv.below λW _=>Mu W),(16,jp Iv.below λW _=>h W)]} 40 (p.below (Below.refl _ _).drew) λc d=>?_;exact fin 4 false _ _ c d ba ba ba ba cb
 ·refine ae Iv.eng {cv:=[(12,jp Iv.below λW _=>Mu W),(16,jp Iv.below λW _=>h W)]} 40 (p.below (Below.refl _ _).drew) λc d=>?_;exact fin 8 false _ _ c d ba ba ba ba cb
theorem sP (b:63<=E) (c:E<=84) (w:World):CB 226 #[.i E] w (if E=63\/E=74 then nh .hd (wN E) (wS E) else if E=64\/E=75 then nh .sc (wN E) (wS E) else nh .am (wN E) (wS E)):=by
 have a:=λW (_:Bw w W)=>t6 E ab ab W;generalize wN E=n at *;generalize wS E=s at *;refine bC (S:=Bs w []) (args:=[.i E]) [] func226 ?_;by_cases d:E=63;·rw [if_pos ab];exact bm (t:=2) (v:=nh .hd n s) Bs.eng {eq:=[(5,ak (show (E==63)=true by simp;omega))],cv:=[(8,fQ a),(15,fQ a),(19,fQ a)]} 60 (Bs.start w []) λw' h=>⟨rfl,h.2⟩
 by_cases f:E=74;·rw [if_pos ab];exact bm (t:=2) (v:=nh .hd n s) Bs.eng {eq:=[(5,ak (show (E==63)=false by simp;omega)),(6,ak (show (E==74)=true by simp;omega))],cv:=[(8,fQ a),(15,fQ a),(19,fQ a)]} 60 (Bs.start w []) λw' h=>⟨rfl,h.2⟩
 by_cases g:E=64;·rw [if_neg ab,if_pos ab];exact bm (t:=2) (v:=nh .sc n s) Bs.eng {eq:=[(5,ak (show (E==63)=false by simp;omega)),(6,ak (show (E==74)=false by simp;omega)),(12,ak (show (E==64)=true by simp;omega))],cv:=[(8,fQ a),(15,fQ a),(19,fQ a)]} 60 (Bs.start w []) λw' h=>⟨rfl,h.2⟩
 by_cases i:E=75;·rw [if_neg ab,if_pos ab];exact bm (t:=2) (v:=nh .sc n s) Bs.eng {eq:=[(5,ak (show (E==63)=false by simp;omega)),(6,ak (show (E==74)=false by simp;omega)),(12,ak (show (E==64)=false by simp;omega)),(13,ak (show (E==75)=true by simp;omega))],cv:=[(8,fQ a),(15,fQ a),(19,fQ a)]} 60 (Bs.start w []) λw' h=>⟨rfl,h.2⟩
 rw [if_neg ab,if_neg ab];exact bm (t:=2) (v:=nh .am n s) Bs.eng {eq:=[(5,ak (show (E==63)=false by simp;omega)),(6,ak (show (E==74)=false by simp;omega)),(12,ak (show (E==64)=false by simp;omega)),(13,ak (show (E==75)=false by simp;omega))],cv:=[(8,fQ a),(15,fQ a),(19,fQ a)]} 60 (Bs.start w []) λw' h=>⟨rfl,h.2⟩
theorem FZ (g:1<=E) (d:E<=98) (w:World):CB 169 #[.i E] w (eO E):=by
 have a:=λW (_:Bw w W)=>t6 E g d W;have i:=λW (b:63<=E) (c:E<=84)=>sP E b c W;unfold eO;generalize wN E=n at *;generalize wS E=s at *;refine bC (S:=Bs w []) (args:=[.i E]) [] func169 ?_;by_cases k:E<3;·rw [if_pos ab];exact bm (t:=2) (v:=.iface 203 (.agg #[])) Bs.eng {eq:=[(5,ak (show decide (E<3)=true by rw [decide_eq_true_eq];omega))]} 100 (Bs.start w []) λw' h=>⟨rfl,h.2⟩
 by_cases l:E<11;·rw [if_neg ab,if_pos ab];exact bm (t:=2) (v:=.iface 204 (.agg #[])) Bs.eng {eq:=[(5,ak (show decide (E<3)=false by rw [decide_eq_false_iff_not];omega)),(10,ak (show decide (E<11)=true by rw [decide_eq_true_eq];omega))]} 100 (Bs.start w []) λw' h=>⟨rfl,h.2⟩
 by_cases m:E<18;·rw [if_neg ab,if_neg ab,if_pos ab];exact bm (t:=2) (v:=nh .ld n s) Bs.eng {eq:=[(5,ak (show decide (E<3)=false by rw [decide_eq_false_iff_not];omega)),(10,ak (show decide (E<11)=false by rw [decide_eq_false_iff_not];omega)),(15,ak (show decide (E<18)=true by rw [decide_eq_true_eq];omega))],cv:=[(17,fQ a),(24,fQ a)]} 100 (Bs.start w []) λw' h=>⟨rfl,h.2⟩
 by_cases o:E<22;·rw [if_neg ab,if_neg ab,if_neg ab,if_pos ab];exact bm (t:=2) (v:=nh .st n s) Bs.eng {eq:=[(5,ak (show decide (E<3)=false by rw [decide_eq_false_iff_not];omega)),(10,ak (show decide (E<11)=false by rw [decide_eq_false_iff_not];omega)),(15,ak (show decide (E<18)=false by rw [decide_eq_false_iff_not];omega)),(22,ak (show decide (E<22)=true by rw [decide_eq_true_eq];omega))],cv:=[(17,fQ a),(24,fQ a)]} 100 (Bs.start w []) λw' h=>⟨rfl,h.2⟩
 by_cases p:E<63;·rw [if_neg ab,if_neg ab,if_neg ab,if_neg ab,if_pos ab];exact bm (t:=2) (v:=.iface 203 (.agg #[])) Bs.eng {eq:=[(5,ak (show decide (E<3)=false by rw [decide_eq_false_iff_not];omega)),(10,ak (show decide (E<11)=false by rw [decide_eq_false_iff_not];omega)),(15,ak (show decide (E<18)=false by rw [decide_eq_false_iff_not];omega)),(22,ak (show decide (E<22)=false by rw [decide_eq_false_iff_not];omega)),(29,ak (show decide (E<63)=true by rw [decide_eq_true_eq];omega))]} 100 (Bs.start w []) λw' h=>⟨rfl,h.2⟩
 by_cases q:E<85;·rw [if_neg ab,if_neg ab,if_neg ab,if_neg ab,if_neg ab,if_pos ab];have j:=λW (_:Bw w W)=>i W ab ab;generalize (if E=63\/E=74 then nh .hd n s else if E=64\/E=75 then nh .sc n s else nh .am n s)=f at *;exact bm (t:=2) (v:=f) Bs.eng {eq:=[(5,ak (show decide (E<3)=false by rw [decide_eq_false_iff_not];omega)),(10,ak (show decide (E<11)=false by rw [decide_eq_false_iff_not];omega)),(15,ak (show decide (E<18)=false by rw [decide_eq_false_iff_not];omega)),(22,ak (show decide (E<22)=false by rw [decide_eq_false_iff_not];omega)),(29,ak (show decide (E<63)=false by rw [decide_eq_false_iff_not];omega)),(34,ak (show decide (E<85)=true by rw [decide_eq_true_eq];omega))],cv:=[(36,fQ j)]} 100 (Bs.start w []) λw' h=>⟨rfl,h.2⟩
 by_cases r:E<87;·rw [if_neg ab,if_neg ab,if_neg ab,if_neg ab,if_neg ab,if_neg ab,if_pos ab];exact bm (t:=2) (v:=.iface 215 (.agg #[])) Bs.eng {eq:=[(5,ak (show decide (E<3)=false by rw [decide_eq_false_iff_not];omega)),(10,ak (show decide (E<11)=false by rw [decide_eq_false_iff_not];omega)),(15,ak (show decide (E<18)=false by rw [decide_eq_false_iff_not];omega)),(22,ak (show decide (E<22)=false by rw [decide_eq_false_iff_not];omega)),(29,ak (show decide (E<63)=false by rw [decide_eq_false_iff_not];omega)),(34,ak (show decide (E<85)=false by rw [decide_eq_false_iff_not];omega)),(39,ak (show decide (E<87)=true by rw [decide_eq_true_eq];omega))]} 100 (Bs.start w []) λw' h=>⟨rfl,h.2⟩
 by_cases u:E<93;·rw [if_neg ab,if_neg ab,if_neg ab,if_neg ab,if_neg ab,if_neg ab,if_neg ab,if_pos ab];exact bm (t:=2) (v:=.iface 216 (.agg #[])) Bs.eng {eq:=[(5,ak (show decide (E<3)=false by rw [decide_eq_false_iff_not];omega)),(10,ak (show decide (E<11)=false by rw [decide_eq_false_iff_not];omega)),(15,ak (show decide (E<18)=false by rw [decide_eq_false_iff_not];omega)),(22,ak (show decide (E<22)=false by rw [decide_eq_false_iff_not];omega)),(29,ak (show decide (E<63)=false by rw [decide_eq_false_iff_not];omega)),(34,ak (show decide (E<85)=false by rw [decide_eq_false_iff_not];omega)),(39,ak (show decide (E<87)=false by rw [decide_eq_false_iff_not];omega)),(44,ak (show decide (E<93)=true by rw [decide_eq_true_eq];omega))]} 100 (Bs.start w []) λw' h=>⟨rfl,h.2⟩
 rw [if_neg ab,if_neg ab,if_neg ab,if_neg ab,if_neg ab,if_neg ab,if_neg ab,if_neg ab];exact bm (t:=2) (v:=.iface 217 (.agg #[])) Bs.eng {eq:=[(5,ak (show decide (E<3)=false by rw [decide_eq_false_iff_not];omega)),(10,ak (show decide (E<11)=false by rw [decide_eq_false_iff_not];omega)),(15,ak (show decide (E<18)=false by rw [decide_eq_false_iff_not];omega)),(22,ak (show decide (E<22)=false by rw [decide_eq_false_iff_not];omega)),(29,ak (show decide (E<63)=false by rw [decide_eq_false_iff_not];omega)),(34,ak (show decide (E<85)=false by rw [decide_eq_false_iff_not];omega)),(39,ak (show decide (E<87)=false by rw [decide_eq_false_iff_not];omega)),(44,ak (show decide (E<93)=false by rw [decide_eq_false_iff_not];omega))]} 100 (Bs.start w []) λw' h=>⟨rfl,h.2⟩
def ur (cf:Bool) (M:MV) (t:TV):MV × Int :=
 if t.up=true then (aM M t.cz.toNat false t.vl,2)
 else (⟨t.nx,if t.rd=0 then M.x else M.x.set t.rd.toNat t.rs,M.pr,if cf=true then M.cs else M.cs.set 21 (Uz.wrap (M.cs.getD 21 0+1)),M.ram,M.d,M.hd,M.hl,M.wt⟩,1)
def t0 (M:MV) (i:Ins) (wd:Int):TV:=⟨.func (.func 50) #[] #[],wd,i.op,i.rd,i.a,i.b,i.imm,eO i.op,M.x.getD i.rd.toNat 0,Uz.wrap (M.pc+4),false,false,0,0⟩
structure Pf (cf:Bool) (V:MV × Int) (i:Ins) (M':MV) (t':TV):Prop where
 e:ur cf M' t'=V
 g:Gd M'
 rd:t'.rd=i.rd
 fm:t'.fm=eO i.op
 c:t'.up=true->∃ k:Nat,k<16/\t'.cz=k
def TR (B g:Nat) (w0:World) (P:MV->TV->Prop) (e:Ending) (w':World):Prop:=e=.returned (.tuple #[])/\∃ M' A' t',P M' t'/\Tq B g w0 M' A' t' w'
section
variable {B g : Nat} {w0 w w' : World} {M M' : MV} {A A' : MA} {t t' : TV}
theorem Tq.eng {P:Program} {fn:Func} {Rs:Ending->World->Prop} {dr:Bool}:nZ P (Tq B g w0 M A t) (Tq B g w0 M A t) [⟨g,bL M A t,[]⟩] dr (bodyPost P fn Rs):=
 ⟨λ_ h=>h,λW h r a=>by rw [List.mem_singleton] at a;subst a;exact h.row.in_,λ_ W h=>h.below (Below.refl _ _).drew,cH⟩
def t7 {P:Program} {f:Nat} {args:Array Value} {v:Value} (h:∀ W,Tq B g w0 M A t W->Calls P f args W λe w'=>e=.returned v/\Iv [g] W [⟨g,bL M A t,[]⟩] w'):Cv P (Tq B g w0 M A t):=⟨f,args,v,0,λW a=>(h W a).mono λe w' k=>⟨k.1,a.iv k.2 rfl⟩⟩
def OD {P:Program} {f:Nat} {args:Array Value} {v:Value} (h:∀ W,Tq B g w0 M A t W->Calls P f args W λe w'=>e=.returned v/\Bw W w'):Cv P (Tq B g w0 M A t):=⟨f,args,v,0,λW a=>(h W a).mono λe w' k=>⟨k.1,a.below k.2⟩⟩
theorem Tr (h:Tq B g w0 M A t w) (a:M.x.length=32) (d:0<=t.ra) (f:t.ra<=31):Calls prog 173 #[.p g 0] w λe w'=>e=.returned (.u (M.x.getD t.ra.toNat 0))/\Iv [g] w [⟨g,bL M A t,[]⟩] w':=by obtain ⟨b,i,c,j⟩:=h.atX a;have:=LC (x:=M.x.getD (0+t.ra.toNat) 0) h.row i ⟨d,ab⟩ c (j (0+t.ra.toNat) ab).1;rw [Nat.zero_add] at this;exact this
theorem Vy (h:Tq B g w0 M A t w) (a:M.x.length=32) (d:0<=t.rb) (f:t.rb<=31):Calls prog 176 #[.p g 0] w λe w'=>e=.returned (.u (M.x.getD t.rb.toNat 0))/\Iv [g] w [⟨g,bL M A t,[]⟩] w':=by obtain ⟨b,i,c,j⟩:=h.atX a;have:=UK (x:=M.x.getD (0+t.rb.toNat) 0) h.row i ⟨d,ab⟩ c (j (0+t.rb.toNat) ab).1;rw [Nat.zero_add] at this;exact this
def xl (M:MV) (i:Ins):Int:=if i.op=1 then Uz.wrap i.imm else if i.op=2 then Uz.wrap (M.pc+Uz.wrap i.imm) else nv i.op (M.x.getD i.a.toNat 0) (if (fp i.op).toList=[82] then M.x.getD i.b.toNat 0 else Uz.wrap i.imm)
theorem F4 (i:Ins) (wd:Int) (C:jN i) (h:Tq B g w0 M A (t0 M i wd) w) (n:Gd M):Calls prog 170 #[.p g 0] w λe w'=>e=.returned (.u (xl M i))/\Tq B g w0 M A (t0 M i wd) w':=by
 obtain ⟨H,F,G,s,y,l,z,m,D,E,_⟩:=C;have c:=n.x32;have k:=n.ux i.a.toNat;have u:=n.ux i.b.toNat;have x:U (Uz.wrap i.imm):=aU _;have q:=λW (h:Tq B g w0 M A (t0 M i wd) W)=>Tr h c y l;have r:=λW (h:Tq B g w0 M A (t0 M i wd) W)=>Vy h c z m;have j:=λW (h:Tq B g w0 M A (t0 M i wd) W)=>tC h.row;unfold xl;refine bC (S:=Tq B g w0 M A (t0 M i wd)) (args:=[.p g 0]) [] func170 ?_;refine aK 0 1 ?_;by_cases o:i.op=1;·rw [if_pos o];exact bm (t:=2) (v:=.u (Uz.wrap i.imm)) (Tq.eng (dr:=true)) {eq:=[(12,ak (show (i.op==1)=true by simp;omega))],cv:=[(14,t7 j)]} 100 h λw' h=>⟨rfl,h⟩
 rw [if_neg o];have a:(i.op==1)=false:=by simp;omega
 by_cases p:i.op=2;·rw [if_pos p];exact bm (t:=2) (v:=.u (Uz.wrap (M.pc+Uz.wrap i.imm))) (Tq.eng (dr:=true)) {eq:=[(12,ak a),(16,ak (show (i.op==2)=true by simp;omega))],cv:=[(23,t7 j)]} 100 h λw' h=>⟨rfl,h⟩
 rw [if_neg p];have b:(i.op==2)=false:=by simp;omega
 have f:=λW (_:Tq B g w0 M A (t0 M i wd) W)=>zG i.op (tW ab ab) W;cases d:((fp i.op).toList==(⟨#[82]⟩:ByteArray).toList) with
 | true =>rw [if_pos (show (fp i.op).toList=[82] from (eq_of_beq d).trans cb)];exact bm (t:=2) (v:=.u (nv i.op (M.x.getD i.a.toNat 0) (M.x.getD i.b.toNat 0))) (Tq.eng (dr:=true)) {eq:=[(12,ak a),(16,ak b),(33,ak d)],cv:=[(26,t7 j),(32,OD f),(35,t7 r),(43,t7 q),(45,OD λW _=>tQ i.op _ _ (tW ab ab) k.1 k.2 u.1 u.2 W)]} 200 h λw' h=>⟨rfl,h⟩
 | false =>rw [if_neg (show ¬ (fp i.op).toList=[82] from λe=>by rw [e] at d;exact absurd d cb)];exact bm (t:=2) (v:=.u (nv i.op (M.x.getD i.a.toNat 0) (Uz.wrap i.imm))) (Tq.eng (dr:=true)) {eq:=[(12,ak a),(16,ak b),(33,ak d)],cv:=[(26,t7 j),(32,OD f),(35,t7 r),(43,t7 q),(45,OD λW _=>tQ i.op _ _ (tW ab ab) k.1 k.2 x.1 x.2 W)]} 200 h λw' h=>⟨rfl,h⟩
end
section
variable {l l' : List Int} (h : ∀ j, j≠9 -> l.getD j 0 = l'.getD j 0)
include h
theorem If (i:Nat):dJ l i=dJ l' i:=by unfold dJ;rw [h 16 ab]
theorem N0 (i:Nat):i9 l i=i9 l' i:=by unfold i9;rw [If h]
theorem N5 (i:Nat):cZ l i=cZ l' i:=by unfold cZ kV;rw [N0 h,h (17+i) ab,h (16+i) ab]
theorem AR (p x y kind:Int):∀ n k,aB l p x y kind n k=aB l' p x y kind n k
 | 0,_=>rfl
 | n+1,k=>by rw [aB,aB,N5 h,If h,AR p x y kind n (k+1)]
theorem N6 (p va kind e x:Int) (lv:Nat):dp l p va kind e x lv=dp l' p va kind e x lv:=by unfold dp gJ gK;rw [h 0 ab,AR h]
theorem Ig (zs:List Int) (n:Nat) (p va kind:Int):∀ a T,bO zs n l p va kind a T=bO zs n l' p va kind a T
 | 0,T=>by rw [bO,bO,AR h,N6 h]
 | a+1,T=>by rw [bO,bO,AR h,N6 h,Ig zs n p va kind a]
theorem QB (zs:List Int) (n:Nat) (p va kind:Int):ct zs n l p va kind=ct zs n l' p va kind:=by unfold ct kW;rw [h 15 ab,Ig h]
theorem Ts (p kind:Int):gc l p kind=gc l' p kind:=by unfold gc;rw [h 0 ab]
end
theorem QD (M:MV) (pa n x:Int) (b:(tE M pa n 2 x).2.2=0):(tE M pa n 2 x).2.1.ram=M.ram/\(tE M pa n 2 x).2.1.pr=M.pr/\∀ j,j≠9->(tE M pa n 2 x).2.1.cs.getD j 0=M.cs.getD j 0:=by
 unfold tE at b ⊢;split;·exact ⟨rfl,rfl,λ_ _=>rfl⟩
 ·rename_i c;rw [if_neg c] at b;split
  ·rename_i a;split;·exact ⟨rfl,rfl,λj d=>jY _ 9 j _ (Ne.symm d)⟩
   ·exact ⟨rfl,rfl,λ_ _=>rfl⟩
  ·rename_i a;exact absurd rfl a
theorem F5 {M:MV} (r:Gd M) {a n:Int} (b:(aC M a n 2 0).2.2=0):(cy (aC M a n 2 0).2.1 a 2).code=0:=by
 have p:∀ i,0<=M.ram.getD i 0/\M.ram.getD i 0<=255:=FK r.mw.ram;have key:∀ F:Fd,F=ct M.ram M.ram.length M.cs (gc M.cs M.pr 2) a 2->F.code=0->∀ N:MV,N.ram=bx M.ram F->N.pr=M.pr->(∀ j,j≠9->N.cs.getD j 0=M.cs.getD j 0)->(cy N a 2).code=0:=by
  intro F hF l N m o h;unfold cy;rw [m,o,kv,QB h,Ts h];rcases Fa M.ram M.ram.length rfl p M.cs (gc M.cs M.pr 2) a 2 with ⟨_,e,_⟩|⟨e,_⟩;·rw [hF,e]
  ·rw [<- hF] at e;exact absurd l e
 unfold aC at b ⊢;split;·rename_i q;rw [if_pos q] at b;exact absurd b (show ¬ oH 2=0 by decide)
 ·rename_i q;rw [if_neg q] at b;unfold zU at b ⊢;split;·rename_i f;rw [if_pos f] at b;exfalso;obtain ⟨c,k,e⟩:=lT M.ram M.ram.length M.cs (gc M.cs M.pr 2) a 2;have d:wrap64 ((ct M.ram M.ram.length M.cs (gc M.cs M.pr 2) a 2).code+16)=0:=b;rw [e] at d;unfold wrap64 at d;omega
  ·rename_i f;rw [if_neg f] at b;have s:(ct M.ram M.ram.length M.cs (gc M.cs M.pr 2) a 2).code=0:=kd;split;·rename_i g;rw [if_pos g] at b;exact absurd b (show ¬ g8 2=0 by decide)
   ·rename_i g;rw [if_neg g] at b;obtain ⟨t,u,v⟩:=QD _ _ _ _ b;exact key _ rfl s _ t u v
section
variable {B g : Nat} {w0 w w' : World} {M M' : MV} {A A' : MA} {t t' : TV}
theorem Vz (h:Tq B g w0 M A t w) (b:M.x.length=32) (c:0<=t.ra) (a:t.ra<=31) {v:Int} (hv:M.x.getD t.ra.toNat 0=v):Calls prog 173 #[.p g 0] w λe w'=>e=.returned (.u v)/\Iv [g] w [⟨g,bL M A t,[]⟩] w':=by subst hv;exact Tr h b c a
theorem VI (h:Tq B g w0 M A t w) (b:M.x.length=32) (c:0<=t.rb) (a:t.rb<=31) {v:Int} (hv:M.x.getD t.rb.toNat 0=v):Calls prog 176 #[.p g 0] w λe w'=>e=.returned (.u v)/\Iv [g] w [⟨g,bL M A t,[]⟩] w':=by subst hv;exact Vy h b c a
theorem N7 (h:Tq B g w0 M A t w) (n:Gd M) (d:t.ld=.func (.func 50) #[] #[]) (addr size kind x:Int) (i:jf size=true) (a:1<=kind) (b:kind<=3) (c:kind=1->size=4) (m:U addr) (hx:U x) :
 Calls prog 166 #[.p g 0,.u addr,.i size,.i kind,.u x] w λe w'=>∃ C,e=.returned (.tuple #[.u (if (aC M addr size kind x).2.2 != 0 then 0 else (aC M addr size kind x).1),.bool (!((aC M addr size kind x).2.2 != 0))])/\Tq B g w0 (aC M addr size kind x).2.1 C (nP t (aC M addr size kind x) addr) w' :=
 (xk (aC M addr size kind x) addr size kind x d h.row (λW l=>(h.iv l rfl).acc n i a b c m hx)).mono λe w' ⟨C,j,k,f⟩=>⟨C,j,h.new k f⟩
theorem Rl {n:Nat} (hn:n=1\/n=2\/n=4\/n=8):jf (n:Int)=true:=by rcases hn with rfl|rfl|rfl|rfl<;>decide
theorem F6 (h:Tq B g w0 M A t w) (j:Gd M) (a:t.ld=.func (.func 50) #[] #[]) (f:Wf) (n:Nat) (s:Bool) (hn:n=1\/n=2\/n=4\/n=8) (i:t.fm=nh f n s) (addr:Int) (d:U addr) :
 Calls prog 172 #[.p g 0,.u addr] w λe w'=>∃ C,e=.returned (.tuple #[.u (if (aC M addr n 2 0).2.2 != 0 then 0 else (aC M addr n 2 0).1),.bool (!((aC M addr n 2 0).2.2 != 0))])/\Tq B g w0 (aC M addr n 2 0).2.1 C (tZ t (aC M addr n 2 0) addr n s) w' :=
 (To (aC M addr n 2 0) f n s hn i addr a h.row (λW c=>(h.iv c rfl).acc j (Rl hn) bc bc (λe=>v9) d l8)).mono λe w' ⟨C,b,k,f⟩=>⟨C,b,h.new k f⟩
theorem AS (h:Tq B g w0 M A t w) (j:Gd M) (a:t.ld=.func (.func 50) #[] #[]) (f:Wf) (n:Nat) (s:Bool) (hn:n=1\/n=2\/n=4\/n=8) (i:t.fm=nh f n s) (addr x:Int) (d:U addr) (hx:U x) :
 Calls prog 175 #[.p g 0,.u addr,.u x] w λe w'=>∃ C,e=.returned (.bool (!((aC M addr n 3 x).2.2 != 0)))/\Tq B g w0 (aC M addr n 3 x).2.1 C (nP t (aC M addr n 3 x) addr) w' :=
 (Qz (aC M addr n 3 x) f n s i addr x a h.row (λW c=>(h.iv c rfl).acc j (Rl hn) bc bc (λe=>v9) d hx)).mono λe w' ⟨C,b,k,f⟩=>⟨C,b,h.new k f⟩
theorem N8 (h:Tq B g w0 M A t w) (a:Gd M) (l:t.ld=.func (.func 50) #[] #[]) (addr kind:Int) (i:1<=kind) (j:kind<=3) (s:U addr):Calls prog 232 #[.p g 0,.u addr,.i kind] w λe w'=>∃ C,e=.returned (.tuple #[.u (if (cy M addr kind).code != 0 then 0 else (cy M addr kind).addr),.bool (!((cy M addr kind).code != 0))])/\Tq B g w0 (dA M addr kind) C (zi t (cy M addr kind).code addr) w':=by
 obtain ⟨f,d,n,v,_,_⟩:=aI a.ok;have m:bn M.cs.length M.cs M.pr=true:=(fg a.ok).2.2.1;have u:=wo (a.mw.cs 0) d n kind;have r:Ln M.cs.length M.cs M.pr kind=gc M.cs M.pr kind:=by unfold Ln;rw [m,decide_eq_true ⟨i,j⟩];rfl
 have p:nB M.ram.length M.cs.length M.cs (gc M.cs M.pr kind) kind=true:=by unfold nB bn;rw [v,f,d,u];unfold jc;rcases (show kind=1\/kind=2\/kind=3 by omega) with rfl|rfl|rfl<;>rfl
 refine (Tp (cy M addr kind).addr (cy M addr kind).code (gc M.cs M.pr kind) (bx M.ram (cy M addr kind)) addr kind l h.row (λW b=>?_) (λW b=>?_)).mono λe w' ⟨a',c,q,k,o⟩=>⟨_,q,h.ram k o⟩;·have:=mt A.ac M.cs.length A.cc M.cs M.pr kind W rfl (h.iv b rfl).sl.cs a.mw.cs;rw [r] at this;exact this
 ·have:=rG A.ar M.ram.length A.cr M.ram A.ac M.cs.length A.cc M.cs (gc M.cs M.pr kind) addr kind W rfl a.len.ram (h.iv b rfl).sl.ram a.mw.ram rfl (h.iv b rfl).sl.cs a.mw.cs s (h.iv b rfl).tab h.good;unfold GG GH vM at this;rw [p,if_pos rfl,if_pos rfl,if_pos rfl] at this;exact this
theorem Dz (h:Tq B g w0 M A t w) (d:M.x.length=32) (q:0<=t.ra) (c:t.ra<=31) (f:Wf) (n:Nat) (s:Bool) (hn:n=4\/n=8) (z:t.fm=nh f n s) (hz:((M.x.getD t.ra.toNat 0).tmod n != 0)=true):Calls prog 233 #[.p g 0] w λe w'=>e=.returned (.tuple #[.u 0,.bool false])/\Tq B g w0 M A {t with up:=true,cz:=6,vl:=M.x.getD t.ra.toNat 0} w':=by
 have m:=λW (h:Tq B g w0 M A t W)=>Tr h d q c;generalize M.x.getD t.ra.toNat 0=a at *;have C:Uz.wrap (n:Int)=n:=by rw [IntKind.wrap_u64];omega
 have j:(n:Int)≠0:=ab
 refine bC (S:=Tq B g w0 M A t) (args:=[.p g 0]) [] func233 ?_;refine aK 0 1 ?_;cases f;all_goals
  refine ae (Tq.eng (dr:=true)) {cv:=[(5,t7 m),(7,t7 λW i=>rE _ n s z i.row)]} 60 h λp r=>?_
  refine oD (AB n s p) ba λe F b=>⟨_,0,b.1,gh ba,?_⟩
  have u:=r.below b.2
  refine aS (Tq.eng (dr:=true)) {eq:=[(9,dG .u64 C),(11,ak hz)],ov:=[(10,OB .u64 a n j)],cv:=[(13,OD λW _=>(gZ 3 (.inr (.inr rfl)) W).mono λe w' k=>⟨k.1,by rw [k.2];exact Below.refl _ _⟩),(15,t7 m)]} 60 u (λW i=>kg 6 a i.row) λD e G x b=>⟨_,0,b.1,gh ba,?_⟩
  have l:=x.iv b.2 rfl
  refine aH (λ_=>True) ?_
  exact iH (Iv.one l.row) {} 40 λE a y o=>⟨.tuple #[.u 0,.bool false],by rw [results_tmp2 rfl,o.slot (v:=.u 0) ba,o.slot (v:=.bool false) ba],rfl,l.iv y rfl⟩
theorem Ih (h:Tq B g w0 M A t w) (d:Gd M) (i:t.ld=.func (.func 50) #[] #[]) (u:0<=t.ra) (b:t.ra<=31) (f:Wf) (n:Nat) (s:Bool) (hn:n=4\/n=8) (E:t.fm=nh f n s) (hz:((M.x.getD t.ra.toNat 0).tmod n != 0)=false):Calls prog 233 #[.p g 0] w λe w'=>∃ C,e=.returned (.tuple #[.u (if (cy M (M.x.getD t.ra.toNat 0) 3).code != 0 then 0 else (cy M (M.x.getD t.ra.toNat 0) 3).addr),.bool (!((cy M (M.x.getD t.ra.toNat 0) 3).code != 0))])/\Tq B g w0 (dA M (M.x.getD t.ra.toNat 0) 3) C (zi t (cy M (M.x.getD t.ra.toNat 0) 3).code (M.x.getD t.ra.toNat 0)) w':=by
 have c:=d.x32;have l:=λW (h:Tq B g w0 M A t W)=>Tr h c u b;have k:=λW (h:Tq B g w0 M A t W)=>N8 h d i (M.x.getD t.ra.toNat 0) 3 bc bc (d.ux _);generalize M.x.getD t.ra.toNat 0=a at *;have F:Uz.wrap (n:Int)=n:=by rw [IntKind.wrap_u64];omega
 have j:(n:Int)≠0:=ab
 generalize (if (cy M a 3).code != 0 then 0 else (cy M a 3).addr)=p at *;generalize (!((cy M a 3).code != 0))=q at *;refine bC (S:=Tq B g w0 M A t) (args:=[.p g 0]) [] func233 ?_;refine aK 0 1 ?_;cases f;all_goals
  refine ae (Tq.eng (dr:=true)) {cv:=[(5,t7 l),(7,t7 λW D=>rE _ n s E D.row)]} 60 h λr x=>?_
  refine oD (AB n s r) ba λe I o=>⟨_,0,o.1,gh ba,?_⟩
  have y:=x.below o.2
  refine aS (Tq.eng (dr:=true)) {eq:=[(9,dG .u64 F),(11,ak hz)],ov:=[(10,OB .u64 a n j)],cv:=[(19,t7 l)]} 60 y k ?_
  rintro G e J H ⟨C,rfl,z⟩
  refine ⟨_,0,rfl,gh ba,?_⟩
  refine gu (R:=[]) trivial {} 40 λa m=>⟨.tuple #[.u p,.bool q],by rw [results_tmp2 rfl,m.slot (v:=.u p) ba,m.slot (v:=.bool q) ba],C,rfl,z⟩
end
section
variable {B g : Nat} {w0 w w' : World} {M M' : MV} {A A' : MA} {t t' : TV}
theorem iE {cf:Bool} {M:MV} {t:TV} {k:Nat} (h:t.up=true) (a:t.cz=k):ur cf M t=(aM M k false t.vl,2):=by unfold ur;rw [if_pos h,a,Int.toNat_natCast]
theorem iY {M:MV} {t:TV} (h:t.up=false):ur false M t=(be M t.rd t.rs t.nx,1):=by unfold ur;rw [h];rfl
theorem lu {M:MV} {rd to:Int}:be M rd (M.x.getD rd.toNat 0) to=be M 0 0 to:=by
 unfold be;congr 1;by_cases e:rd=0;·rw [if_pos e,if_pos rfl]
 ·rw [if_neg e,if_pos rfl];by_cases a:rd.toNat<M.x.length;·exact mV M.x rd.toNat a
  ·exact List.set_eq_of_length_le ab
theorem na {cf:Bool} {i:Ins} {t:TV} {X:Int × MV × Int} {a n kind x:Int} (f:aC M a n kind x=X) (g:Gd M) (e:(X.2.2 != 0)=true) (d:t.rd=i.rd) (b:t.fm=eO i.op):Pf cf (cL X 0 a) i X.2.1 (nP t X a):=by subst f;have c:=kh (M:=M) (addr:=a) (size:=n) (kind:=kind) (x:=x) rfl e;unfold nP;rw [e];exact ⟨iE rfl c.1,g.acc a n kind x,d,b,λ_=>⟨_,c.2,c.1⟩⟩
theorem F7 {P:Program} {S:World->Prop} {n:Nat} {fn:Func} {k:List KI} {F:Fr} {w:World} {Q:MV->TV->Prop} {R:List Rw} (b:ik w R) (H:Hn P (λx=>x=w) (λx=>x=w)) (m:Nat) (hx:(ij k,(bp P R H n false m k F).1.1)=(true,true)) (he:(bp P R H n false m k F).2.map Prod.fst=(bp P R H n false m k F).2.map Prod.snd) (hr:fn.results=#[]) {M':MV} {A':MA} {t':TV} (h:Tq B g w0 M' A' t' w) (c:Q M' t'):Wg P S (bodyPost P fn (TR B g w0 Q)) n k F w :=
 gu b H m (hx:=hx) (he:=he) λa _=>⟨_,results_none hr _ _ _,rfl,M',A',t',c,h⟩
theorem Tt (i:Ins) (wd:Int) (m:jN i) (z:i.op=63\/i.op=74) (h:Tq B g w0 M A (t0 M i wd) w) (l:Gd M) (hd:Ud M.d):Calls prog 177 #[.p g 0] w (TR B g w0 (Pf false (Uo M i (M.x.getD i.a.toNat 0)) i)):=by
 obtain ⟨n,r⟩:∃ n,n=bD i.op:=⟨_,rfl⟩;have hn:n=4\/n=8:=by rw [r];unfold bD;split<;>simp
 obtain ⟨wn,ws⟩:=(Ie m.op1 m.op98).2.2.2.2 ab;have V:eO i.op=nh .hd n true:=by unfold eO;rw [if_neg ab,if_neg ab,if_neg ab,if_neg ab,if_neg ab,if_pos ab,if_pos z,wn,ws,r]
 have o:=l.x32;have F:=l.ux i.a.toNat;have s:=λW (h:Tq B g w0 M A (t0 M i wd) W)=>Tr h o m.a0 m.a31;have Y:=λW (h:Tq B g w0 M A (t0 M i wd) W)=>F6 h l rfl .hd n true ab V (M.x.getD i.a.toNat 0) F;have H:Uo M i (M.x.getD i.a.toNat 0)=if ((aC M (M.x.getD i.a.toNat 0) n 2 0).2.2 != 0)=true then cL (aC M (M.x.getD i.a.toNat 0) n 2 0) 0 (M.x.getD i.a.toNat 0) else (be (cw (dA (aC M (M.x.getD i.a.toNat 0) n 2 0).2.1 (M.x.getD i.a.toNat 0) 2) true (cy (aC M (M.x.getD i.a.toNat 0) n 2 0).2.1 (M.x.getD i.a.toNat 0) 2).addr) i.rd (au (8*n) (aC M (M.x.getD i.a.toNat 0) n 2 0).1) (Uz.wrap (M.pc+4)),1):=by rw [r];rfl
 rw [H];clear H;have I:=l.acc (M.x.getD i.a.toNat 0) n 2 0;have K:=(iS M (M.x.getD i.a.toNat 0) n 2 0).2.1;have v:=F5 l (a:=M.x.getD i.a.toNat 0) (n:=n);have E:=λX (T:aC M (M.x.getD i.a.toNat 0) n 2 0=X) k=>na (cf:=false) (i:=i) (t:=t0 M i wd) T l k rfl rfl;generalize P:M.x.getD i.a.toNat 0=a at *;generalize aC M a n 2 0=X at *;obtain ⟨y,N,c⟩:=X;dsimp only at *;refine gg (args:=[.p g 0]) (Tq B g w0 M A (t0 M i wd)) func177 ?_;refine aK 0 1 ?_;refine aS (Tq.eng (dr:=true)) {cv:=[(7,t7 s)]} 60 h Y ?_;rintro W1 e W2 h1 ⟨C,rfl,d⟩;refine ⟨_,0,rfl,gh ba,?_⟩;cases k:(c != 0) with
 | true =>rw [if_pos rfl];unfold tZ at d;dsimp only at d;rw [k,if_pos rfl] at d;exact F7 (R:=[]) trivial {} 40 ba ba rfl d (E _ rfl k)
 | false =>rw [if_neg bc];unfold tZ at d;dsimp only at d;rw [k,if_neg bc,if_pos rfl] at d;have O:c=0:=(by simpa using k);have u:=v O;obtain ⟨f,b⟩:∃ f:TV,f={t0 M i wd with rs:=au (8*n) y}:=⟨_,rfl⟩;have j:f.ra=i.a:=(by rw [b];rfl);have x:f.ld=.func (.func 50) #[] #[]:=(by rw [b];rfl);rw [<- b] at d;have p:=λW (h:Tq B g w0 N C f W)=>Tr h (by rw [K];exact o) (by rw [j];exact m.a0) (by rw [j];exact m.a31);rw [j,K,P] at p;have q:=λW (h:Tq B g w0 N C f W)=>N8 h I x a 2 bc bc F;have Q:Gd (dA N a 2):=I.marked _;have Z:U (cy N a 2).addr:=uF _ _ _ _ _ _ F;rw [u] at q;generalize (cy N a 2).addr=L at *;generalize dA N a 2=G at *;refine aH (Tq B g w0 N C f) ?_;refine aS (Tq.eng (dr:=true)) {cv:=[(18,t7 p)]} 60 d q ?_;rintro W3 e W4 h3 ⟨D,rfl,J⟩;refine ⟨_,0,rfl,gh ba,?_⟩;refine aH (λ_=>True) ?_;refine gp (R1:=[⟨g,bL (cw G true L) D f,[]⟩]) (Iv.one J.row) {} 60 λW5 S=>⟨rfl,cw G true L,D,f,?_,J.iv S rfl⟩;refine ⟨?_,Q.hold Z (Or.inl rfl),by rw [b];rfl,by rw [b];rfl,λe=>by rw [b] at e;cases e⟩;rw [iY (by rw [b];rfl),b];rfl
end
section
variable {B g : Nat} {w0 w w' : World} {M M' : MV} {A A' : MA} {t t' : TV}
theorem DA {i:Ins} (a:jN i) (b:63<=i.op) (c:i.op<=84):(bD i.op=4\/bD i.op=8)/\wN i.op=bD i.op/\wS i.op=true:=by obtain ⟨wn,d⟩:=(Ie a.op1 a.op98).2.2.2.2 ab;refine ⟨?_,wn,d⟩;unfold bD;split<;>simp
theorem Ii {a:Int} {n:Nat} (b:U a):a.tmod n=a%(n:Int):=Int.tmod_eq_emod_of_nonneg b.1
theorem Tu (i:Ins) (wd:Int) (q:jN i) (hop:i.op=64\/i.op=75) (h:Tq B g w0 M A (t0 M i wd) w) (J:Gd M):Calls prog 178 #[.p g 0] w (TR B g w0 (Pf false (iU M i (M.x.getD i.a.toNat 0) (M.x.getD i.b.toNat 0)) i)):=by
 obtain ⟨hn,wn,ws⟩:=DA q ab ab;have hf:eO i.op=nh .sc (bD i.op:Nat) true:=by unfold eO;rw [if_neg ab,if_neg ab,if_neg ab,if_neg ab,if_neg ab,if_pos ab,if_neg ab,if_pos hop,wn,ws]
 have x:=J.x32;have ua:=J.ux i.a.toNat;have ub:=J.ux i.b.toNat;have k0:(m0 i.op==0)=false:=by unfold m0;split<;>simp<;>omega
 have k1:(m0 i.op==1)=true:=by unfold m0;split<;>simp<;>omega
 have eV:iU M i (M.x.getD i.a.toNat 0) (M.x.getD i.b.toNat 0)=if ((M.x.getD i.a.toNat 0).tmod (bD i.op:Nat) != 0)=true then (aM M 6 false (M.x.getD i.a.toNat 0),2) else if ((cy M (M.x.getD i.a.toNat 0) 3).code != 0)=true then (aM (dA M (M.x.getD i.a.toNat 0) 3) (cy M (M.x.getD i.a.toNat 0) 3).code.toNat false (M.x.getD i.a.toNat 0),2) else if ((dA M (M.x.getD i.a.toNat 0) 3).hl&&((dA M (M.x.getD i.a.toNat 0) 3).hd==(cy M (M.x.getD i.a.toNat 0) 3).addr))=true then (if ((aC (dA M (M.x.getD i.a.toNat 0) 3) (M.x.getD i.a.toNat 0) (bD i.op:Nat) 3 (M.x.getD i.b.toNat 0)).2.2 != 0)=true then cL (aC (dA M (M.x.getD i.a.toNat 0) 3) (M.x.getD i.a.toNat 0) (bD i.op:Nat) 3 (M.x.getD i.b.toNat 0)) 0 (M.x.getD i.a.toNat 0) else (be (cw (aC (dA M (M.x.getD i.a.toNat 0) 3) (M.x.getD i.a.toNat 0) (bD i.op:Nat) 3 (M.x.getD i.b.toNat 0)).2.1 false 0) i.rd 0 (Uz.wrap (M.pc+4)),1)) else (be (cw (dA M (M.x.getD i.a.toNat 0) 3) false 0) i.rd 1 (Uz.wrap (M.pc+4)),1):=by unfold iU;rw [k0,k1,if_neg bc,Ii ua,if_pos rfl];rfl
 rw [eV];clear eV k0 k1 wn ws;have o:=λW (h:Tq B g w0 M A (t0 M i wd) W)=>Dz h x q.a0 q.a31 .sc _ true hn hf;have j:=λW (h:Tq B g w0 M A (t0 M i wd) W)=>Ih h J rfl q.a0 q.a31 .sc _ true hn hf;have K:Gd (dA M (M.x.getD i.a.toNat 0) 3):=J.marked _;obtain ⟨T,S,hcc⟩:∃ c:Nat,c<16/\(cy M (M.x.getD i.a.toNat 0) 3).code=c:=lT M.ram M.ram.length M.cs (gc M.cs M.pr 3) (M.x.getD i.a.toNat 0) 3;rw [show (t0 M i wd).ra=i.a from rfl] at o j;have s:(dA M (M.x.getD i.a.toNat 0) 3).x=M.x:=rfl;generalize ea:M.x.getD i.a.toNat 0=a at *;generalize eb:M.x.getD i.b.toNat 0=b at *;generalize bD i.op=n at *;generalize dA M a 3=N at *;generalize cy M a 3=F at *;obtain ⟨p,fc,fm,ft,fe⟩:=F;dsimp only at *;subst hcc;obtain ⟨d,f⟩:∃ d:TV,d=t0 M i wd:=⟨_,rfl⟩;have r:d.up=false:=by rw [f];rfl
 have hld:d.ld=.func (.func 50) #[] #[]:=by rw [f];rfl
 have E:d.ra=i.a:=by rw [f];rfl
 have G:d.rb=i.b:=by rw [f];rfl
 have l:d.rd=i.rd:=by rw [f];rfl
 have m:d.fm=eO i.op:=by rw [f];rfl
 have O:d.nx=Uz.wrap (M.pc+4):=by rw [f];rfl
 rw [<- f] at h o j;clear f;refine gg (args:=[.p g 0]) (Tq B g w0 M A d) func178 ?_;refine aK 0 1 ?_;cases hz:(a.tmod n != 0) with
 | true =>rw [if_pos rfl];refine aS (Tq.eng (dr:=true)) {} 60 h (λW Y=>o W Y hz) ?_;rintro W1 e W2 h1 ⟨rfl,u⟩;refine ⟨_,0,rfl,gh ba,?_⟩;exact F7 (R:=[]) trivial {} 40 ba ba rfl u ⟨iE (k:=6) rfl rfl,J,l,m,λ_=>⟨6,bc,rfl⟩⟩
 | false =>
   rw [if_neg bc];refine aS (Tq.eng (dr:=true)) {} 60 h (λW Y=>j W Y hz) ?_;rintro W1 e W2 h1 ⟨C,rfl,u⟩;refine ⟨_,0,rfl,gh ba,?_⟩;unfold zi at u;cases P:(((T:Nat):Int) != 0) with
   | true =>rw [P,if_pos rfl] at u;rw [if_pos rfl,Int.toNat_natCast];exact F7 (R:=[]) trivial {} 40 ba ba rfl u ⟨iE (k:=T) rfl rfl,K,l,m,λ_=>⟨T,S,rfl⟩⟩
   | false =>
     rw [P,if_neg bc] at u;rw [if_neg bc];refine an (R:=[]) trivial {} 14 ?_;refine af [.code (aq 2 (aL Tryz.f178))] [(0,.p g 0,1),(2,.u p,0)] ?_;refine aH (λ_=>True) ?_;refine oC (R1:=[⟨g,bL N C {d with rs:=1},[]⟩]) (Iv.one u.row) {} 7 λW3 h3=>?_;have U:=u.iv h3 rfl;refine af [.code (aq 3 (aL Tryz.f178))] [(0,.p g 0,1),(2,.u p,0)] ?_;have no:∀ (H:Hw prog (Ag [g] W3)),(N.hl&&(N.hd==p))=false->((cC prog H Tryz.f178.ntmps 60 [.code (aq 3 (aL Tryz.f178))] [(0,.p g 0,1),(2,.u p,0)] [⟨g,bL N C {d with rs:=1},[]⟩]).1.1,(cC prog H Tryz.f178.ntmps 60 [.code (aq 3 (aL Tryz.f178))] [(0,.p g 0,1),(2,.u p,0)] [⟨g,bL N C {d with rs:=1},[]⟩]).1.2.2.2)=(false,[⟨g,bL (cw N false 0) C {d with rs:=1},[]⟩]) ->
      (cC prog H Tryz.f178.ntmps 60 [.code (aq 3 (aL Tryz.f178))] [(0,.p g 0,1),(2,.u p,0)] [⟨g,bL N C {d with rs:=1},[]⟩]).1.2.1.isEmpty=true->(cC prog H Tryz.f178.ntmps 60 [.code (aq 3 (aL Tryz.f178))] [(0,.p g 0,1),(2,.u p,0)] [⟨g,bL N C {d with rs:=1},[]⟩]).2.map Prod.fst=(cC prog H Tryz.f178.ntmps 60 [.code (aq 3 (aL Tryz.f178))] [(0,.p g 0,1),(2,.u p,0)] [⟨g,bL N C {d with rs:=1},[]⟩]).2.map Prod.snd ->
      Wg prog (λ_=>True) (bodyPost prog Tryz.f178 (TR B g w0 (Pf false (if (N.hl&&(N.hd==p))=true then (if ((aC N a n 3 b).2.2 != 0)=true then cL (aC N a n 3 b) 0 a else (be (cw (aC N a n 3 b).2.1 false 0) i.rd 0 (Uz.wrap (M.pc+4)),1)) else (be (cw N false 0) i.rd 1 (Uz.wrap (M.pc+4)),1)) i))) Tryz.f178.ntmps [.code (aq 3 (aL Tryz.f178))] [(0,.p g 0,1),(2,.u p,0)] W3:=by
      intro H hn0 hx hz1 he
      rw [hn0,if_neg bc]
      refine gp (Iv.one U.row) H 60 (hx:=hx) (hz:=hz1) (he:=he) λW5 V=>⟨rfl,cw N false 0,C,{d with rs:=1},?_,U.iv V rfl⟩
      refine ⟨?_,K.hold l8 (Or.inr rfl),l,m,λe=>by rw [show TV.up {d with rs:=1}=d.up from rfl,r] at e;cases e⟩
      rw [iY (t:={d with rs:=1}) r,<- O,<- l]
     cases z:N.hl with
     | false =>have:=no {eq:=[(18,ak z)]} (by rw [z];rfl) ba ba ba;rw [z] at this;exact this
     | true =>
       cases Q:(N.hd==p) with
       | false =>have:=no {eq:=[(18,ak z),(26,ak Q)]} (by rw [z,Q];rfl) ba ba ba;rw [z,Q] at this;exact this
       | true =>
         clear no;rw [if_pos bc];have V:=U;have ga:=K.acc a n 3 b;have Z:=λW (h:Tq B g w0 N C {d with rs:=1} W)=>Vz h (by rw [s];exact x) (show 0<=d.ra by rw [E];exact q.a0) (show d.ra<=31 by rw [E];exact q.a31) (v:=a) (show N.x.getD d.ra.toNat 0=a by rw [s,E];exact ea);have hb2:=λW (h:Tq B g w0 N C {d with rs:=1} W)=>VI h (by rw [s];exact x) (show 0<=d.rb by rw [G];exact q.b0) (show d.rb<=31 by rw [G];exact q.b31) (v:=b) (show N.x.getD d.rb.toNat 0=b by rw [s,G];exact eb);have hst:=λW (h:Tq B g w0 N C {d with rs:=1} W)=>AS h K (show d.ld=_ from hld) .sc n true ab (show d.fm=_ by rw [m,hf]) a b ua ub;have hrf:=λX (hX:aC N a n 3 b=X) P=>na (cf:=false) (i:=i) (t:={d with rs:=1}) hX K P l m;generalize aC N a n 3 b=X at *;obtain ⟨y,N2,c2⟩:=X;dsimp only at *;refine aH (Tq B g w0 N C {d with rs:=1}) ?_;refine aS (Tq.eng (dr:=true)) {eq:=[(18,ak z),(26,ak Q)],cv:=[(30,t7 Z),(32,t7 hb2)]} 80 V hst ?_;rintro W6 e W7 h6 ⟨D,rfl,I⟩;refine ⟨_,0,rfl,gh ba,?_⟩;cases L:(c2 != 0) with
         | true =>rw [if_pos rfl];exact F7 (R:=[]) trivial {} 40 ba ba rfl I (hrf _ rfl L)
         | false =>rw [if_neg bc];unfold nP at I;dsimp only at I;rw [L,if_neg bc] at I;refine aH (λ_=>True) ?_;refine gp (R1:=[⟨g,bL (cw N2 false 0) D {d with rs:=0},[]⟩]) (Iv.one I.row) {} 60 λW8 h8=>⟨rfl,cw N2 false 0,D,{d with rs:=0},?_,I.iv h8 rfl⟩;refine ⟨?_,ga.hold l8 (Or.inr rfl),l,m,λe=>by rw [show TV.up {d with rs:=0}=d.up from rfl,r] at e;cases e⟩;rw [iY (t:={d with rs:=0}) r,<- O,<- l]
theorem UA (i:Ins) (wd:Int) (q:jN i) (h63:63<=i.op) (h84:i.op<=84) (hop:¬ (i.op=63\/i.op=74)/\¬ (i.op=64\/i.op=75)) (h:Tq B g w0 M A (t0 M i wd) w) (T:Gd M) (hd:Ud M.d):Calls prog 179 #[.p g 0] w (TR B g w0 (Pf false (iU M i (M.x.getD i.a.toNat 0) (M.x.getD i.b.toNat 0)) i)):=by
 obtain ⟨hn,wn,ws⟩:=DA q h63 h84;have hf:eO i.op=nh .am (bD i.op:Nat) true:=by unfold eO;rw [if_neg ab,if_neg ab,if_neg ab,if_neg ab,if_neg ab,if_pos ab,if_neg hop.1,if_neg hop.2,wn,ws]
 have u:=T.x32;have ua:=T.ux i.a.toNat;have ub:=T.ux i.b.toNat;have k0:(m0 i.op==0)=false:=by unfold m0;split<;>simp<;>omega
 have k1:(m0 i.op==1)=false:=by unfold m0;split<;>simp<;>omega
 have eV:∀ (a b:Int) (N:MV) (n:Nat),a=M.x.getD i.a.toNat 0->b=M.x.getD i.b.toNat 0->N=dA M a 3->n=bD i.op->iU M i a b=if (a.tmod n != 0)=true then (aM M 6 false a,2) else if ((cy M a 3).code != 0)=true then (aM N (cy M a 3).code.toNat false a,2) else if ((aC N a n 2 0).2.2 != 0)=true then cL (aC N a n 2 0) 2 a else if ((aC (aC N a n 2 0).2.1 a n 3 (iT i.op (aC N a n 2 0).1 b)).2.2 != 0)=true then cL (aC (aC N a n 2 0).2.1 a n 3 (iT i.op (aC N a n 2 0).1 b)) 0 a else (be (aC (aC N a n 2 0).2.1 a n 3 (iT i.op (aC N a n 2 0).1 b)).2.1 i.rd (au (8*n) (aC N a n 2 0).1) (Uz.wrap (M.pc+4)),1):=by intro a b N n e1 e2 e3 e4;subst e1 e2 e3 e4;unfold iU;rw [k0,k1,if_neg bc,Ii ua,if_neg (show ¬ (false=true) by decide)];rfl
 rw [eV _ _ _ _ rfl rfl rfl rfl];clear eV k0 k1 wn ws;have o:=λW (h:Tq B g w0 M A (t0 M i wd) W)=>Dz h u q.a0 q.a31 .am _ true hn hf;have m:=λW (h:Tq B g w0 M A (t0 M i wd) W)=>Ih h T rfl q.a0 q.a31 .am _ true hn hf;have gl:Gd (dA M (M.x.getD i.a.toNat 0) 3):=T.marked _;have dl:Ud (dA M (M.x.getD i.a.toNat 0) 3).d:=hd;obtain ⟨cc,c16,hcc⟩:∃ c:Nat,c<16/\(cy M (M.x.getD i.a.toNat 0) 3).code=c:=lT M.ram M.ram.length M.cs (gc M.cs M.pr 3) (M.x.getD i.a.toNat 0) 3;rw [show (t0 M i wd).ra=i.a from rfl] at o m;have O:(dA M (M.x.getD i.a.toNat 0) 3).x=M.x:=rfl;generalize ea:M.x.getD i.a.toNat 0=a at *;generalize eb:M.x.getD i.b.toNat 0=b at *;generalize bD i.op=n at *;generalize dA M a 3=N at *;generalize cy M a 3=F at *;obtain ⟨pa,fc,fm,ft,fe⟩:=F;dsimp only at *;subst hcc;obtain ⟨l,f⟩:∃ l:TV,l=t0 M i wd:=⟨_,rfl⟩;have hup:l.up=false:=by rw [f];rfl
 have hld:l.ld=.func (.func 50) #[] #[]:=by rw [f];rfl
 have H:l.ra=i.a:=by rw [f];rfl
 have hrb:l.rb=i.b:=by rw [f];rfl
 have I:l.rd=i.rd:=by rw [f];rfl
 have hto:l.op=i.op:=by rw [f];rfl
 have p:l.fm=eO i.op:=by rw [f];rfl
 have hnx:l.nx=Uz.wrap (M.pc+4):=by rw [f];rfl
 rw [<- f] at h o m;clear f;refine gg (args:=[.p g 0]) (Tq B g w0 M A l) func179 ?_;refine aK 0 1 ?_;cases hz:(a.tmod n != 0) with
 | true =>rw [if_pos rfl];refine aS (Tq.eng (dr:=true)) {} 60 h (λW hW=>o W hW hz) ?_;rintro W1 e W2 h1 ⟨rfl,K⟩;refine ⟨_,0,rfl,gh ba,?_⟩;exact F7 (R:=[]) trivial {} 40 ba ba rfl K ⟨iE (k:=6) rfl rfl,T,I,p,λ_=>⟨6,bc,rfl⟩⟩
 | false =>
   rw [if_neg bc];refine aS (Tq.eng (dr:=true)) {} 60 h (λW hW=>m W hW hz) ?_;rintro W1 e W2 h1 ⟨C,rfl,K⟩;refine ⟨_,0,rfl,gh ba,?_⟩;unfold zi at K;cases hc:(((cc:Nat):Int) != 0) with
   | true =>rw [hc,if_pos rfl] at K;rw [if_pos rfl,Int.toNat_natCast];exact F7 (R:=[]) trivial {} 40 ba ba rfl K ⟨iE (k:=cc) rfl rfl,gl,I,p,λ_=>⟨cc,c16,rfl⟩⟩
   | false =>
     rw [hc,if_neg bc] at K;rw [if_neg bc];refine an (R:=[]) trivial {} 13 ?_;refine af [.code (aq 1 (aL Tryz.f179))] [(0,.p g 0,1)] ?_;have ha2:=λW (h:Tq B g w0 N C l W)=>Vz h (by rw [O];exact u) (by rw [H];exact q.a0) (by rw [H];exact q.a31) (v:=a) (by rw [O,H];exact ea);have hl2:=λW (h:Tq B g w0 N C l W)=>F6 h gl hld .am n true ab (by rw [p,hf]) a ua;have ga:=gl.acc a n 2 0;have da:=AG dl a n 2 l8;have uy:=tX gl dl a n ab 2 0;have r:=(iS N a n 2 0).2.1;have e18:=λc=>AE (M:=N) (addr:=a) (size:=n) (x:=0) (c:=c);rw [O] at r;generalize aC N a n 2 0=X at *;obtain ⟨y,s,V⟩:=X;dsimp only at *;refine aH (Tq B g w0 N C l) ?_;refine aS (Tq.eng (dr:=true)) {cv:=[(18,t7 ha2)]} 60 K hl2 ?_;rintro W3 e W4 h3 ⟨D,rfl,G⟩;refine ⟨_,0,rfl,gh ba,?_⟩;unfold tZ nP at G;dsimp only at G;cases L:(V != 0) with
     | true =>obtain ⟨q1,q2,q3⟩:=e18 V rfl L;rw [L,if_pos rfl,if_pos rfl] at G;rw [if_pos rfl];refine aH (λ_=>True) ?_;rw [q1] at G;refine pw (R1:=[⟨g,bL s D {l with up:=true,cz:=(((V-16).toNat+2:Nat):Int),vl:=a},[]⟩]) (Iv.one G.row) {eq:=[(28,dG .i64 q2)]} 60 λW5 h5=>⟨rfl,s,D,{l with up:=true,cz:=(((V-16).toNat+2:Nat):Int),vl:=a},?_,G.iv h5 rfl⟩;exact ⟨iE (k:=(V-16).toNat+2) rfl rfl,ga,I,p,λ_=>⟨_,q3,rfl⟩⟩
     | false =>
       rw [L,if_neg bc,if_pos rfl] at G;rw [if_neg bc];refine an (R:=[]) trivial {} 14 ?_;refine af [.code (aq 3 (aL Tryz.f179))] [(0,.p g 0,1),(4,.u y,0)] ?_;obtain ⟨j,d⟩:∃ j:TV,j={l with rs:=au (8*n) y}:=⟨_,rfl⟩;have up2:j.up=false:=(by rw [d];exact hup);have ld2:j.ld=.func (.func 50) #[] #[]:=(by rw [d];exact hld);have P:j.ra=i.a:=(by rw [d];exact H);have Q:j.rb=i.b:=(by rw [d];exact hrb);have S:j.rd=i.rd:=(by rw [d];exact I);have to2:j.op=i.op:=(by rw [d];exact hto);have J:j.fm=eO i.op:=(by rw [d];exact p);have nx2:j.nx=Uz.wrap (M.pc+4):=(by rw [d];exact hnx);have rs2:j.rs=au (8*n) y:=(by rw [d]);rw [<- d] at G;clear d;have uv:U (iT i.op y b):=H6 i.op uy ub;have ha3:=λW (h:Tq B g w0 s D j W)=>Vz h (by rw [r];exact u) (by rw [P];exact q.a0) (by rw [P];exact q.a31) (v:=a) (by rw [r,P];exact ea);have hb3:=λW (h:Tq B g w0 s D j W)=>VI h (by rw [r];exact u) (by rw [Q];exact q.b0) (by rw [Q];exact q.b31) (v:=b) (by rw [r,Q];exact eb);have hm3:=λW (_:Tq B g w0 s D j W)=>Dg i.op y b (tW ab ab) uy.1 uy.2 ub.1 ub.2 W;have hst:=λW (h:Tq B g w0 s D j W)=>AS h ga ld2 .am n true ab (by rw [J,hf]) a (iT i.op y b) ua uv;have gb:=ga.acc a n 3 (iT i.op y b);have hrf:=λX (hX:aC s a n 3 (iT i.op y b)=X) hc=>na (cf:=false) (i:=i) (t:=j) hX ga hc S J;generalize iT i.op y b=z at *;generalize sK i.op=zb at *;generalize aC s a n 3 z=Y at *;obtain ⟨y3,N3,c3⟩:=Y;dsimp only at *;refine aH (Tq B g w0 s D j) ?_;refine aS (Tq.eng (dr:=true)) {eq:=[(36,dG .i64 to2)],cv:=[(39,t7 hb3),(40,OD hm3),(45,t7 ha3)]} 80 G hst ?_;rintro W5 e W6 h5 ⟨E,rfl,h6⟩;refine ⟨_,0,rfl,gh ba,?_⟩;refine mu {} 40 ba ba rfl ⟨rfl,N3,E,_,?_,h6⟩;cases Z:(c3 != 0) with
       | true =>rw [if_pos rfl];exact hrf _ rfl Z
       | false =>rw [if_neg bc];unfold nP;dsimp only;rw [Z,if_neg bc];refine ⟨?_,gb,S,J,λe=>by rw [up2] at e;cases e⟩;rw [iY up2,nx2,S,rs2]
end
structure Tz (B g:Nat) (w0:World) (M:MV) (A:MA) (t:TV) (K:Nat) (a':Option Addr) (c':Nat) (l:List Int) (W:World):Prop where
 q:Tq B g w0 M A t W
 f:bA B K W (aG M A)
 o:W.ownsRow K 22 1 (.slice a' l.length c') l.length (l.map (Value.int .u64))
 bk:B<=K
 kw:K<=W.heap.size
 gk:g<K
def VA:Go.Code->Go.Code
 | .block _ c=>c
 | c=>c
section
variable {B g K : Nat} {w0 w w' W : World} {M M' : MV} {A A' : MA} {t t' : TV} {a' : Option Addr} {c' : Nat} {l : List Int}
theorem Tz.below (h:Tz B g w0 M A t K a' c' l w) (hb:Bw w w'):Tz B g w0 M A t K a' c' l w' :=
 ⟨h.q.below hb,h.f.below hb,eg h.o λk e=>hb.block k (h.o.lt k e).2,h.bk,Nat.le_trans h.kw hb.size,h.gk⟩
theorem Tz.iv (h:Tz B g w0 M A t K a' c' l w) (k:Iv [g] w [⟨g,bL M A t',[]⟩] w'):Tz B g w0 M A t' K a' c' l w':=by have a:=h.gk;exact ⟨h.q.iv k rfl,h.q.other h.f k,eg h.o λi e=>k.ag.block i (h.o.lt i e).2 (by rw [List.mem_singleton];have:=(h.o.lt i e).1;omega),h.bk,Nat.le_trans h.kw k.ag.size,h.gk⟩
theorem Tz.eng {P:Program} {fn:Func} {Rs:Ending->World->Prop} {dr:Bool}:nZ P (Tz B g w0 M A t K a' c' l) (Tz B g w0 M A t K a' c' l) [⟨g,bL M A t,[]⟩] dr (bodyPost P fn Rs):=
 ⟨λ_ h=>h,λW h r a=>by rw [List.mem_singleton] at a;subst a;exact h.q.row.in_,λ_ W h=>h.below (Below.refl _ _).drew,cH⟩
theorem Tz.eng2 {P:Program} {fn:Func} {Rs:Ending->World->Prop} {dr:Bool} {b:Nat} {a2:Option Addr} {c2:Nat} {c:List Int}:nZ P (Tz B g w0 M A t K a' c' l) (λW=>Tz B g w0 M A t K a' c' l W/\Tz B g w0 M A t b a2 c2 c W) [⟨g,bL M A t,[]⟩] dr (bodyPost P fn Rs):=
 ⟨λ_ h=>h.1,λW h r a=>by rw [List.mem_singleton] at a;subst a;exact h.q.row.in_,λ_ W h=>⟨h.1.below (Below.refl _ _).drew,h.2.below (Below.refl _ _).drew⟩,cH⟩
def Wj {P:Program} {f:Nat} {args:Array Value} {v:Value} (h:∀ W,Tz B g w0 M A t K a' c' l W->Calls P f args W λe w'=>e=.returned v/\Iv [g] W [⟨g,bL M A t,[]⟩] w'):Cv P (Tz B g w0 M A t K a' c' l):=⟨f,args,v,0,λW a=>(h W a).mono λe w' k=>⟨k.1,a.iv k.2⟩⟩
theorem Tz.set {b:Nat} (h:Tz B g w0 M A t K (some ⟨b,0,none⟩) c' l w) (i:Nat) (v:Int):Tz B g w0 M A t K (some ⟨b,0,none⟩) c' (l.set i v) (w.setCell ⟨b,i,none⟩ (.u v)):=by
 have f:=h.o.stored i (.u v);rw [mU] at f;have n:=(h.o.lt b rfl).1;have c:∀ k,k≠b->(w.setCell ⟨b,i,none⟩ (.u v)).heap[k]?=w.heap[k]?:=λk c=>Below.heap_setCell w _ _ k c;have a:(w.setCell ⟨b,i,none⟩ (.u v)).heap.size=w.heap.size:=aT _ _ _;have p:=h.bk;have o:=h.gk;refine ⟨⟨?_,?_,h.q.ne,by rw [a];exact h.q.le,h.q.os,h.q.tape,h.q.output,by rw [a];exact h.q.size,λk j d=>(c k ab).trans (h.q.block k j d),h.q.t0,h.q.tb,h.q.tn⟩,h.f.mono λk _ d _=>c k ab,?_,h.bk,by rw [a];exact h.kw,h.gk⟩;·obtain ⟨T,m⟩:=h.q.row;exact ⟨T,(c g ab).trans m⟩
 ·rw [a];have e:K<=w.heap.size:=(by have:=(h.o.lt b rfl).2;omega);exact (h.f.mono λk _ d _=>c k ab).low (Nat.le_refl _) e
 ·rw [List.length_set];exact f.1
theorem Tz.csrs (h:Tz B g w0 M A t K a' c' l w) (a:M'.x=M.x/\M'.cs=l/\M'.ram=M.ram/\M'.d=M.d) (k:Iv [g] w [⟨g,bL M' {A with ac:=a',cc:=c'} t',[]⟩] w'):Tq B g w0 M' {A with ac:=a',cc:=c'} t' w':=by
 have c:=h.gk;have o:=eg (w':=w') h.o λi e=>k.ag.block i (h.o.lt i e).2 (by rw [List.mem_singleton];have:=(h.o.lt i e).1;omega);have b:K<=w'.heap.size:=Nat.le_trans h.kw k.ag.size;have f:=h.q.other h.f k;have d:=AQ (L1:=[aJ A.ax M.x.length A.cx M.x]) (L2:=[aD A.ar M.ram.length A.cr M.ram,aD A.ai M.d.xs.length A.ci M.d.xs,aD A.ao M.d.ys.length A.co M.d.ys]) (r:=aJ A.ac M.cs.length A.cc M.cs) (q:=aJ a' l.length c' l) h.q.ne λe=>by have:=(o.lt g e).1;omega
 refine h.q.iv1 k ?_ (by unfold aG;rw [a.1,a.2.1,a.2.2.1,a.2.2.2];exact d);unfold aG;rw [a.1,a.2.1,a.2.2.1,a.2.2.2];exact bA.swap (L1:=[aJ A.ax M.x.length A.cx M.x]) (r:=aJ A.ac M.cs.length A.cc M.cs) (L2:=[aD A.ar M.ram.length A.cr M.ram,aD A.ai M.d.xs.length A.ci M.d.xs,aD A.ao M.d.ys.length A.co M.d.ys]) f (aJ a' l.length c' l) o h.bk b (Nat.le_refl _)
theorem Tz.at_ (h:Tz B g w0 M A t K a' c' l w) (a:l.length=22):∃ b,a'=some ⟨b,0,none⟩/\∀ j,j<22->w.cell? ⟨b,j,none⟩=some (.u (l.getD j 0))/\w.frozen? ⟨b,j,none⟩=false:=by obtain ⟨b,c,e,d⟩:=sO h.o a ab;exact ⟨b,c,d⟩
theorem Kl (a:Int) (h:Tq B g w0 M A t w) (c:M.x.length=32) (f:0<=t.ra) (i:t.ra<=31) (l:87<=t.op/\t.op<=92):Calls prog 237 #[.p g 0,.u a] w λe w'=>e=.returned (.u (pW t.op a (if 90<=t.op then Uz.wrap t.ra else M.x.getD t.ra.toNat 0)))/\Iv [g] w [⟨g,bL M A t,[]⟩] w':=by obtain ⟨b,j,d,k⟩:=h.atX c;have:=Ki (x:=M.x.getD (0+t.ra.toNat) 0) a h.row ab j ⟨f,ab⟩ d (k (0+t.ra.toNat) ab).1;rw [Nat.zero_add] at this;exact this
theorem QE (i:Ins) (a old:Int) (c:87<=i.op) (d:i.op<=92):uk i a old=pW i.op old (if 90<=i.op then Uz.wrap i.a else a):=by
 obtain ⟨b,h,f,g,e⟩:=i;dsimp only at c d;unfold uk pW lW;dsimp only;obtain rfl|rfl|rfl|rfl|rfl|rfl:b=87\/b=88\/b=89\/b=90\/b=91\/b=92:=ab
 all_goals rfl
theorem UB (i:Ins) (wd:Int) (hi:jN i) (h87:87<=i.op) (h92:i.op<=92) (h:Tq B g w0 M A (t0 M i wd) w) (Z:Gd M):Calls prog 180 #[.p g 0] w (TR B g w0 (Pf true (nM M i (M.x.getD i.a.toNat 0) wd) i)):=by
 obtain ⟨G,hcs,hpr,_,_,_⟩:=aI Z.ok;have h32:=Z.x32;have ua:=Z.ux i.a.toNat;have uc:=Z.mw.cs;obtain ⟨V,hV⟩:∃ V,nM M i (M.x.getD i.a.toNat 0) wd=V:=⟨_,rfl⟩;rw [hV];have D:=λW (h:Tq B g w0 M A (t0 M i wd) W)=>uj A.ac M.cs.length A.cc M.cs i.imm M.pr W rfl h.sl.cs uc;rw [LU _ _ uc,wi _ _ uc] at D;obtain ⟨d,p⟩:∃ d:TV,d=t0 M i wd:=⟨_,rfl⟩;have L:d.up=false:=by rw [p];rfl
 have n:d.ra=i.a:=by rw [p];rfl
 have s:d.rd=i.rd:=by rw [p];rfl
 have C:d.fm=eO i.op:=by rw [p];rfl
 have K:d.nx=Uz.wrap (M.pc+4):=by rw [p];rfl
 have hwd:d.wd=wd:=by rw [p];rfl
 have m:d.op=i.op:=by rw [p];rfl
 have him:d.im=i.imm:=by rw [p];rfl
 rw [<- p] at h D;clear p;refine gg (args:=[.p g 0]) (Tq B g w0 M A d) func180 ?_;refine aK 0 1 ?_; -- refused
 have bad:∀ (S:World->Prop) (a:TV),a.wd=wd->a.rd=i.rd->a.fm=eO i.op->V=(aM M 2 false wd,2)->∀ (H:Hn prog (Tq B g w0 M A a) (Tq B g w0 M A a)) (k:List KI) (F:Fr) (W:World),Tq B g w0 M A a W->ij k=true->((bp prog [⟨g,bL M A a,[]⟩] H Tryz.f180.ntmps true 60 k F).1.1,OA prog Tryz.f180.ntmps (bp prog [⟨g,bL M A a,[]⟩] H Tryz.f180.ntmps true 60 k F).1.2.2 (bp prog [⟨g,bL M A a,[]⟩] H Tryz.f180.ntmps true 60 k F).1.2.1)=(false,some (168,#[.p g 0]))->(bp prog [⟨g,bL M A a,[]⟩] H Tryz.f180.ntmps true 60 k F).2.map Prod.fst=(bp prog [⟨g,bL M A a,[]⟩] H Tryz.f180.ntmps true 60 k F).2.map Prod.snd ->
  (zB (bp prog [⟨g,bL M A a,[]⟩] H Tryz.f180.ntmps true 60 k F).1.2.2 (bp prog [⟨g,bL M A a,[]⟩] H Tryz.f180.ntmps true 60 k F).1.2.1,ij (po (bp prog [⟨g,bL M A a,[]⟩] H Tryz.f180.ntmps true 60 k F).1.2.2 (bp prog [⟨g,bL M A a,[]⟩] H Tryz.f180.ntmps true 60 k F).1.2.1))=(false,true) ->
  (∀ J:World->Prop,(λ(y:(Bool × List KI × Fr) × List (Oe × Oe))=>(y.1.1,y.2.map Prod.fst)) (bp prog [] ({}:Hn prog J J) Tryz.f180.ntmps false 20 (po (bp prog [⟨g,bL M A a,[]⟩] H Tryz.f180.ntmps true 60 k F).1.2.2 (bp prog [⟨g,bL M A a,[]⟩] H Tryz.f180.ntmps true 60 k F).1.2.1) (qA (bp prog [⟨g,bL M A a,[]⟩] H Tryz.f180.ntmps true 60 k F).1.2.2 (bp prog [⟨g,bL M A a,[]⟩] H Tryz.f180.ntmps true 60 k F).1.2.1 (.tuple #[]) 0))=(true,[])) ->
  Wg prog S (bodyPost prog Tryz.f180 (TR B g w0 (Pf true V i))) Tryz.f180.ntmps k F W:=by
  intro S a x1 x2 x3 x4 H k F W z hn hx he hb hy
  simp only [Prod.mk.injEq] at hb
  refine aH (Tq B g w0 M A a) (hn:=hn) ?_
  refine aS (Tq.eng (dr:=true)) H 60 z (λW z=>px z.row) (hx:=hx) (he:=he) λW1 e w2 h1 hr=>⟨_,0,hr.1,gh hb.1,?_⟩
  have h2:=h1.iv hr.2 rfl
  have hy2:=hy (λx=>x=w2)
  simp only [Prod.mk.injEq] at hy2
  refine F7 (R:=[]) trivial {} 20 (by rw [hb.2,hy2.1]) ?_ rfl h2 ⟨?_,Z,x2,x3,λ_=>⟨2,bc,rfl⟩⟩
  ·have:(bp prog [] ({}:Hn prog (λx=>x=w2) (λx=>x=w2)) Tryz.f180.ntmps false 20 (po (bp prog [⟨g,bL M A a,[]⟩] H Tryz.f180.ntmps true 60 k F).1.2.2 (bp prog [⟨g,bL M A a,[]⟩] H Tryz.f180.ntmps true 60 k F).1.2.1) (qA (bp prog [⟨g,bL M A a,[]⟩] H Tryz.f180.ntmps true 60 k F).1.2.2 (bp prog [⟨g,bL M A a,[]⟩] H Tryz.f180.ntmps true 60 k F).1.2.1 (.tuple #[]) 0)).2=[]:=List.map_eq_nil_iff.1 hy2.2
   rw [this];rfl
  ·rw [iE (k:=2) rfl rfl,x4]
   show (aM M 2 false a.wd,2)=_
   rw [x1]
 cases t:jt M.cs.length M.cs i.imm M.pr with
 | false =>rw [t] at D;have x4:V=(aM M 2 false wd,2):=(by rw [<- hV];unfold nM;rw [t];rfl);exact bad _ d hwd s C x4 {eq:=[(15,dG .i64 him)],cv:=[(21,OD D)]} _ _ w h ba ba ba ba (λ_=>ba)
 | true =>
   rw [t,if_pos rfl] at D;have hold:=NK uc i.imm;have hkn:dB i.imm=true:=(by have q:=t;unfold jt at q;simp only [Bool.and_eq_true] at q;exact q.1.1.2);have f:(if (ey i&&((wrap64 (i.imm.tdiv 1024)).tmod 4==3))=true then (aM M 2 false wd,2) else (if ey i=true then iK (be M i.rd (dE M.cs i.imm) (Uz.wrap (M.pc+4))) (cn (M.cs.set 21 (Uz.wrap (M.cs.getD 21 0+1))) i.imm (uk i (M.x.getD i.a.toNat 0) (dE M.cs i.imm))) else be M i.rd (dE M.cs i.imm) (Uz.wrap (M.pc+4)),1))=V:=(by rw [<- hV];unfold nM;rw [t];rfl);clear hV;have hX:=QE i (M.x.getD i.a.toNat 0) (dE M.cs i.imm) h87 h92;generalize dE M.cs i.imm=old at *;have fin:∀ (S:World->Prop) (K2:Nat) (X:Option Addr) (Y:Nat) (l2:List Int) (a:TV) (W:World),Tz B g w0 M A a K2 X Y l2 W->a.rd=i.rd->a.fm=eO i.op->a.up=false->a.nx=Uz.wrap (M.pc+4)->Gd (iK M l2)->(iK (be M i.rd old (Uz.wrap (M.pc+4))) l2,1)=V->Wg prog S (bodyPost prog Tryz.f180 (TR B g w0 (Pf true V i))) Tryz.f180.ntmps [.code (aq 5 (aL Tryz.f180))] [(0,.p g 0,1),(2,.u old,0),(3,.bool true,0),(4,.slice X l2.length Y,0)] W:=(by intro S K2 X Y l2 a W hz x1 x2 x3 x4 x5 x6;refine aH (λ_=>True) ?_;refine gp (R1:=[⟨g,bL (iK M l2) {A with ac:=X,cc:=Y} {a with rs:=old},[]⟩]) (Iv.one hz.q.row) {} 60 λW5 h5=>⟨rfl,iK M l2,_,{a with rs:=old},⟨?_,x5,x1,x2,λe=>by rw [show TV.up {a with rs:=old}=a.up from rfl,x3] at e;cases e⟩,hz.csrs ⟨rfl,rfl,rfl,rfl⟩ h5⟩;rw [<- x6];unfold ur;rw [show TV.up {a with rs:=old}=a.up from rfl,x3];unfold iK be;rw [<- x4,<- x1];rfl);refine aS (Tq.eng (dr:=true)) {eq:=[(15,dG .i64 him)],cv:=[(21,OD D)]} 100 h (λW z=>pd A.ac M.cs.length A.cc M.cs W rfl Z.len.cs z.sl.cs) ?_;rintro W1 e W2 h1 ⟨a',c',rfl,o2,k2⟩;refine ⟨_,0,rfl,gh ba,?_⟩;have hz2:Tz B g w0 M A d W1.heap.size a' c' M.cs W2:=⟨h1.below k2,h1.fam.below k2,o2,h1.le,k2.size,h1.glt⟩;obtain ⟨b,rfl,_⟩:=hz2.at_ G;have cc:∀ W,Tz B g w0 M A d W1.heap.size (some ⟨b,0,none⟩) c' M.cs W->W.cell? ⟨b,0+(21:Int).toNat,none⟩=some (.u (M.cs.getD 21 0))/\W.frozen? ⟨b,0+(21:Int).toNat,none⟩=false:=λW z=>by obtain ⟨b',hb',P⟩:=z.at_ G;cases hb';exact P 21 ab
   refine aH (Tz B g w0 M A d W1.heap.size (some ⟨b,0,none⟩) c' M.cs) ?_;refine ae (Tz.eng (dr:=false)) {ov:=[(35,kF (b:=b) (o:=0) M.cs.length c' .i64 21 rfl ⟨ab,ab⟩ underlying23 ba),(36,iL ⟨b,0+(21:Int).toNat,none⟩ (.u (M.cs.getD 21 0)) underlying22 rfl (λW z=>(cc W z).1)),(38,kF (b:=b) (o:=0) M.cs.length c' .i64 21 rfl ⟨ab,ab⟩ underlying23 ba)]} 40 hz2 λW3 hz3=>?_;refine bM (jw (T:=22) (v:=.u (Uz.wrap (M.cs.getD 21 0+1))) (cc W3 hz3) ba rfl) ?_;have c:=hz3.set 21 (Uz.wrap (M.cs.getD 21 0+1));have E:(M.cs.set 21 (Uz.wrap (M.cs.getD 21 0+1))).length=22:=(by rw [List.length_set];exact G);have Q:bE 22 (M.cs.set 21 (Uz.wrap (M.cs.getD 21 0+1)))=true:=cR M.cs G hcs 21 ab _ (beq_self_eq_true _);have lU:∀ j,U ((M.cs.set 21 (Uz.wrap (M.cs.getD 21 0+1))).getD j 0):=jE _ uc 21 _ (aU _);have l9:(M.cs.set 21 (Uz.wrap (M.cs.getD 21 0+1))).getD 9 0=M.cs.getD 9 0:=jY _ 21 9 _ ab;have ll:M.cs.length=(M.cs.set 21 (Uz.wrap (M.cs.getD 21 0+1))).length:=(by rw [List.length_set]);have I:be M i.rd old (Uz.wrap (M.pc+4))=iK (be M i.rd old (Uz.wrap (M.pc+4))) (M.cs.set 21 (Uz.wrap (M.cs.getD 21 0+1))):=rfl;refine an (R:=[]) trivial {} 1 ?_;refine af [.code (aq 4 (aL Tryz.f180))] [(0,.p g 0,1),(2,.u old,0),(3,.bool true,0),(4,.slice (some ⟨b,0,none⟩) M.cs.length c',0)] ?_;rw [ll];rw [I] at f;generalize M.cs.set 21 (Uz.wrap (M.cs.getD 21 0+1))=l at *;clear I ll;have write:∀ (S:World->Prop),ey i=true->Wg prog S (bodyPost prog Tryz.f180 (TR B g w0 (Pf true V i))) Tryz.f180.ntmps [.code (aq 1 (VA (aq 1 (iF (aq 4 (aL Tryz.f180)))))),.blk 0,.code (aq 5 (aL Tryz.f180))] [(0,.p g 0,1),(2,.u old,0),(3,.bool true,0),(4,.slice (some ⟨b,0,none⟩) l.length c',0)] (W3.setCell ⟨b,21,none⟩ (.u (Uz.wrap (M.cs.getD 21 0+1)))):=by
    intro S u;rw [u,Bool.true_and,if_pos rfl] at f;obtain ⟨a,r⟩:∃ a:TV,a={d with wr:=true}:=⟨_,rfl⟩;have xup:a.up=false:=(by rw [r];exact L);have xra:a.ra=i.a:=(by rw [r];exact n);have xrd:a.rd=i.rd:=(by rw [r];exact s);have xfm:a.fm=eO i.op:=(by rw [r];exact C);have xnx:a.nx=Uz.wrap (M.pc+4):=(by rw [r];exact K);have xwd:a.wd=wd:=(by rw [r];exact hwd);have xop:a.op=i.op:=(by rw [r];exact m);have xim:a.im=i.imm:=(by rw [r];exact him);refine aH (λ_=>True) ?_;refine oC (R1:=[⟨g,bL M A {d with wr:=true},[]⟩]) (Iv.one c.q.row) {} 8 λW5 h5=>?_;rw [<- r] at h5;have hz5:=c.iv h5;clear r;have hwo:=λW (z:Tz B g w0 M A a W1.heap.size (some ⟨b,0,none⟩) c' l W)=>Kl old z.q h32 (by rw [xra];exact hi.a0) (by rw [xra];exact hi.a31) (by rw [xop];exact ⟨h87,h92⟩);rw [xop,xra,<- hX] at hwo;have ux:U (uk i (M.x.getD i.a.toNat 0) old):=by
     have hga:U (lW i (M.x.getD i.a.toNat 0)):=(by unfold lW;split;exact aU _;exact ua);unfold uk;split;·exact ah _ _ _
     ·split;·exact ah _ _ _
      ·exact hga
    clear hX;generalize uk i (M.x.getD i.a.toNat 0) old=x at *;have N:=λW (z:Tz B g w0 M A a W1.heap.size (some ⟨b,0,none⟩) c' l W)=>sj (some ⟨b,0,none⟩) l.length c' l i.imm M.pr x W rfl (fO z.o) lU ux.1 ux.2;rw [Jy _ _ rfl lU _ _ _ ux,yL _ _ lU] at N;have ewo:DQ l.length l i.imm M.pr=!((wrap64 (i.imm.tdiv 1024)).tmod 4==3):=by
     unfold DQ;have:jt l.length l i.imm M.pr=true:=by unfold jt at t ⊢;rw [G] at t;rw [E,Q];rw [hcs] at t;exact t
     rw [this,Bool.true_and]
    rw [ewo] at N;unfold DR at N;rw [ewo] at N;refine aH (Tz B g w0 M A a W1.heap.size (some ⟨b,0,none⟩) c' l) ?_;refine aS (Tz.eng (dr:=true)) {eq:=[(64,dG .i64 xim)],cv:=[(72,Wj hwo)]} 60 hz5 N ?_;rintro W6 e W7 h6 ⟨X,Y,rfl,o7,k7⟩;refine ⟨_,0,rfl,λ_=>h6.below k7,?_⟩;have h7:=h6.below k7;cases hro:((wrap64 (i.imm.tdiv 1024)).tmod 4==3) with
    | true =>rw [hro,if_pos rfl] at f;refine ae (Tz.eng (dr:=true)) {} 7 h7 λW8 h8=>?_;refine af [.code (aq 5 (aL Tryz.f180))] [(0,.p g 0,1),(3,.bool false,0)] ?_;exact bad _ a xwd xrd xfm f.symm {} _ _ W8 h8.q ba ba ba ba (λ_=>ba)
    | false =>rw [hro,if_neg bc] at f;rw [hro] at o7;have o8:W7.ownsRow W6.heap.size 22 1 (.slice X (cn l i.imm x).length Y) (cn l i.imm x).length ((cn l i.imm x).map (Value.int .u64)):=o7;have gw:Gd (iK M (cn l i.imm x)):=(by have g1:Gd (iK M l):=Z.cs_ E Q lU (by rw [l9]);exact g1.cs_ (M:=iK M l) (by rw [pY];exact E) (tI _ E lU Q _ _ ux hkn) (GW _ lU _ _ ux) (H7 _ E _ _));generalize cn l i.imm x=l3 at *;have hz7:Tz B g w0 M A a W6.heap.size X Y l3 W7:=⟨h7.q,h6.q.fam.below k7,o8,h6.q.le,k7.size,h6.q.glt⟩;refine ae (Tz.eng2 (dr:=true)) {} 7 ⟨h7,hz7⟩ λW8 h8=>?_;exact af _ _ (fin _ _ X Y l3 a W8 h8.2 xrd xfm xup xnx gw f)
   have g0:Gd (iK M l):=Z.cs_ E Q lU (by rw [l9]);by_cases O:i.a=0
   ·obtain e|e|e|e|e|e:i.op=87\/i.op=90\/i.op=88\/i.op=89\/i.op=91\/i.op=92:=ab;·refine an (R:=[⟨g,bL M A d,[]⟩]) ⟨c.q.row.in_,trivial⟩ {eq:=[(43,dG .i64 (m.trans e))]} 41 ?_;exact af _ _ (write _ (by unfold ey;rw [e];rfl))
    ·refine an (R:=[⟨g,bL M A d,[]⟩]) ⟨c.q.row.in_,trivial⟩ {eq:=[(43,dG .i64 (m.trans e))]} 41 ?_;exact af _ _ (write _ (by unfold ey;rw [e];rfl))
    ·refine an (R:=[⟨g,bL M A d,[]⟩]) ⟨c.q.row.in_,trivial⟩ {eq:=[(43,dG .i64 (m.trans e)),(53,dG .i64 (n.trans O))]} 36 ?_;exact a0r
    ·refine an (R:=[⟨g,bL M A d,[]⟩]) ⟨c.q.row.in_,trivial⟩ {eq:=[(43,dG .i64 (m.trans e)),(53,dG .i64 (n.trans O))]} 42 ?_;exact a0r
    ·refine an (R:=[⟨g,bL M A d,[]⟩]) ⟨c.q.row.in_,trivial⟩ {eq:=[(43,dG .i64 (m.trans e)),(53,dG .i64 (n.trans O))]} 48 ?_;exact a0r
    ·refine an (R:=[⟨g,bL M A d,[]⟩]) ⟨c.q.row.in_,trivial⟩ {eq:=[(43,dG .i64 (m.trans e)),(53,dG .i64 (n.trans O))]} 51 ?_;exact a0r
   ·have nA:(i.a==0)=false:=(by simpa using O);have u:ey i=true:=(by unfold ey;rw [bne,nA];simp);obtain e|e|e|e|e|e:i.op=87\/i.op=90\/i.op=88\/i.op=89\/i.op=91\/i.op=92:=ab;·refine an (R:=[⟨g,bL M A d,[]⟩]) ⟨c.q.row.in_,trivial⟩ {eq:=[(43,dG .i64 (m.trans e)),(53,dG .i64 n),(54,ak nA)]} 41 ?_;exact af _ _ (write _ u)
    ·refine an (R:=[⟨g,bL M A d,[]⟩]) ⟨c.q.row.in_,trivial⟩ {eq:=[(43,dG .i64 (m.trans e)),(53,dG .i64 n),(54,ak nA)]} 41 ?_;exact af _ _ (write _ u)
    ·refine an (R:=[⟨g,bL M A d,[]⟩]) ⟨c.q.row.in_,trivial⟩ {eq:=[(43,dG .i64 (m.trans e)),(53,dG .i64 n),(54,ak nA)]} 37 ?_;exact af _ _ (write _ u)
    ·refine an (R:=[⟨g,bL M A d,[]⟩]) ⟨c.q.row.in_,trivial⟩ {eq:=[(43,dG .i64 (m.trans e)),(53,dG .i64 n),(54,ak nA)]} 43 ?_;exact af _ _ (write _ u)
    ·refine an (R:=[⟨g,bL M A d,[]⟩]) ⟨c.q.row.in_,trivial⟩ {eq:=[(43,dG .i64 (m.trans e)),(53,dG .i64 n),(54,ak nA)]} 49 ?_;exact af _ _ (write _ u)
    ·refine an (R:=[⟨g,bL M A d,[]⟩]) ⟨c.q.row.in_,trivial⟩ {eq:=[(43,dG .i64 (m.trans e)),(53,dG .i64 n),(54,ak nA)]} 52 ?_;exact af _ _ (write _ u)
end
section
variable {B g K : Nat} {w0 w w' W : World} {M M' : MV} {A A' : MA} {t t' : TV} {a' : Option Addr} {c' : Nat} {l : List Int}
theorem Tz.engQ {P:Program} {fn:Func} {Rs:Ending->World->Prop} {dr:Bool}:nZ P (Tq B g w0 M A t) (Tz B g w0 M A t K a' c' l) [⟨g,bL M A t,[]⟩] dr (bodyPost P fn Rs):=
 ⟨λ_ h=>h.q,λW h r a=>by rw [List.mem_singleton] at a;subst a;exact h.row.in_,λ_ W h=>h.below (Below.refl _ _).drew,cH⟩
theorem Iv.cell {cs:Array Value} (h:Iv [g] w [⟨g,cs,[]⟩] W) (i:Nat) (v:Value):Iv [g] w [⟨g,cs.setIfInBounds i v,[]⟩] (W.setCell ⟨g,i,none⟩ v):=by obtain ⟨T,b⟩:=h.row1;refine ⟨λr a=>by rw [List.mem_singleton] at a;subst a;exact ⟨T,bI b i v⟩,h.ag.trans (Lo cp W i v),λr a=>by rw [List.mem_singleton] at a;subst a;simp,cp⟩
theorem Ij (h:Tq B g w0 M A t w) (o:Gd M) (k:Nat) (hk:k<16) (i:Bool) (v:Int):Calls prog 112 #[.p g 0,.i k,.bool i,.u v] w λe w'=>e=.returned (.tuple #[])/\∃ A',Tq B g w0 (aM M k i v) A' t w':=by
 have j:bn M.cs.length M.cs M.pr=true:=(fg o.ok).2.2.1;have f:=λW (y:Tq B g w0 M A t W)=>xY A.ac M.cs.length A.cc M.cs M.pr M.pc k i v W rfl y.sl.cs o.mw.cs;have d:Ak M.cs.length M.cs M.pr k=true:=by unfold Ak;rw [j];unfold UM;simp;omega
 have n:sp M.cs.length M.cs M.pr M.pc k i v=(aM M k i v).cs:=by unfold sp;rw [d];rfl
 have e2:Fh M.cs.length M.cs M.pr k i=(aM M k i v).pr:=by unfold Fh;rw [d];rfl
 have e3:Fi M.cs.length M.cs M.pr k i=(aM M k i v).pc:=by unfold Fi;rw [d];rfl
 rw [n,e2,e3,d] at f;have c:(aM M k i v).x=M.x/\(aM M k i v).cs=(aM M k i v).cs/\(aM M k i v).ram=M.ram/\(aM M k i v).d=M.d/\(aM M k i v).hd=M.hd/\(aM M k i v).hl=M.hl/\(aM M k i v).wt=M.wt:=⟨rfl,rfl,rfl,rfl,rfl,rfl,rfl⟩;generalize aM M k i v=N at *;clear n e2 e3 d j;refine gg (args:=[.p g 0,.i k,.bool i,.u v]) (Tq B g w0 M A t) func112 ?_;refine aK 0 1 ?_;refine lG 26 ?_;refine aS (Tq.eng (dr:=true)) {} 100 (h.below (Below.refl _ _).drew) f ?_;rintro s e u b ⟨a',c',rfl,J,l⟩;refine ⟨_,0,rfl,λ_=>b.below l,?_⟩;have m:Tz B g w0 M A t s.heap.size a' c' N.cs u:=⟨b.below l,b.fam.below l,J,b.le,l.size,b.glt⟩;refine ae (Tz.engQ (dr:=true)) {} 60 m λU a=>?_;obtain ⟨P,K⟩:=a.q.row;have z:=Iv.one a.q.row;refine bM (bJ (i:=3) (T:=23) (v:=.slice a' N.cs.length c') K (show 3<28 by decide) ba rfl) ?_;have p:=z.cell 3 (.slice a' N.cs.length c');obtain ⟨Q,L⟩:=p.row1;refine aH (λ_=>True) ?_;refine an (R:=[]) trivial {} 2 ?_;refine bM (bJ (i:=2) (T:=2) (v:=.i N.pr) L (by simp [bL]) ba rfl) ?_;have q:=p.cell 2 (.i N.pr);obtain ⟨S,O⟩:=q.row1;refine an (R:=[]) trivial {} 2 ?_;refine bM (bJ (i:=0) (T:=22) (v:=.u N.pc) O (by simp [bL]) ba rfl) ?_;have C:=q.cell 0 (.u N.pc);refine mu {} 40 ba ba rfl ⟨rfl,{A with ac:=a',cc:=c'},a.csrs ⟨c.1,rfl,c.2.2.1,c.2.2.2.1⟩ (t':=t) ?_⟩;have x:bL N {A with ac:=a',cc:=c'} t=(((bL M A t).setIfInBounds 3 (.slice a' N.cs.length c')).setIfInBounds 2 (.i N.pr)).setIfInBounds 0 (.u N.pc):=by obtain ⟨G,X,H,D,r,V,E,F,I⟩:=N;dsimp only at c ⊢;obtain ⟨rfl,_,rfl,rfl,rfl,rfl,rfl⟩:=c;rfl
 rw [x];exact C
theorem F8 {p:Int} (h:bZ p=true):IntKind.i64.wrap (8+p)=((o6 p:Nat):Int)/\o6 p<16:=by
 have:p=0\/p=1\/p=3:=by simpa [bZ,or_assoc] using h
 rcases this with rfl|rfl|rfl<;>exact ⟨by rw [IntKind.wrap_i64];rfl,bc⟩
theorem N9 (i:Ins) (wd:Int) (L:jN i) (J:93<=i.op) (h:Tq B g w0 M A (t0 M i wd) w) (a:Gd M) (x:M.wt=false):Calls prog 181 #[.p g 0] w (TR B g w0 (Pf false (kN M i wd) i)):=by
 obtain ⟨l,d,f,_,_,_⟩:=aI a.ok;have u:bn M.cs.length M.cs M.pr=true:=(fg a.ok).2.2.1;have N:=L.op98;by_cases j:i.op=93;·refine (NW h.row j).mono λe w' ⟨c,k⟩=>⟨c,M,A,_,⟨?_,a,rfl,rfl,λ_=>⟨_,(F8 f).2,(F8 f).1⟩⟩,h.iv k rfl⟩;rw [iE rfl (F8 f).1];unfold kN;rw [if_pos j]
 by_cases p:i.op=94;·refine (Kj h.row p).mono λe w' ⟨c,k⟩=>⟨c,M,A,_,⟨?_,a,rfl,rfl,λ_=>⟨3,bc,rfl⟩⟩,h.iv k rfl⟩;rw [iE (k:=3) rfl rfl];unfold kN;rw [if_neg j,if_pos p]
 by_cases r:i.op=95\/i.op=96
 ·have K:=λW (m:Iv [g] w [⟨g,bL M A (t0 M i wd),[]⟩] W)=>QA (jM M.cs.length M.cs M.pr (i.op==96)) (rq M.cs.length M.cs M.pr (i.op==96)) (rr M.cs.length M.cs M.pr (i.op==96)) (lQ M.cs.length M.cs M.pr (i.op==96)) (h.iv m rfl).row (λE t=>(xX A.ac M.cs.length A.cc M.cs M.pr (i.op==96) E rfl ((h.iv m rfl).iv t rfl).sl.cs a.mw.cs).mono λe w' ⟨P,Q,R,S,T⟩=>⟨P,Q,R,λ_=>S,T⟩);refine (Kk h.row r K (λW e w' m v=>v.1)).mono λe w' ⟨c,W,m,v⟩=>⟨c,?_⟩;have D:=h.iv m rfl;have b:=v.2;have s:kN M i wd=if lQ M.cs.length M.cs M.pr (i.op==96)=true then (be (gz (iK M (M.cs.set 0 (cW (M.cs.getD 0 0) (i.op==96)))) (dx (M.cs.getD 0 0) (i.op==96))) 0 0 (eH M.cs (i.op==96)),1) else (aM M 2 false wd,2):=by unfold kN lQ;rw [if_neg j,if_neg p,if_pos r,u];cases (i.op==96)<;>cases (M.pr != 3)<;>cases (M.pr==0)<;>rfl
  rw [s];cases n:lQ M.cs.length M.cs M.pr (i.op==96) with
  | true =>rw [n,if_pos rfl] at b;obtain ⟨a',c',k,o⟩:=b;have y:jM M.cs.length M.cs M.pr (i.op==96)=M.cs.set 0 (cW (M.cs.getD 0 0) (i.op==96)):=(by unfold jM;rw [n]);have G:rq M.cs.length M.cs M.pr (i.op==96)=dx (M.cs.getD 0 0) (i.op==96):=(by unfold rq;rw [n]);have F:rr M.cs.length M.cs M.pr (i.op==96)=eH M.cs (i.op==96):=(by unfold rr;rw [n]);rw [y,G,F] at k;rw [y] at o;have H:Gd (iK M (M.cs.set 0 (cW (M.cs.getD 0 0) (i.op==96)))):=a.cs_ (by rw [List.length_set];exact l) (cR _ l d 0 ab _ (Cy _ (a.mw.cs 0) _ (eM d 0 ab))) (jE _ a.mw.cs 0 _ (rt _ _)) (by rw [jY _ 0 9 _ ab]);have I:=H.priv (xg _ (a.mw.cs 0) (eM d 0 ab) (i.op==96));have O:=D.csrs (M':=gz (iK M (M.cs.set 0 (cW (M.cs.getD 0 0) (i.op==96)))) (dx (M.cs.getD 0 0) (i.op==96))) ⟨rfl,rfl,rfl,rfl⟩ k o;refine ⟨_,_,_,⟨?_,I,rfl,rfl,λe=>v9⟩,O⟩;rw [if_pos rfl,iY rfl];exact congrArg (λz=>(z,(1:Int))) (lu (M:=gz (iK M (M.cs.set 0 (cW (M.cs.getD 0 0) (i.op==96)))) (dx (M.cs.getD 0 0) (i.op==96))) (rd:=i.rd) (to:=eH M.cs (i.op==96)))
  | false =>rw [n,if_neg bc] at b;refine ⟨M,A,_,⟨?_,a,rfl,rfl,λ_=>⟨2,bc,rfl⟩⟩,D.iv b rfl⟩;rw [if_neg bc,iE (k:=2) rfl rfl];rfl
 ·refine (NY h.row (show i.op=97\/i.op=98 by omega)).mono λe w' ⟨c,k⟩=>⟨c,?_⟩;have s:kN M i wd=if (M.pr==0)=true then (aM M 2 false wd,2) else (be {M with wt:=i.op==97} 0 0 (Uz.wrap (M.pc+4)),1):=by
   unfold kN;rw [if_neg j,if_neg p,if_neg r];by_cases q:i.op=97;·rw [if_pos q,show (i.op==97)=true by simpa using q];rfl
   ·have e:(i.op==97)=false:=(by simpa using q);have e2:({M with wt:=false}:MV)=M:=(by rw [<- x]);rw [if_neg q,e,e2]
  rw [s];cases C:(M.pr==0) with
  | true =>rw [C,if_pos rfl] at k;refine ⟨M,A,_,⟨?_,a,rfl,rfl,λ_=>⟨2,bc,rfl⟩⟩,h.iv k rfl⟩;rw [if_pos rfl,iE (k:=2) rfl rfl];rfl
  | false =>rw [C,if_neg bc] at k;refine ⟨{M with wt:=i.op==97},A,_,⟨?_,a.wait _,rfl,rfl,λe=>v9⟩,h.iv k rfl⟩;rw [if_neg bc,iY rfl];exact congrArg (λz=>(z,(1:Int))) (lu (M:={M with wt:=i.op==97}) (rd:=i.rd))
end
end Go.Proofs.YtfagphfjfhpmjaaGreatDoor
