/- Own lemmas. -/
import Derived.Test.YtjifdmoehfbihaaGreatDoorAut
import Derived.Test.YtjifdmoehfbihaaGreatDoorK02
import Derived.Deep.AppendSrc
set_option maxRecDepth 100000
set_option maxHeartbeats 1600000
namespace Go.Proofs.YtjifdmoehfbihaaGreatDoor
open Go.RowKit Tryz
open IntKind renaming u64->Uz
set_option linter.unusedVariables false
structure FRow where
 t:TypeId
 v:Value
 n:Nat
 xs:List Value
structure bp (B E:Nat) (w:World) (L:List FRow):Prop where
 own:∀ r ∈ L,w.ownsRow B r.t 1 r.v r.n r.xs
 hi:∀ r ∈ L,∀ k,r.v.ownBlock=some k->k<E
 ne:L.Pairwise (λr s=>∀ k,r.v.ownBlock=some k->s.v.ownBlock≠some k)
structure nb (B E:Nat) (w w':World):Prop where
 os:w'.os=w.os
 tape:w'.tape=w.tape
 output:w'.output=w.output
 size:w.heap.size<=w'.heap.size
 block:∀ k,k<w.heap.size->(k<B\/E<=k)->w'.heap[k]?=w.heap[k]?
theorem nb.refl (B E:Nat) (w:World):nb B E w w:=⟨rfl,rfl,rfl,Nat.le_refl _,λ_ _ _=>rfl⟩
theorem nb.below {a B E:Nat} {w w':World} (h:nb B E w w') (b:a<=B) (d:a<=w.heap.size):Below a w w':=⟨h.os,h.tape,h.output,h.size,λk c=>h.block k al (.inl al)⟩
theorem nb.of_grown {B E:Nat} {w w':World} {row:Option Nat} (h:w.grownBy w' row) (hr:∀ k,row=some k->B<=k/\k<E):nb B E w w' :=
 ⟨h.os,h.tape,h.output,h.size,λk a b=>h.block k a (λe=>by have:=hr k e.symm;omega)⟩
theorem gM {w w':World} {B n:Nat} {t:TypeId} {v:Value} {xs:List Value} (h:w.ownsRow B t 1 v n xs) (hk:∀ k,v.ownBlock=some k->w'.heap[k]?=w.heap[k]?):w'.ownsRow B t 1 v n xs:=by
 refine ⟨h.1,?_⟩;rcases h.2 with b|⟨g,cap,a,c,b,d,e⟩;·exact .inl b
 ·exact .inr ⟨g,cap,a,c,b,(hk g (by rw [c];rfl)).trans d,e⟩
theorem bp.mono {B E:Nat} {w w':World} {L:List FRow} (h:bp B E w L) (hk:∀ k,B<=k->k<E->k<w.heap.size->w'.heap[k]?=w.heap[k]?):bp B E w' L :=
 ⟨λr a=>gM (h.own r a) (λk e=>hk k ((h.own r a).lt k e).1 (h.hi r a k e) ((h.own r a).lt k e).2),h.hi,h.ne⟩
theorem bp.below {B E:Nat} {w w':World} {L:List FRow} (h:bp B E w L) (hb:Bw w w'):bp B E w' L:=h.mono λk _ _ a=>hb.block k a
theorem bp.keep {B E a b:Nat} {w w':World} {L:List FRow} (h:bp B E w L) (hk:nb a b w w') (hd:E<=a\/b<=B):bp B E w' L:=h.mono λk d e c=>hk.block k c al
theorem bp.low {B B' E b:Nat} {w:World} {L:List FRow} (h:bp B E w L) (hb:B'<=B) (he:E<=b):bp B' b w L :=
 ⟨λr a=>dp (h.own r a) hb,λr a k e=>Nat.lt_of_lt_of_le (h.hi r a k e) he,h.ne⟩
theorem bp.set {B E:Nat} {w:World} {L:List FRow} (h:bp B E w L) (p:Addr) (v:Value) (d:p.block<B\/E<=p.block):bp B E (w.setCell p v) L:=h.mono λk a b c=>Below.heap_setCell w p v k al
theorem bp.nil (B E:Nat) (w:World):bp B E w []:=⟨λr a=>(nomatch a),λr a=>(nomatch a),List.Pairwise.nil⟩
theorem bp.cons {B E:Nat} {w:World} {L:List FRow} (h:bp B E w L) (r:FRow) (base b:Nat) (c:w.ownsRow base r.t 1 r.v r.n r.xs) (g:E<=base) (f:B<=base) (i:w.heap.size<=b) (j:E<=b):bp B b w (r::L):=by
 refine ⟨λs a=>?_,λs a k e=>?_,List.pairwise_cons.2 ⟨λs a k e d=>?_,h.ne⟩⟩
 ·rcases List.mem_cons.1 a with rfl|a;·exact dp c f
  ·exact h.own s a
 ·rcases List.mem_cons.1 a with rfl|a;·have:=(c.lt k e).2;omega
  ·have:=h.hi s a k e;omega
 ·have:=(c.lt k e).1;have:=h.hi s a k d;omega
theorem bp.snoc {B E:Nat} {w:World} {L:List FRow} (h:bp B E w L) (r:FRow) (base b:Nat) (m:w.ownsRow base r.t 1 r.v r.n r.xs) (g:E<=base) (i:B<=base) (j:w.heap.size<=b) (l:E<=b):bp B b w (L++[r]):=by
 have c:=h.cons r base b m g i j l;refine ⟨λs a=>c.own s ?_,λs a=>c.hi s ?_,List.pairwise_append.2 ⟨h.ne,List.pairwise_singleton _ _,λs a q d k e f=>?_⟩⟩
 ·rcases List.mem_append.1 a with a|a;·exact List.mem_cons_of_mem _ a
  ·rw [List.mem_singleton.1 a];exact List.mem_cons_self ..
 ·rcases List.mem_append.1 a with a|a;·exact List.mem_cons_of_mem _ a
  ·rw [List.mem_singleton.1 a];exact List.mem_cons_self ..
 ·simp only [List.mem_singleton] at d;subst d;exact (List.pairwise_cons.1 c.ne).1 s a k f e
theorem bp.mark {B E:Nat} {w w':World} {L1 L2:List FRow} {r:FRow} (h:bp B E w (L1++r::L2)) (i:w.grownBy w' r.v.ownBlock) (xs:List Value) (l:w'.ownsRow B r.t 1 r.v r.n xs):bp B E w' (L1++⟨r.t,r.v,r.n,xs⟩::L2)/\nb B E w w':=by
 have b:=List.pairwise_append.1 h.ne;have c:=List.pairwise_cons.1 b.2.1;have kept:∀ s ∈ L1++r::L2,(∀ k,s.v.ownBlock=some k->r.v.ownBlock≠some k)->w'.ownsRow B s.t 1 s.v s.n s.xs:=λs a j=>gM (h.own s a) (λk e=>i.block k ((h.own s a).lt k e).2 (λd=>j k e d.symm));have g:r ∈ L1++r::L2:=bc
 refine ⟨⟨λs a=>?_,λs a k e=>?_,?_⟩,nb.of_grown i λk e=>⟨((h.own r g).lt k e).1,h.hi r g k e⟩⟩
 ·rcases List.mem_append.1 a with a | a;·exact kept s (List.mem_append_left _ a) (λk e=>b.2.2 s a r (List.mem_cons_self ..) k e)
  ·rcases List.mem_cons.1 a with rfl|a;·exact l
   ·exact kept s (List.mem_append_right _ (List.mem_cons_of_mem _ a)) (λk e d=>c.1 s a k d e)
 ·rcases List.mem_append.1 a with a|a;·exact h.hi s (List.mem_append_left _ a) k e
  ·rcases List.mem_cons.1 a with rfl|a;·exact h.hi r g k e
   ·exact h.hi s (List.mem_append_right _ (List.mem_cons_of_mem _ a)) k e
 ·refine List.pairwise_append.2 ⟨b.1,List.pairwise_cons.2 ⟨λs a k e=>c.1 s a k e,c.2⟩,λs a q f k e=>?_⟩;rcases List.mem_cons.1 f with rfl | f;·exact b.2.2 s a r (List.mem_cons_self ..) k e
  ·exact b.2.2 s a q (List.mem_cons_of_mem _ f) k e
def aB (a:Option Addr) (n c:Nat) (xs:List Int):FRow:=⟨5,.slice a n c,n,xs.map (Value.int .u8)⟩
def iB (a:Option Addr) (e c:Nat) (xs:List Int) (b:Option Addr) (f d:Nat) (ys:List Int):List FRow:=[aB a e c xs,aB b f d ys]
theorem bp.in_ {B E:Nat} {w:World} {a:Option Addr} {c b:Nat} {xs:List Int} {d:Option Addr} {f e:Nat} {ys:List Int} (h:bp B E w (iB a c b xs d f e ys)):Sl .u8 w a xs:=gy (h.own (aB a c b xs) (by simp [iB]))
theorem bp.out_ {B E:Nat} {w:World} {d:Option Addr} {f e:Nat} {xs:List Int} {a:Option Addr} {c b:Nat} {ys:List Int} (h:bp B E w (iB d f e xs a c b ys)):Sl .u8 w a ys:=gy (h.own (aB a c b ys) (by simp [iB]))
theorem ak {p:Prop} (h:p):Hid p:=h
theorem an {w w':World} (hb:Bw w w') {g:Nat} {o:Obj} (h:w.heap[g]?=some o):w'.heap[g]?=some o:=by rw [hb.block g (Array.getElem?_eq_some_iff.1 h).1];exact h
theorem cH {W:World} {g:Nat} {a b c d e f:Value} {t:TypeId} (h:W.heap[g]?=some (.cells #[a,b,c,d,e,f] t (0,0))):W.cell? ⟨g,0,none⟩=some a/\W.cell? ⟨g,1,none⟩=some b/\W.cell? ⟨g,2,none⟩=some c/\W.cell? ⟨g,3,none⟩=some d/\W.cell? ⟨g,4,none⟩=some e/\W.cell? ⟨g,5,none⟩=some f:=by refine ⟨?_,?_,?_,?_,?_,?_⟩<;>simp [World.cell?,h]
theorem gO {W:World} {g:Nat} {cs:Array Value} {t:TypeId} (h:W.heap[g]?=some (.cells cs t (0,0))) (i:Nat):W.frozen? ⟨g,i,none⟩=false:=by simp [World.frozen?,h]
theorem vI {W:World} {g:Nat} {cs:Array Value} {t:TypeId} (h:W.heap[g]?=some (.cells cs t (0,0))):W.frozen? ⟨g,0,none⟩=false/\W.frozen? ⟨g,1,none⟩=false/\W.frozen? ⟨g,2,none⟩=false/\W.frozen? ⟨g,3,none⟩=false/\W.frozen? ⟨g,4,none⟩=false/\W.frozen? ⟨g,5,none⟩=false :=
 ⟨gO h 0,gO h 1,gO h 2,gO h 3,gO h 4,gO h 5⟩
theorem sT {w w2:World} {o1 o2:Obj} (hb:Below ((w.alloc o1).alloc o2).heap.size ((w.alloc o1).alloc o2) w2):w2.heap[w.heap.size]?=some o1/\w2.heap[w.heap.size+1]?=some o2:=by have a:=heap_alloc_new (w.alloc o1) o2;rw [World.size_alloc] at a;exact ⟨an hb ((Below.heap_alloc _ _ _ cp).trans (heap_alloc_new w o1)),an hb a⟩
theorem Hi {w w2:World} {o1 o2 o3:Obj} (hb:Below (((w.alloc o1).alloc o2).alloc o3).heap.size (((w.alloc o1).alloc o2).alloc o3) w2):w2.heap[w.heap.size]?=some o1/\w2.heap[w.heap.size+1]?=some o2/\w2.heap[w.heap.size+1+1]?=some o3:=by have a:=heap_alloc_new ((w.alloc o1).alloc o2) o3;rw [World.size_alloc,World.size_alloc] at a;have h:=sT (w:=w) (o1:=o1) (o2:=o2) (Below.refl _ ((w.alloc o1).alloc o2));exact ⟨an hb ((Below.heap_alloc _ _ _ cp).trans h.1),an hb ((Below.heap_alloc _ _ _ cp).trans h.2),an hb a⟩
theorem bo {w:World} {g:Nat} {cs:Array Value} {t:TypeId} {a:Nat × Nat} (h:w.heap[g]?=some (.cells cs t a)) (i:Nat) (v:Value):(w.setCell ⟨g,i,none⟩ v).heap[g]?=some (.cells (cs.setIfInBounds i v) t a):=by simp [World.setCell,Array.getElem?_modify,h]
theorem eg {w:World} {g:Nat} {o:Obj} (h:w.heap[g]?=some o) (p:Addr) (v:Value) (a:g≠p.block):(w.setCell p v).heap[g]?=some o:=(Below.heap_setCell w p v g a).trans h
theorem aY (w:World) (p:Addr) (v:Value):(w.setCell p v).heap.size=w.heap.size:=by simp [World.setCell]
theorem bu:(prog.info? 30).map (·.size)=some 6:=by kernel_rfl
def NR (w:World) (g:Nat) (a b c x3 d e:Value):World:=(((((w.setCell ⟨g,0,none⟩ a).setCell ⟨g,1,none⟩ b).setCell ⟨g,2,none⟩ c).setCell ⟨g,3,none⟩ x3).setCell ⟨g,4,none⟩ d).setCell ⟨g,5,none⟩ e
theorem lL {w:World} {g:Nat} {a b c d e f:Value} {t:TypeId} {n:Nat × Nat} (h:w.heap[g]?=some (.cells #[a,b,c,d,e,f] t n)) (i j k x3 l m:Value):(NR w g i j k x3 l m).heap[g]?=some (.cells #[i,j,k,x3,l,m] t n):=
 bo (bo (bo (bo (bo (bo h 0 i) 1 j) 2 k) 3 x3) 4 l) 5 m
theorem jh {B:Nat} {v w:World} (h:Below B v w) {g:Nat} (a:B<=g) (b c d x3 e f:Value):Below B v (NR w g b c d x3 e f):=
 (((((h.setCell (by exact a) b).setCell (by exact a) c).setCell (by exact a) d).setCell (by exact a) x3).setCell (by exact a) e).setCell (by exact a) f
theorem bp.put6 {B E:Nat} {w:World} {L:List FRow} (h:bp B E w L) (g:Nat) (a:g<B\/E<=g) (b c d x3 e f:Value):bp B E (NR w g b c d x3 e f) L :=
 (((((h.set ⟨g,0,none⟩ b a).set ⟨g,1,none⟩ c a).set ⟨g,2,none⟩ d a).set ⟨g,3,none⟩ x3 a).set ⟨g,4,none⟩ e a).set ⟨g,5,none⟩ f a
theorem ji (w:World) (base:Nat) (hb:base<=w.heap.size) (o:Obj) (a:o=.cells #[] 5 (0,0)):(w.alloc o).ownsRow base 5 1 (.slice (some ⟨w.heap.size,0,none⟩) 0 0) 0 []:=by subst a;exact World.ownsRow_lit w #[] 0 hb i5 rfl
theorem gD {r:Array Oper} {rest:List Oper} {o:Oper} {a:Act} {Q:Exit->Act->World->Prop} {w:World} (p:o.guard=none) (s x:Operand) (I:o.op=.call {callee:=.builtin .append,args:=#[s,x],argTypes:=#[24,24]}) (base g:Nat) (hs:a.eval s=.slice (some ⟨g,0,none⟩) 0 0) (d:w.ownsRow base 5 1 (.slice (some ⟨g,0,none⟩) 0 0) 0 []) (ad:Option Addr) (m c:Nat) (zs:List Int) (hx:a.eval x=.slice ad m c) (hz:zs.length=m) (hm:m<=1048576) (q:Sl .u8 w ad zs) (f:base<=w.heap.size) (h:∀ l n t,t.ownsRow base 5 1 (.slice l m n) m (zs.map (Value.int .u8))->w.grownBy t (some g)->wpList prog r Q rest (a.put o.dst (.slice l m n)) t):wpList prog r Q (o::rest) a w:=by
 obtain ⟨J,H,B,C,D⟩:=info_parts info5;cases ad with
 | none =>
   have z:m=0:=by
    rcases Nat.eq_zero_or_pos m with G|G;·exact G
    ·obtain ⟨b,F,e,_⟩:=q 0 al;cases e
   subst z;have E:zs=[]:=List.length_eq_zero_iff.1 hz;subst E;refine wpList_plain p λK O=>?_;have S:=run_append_room_src (P:=prog) w 24 24 o.type 5 J underlying24 H g 0 0 0 (.slice none 0 c) 0 [] (Src.ofNil w underlying24 c) al (λj i=>by simp at i) (λj i=>by simp at i);unfold Oper.wp execOp;simp only [I,resolve,invoke,builtin,Sem.run_bind,Sem.run_pure,Result.andThen_ok,List.map_toArray,List.map_cons,List.map_nil,hs,hx,S];exact O _ _ (h _ _ w d ⟨rfl,rfl,rfl,Nat.le_refl _,λ_ _ _=>rfl⟩)
 | some A =>
   have k:∀ j u,(zs.map (Value.int .u8))[j]?=some u->w.cell? (A.add j)=some u:=by
    intro j u v;have i:j<zs.length:=by
     rcases Nat.lt_or_ge j zs.length with h|h;·exact h
     ·rw [List.getElem?_eq_none dn] at v;cases v
    obtain ⟨b,F,e,_,R⟩:=q j i;cases e;rw [EY,R];rw [List.getElem?_map,List.getElem?_eq_getElem i] at v;rw [List.getD_eq_getElem?_getD,List.getElem?_eq_getElem i];exact v
   refine wpList_append_own _ p s x 24 I base 5 J (.int .u8 0) 1 1 underlying24 H B C D rfl a5 _ 0 [] hs d A m c (zs.map (Value.int .u8)) hx (by rw [List.length_map,hz];omega) k (ints_oneCell _ _) i5 al f ?_;intro U t y N W;simp only [Nat.zero_add,List.nil_append] at y;have T:∃ l n,U=.slice l m n:=by
    rcases y.2 with ⟨e,M⟩|⟨V,cap,L,e,_⟩;·exact ⟨none,0,by rw [e,M]⟩
    ·exact ⟨_,_,e⟩
   obtain ⟨l,n,rfl⟩:=T;exact h l n t y N
theorem qe (a:Option Addr) (n c:Nat) (zs:List Int) (w':World) (d:zs.length=n) (f:n<=1048576) (i:Sl .u8 w' a zs) :
 Calls prog 36 #[.slice a n c] w' λe b=>∃ g,e=.returned (.slice (some ⟨g,0,none⟩) n n)/\b.ownsRow w'.heap.size 5 1 (.slice (some ⟨g,0,none⟩) n n) n (zs.map (Value.int .u8))/\Bw w' b :=
 (yQ a n c zs w' d f i).mono λe b h=>⟨_,h.1,h.2.1,h.2.2⟩
theorem E4 (t cm:Int) (E:Bool) (F:Option Addr) (b M:Nat) (G:Option Addr) (c N:Nat) (q:Int) (xs ys:List Int) (w:World) (hx:xs.length=b) (hy:ys.length=c) (A:b<=1048576) (B:c<=1048576) (C:Sl .u8 w F xs) (D:Sl .u8 w G ys):Calls prog 37 #[.agg #[.u t,.u cm,.bool E,.slice F b M,.slice G c N,.i q]] w λe d=>∃ j m:Nat,e=.returned (.agg #[.u t,.u cm,.bool E,.slice (some ⟨j,0,none⟩) b b,.slice (some ⟨m,0,none⟩) c c,.i q]) /\ bp w.heap.size d.heap.size d (iB (some ⟨j,0,none⟩) b b xs (some ⟨m,0,none⟩) c c ys)/\Bw w d:=by have u:Hid (∀ d,Bw w d->Calls prog 36 #[.slice F b M] d λe l=>∃ g,e=.returned (.slice (some ⟨g,0,none⟩) b b)/\l.ownsRow d.heap.size 5 1 (.slice (some ⟨g,0,none⟩) b b) b (xs.map (Value.int .u8))/\Bw d l):=λd O=>qe F b M xs d hx A (C.below O);have y:Hid (∀ d,Bw w d->Calls prog 36 #[.slice G c N] d λe l=>∃ g,e=.returned (.slice (some ⟨g,0,none⟩) c c)/\l.ownsRow d.heap.size 5 1 (.slice (some ⟨g,0,none⟩) c c) c (ys.map (Value.int .u8))/\Bw d l):=λd O=>qe G c N ys d hy B (D.below O);have z:∀ P Q R,Bw w (((w.alloc P).alloc Q).alloc R):=λP Q R=>(((Below.refl _ _).alloc (Nat.le_refl _) P).alloc bc Q).alloc a7 R;clear C D hx hy A B;go_enter func37,ntmps37;go_wp2_with fail;refine (u.out _ (z _ _ _)).mono ?_;rintro e w1 ⟨j,rfl,r,o⟩;obtain ⟨S,r1,H⟩:=Hi o;have I:=o.size;simp only [World.size_alloc] at r I;have V:=ak S;have W:=ak r1;have X:=ak H;have J:=ak (aa (z _ _ _) o);have U:=ak ((bp.nil (w.heap.size+1+1+1) (w.heap.size+1+1+1) w1).snoc (aB (some ⟨j,0,none⟩) b b xs) _ w1.heap.size r (Nat.le_refl _) (Nat.le_refl _) (Nat.le_refl _) I);obtain ⟨-,-,-,Y,Z,p5⟩:=cH S;obtain ⟨q0,q1,q2,q3,q4,q5⟩:=cH H;have f3:=gO H 3;clear S r1 H r o u;go_wp2_with fail;refine (y.out _ (J.out.setCell a7 _)).mono ?_;rintro e w2 ⟨m,rfl,s,f⟩;have T:=f.size;rw [aY] at s T;have S0:=ak (an f (eg V.out ⟨w.heap.size+1+1,3,none⟩ (.slice (some ⟨j,0,none⟩) b b) a9));have K:=ak (an f (eg W.out ⟨w.heap.size+1+1,3,none⟩ (.slice (some ⟨j,0,none⟩) b b) a9));have L:Hid (w2.heap[w.heap.size+1+1]?=some (.cells #[.u t,.u cm,.bool E,.slice (some ⟨j,0,none⟩) b b,.slice none 0 0,.i 0] 30 (0,0))):=an f (bo X.out 3 (.slice (some ⟨j,0,none⟩) b b));have B2:=ak (aa (J.out.setCell (p:=⟨w.heap.size+1+1,3,none⟩) a9 (.slice (some ⟨j,0,none⟩) b b)) f);have A2:=ak (((U.out.set ⟨w.heap.size+1+1,3,none⟩ (.slice (some ⟨j,0,none⟩) b b) (.inl a9)).below f).snoc (aB (some ⟨m,0,none⟩) c c ys) _ w2.heap.size s (Nat.le_refl _) I (Nat.le_refl _) T);clear Y Z p5 q0 q1 q2 q3 q4 q5 f3;obtain ⟨-,-,-,Y,Z,p5⟩:=cH S0.out;obtain ⟨q0,q1,q2,q3,q4,q5⟩:=cH L.out;obtain ⟨s0,s1,s2,s3,s4,s5⟩:=cH K.out;have f4:=gO L.out 4;have f5:=gO L.out 5;obtain ⟨y0,y1,y2,y3,y4,y5⟩:=vI K.out;clear I T s f y V W X J U;go_wp2_with fail;have T1:=eg (eg K.out ⟨w.heap.size+1+1,4,none⟩ (.slice (some ⟨m,0,none⟩) c c) a9) ⟨w.heap.size+1+1,5,none⟩ (.i q) a9;have A3:=((A2.out.set ⟨w.heap.size+1+1,4,none⟩ (.slice (some ⟨m,0,none⟩) c c) (.inl a9)).set ⟨w.heap.size+1+1,5,none⟩ (.i q) (.inl a9)).put6 (w.heap.size+1) (.inl al) (.u t) (.u cm) (.bool E) (.slice (some ⟨j,0,none⟩) b b) (.slice (some ⟨m,0,none⟩) c c) (.i q);have B3:=jh ((B2.out.setCell (p:=⟨w.heap.size+1+1,4,none⟩) a9 (.slice (some ⟨m,0,none⟩) c c)).setCell (p:=⟨w.heap.size+1+1,5,none⟩) a9 (.i q)) (g:=w.heap.size+1) al (.u t) (.u cm) (.bool E) (.slice (some ⟨j,0,none⟩) b b) (.slice (some ⟨m,0,none⟩) c c) (.i q);exact bodyPost_ret (results_cell_row results37 _ _ _ _ _ _ _ rfl (lL T1 _ _ _ _ _ _) underlying30 rfl bu) rfl ⟨j,m,rfl,A3.low al ib,B3⟩
theorem jD (a:Option Addr) (n c:Nat) (l:Int) (w:World) (f : -1<=l) (g:l<=1048576) (hn:n<=9223372036854775807):CE 31 #[.slice a n c,.i l] w (.i (if (n:Int)<=l then l-n else -1)):=by
 by_cases h:(n:Int)<=l;·have d:decide (l-(n:Int)<0)=false:=a7;rw [if_pos h];clear h;go_enter func31,ntmps31;exact a02
 ·have d:decide (l-(n:Int)<0)=true:=a7;rw [if_neg h];clear h;go_enter func31,ntmps31;exact a02
def Hj (a b:Nat) (l:Int):Int:=if (a:Int)+b<=l then l-a-b else -1
theorem E5 (t cm:Int) (H:Bool) (m:Option Addr) (b q:Nat) (p:Option Addr) (d r:Nat) (E l:Int) (w:World) (C:0<=l) (s:l<=1048576) (f:b<=9223372036854775807) (g:d<=9223372036854775807):CB 32 #[.agg #[.u t,.u cm,.bool H,.slice m b q,.slice p d r,.i E],.i l] w (.i (Hj b d l)):=by
 have D:∀ o,Bw w (w.alloc o):=λo=>(Below.refl _ _).alloc (Nat.le_refl _) o;by_cases u:(b:Int)<=l
 ·have y:Hid (∀ w,CE 31 #[.slice m b q,.i l] w (.i (l-b))):=λw=>by have:=jD m b q l w al s f;rw [if_pos u] at this;exact this
  have I:decide (l-(b:Int)<0)=false:=a7;by_cases z:(d:Int)<=l-b
  ·have B:Hid (∀ w,CE 31 #[.slice p d r,.i (l-b)] w (.i (l-b-d))):=λw=>by have:=jD p d r (l-b) w al al g;rw [if_pos z] at this;exact this
   have J:decide (l-(b:Int)-(d:Int)<0)=false:=a7;have F:Hid (Hj b d l=l-b-d):=(by show Hj b d l=_;unfold Hj;rw [if_pos al]);clear u z C s f g;generalize l-(b:Int)-(d:Int)=K at *;generalize l-(b:Int)=G at *;go_enter func32,ntmps32;go_wp2_with fail;refine (y.out _).mono ?_;rintro e A ⟨rfl,c⟩;subst c;go_wp2_with fail;refine (B.out _).mono ?_;exact a03
  ·have B:Hid (∀ w,CE 31 #[.slice p d r,.i (l-b)] w (.i (-1))):=λw=>by have:=jD p d r (l-b) w al al g;rw [if_neg z] at this;exact this
   have F:Hid (Hj b d l=-1):=(by show Hj b d l=_;unfold Hj;rw [if_neg al]);clear u z C s f g;generalize l-(b:Int)=G at *;go_enter func32,ntmps32;go_wp2_with fail;refine (y.out _).mono ?_;rintro e A ⟨rfl,c⟩;subst c;go_wp2_with fail;refine (B.out _).mono ?_;exact a03
 ·have y:Hid (∀ w,CE 31 #[.slice m b q,.i l] w (.i (-1))):=λw=>by have:=jD m b q l w al s f;rw [if_neg u] at this;exact this
  have F:Hid (Hj b d l=-1):=(by show Hj b d l=_;unfold Hj;rw [if_neg al]);clear u C s f g;go_enter func32,ntmps32;go_wp2_with fail;refine (y.out _).mono ?_;exact a03
theorem Bp (t cm:Int) (D:Bool) (y A:Option Addr) (d G I:Nat) (z B:Option Addr) (f H J:Nat) (C:Int) (xs ys:List Int) (w:World) (hx:xs.length=d) (hy:ys.length=f) (j:d<=1048576) (l:f<=1048576) (q:Sl .u8 w y xs) (r:Sl .u8 w z ys) (s:Sl .u8 w A xs) (u:Sl .u8 w B ys):CB 44 #[.agg #[.u t,.u cm,.bool D,.slice y d G,.slice z f H,.i C],.agg #[.u t,.u cm,.bool D,.slice A d I,.slice B f J,.i C]] w (.bool true):=by
 have E:Hid (∀ b,Bw w b->CB 43 #[.slice y d G,.slice A d I] b (.bool true)):=λb p=>by have:=na y A d d G I xs xs b hx hx j j (q.below p) (s.below p);rw [decide_eq_true rfl] at this;exact this
 have F:Hid (∀ b,Bw w b->CB 43 #[.slice z f H,.slice B f J] b (.bool true)):=λb p=>by have:=na z B f f H J ys ys b hy hy l l (r.below p) (u.below p);rw [decide_eq_true rfl] at this;exact this
 have O:∀ o K,Bw w ((w.alloc o).alloc K):=λo K=>((Below.refl _ _).alloc (Nat.le_refl _) o).alloc bc K;have t1:(t != t)=false:=bc
 have t2:(cm != cm)=false:=bc
 have t3:(D != D)=false:=bc
 have t4:(C != C)=false:=bc
 clear q r s u hx hy j l;go_enter func44,ntmps44;go_wp2_with fail;refine (E.out _ (O _ _)).mono ?_;rintro e w1 ⟨rfl,g⟩;obtain ⟨L,M⟩:=sT g;have N:=ak (aa (O _ _) g);obtain ⟨P,Q,R,S,T,U⟩:=cH L;obtain ⟨V,W,X,Y,Z,q5⟩:=cH M;have R0:=ak L;have R1:=ak M;clear g L M;go_wp2_with fail;refine (F.out _ N.out).mono ?_;rintro e w2 ⟨rfl,c⟩;have B2:=ak (aa N.out c);clear P Q R S T U V W X Y Z q5;obtain ⟨P,Q,R,S,T,U⟩:=cH (an c R0.out);obtain ⟨V,W,X,Y,Z,q5⟩:=cH (an c R1.out);clear c;go_wp2_with fail;go_ret;exact ⟨rfl,B2.out⟩
theorem yR (t cm:Int) (D:Bool) (q:Option Addr) (b s:Nat) (r:Option Addr) (c u:Nat) (C k:Int) (w:World) (g:b<=1048576) (j:c<=1048576) (f:0<=k) (z:k<=4294967296) (l:Sl .u8 w q (du k b)) (m:Sl .u8 w r (du (k+b) c)):CB 50 #[.agg #[.u t,.u cm,.bool D,.slice q b s,.slice r c u,.i C],.i k] w (.i (k+b+c)):=by
 have y:∀ o,Bw w (w.alloc o):=λo=>(Below.refl _ _).alloc (Nat.le_refl _) o;have A:Hid (∀ o,Calls prog 49 #[.slice q b s,.i k] (w.alloc o) λe p=>e=.returned (.i (k+b))/\p=w.alloc o):=λo=>lj q b s k (w.alloc o) g f al (l.below (y o));have B:Hid (∀ o,Calls prog 49 #[.slice r c u,.i (k+b)] (w.alloc o) λe p=>e=.returned (.i (k+b+c))/\p=w.alloc o):=λo=>lj r c u (k+b) (w.alloc o) j al al (m.below (y o));have F:decide (k+(b:Int)<0)=false:=by simp;omega
 have G:decide (k+(b:Int)+(c:Int)<0)=false:=by simp;omega
 clear l m f z g j;generalize k+(b:Int)+(c:Int)=I at *;generalize k+(b:Int)=H at *;go_enter func50,ntmps50;go_wp2_with fail;refine (A.out _).mono ?_;rintro e E ⟨rfl,d⟩;subst d;go_wp2_with fail;refine (B.out _).mono ?_;rintro e E ⟨rfl,d⟩;subst d;go_wp2_with fail;go_ret;exact ⟨rfl,y _⟩
structure DV where
 t:Int
 cm:Int
 so:Bool
 xs:List Int
 ys:List Int
 ir:Int
def zeroD:DV:=⟨0,0,false,[],[],0⟩
def jd (D:DV) (a:Option Addr) (c:Nat) (b:Option Addr) (d:Nat):Array Value:=#[.u D.t,.u D.cm,.bool D.so,.slice a D.xs.length c,.slice b D.ys.length d,.i D.ir]
theorem gz (D:DV) (a:Option Addr) (c:Nat) (b:Option Addr) (d:Nat):(jd D a c b d).all (·.oneCell')=true:=by simp [jd,Value.oneCell']
def Hk (D:DV) (a:Option Addr) (c:Nat) (b:Option Addr) (d:Nat):List FRow:=iB a D.xs.length c D.xs b D.ys.length d D.ys
def dO (D:DV):Prop:=(∀ y ∈ D.xs,(Lit.int .u8 y).wf=true)/\∀ y ∈ D.ys,(Lit.int .u8 y).wf=true
def kq (b c:Nat) (a:Int):Bool:=decide (b<=16)&&decide (c<=4096)&&decide (0<=a/\a<=1)
def gg (addr size:Int):Nat :=
 if addr=33554432/\size=4 then 0 else if addr=33570816/\size=8 then 1 else if addr=33603576/\size=8 then 2 else if addr=268435456/\size=1 then 3 else if addr=268435457/\size=1 then 4 else if addr=268435461/\size=1 then 5 else 6
def fd (b:Bool):Int:=if b=true then 1 else 0
def jc (D:DV):Nat->Int × DV × Bool
 | 0=>(fd D.so,D,true)
 | 1=>(D.cm,D,true)
 | 2=>(D.t,D,true)
 | 3=>(D.xs.getD 0 0,⟨D.t,D.cm,D.so,D.xs.drop 1,D.ys,D.ir⟩,true)
 | 4=>(Uz.wrap D.ir,D,true)
 | 5=>(Uz.wrap (32+fd (decide (0<D.xs.length))),D,true)
 | _=>(0,zeroD,false)
def fy (D:DV) (x:Int):Nat->DV × Bool
 | 0=>(⟨D.t,D.cm,bits .and .u64 x 1==1,D.xs,D.ys,D.ir⟩,true)
 | 1=>(⟨D.t,x,D.so,D.xs,D.ys,D.ir⟩,true)
 | 2=>(⟨x,D.cm,D.so,D.xs,D.ys,D.ir⟩,true)
 | 3=>(⟨D.t,D.cm,D.so,D.xs,if D.ys.length<4096 then D.ys++[IntKind.u8.wrap x] else D.ys,D.ir⟩,true)
 | 4=>(⟨D.t,D.cm,D.so,D.xs,D.ys,wrap64 (bits .and .u64 x 1)⟩,true)
 | 5=>(D,true)
 | _=>(zeroD,false)
def cU (D:DV):Int:=Uz.wrap (Uz.wrap (Uz.wrap (8*fd D.so)+Uz.wrap (128*fd (decide (D.cm<=D.t))))+Uz.wrap (2048*fd ((D.ir==1)&&decide (0<D.xs.length))))
def sU (D:DV) (addr size:Int):Int × DV × Bool:=if kq D.xs.length D.ys.length D.ir=true then jc D (gg addr size) else (0,zeroD,false)
def qf (D:DV) (addr size x:Int):DV × Bool:=if kq D.xs.length D.ys.length D.ir=true then fy D x (gg addr size) else (zeroD,false)
def g9 (D:DV):Int:=if kq D.xs.length D.ys.length D.ir=true then cU D else 0
theorem jj (addr size:Int) (P:Nat->Prop) (c:addr=33554432->size=4->P 0) (d:addr=33570816->size=8->P 1) (e:addr=33603576->size=8->P 2) (f:addr=268435456->size=1->P 3) (g:addr=268435457->size=1->P 4) (i:addr=268435461->size=1->P 5) (j:(addr=33554432->¬ size=4)->(addr=33570816->¬ size=8)->(addr=33603576->¬ size=8)->(addr=268435456->¬ size=1)->(addr=268435457->¬ size=1)->(addr=268435461->¬ size=1)->P 6):P (gg addr size):=by
 unfold gg;split;·rename_i h;exact c h.1 h.2
 ·rename_i k;split;·rename_i h;exact d h.1 h.2
  ·rename_i l;split;·rename_i h;exact e h.1 h.2
   ·rename_i m;split;·rename_i h;exact f h.1 h.2
    ·rename_i n;split;·rename_i h;exact g h.1 h.2
     ·rename_i o;split;·rename_i h;exact i h.1 h.2
      ·rename_i p;exact j (λa b=>k ⟨a,b⟩) (λa b=>l ⟨a,b⟩) (λa b=>m ⟨a,b⟩) (λa b=>n ⟨a,b⟩) (λa b=>o ⟨a,b⟩) (λa b=>p ⟨a,b⟩)
theorem lM (B E:Nat) (w:World):bp B E w (Hk zeroD none 0 none 0):=by
 refine ⟨λr a=>?_,λr a k e=>?_,?_⟩
 ·simp only [Hk,iB,List.mem_cons,List.not_mem_nil,or_false] at a;rcases a with rfl|rfl;·exact ⟨rfl,.inl ⟨rfl,rfl⟩⟩
  ·exact ⟨rfl,.inl ⟨rfl,rfl⟩⟩
 ·simp only [Hk,iB,List.mem_cons,List.not_mem_nil,or_false] at a;rcases a with rfl|rfl;·cases e
  ·cases e
 ·exact List.pairwise_cons.2 ⟨λs b k e=>yn,List.pairwise_singleton _ _⟩
theorem bp.newIn {B E:Nat} {w:World} {i:Option Addr} {q j:Nat} {xs:List Int} {d:Option Addr} {g e:Nat} {ys:List Int} (h:bp B E w (iB i q j xs d g e ys)) (a:Option Addr) (n c:Nat) (zs:List Int) (base b:Nat) (p:w.ownsRow base 5 1 (.slice a n c) n (zs.map (Value.int .u8))) (k:E<=base) (l:B<=base) (m:w.heap.size<=b) (o:E<=b):bp B b w (iB a n c zs d g e ys):=by have t:bp B E w [aB d g e ys]:=⟨λr f=>h.own r (List.mem_cons_of_mem _ f),λr f=>h.hi r (List.mem_cons_of_mem _ f),(List.pairwise_cons.1 h.ne).2⟩;exact t.cons (aB a n c zs) base b p k l m o
theorem bp.newOut {B E:Nat} {w:World} {d:Option Addr} {g e:Nat} {xs:List Int} {i:Option Addr} {q j:Nat} {ys:List Int} (h:bp B E w (iB d g e xs i q j ys)) (a:Option Addr) (n c:Nat) (zs:List Int) (base b:Nat) (p:w.ownsRow base 5 1 (.slice a n c) n (zs.map (Value.int .u8))) (k:E<=base) (l:B<=base) (m:w.heap.size<=b) (o:E<=b):bp B b w (iB d g e xs a n c zs):=by have t:bp B E w [aB d g e xs]:=⟨λr f=>h.own r (by rw [List.mem_singleton.1 f];exact List.mem_cons_self ..),λr f=>h.hi r (by rw [List.mem_singleton.1 f];exact List.mem_cons_self ..),List.pairwise_singleton _ _⟩;exact t.snoc (aB a n c zs) base b p k l m o
theorem bE {P:Program} {fn:Func} {s p u:Tmp} {ty:TypeId} (h:fn.results=#[.tmp s,.cell p ty,.tmp u]) (tmps:Array Value) (w:World) (g:Nat) (t:TypeId) (cs:Array Value) (e:Nat × Nat) (d:TypeDesc) (k:tmps.getD p undef=.p g 0) (i:w.heap[g]?=some (.cells cs t e)) (l:P.underlying ty=some d) (hd:(match d with | .struct _ | .array _ _=>true | _=>false)=true) (j:(P.info? ty).map (·.size)=some cs.size):(results fn tmps).run P w=.ok (.tuple #[tmps.getD s undef,.agg cs,tmps.getD u undef]) w:=by
 have f:(results fn tmps).run P w=((asAddr (tmps.getD p undef)).run P w).andThen λa b=>((loadVar ty a).run P b).andThen λv c=>.ok (.tuple #[tmps.getD s undef,v,tmps.getD u undef]) c:=by simp only [results,h];simp [Sem.run_bind,Result.andThen]
 rw [f,k];simp [asAddr,run_loadVar_row w g t ty cs e d i l hd j]
theorem db {P:Program} {fn:Func} {p u:Tmp} {ty:TypeId} (h:fn.results=#[.cell p ty,.tmp u]) (tmps:Array Value) (w:World) (g:Nat) (t:TypeId) (cs:Array Value) (e:Nat × Nat) (d:TypeDesc) (k:tmps.getD p undef=.p g 0) (i:w.heap[g]?=some (.cells cs t e)) (l:P.underlying ty=some d) (hd:(match d with | .struct _ | .array _ _=>true | _=>false)=true) (j:(P.info? ty).map (·.size)=some cs.size):(results fn tmps).run P w=.ok (.tuple #[.agg cs,tmps.getD u undef]) w:=by
 have f:(results fn tmps).run P w=((asAddr (tmps.getD p undef)).run P w).andThen λa b=>((loadVar ty a).run P b).andThen λv c=>.ok (.tuple #[v,tmps.getD u undef]) c:=by simp only [results,h];simp [Sem.run_bind,Result.andThen]
 rw [f,k];simp [asAddr,run_loadVar_row w g t ty cs e d i l hd j]
theorem yS:(prog.info? 22).map (λi=>(i.zero,i.size,i.bytes))=some (some (.u 0),1,8):=by kernel_rfl
theorem iH (zs:List Int) (i:Nat) (y:Int):(zs.map (Value.int .u64)).set i (.u y)=(zs.set i y).map (Value.int .u64):=by rw [List.map_set]
def bC (k:Int) (n:Nat):List Int:=(List.range n).map λ(i:Nat)=>k+(i:Int)
theorem ks (k:Int) (n:Nat):(bC k n).length=n:=by simp [bC]
theorem Bq (k:Int) (n i:Nat) (h:i<n):(bC k n).getD i 0=k+(i:Int):=by simp [bC,List.getD,h]
def Hl (xs:List Int) (k:Int) (n j:Nat):List Int:=(bC k n).take j++xs.drop j
theorem Hm (xs:List Int) (k:Int) (n:Nat):Hl xs k n 0=xs:=by simp [Hl]
theorem K7 (xs:List Int) (k:Int) (n:Nat) (h:xs.length=n):Hl xs k n n=bC k n:=by have a:xs.drop n=[]:=List.drop_of_length_le al;have b:(bC k n).take n=bC k n:=List.take_of_length_le (by rw [ks];omega);rw [Hl,a,b,List.append_nil]
theorem K8 (xs:List Int) (k:Int) (n j:Nat) (h:xs.length=n) (a:j<=n):(Hl xs k n j).length=n:=by simp [Hl,ks];omega
theorem K9 (xs:List Int) (k:Int) (n j:Nat) (h:xs.length=n) (d:j<n):(Hl xs k n j).set j (k+(j:Int))=Hl xs k n (j+1):=by
 unfold Hl;have a:(bC k n).take (j+1)=(bC k n).take j++[k+(j:Int)]:=by rw [List.take_succ_eq_append_getElem (by rw [ks];exact d)];simp [bC]
 have b:xs.drop j=xs[j]::xs.drop (j+1):=List.drop_eq_getElem_cons al;have c:((bC k n).take j).length=j:=by rw [List.length_take,ks];omega
 rw [a,b,List.set_append_right _ _ al,c,Nat.sub_self,List.set_cons_zero,List.append_assoc];rfl
theorem uT (a:Option Addr) (n cap:Nat) (zs:List Int) (w:World) (hz:zs.length=n) (hn:n<=1048576) (hs:Sl .u64 w a zs):Calls prog 35 #[.slice a n cap] w λe B=>e=.returned (.slice (some ⟨w.heap.size,0,none⟩) n n) /\ B.ownsRow w.heap.size 22 1 (.slice (some ⟨w.heap.size,0,none⟩) n n) n (zs.map (Value.int .u64))/\Bw w B:=by
 obtain ⟨A,G,t,u,p⟩:=info_parts yS;have r:A.bytes*n<=281474976710656:=by rw [p];omega
 have s:n<=maxLen:=by unfold maxLen;omega
 have q:Hid (zs.length=n):=hz;clear hz p;go_enter func35,ntmps35;go_wp2_with (at_make;refine wpList_make_full _ rfl (.tmp 6) (.tmp 6) 23 rfl w.heap.size 22 A (.u 0) 1 underlying23 G t u .i64 .i64 _ _ n rfl rfl rfl rfl r s (Nat.le_refl _) ?_;intro C c f);have g:C.ownsRow w.heap.size 22 1 (.slice (some ⟨w.heap.size,0,none⟩) n n) n (Lk .u64 zs n 0):=by rw [DF,<- toList_madeCells_one];simpa [Value.cells] using c
 have j:Bw w C:=(Below.refl _ _).grown f (Nat.le_refl _) ln;clear c f;go_loopw [4] (λi wr=>∃ k:Nat,k<=n/\i=.i k/\wr.ownsRow w.heap.size 22 1 (.slice (some ⟨w.heap.size,0,none⟩) n n) n (Lk .u64 zs n k)/\Bw w wr)
  (λi _=>n-(intOf i).toNat)
 case atStart=>exact ⟨0,Nat.zero_le _,rfl,g,j⟩
 case round =>
  obtain ⟨k,H,rfl,c,d⟩:=hrel;clear g j;by_cases l:k<n
  ·obtain ⟨b,y,rfl,D,z⟩:=hs k (by have:=q.out;omega);have E:wr.cell? ⟨b,y+k,none⟩=some (.u (zs.getD k 0)):=(d.cell (by exact D)).trans z;have F:wr.frozen? ⟨w.heap.size,k,none⟩=false:=c.frozenAt k;have m:=(c.stored k (.u (zs.getD k 0))).1;have o:Bw w (wr.setCell ⟨w.heap.size,k,none⟩ (.u (zs.getD k 0))):=d.setCell (Nat.le_refl _) _;obtain ⟨J,I⟩:∃ v,wr.cell? ⟨w.heap.size,k,none⟩=some v:=(by rw [c.cellAt k al];exact ⟨_,List.getElem?_eq_getElem (by rw [He _ _ _ _ q.out H];exact l)⟩);rw [Hg _ _ _ _ q.out l] at m;clear z c;go_wp2;go_roundw;case rel=>exact ⟨k+1,al,by go_num,m,o⟩
   case measure=>simp [intOf];omega
  ·have:k=n:=by omega
   subst this;rw [Hf _ _ _ q.out] at c;go_wp2;go_ret;exact ⟨rfl,c,d⟩
theorem oq (a b:Option Addr) (n m ca H:Nat) (xs ys:List Int) (w:World) (hx:xs.length=n) (hy:ys.length=m) (hn:n<=1048576) (hm:m<=1048576) (hs:Sl .u64 w a xs) (J:Sl .u64 w b ys):CB 42 #[.slice a n ca,.slice b m H] w (.bool (decide (xs=ys))):=by
 by_cases q:n=m
 ·subst q;have r:Hid (xs.length=n):=hx;have s:Hid (ys.length=n):=hy;have I:((n:Int) != (n:Int))=false:=bc;clear hx hy;go_enter func42,ntmps42;go_wp2;go_loopw [5] (λi wr=>∃ k:Nat,k<=n/\i=.i k/\Hid (xs.take k=ys.take k)/\Bw w wr)
   (λi _=>n-(intOf i).toNat)
  case atStart=>exact ⟨0,Nat.zero_le _,rfl,(rfl:xs.take 0=ys.take 0),Below.refl _ _⟩
  case round =>
   obtain ⟨k,P,rfl,o,c⟩:=hrel;by_cases A:k<n
   ·obtain ⟨E,K,rfl,t,j⟩:=hs k (by have:=r.out;omega);obtain ⟨G,L,rfl,u,l⟩:=J k (by have:=s.out;omega);obtain ⟨x,f⟩:∃ x,x=xs.getD k 0:=⟨_,rfl⟩;obtain ⟨y,g⟩:∃ y,y=ys.getD k 0:=⟨_,rfl⟩;have N:wr.cell? ⟨E,K+k,none⟩=some (.u x):=(by rw [f];exact (c.cell (by exact t)).trans j);have O:wr.cell? ⟨G,L+k,none⟩=some (.u y):=(by rw [g];exact (c.cell (by exact u)).trans l);have B:Hid (x=xs.getD k 0):=f;have C:Hid (y=ys.getD k 0):=g;clear j l f g;by_cases d:x=y
    ·subst d;have R:=vH xs ys k n r.out s.out A o.out (B.out.symm.trans C.out);have D:Hid (xs.take (k+1)=ys.take (k+1)):=R;clear R;have p:(x != x)=false:=bc;go_wp2;go_region;all_goals go_wp2
     all_goals go_roundw
     case rel=>exact ⟨k+1,al,by go_num,D,c.drew⟩
     case measure=>simp [intOf];omega
    ·have F:Hid (decide (xs=ys)=false):=kc;have p:(x != y)=true:=py;clear d;go_wp2;go_region;all_goals go_wp2
     all_goals go_ret
     all_goals exact ⟨a6,c.drew⟩
   ·have z:k=n:=al;subst z;have F:Hid (decide (xs=ys)=true):=dt;go_wp2;go_ret;exact ⟨a6,c⟩
 ·have F:Hid (decide (xs=ys)=false):=kd;have p:((n:Int) != (m:Int))=true:=a7;clear hx hy;go_enter func42,ntmps42;go_wp2;go_ret;exact ⟨a6,Below.refl _ _⟩
theorem mP (a:Option Addr) (n cap base:Nat) (k:Int) (xs:List Int) (w:World) (hn:n<=1048576) (F:0<=k) (G:k<=1099511627776) (d:w.ownsRow base 22 1 (.slice a n cap) n (xs.map (Value.int .u64))):Calls prog 45 #[.slice a n cap,.i k] w λe B=>e=.returned (.i (k+n)) /\ B.ownsRow base 22 1 (.slice a n cap) n ((bC k n).map (Value.int .u64))/\w.grownBy B (Value.slice a n cap).ownBlock:=by
 have s:Hid (xs.length=n):=by show xs.length=n;have:=d.1;simpa using this
 rcases d.2 with ⟨y,I⟩ | ⟨g,u,C,A,J,_⟩;·simp only [Value.slice.injEq] at y;obtain ⟨rfl,rfl,rfl⟩:=y;have t:xs=[]:=List.eq_nil_of_length_eq_zero s.out;subst t;go_enter func45,ntmps45;go_wp2;refine wp_loop_rounds 1 ?_;rw [rounds_succ];go_wp2;go_ret;exact ⟨bc,d,⟨rfl,rfl,rfl,Nat.le_refl _,λ_ _ _=>rfl⟩⟩
 ·simp only [Value.slice.injEq,true_and] at A;obtain ⟨rfl,rfl⟩:=A;have m:w.ownsRow base 22 1 (.slice (some ⟨g,0,none⟩) n cap) n ((Hl xs k n 0).map (Value.int .u64)):=(by rw [Hm];exact d);clear d;go_enter func45,ntmps45;go_wp2;go_loopw [1,5] (λc i wr=>∃ j:Nat,j<=n/\i=.i j/\c=.i (k+j)/\wr.ownsRow base 22 1 (.slice (some ⟨g,0,none⟩) n cap) n ((Hl xs k n j).map (Value.int .u64))/\w.grownBy wr (some g))
   (λ_ i _=>n-(intOf i).toNat)
  case atStart=>exact ⟨0,Nat.zero_le _,rfl,bc,m,⟨rfl,rfl,rfl,Nat.le_refl _,λ_ _ _=>rfl⟩⟩
  case round =>
   obtain ⟨j,E,rfl,rfl,d,l⟩:=hrel;clear m;by_cases p:j<n
   ·have D:wr.frozen? ⟨g,j,none⟩=false:=d.frozenAt j;have f:=d.stored j (.u (k+(j:Int)));obtain ⟨K,H⟩:∃ v,wr.cell? ⟨g,j,none⟩=some v:=(by rw [d.cellAt j al];exact ⟨_,List.getElem?_eq_getElem (by rw [List.length_map,K8 _ _ _ _ s.out E];exact p)⟩);rw [iH,K9 _ _ _ _ s.out p] at f;have o:w.grownBy (wr.setCell ⟨g,j,none⟩ (.u (k+(j:Int)))) (some g):=
     ⟨f.2.os.trans l.os,f.2.tape.trans l.tape,f.2.output.trans l.output,Nat.le_trans l.size f.2.size,λb z q=>(f.2.block b (Nat.lt_of_lt_of_le z l.size) q).trans (l.block b z q)⟩
    have r:=f.1;clear f d;go_wp2;go_roundw;case rel=>exact ⟨j+1,al,by go_num,by go_num,r,o⟩
    case measure=>simp [intOf];omega
   ·have:j=n:=by omega
    subst this;rw [K7 _ _ _ s.out] at d;go_wp2;go_ret;exact ⟨rfl,d,l⟩
theorem mR (a:Option Addr) (n cap:Nat) (k:Int) (w:World) (hn:n<=1048576) (g:0<=k) (l:k<=1099511627776) (hs:Sl .u64 w a (bC k n)):CE 48 #[.slice a n cap,.i k] w (.i (k+n)):=by
 go_enter func48,ntmps48;go_wp2;go_loop [1,5] (λc i=>∃ j:Nat,j<=n/\i=.i j/\c=.i (k+j)) (λ_ i=>n-(intOf i).toNat);case atStart=>exact ⟨0,Nat.zero_le _,rfl,bc⟩
 case round =>
  obtain ⟨j,s,rfl,rfl⟩:=hrel;by_cases d:j<n
  ·obtain ⟨b,p,rfl,r,f⟩:=hs j (by rw [ks];exact d);rw [Bq k n j d] at f;have m:(k+(j:Int) != k+(j:Int))=false:=bc;have o:Uz.wrap (k+(j:Int))=k+(j:Int):=bv;go_wp2;go_round;case rel=>exact ⟨j+1,al,by go_num,by go_num⟩
   case measure=>simp [intOf];omega
  ·have:j=n:=by omega
   subst this;exact a00
structure MV where
 pc:Int
 x:List Int
 pr:Int
 cs:List Int
 ram:List Int
 d:DV
 hd:Int
 hl:Bool
 wt:Bool
structure MA where
 ax:Option Addr
 cx:Nat
 ac:Option Addr
 cc:Nat
 ar:Option Addr
 cr:Nat
 ai:Option Addr
 ci:Nat
 ao:Option Addr
 co:Nat
def bx:MV:=⟨0,[],0,[],[],zeroD,0,false,false⟩
def zeroA:MA:=⟨none,0,none,0,none,0,none,0,none,0⟩
def aO (M:MV) (A:MA):Array Value:=#[.u M.pc,.slice A.ax M.x.length A.cx,.i M.pr,.slice A.ac M.cs.length A.cc,.slice A.ar M.ram.length A.cr,.u M.d.t,.u M.d.cm,.bool M.d.so,.slice A.ai M.d.xs.length A.ci,.slice A.ao M.d.ys.length A.co,.i M.d.ir,.u M.hd,.bool M.hl,.bool M.wt]
def aI (a:Option Addr) (n c:Nat) (xs:List Int):FRow:=⟨22,.slice a n c,n,xs.map (Value.int .u64)⟩
def aH (M:MV) (A:MA):List FRow:=[aI A.ax M.x.length A.cx M.x,aI A.ac M.cs.length A.cc M.cs,aB A.ar M.ram.length A.cr M.ram,aB A.ai M.d.xs.length A.ci M.d.xs,aB A.ao M.d.ys.length A.co M.d.ys]
structure uO (w:World) (M:MV) (A:MA):Prop where
 x:Sl .u64 w A.ax M.x
 cs:Sl .u64 w A.ac M.cs
 ram:Sl .u8 w A.ar M.ram
 xs:Sl .u8 w A.ai M.d.xs
 ys:Sl .u8 w A.ao M.d.ys
theorem uO.below {w w':World} {M:MV} {A:MA} (h:uO w M A) (hb:Bw w w'):uO w' M A:=⟨h.x.below hb,h.cs.below hb,h.ram.below hb,h.xs.below hb,h.ys.below hb⟩
theorem bp.msl {B E:Nat} {w:World} {M:MV} {A:MA} (h:bp B E w (aH M A)):uO w M A :=
 ⟨gy (h.own (aI A.ax M.x.length A.cx M.x) ck),gy (h.own (aI A.ac M.cs.length A.cc M.cs) ck),gy (h.own (aB A.ar M.ram.length A.cr M.ram) ck),gy (h.own (aB A.ai M.d.xs.length A.ci M.d.xs) ck),gy (h.own (aB A.ao M.d.ys.length A.co M.d.ys) ck)⟩
theorem ae {W:World} {g:Nat} {d v1 v2 e f i j k l m a b c v13:Value} {t:TypeId} (h:W.heap[g]?=some (.cells #[d,v1,v2,e,f,i,j,k,l,m,a,b,c,v13] t (0,0))):W.cell? ⟨g,0,none⟩=some d/\W.cell? ⟨g,1,none⟩=some v1/\W.cell? ⟨g,2,none⟩=some v2/\W.cell? ⟨g,3,none⟩=some e/\W.cell? ⟨g,4,none⟩=some f/\W.cell? ⟨g,5,none⟩=some i/\W.cell? ⟨g,6,none⟩=some j/\W.cell? ⟨g,7,none⟩=some k/\W.cell? ⟨g,8,none⟩=some l/\W.cell? ⟨g,9,none⟩=some m/\W.cell? ⟨g,10,none⟩=some a/\W.cell? ⟨g,11,none⟩=some b/\W.cell? ⟨g,12,none⟩=some c/\W.cell? ⟨g,13,none⟩=some v13:=by simp [World.cell?,h]
theorem bK {W:World} {g:Nat} {cs:Array Value} {t:TypeId} (h:W.heap[g]?=some (.cells cs t (0,0))):W.frozen? ⟨g,0,none⟩=false/\W.frozen? ⟨g,1,none⟩=false/\W.frozen? ⟨g,2,none⟩=false/\W.frozen? ⟨g,3,none⟩=false/\W.frozen? ⟨g,4,none⟩=false/\W.frozen? ⟨g,5,none⟩=false/\W.frozen? ⟨g,6,none⟩=false/\W.frozen? ⟨g,7,none⟩=false/\W.frozen? ⟨g,8,none⟩=false/\W.frozen? ⟨g,9,none⟩=false/\W.frozen? ⟨g,10,none⟩=false/\W.frozen? ⟨g,11,none⟩=false/\W.frozen? ⟨g,12,none⟩=false/\W.frozen? ⟨g,13,none⟩=false :=
 ⟨gO h 0,gO h 1,gO h 2,gO h 3,gO h 4,gO h 5,gO h 6,gO h 7,gO h 8,gO h 9,gO h 10,gO h 11,gO h 12,gO h 13⟩
def Ho (w:World) (g:Nat) (e f h x3 i j k l m n a b c d:Value):World:=(((((((((((((w.setCell ⟨g,0,none⟩ e).setCell ⟨g,1,none⟩ f).setCell ⟨g,2,none⟩ h).setCell ⟨g,3,none⟩ x3).setCell ⟨g,4,none⟩ i).setCell ⟨g,5,none⟩ j).setCell ⟨g,6,none⟩ k).setCell ⟨g,7,none⟩ l).setCell ⟨g,8,none⟩ m).setCell ⟨g,9,none⟩ n).setCell ⟨g,10,none⟩ a).setCell ⟨g,11,none⟩ b).setCell ⟨g,12,none⟩ c).setCell ⟨g,13,none⟩ d
theorem qi {w:World} {g:Nat} {Q v1 v2 B A z y x v u f e c v13:Value} {t:TypeId} {o:Nat × Nat} (h:w.heap[g]?=some (.cells #[Q,v1,v2,B,A,z,y,x,v,u,f,e,c,v13] t o)) (a b d x3 j k m n q r i l p s:Value):(Ho w g a b d x3 j k m n q r i l p s).heap[g]?=some (.cells #[a,b,d,x3,j,k,m,n,q,r,i,l,p,s] t o):=by have G:(w.setCell ⟨g,0,none⟩ a).heap[g]?=some (.cells #[a,v1,v2,B,A,z,y,x,v,u,f,e,c,v13] t o):=bo h 0 a;have H:((w.setCell ⟨g,0,none⟩ a).setCell ⟨g,1,none⟩ b).heap[g]?=some (.cells #[a,b,v2,B,A,z,y,x,v,u,f,e,c,v13] t o):=bo G 1 b;have I:(((w.setCell ⟨g,0,none⟩ a).setCell ⟨g,1,none⟩ b).setCell ⟨g,2,none⟩ d).heap[g]?=some (.cells #[a,b,d,B,A,z,y,x,v,u,f,e,c,v13] t o):=bo H 2 d;have J:((((w.setCell ⟨g,0,none⟩ a).setCell ⟨g,1,none⟩ b).setCell ⟨g,2,none⟩ d).setCell ⟨g,3,none⟩ x3).heap[g]?=some (.cells #[a,b,d,x3,A,z,y,x,v,u,f,e,c,v13] t o):=bo I 3 x3;have K:(((((w.setCell ⟨g,0,none⟩ a).setCell ⟨g,1,none⟩ b).setCell ⟨g,2,none⟩ d).setCell ⟨g,3,none⟩ x3).setCell ⟨g,4,none⟩ j).heap[g]?=some (.cells #[a,b,d,x3,j,z,y,x,v,u,f,e,c,v13] t o):=bo J 4 j;have L:((((((w.setCell ⟨g,0,none⟩ a).setCell ⟨g,1,none⟩ b).setCell ⟨g,2,none⟩ d).setCell ⟨g,3,none⟩ x3).setCell ⟨g,4,none⟩ j).setCell ⟨g,5,none⟩ k).heap[g]?=some (.cells #[a,b,d,x3,j,k,y,x,v,u,f,e,c,v13] t o):=bo K 5 k;have M:(((((((w.setCell ⟨g,0,none⟩ a).setCell ⟨g,1,none⟩ b).setCell ⟨g,2,none⟩ d).setCell ⟨g,3,none⟩ x3).setCell ⟨g,4,none⟩ j).setCell ⟨g,5,none⟩ k).setCell ⟨g,6,none⟩ m).heap[g]?=some (.cells #[a,b,d,x3,j,k,m,x,v,u,f,e,c,v13] t o):=bo L 6 m;have N:((((((((w.setCell ⟨g,0,none⟩ a).setCell ⟨g,1,none⟩ b).setCell ⟨g,2,none⟩ d).setCell ⟨g,3,none⟩ x3).setCell ⟨g,4,none⟩ j).setCell ⟨g,5,none⟩ k).setCell ⟨g,6,none⟩ m).setCell ⟨g,7,none⟩ n).heap[g]?=some (.cells #[a,b,d,x3,j,k,m,n,v,u,f,e,c,v13] t o):=bo M 7 n;have O:(((((((((w.setCell ⟨g,0,none⟩ a).setCell ⟨g,1,none⟩ b).setCell ⟨g,2,none⟩ d).setCell ⟨g,3,none⟩ x3).setCell ⟨g,4,none⟩ j).setCell ⟨g,5,none⟩ k).setCell ⟨g,6,none⟩ m).setCell ⟨g,7,none⟩ n).setCell ⟨g,8,none⟩ q).heap[g]?=some (.cells #[a,b,d,x3,j,k,m,n,q,u,f,e,c,v13] t o):=bo N 8 q;have P:((((((((((w.setCell ⟨g,0,none⟩ a).setCell ⟨g,1,none⟩ b).setCell ⟨g,2,none⟩ d).setCell ⟨g,3,none⟩ x3).setCell ⟨g,4,none⟩ j).setCell ⟨g,5,none⟩ k).setCell ⟨g,6,none⟩ m).setCell ⟨g,7,none⟩ n).setCell ⟨g,8,none⟩ q).setCell ⟨g,9,none⟩ r).heap[g]?=some (.cells #[a,b,d,x3,j,k,m,n,q,r,f,e,c,v13] t o):=bo O 9 r;have C:(((((((((((w.setCell ⟨g,0,none⟩ a).setCell ⟨g,1,none⟩ b).setCell ⟨g,2,none⟩ d).setCell ⟨g,3,none⟩ x3).setCell ⟨g,4,none⟩ j).setCell ⟨g,5,none⟩ k).setCell ⟨g,6,none⟩ m).setCell ⟨g,7,none⟩ n).setCell ⟨g,8,none⟩ q).setCell ⟨g,9,none⟩ r).setCell ⟨g,10,none⟩ i).heap[g]?=some (.cells #[a,b,d,x3,j,k,m,n,q,r,i,e,c,v13] t o):=bo P 10 i;have D:((((((((((((w.setCell ⟨g,0,none⟩ a).setCell ⟨g,1,none⟩ b).setCell ⟨g,2,none⟩ d).setCell ⟨g,3,none⟩ x3).setCell ⟨g,4,none⟩ j).setCell ⟨g,5,none⟩ k).setCell ⟨g,6,none⟩ m).setCell ⟨g,7,none⟩ n).setCell ⟨g,8,none⟩ q).setCell ⟨g,9,none⟩ r).setCell ⟨g,10,none⟩ i).setCell ⟨g,11,none⟩ l).heap[g]?=some (.cells #[a,b,d,x3,j,k,m,n,q,r,i,l,c,v13] t o):=bo C 11 l;have E:(((((((((((((w.setCell ⟨g,0,none⟩ a).setCell ⟨g,1,none⟩ b).setCell ⟨g,2,none⟩ d).setCell ⟨g,3,none⟩ x3).setCell ⟨g,4,none⟩ j).setCell ⟨g,5,none⟩ k).setCell ⟨g,6,none⟩ m).setCell ⟨g,7,none⟩ n).setCell ⟨g,8,none⟩ q).setCell ⟨g,9,none⟩ r).setCell ⟨g,10,none⟩ i).setCell ⟨g,11,none⟩ l).setCell ⟨g,12,none⟩ p).heap[g]?=some (.cells #[a,b,d,x3,j,k,m,n,q,r,i,l,p,v13] t o):=bo D 12 p;have F:((((((((((((((w.setCell ⟨g,0,none⟩ a).setCell ⟨g,1,none⟩ b).setCell ⟨g,2,none⟩ d).setCell ⟨g,3,none⟩ x3).setCell ⟨g,4,none⟩ j).setCell ⟨g,5,none⟩ k).setCell ⟨g,6,none⟩ m).setCell ⟨g,7,none⟩ n).setCell ⟨g,8,none⟩ q).setCell ⟨g,9,none⟩ r).setCell ⟨g,10,none⟩ i).setCell ⟨g,11,none⟩ l).setCell ⟨g,12,none⟩ p).setCell ⟨g,13,none⟩ s).heap[g]?=some (.cells #[a,b,d,x3,j,k,m,n,q,r,i,l,p,s] t o):=bo E 13 s;exact F
theorem nf {B:Nat} {v w:World} (h:Below B v w) {g:Nat} (a:B<=g) (f i j x3 k l m n o q b c d e:Value):Below B v (Ho w g f i j x3 k l m n o q b c d e):=
 ((((((((((((((h.setCell (p:=⟨g,0,none⟩) a f).setCell (p:=⟨g,1,none⟩) a i).setCell (p:=⟨g,2,none⟩) a j).setCell (p:=⟨g,3,none⟩) a x3).setCell (p:=⟨g,4,none⟩) a k).setCell (p:=⟨g,5,none⟩) a l).setCell (p:=⟨g,6,none⟩) a m).setCell (p:=⟨g,7,none⟩) a n).setCell (p:=⟨g,8,none⟩) a o).setCell (p:=⟨g,9,none⟩) a q).setCell (p:=⟨g,10,none⟩) a b).setCell (p:=⟨g,11,none⟩) a c).setCell (p:=⟨g,12,none⟩) a d).setCell (p:=⟨g,13,none⟩) a e)
theorem bp.put14 {B E:Nat} {w:World} {L:List FRow} (h:bp B E w L) (g:Nat) (a:g<B\/E<=g) (f i j x3 k l m n o p b c d e:Value):bp B E (Ho w g f i j x3 k l m n o p b c d e) L :=
 ((((((((((((((h.set ⟨g,0,none⟩ f a).set ⟨g,1,none⟩ i a).set ⟨g,2,none⟩ j a).set ⟨g,3,none⟩ x3 a).set ⟨g,4,none⟩ k a).set ⟨g,5,none⟩ l a).set ⟨g,6,none⟩ m a).set ⟨g,7,none⟩ n a).set ⟨g,8,none⟩ o a).set ⟨g,9,none⟩ p a).set ⟨g,10,none⟩ b a).set ⟨g,11,none⟩ c a).set ⟨g,12,none⟩ d a).set ⟨g,13,none⟩ e a)
theorem sV:(prog.info? 32).map (·.size)=some 14:=by kernel_rfl
end Go.Proofs.YtjifdmoehfbihaaGreatDoor
